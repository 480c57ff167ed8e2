import PyProof.Rows.All
import Wide.All
import OpenK.AllK
import Wide.FinOn
import PyProof.EqAt
import PyProof.EqKinds
import PyProof.TupleCall
import KE.BitLaws
import Open.SpecLaws
import KE.OsHead
import KE.OsGo
import PyProof.WalkInts
import PyProof.DictRoadsH
import PyProof.MeetsDictList
import KE.KDictSum
import PySw75
import PySem.Challenge.RW_tripunits_s01_answers
section
set_option Elab.async false
set_option linter.all false
set_option maxRecDepth 100000
namespace L2
open PySem PySem.Spec PyProof.Rows
abbrev Key := Sum Int Str
def keyIs : Key → Value → Bool
  | .inl k, v => Value.isInt k v
  | .inr x, v => Value.isStrOf x v
def keyH (w : World) : Key → Int
  | .inl k => hashInt k
  | .inr x => hashStr w x
theorem keyIs_shape : ∀ {k : Key} {v : Value}, keyIs k v = true → (∃ i t, k = Sum.inl i ∧ v = Value.int i t) ∨ (∃ x t, k = Sum.inr x ∧ v = Value.str x t)
  | .inl i, v, h => by
    obtain ⟨t, e⟩ := Value.isInt_shape (k := i) (v := v) h
    exact .inl ⟨i, t, rfl, e⟩
  | .inr x, v, h => by
    obtain ⟨t, e⟩ := Value.isStrOf_shape (x := x) (v := v) h
    exact .inr ⟨x, t, rfl, e⟩
theorem keyIs_int (i : Int) (t : Tok) : keyIs (.inl i) (.int i t) = true := by simp [keyIs, Value.isInt]
theorem keyIs_str (x : Str) (t : Tok) : keyIs (.inr x) (.str x t) = true := by simp [keyIs, Value.isStrOf]
theorem key_ll (a b : Int) : decide ((Sum.inl a : Key) = Sum.inl b) = (a == b) := by
  by_cases e : a = b
  · subst e; simp
  · have h : ¬ (Sum.inl a : Key) = Sum.inl b := fun q => e (Sum.inl.inj q)
    rw [decide_eq_false h]
    exact (beq_eq_false_iff_ne.mpr e).symm
theorem key_rr (a b : Str) : decide ((Sum.inr a : Key) = Sum.inr b) = decide (a = b) := by
  by_cases e : a = b
  · subst e; simp
  · have h : ¬ (Sum.inr a : Key) = Sum.inr b := fun q => e (Sum.inr.inj q)
    rw [decide_eq_false h, decide_eq_false e]
theorem key_lr (a : Int) (b : Str) : decide ((Sum.inl a : Key) = Sum.inr b) = false := decide_eq_false (fun q => nomatch q)
theorem key_rl (a : Str) (b : Int) : decide ((Sum.inr a : Key) = Sum.inl b) = false := decide_eq_false (fun q => nomatch q)
def mixKind (prog : Program) (w : World) : PySem.KeyKind prog w Key where
  is := keyIs
  hash := keyH w
  inj := fun v a b ha hb => by
    rcases keyIs_shape ha with ⟨i, t, rfl, rfl⟩ | ⟨x, t, rfl, rfl⟩
    · rcases keyIs_shape hb with ⟨j, u, rfl, e⟩ | ⟨y, u, rfl, e⟩
      · injection e with e1 _; rw [e1]
      · exact nomatch e
    · rcases keyIs_shape hb with ⟨j, u, rfl, e⟩ | ⟨y, u, rfl, e⟩
      · exact nomatch e
      · injection e with e1 _; rw [e1]
  byValue := fun k v h => by
    rcases keyIs_shape h with ⟨i, t, rfl, rfl⟩ | ⟨x, t, rfl, rfl⟩ <;> rfl
  pyHash := fun hv h => by
    rcases keyIs_shape hv with ⟨i, t, rfl, rfl⟩ | ⟨x, t, rfl, rfl⟩
    · exact wpAny_pyHash_int h
    · exact wpAny_pyHash_str h
  eqBool := fun hu hv h => by
    rcases keyIs_shape hu with ⟨i, t, rfl, rfl⟩ | ⟨x, t, rfl, rfl⟩
    · rcases keyIs_shape hv with ⟨j, u, rfl, rfl⟩ | ⟨y, u, rfl, rfl⟩
      · rw [key_ll] at h; exact wpAny_eqBool_int h
      · rw [key_lr] at h; exact SeqAt.EqAt.int_str i t y u _ _ _ _ h
    · rcases keyIs_shape hv with ⟨j, u, rfl, rfl⟩ | ⟨y, u, rfl, rfl⟩
      · rw [key_rl] at h; exact SeqAt.EqAt.str_int x t j u _ _ _ _ h
      · rw [key_rr] at h; exact wpAny_eqBool_str h
  «strs» := fun k x t v h => by
    rcases keyIs_shape h with ⟨i, u, rfl, e⟩ | ⟨y, u, rfl, e⟩
    · exact nomatch e
    · injection e with e1 _
      subst e1
      cases v <;> rfl
theorem mixKind_int (prog : Program) (w : World) (i : Int) (t : Tok) : (mixKind prog w).is (.inl i) (.int i t) = true := keyIs_int i t
theorem mixKind_str (prog : Program) (w : World) (x : Str) (t : Tok) : (mixKind prog w).is (.inr x) (.str x t) = true := keyIs_str x t
end L2
namespace L2
open PySem PySem.Spec PyProof.Rows
inductive V where
  | non | bl (b : Bool) | int (i : Int) | str (x : Str) | byt (b : Array UInt8) | flt (b : UInt64) | ref (a : Addr) | ty (n : String)
  deriving DecidableEq
def RelV : V → Value → Prop
  | .non, u => u = Value.none
  | .bl b, u => u = Value.bool b
  | .int i, u => ∃ t, u = Value.int i t
  | .str x, u => ∃ t, u = Value.str x t
  | .byt b, u => ∃ t, u = Value.bytes b t
  | .flt b, u => ∃ t, u = Value.float b t
  | .ref a, u => u = Value.ref a
  | .ty n, u => u = Value.type n
abbrev Vals : List V → List Value → Prop := Paired RelV
theorem Vals.length {xs : List V} {us : List Value} (r : Vals xs us) : xs.length = us.length := Paired.length r
theorem Vals.get : ∀ {xs : List V} {us : List Value} {i : Nat} {x : V}, Vals xs us → xs[i]? = some x → ∃ u, us[i]? = some u ∧ RelV x u
  | _, _, _, _, .nil, e => by simp at e
  | _, _, 0, _, .cons r _, e => by simp at e; subst e; exact ⟨_, rfl, r⟩
  | _, _, i + 1, x, .cons _ t, e => by
    obtain ⟨u, h1, h2⟩ := Vals.get (i := i) (x := x) t (by simpa using e)
    exact ⟨u, by simpa using h1, h2⟩
theorem Vals.append : ∀ {xs ys : List V} {us ws : List Value}, Vals xs us → Vals ys ws → Vals (xs ++ ys) (us ++ ws)
  | _, _, _, _, .nil, s => s
  | _, _, _, _, .cons r t, s => .cons r (Vals.append t s)
theorem Vals.take : ∀ {xs : List V} {us : List Value} (n : Nat), Vals xs us → Vals (xs.take n) (us.take n)
  | _, _, 0, _ => .nil
  | _, _, _ + 1, .nil => .nil
  | _, _, n + 1, .cons r t => .cons r (Vals.take n t)
theorem Vals.drop : ∀ {xs : List V} {us : List Value} (n : Nat), Vals xs us → Vals (xs.drop n) (us.drop n)
  | _, _, 0, r => r
  | _, _, _ + 1, .nil => .nil
  | _, _, n + 1, .cons _ t => Vals.drop n t
def RelO : Option V → Option Value → Prop
  | some v, some u => RelV v u
  | none, none => True
  | _, _ => False
def KV {κ : Type} : List (κ × V) → List (κ × Value) → Prop := Paired fun (p : κ × V) (q : κ × Value) => p.1 = q.1 ∧ RelV p.2 q.2
def kV : Key → V
  | .inl i => .int i
  | .inr x => .str x
inductive HO where
  /-- a list -/
  | lst (xs : List V)
  /-- a tuple (never changes) -/
  | tup (xs : List V)
  /-- a dict whose keys are ints and texts; one whose keys are tuples of ints and texts (the empty one is both) -/
  | dK (kvs : List (Key × V)) | dT (kvs : List (List Key × V))
  /-- a set of ints: its members, its size -/
  | set (S : Int → Bool) (n : Nat)
  /-- an instance of the class at C, its dict at dx, its attributes -/
  | ins (C dx : Addr) (fs : List (Str × V))
  /-- the dict of the instance at x -/
  | own (x : Addr)
  /-- the dict of an exception -/
  | xd (fs : List (Str × V))
  /-- a bound method, f of x -/
  | met (f x : Addr)
  /-- a range object lo, lo + 1, .. below hi -/
  | rng (lo hi : Int)
  /-- a thing that is known to the object (the script; a dict while a loop walks it): read, never written while it is so -/
  | frz (o : Obj) (u : HO)
  /-- a code object's table -/
  | tbl (ps : Array Value)
  /-- any other thing, by what is true of its one object (a def of one's own: SetO a S n := HO.ext fun h => ..) -/
  | ext (φ : Heap → Prop)
abbrev Hp := Addr → Option HO
def upd (H : Hp) (a : Addr) (o : HO) : Hp := fun b => if b = a then some o else H b
theorem upd_same {H : Hp} {a : Addr} {o : HO} : upd H a o a = some o := by unfold upd; rw [if_pos rfl]
theorem upd_ne {H : Hp} {a b : Addr} {o : HO} (h : b ≠ a) : upd H a o b = H b := by unfold upd; rw [if_neg h]
theorem ne_of {H : Hp} {a b : Addr} {o u : HO} (h : H a = some o) (h' : H b = some u) (d : o ≠ u) : a ≠ b := by
  intro e; subst e; rw [h] at h'; exact d (Option.some.inj h')
theorem ne_of_none {H : Hp} {a b : Addr} {o : HO} (h : H a = some o) (h' : H b = none) : a ≠ b := by
  intro e; subst e; rw [h] at h'; cases h'
section
variable (P : Program) (w : World)
def ObjOk (H : Hp) (h : Heap) (a : Addr) : HO → Prop
  | .lst xs => xs.length ≤ sizeLine ∧ ∃ (its : List Value) (n : Nat), Vals xs its ∧ h.get? a = some { cls := .type "list", data := .seq its.toArray n }
  | .tup xs => xs.length ≤ sizeLine ∧ ∃ its : List Value, Vals xs its ∧ IsTup h a its.toArray
  | .dK kvs => kvs.length ≤ sizeLine ∧ (a == sysModules) = false ∧ ∃ vs, KV kvs vs ∧ h.DictOf (mixKind P w) a vs
  | .dT kvs => kvs.length ≤ sizeLine ∧ (a == sysModules) = false ∧ ∃ xs : List (List Key × Addr × Value),
      Paired (fun (p : List Key × V) (q : List Key × Addr × Value) => p.1 = q.1 ∧ H q.2.1 = some (.tup (p.1.map kV)) ∧ RelV p.2 q.2.2) kvs xs ∧
      ∃ o es ep, h.get? a = some o ∧ o.ExactDict ∧ o.data = .dict es ep ∧ es.toList = xs.map (entryOfKey (tupleKind (mixKind P w))) ∧ (xs.map (·.1)).Nodup
  | .set S n => h.SetOf (intKind P w) a S n
  | .ins C dx fs => H dx = some (.own a) ∧ fs.length ≤ 1000 ∧ dx ≠ a ∧ h.get? a = some (PySem.W.instObj C dx) ∧
      ∃ mA, h.Ns1 dx mA ∧ (∀ f, RelO (fs.lookup f) (mA f)) ∧ PySem.Within mA (fs.map (·.1))
  | .own _ => ∃ o, h.get? a = some o
  | .xd fs => ∃ mA, h.Ns1 a mA ∧ ∀ f, RelO (fs.lookup f) (mA f)
  | .rng lo hi => ∃ t u v, h.get? a = some { cls := .type "range", data := .fields #[.int lo t, .int hi u, .int 1 v] }
  | .frz o u => h.get? a = some o ∧ ObjOk H h a u
  | .tbl ps => h.get? a = some { cls := .none, data := .fields ps }
  | .met f x => h.get? a = some (PySem.W.methodObj (.ref f) (.ref x))
  | .ext φ => φ h ∧ (∃ o, h.get? a = some o) ∧ ∀ h1 h2 : Heap, φ h1 → (∀ o, h1.get? a = some o → h2.get? a = some o) → φ h2
def HOk (H : Hp) (h : Heap) : Prop := ∀ a o, H a = some o → ObjOk P w H h a o
end
section
variable {P : Program} {w : World} {H H' : Hp} {h h' : Heap} {a : Addr} {o : HO}
theorem ObjOk.lt (x : ObjOk P w H h a o) : a < h.objs.size := by
  cases o with
  | lst xs => obtain ⟨_, _, _, _, e⟩ := x; exact Heap.lt_size e
  | tup xs => obtain ⟨_, _, _, p⟩ := x; exact p.lt
  | dK kvs => obtain ⟨_, _, _, _, o, _, _, e, _⟩ := x; exact Heap.lt_size e
  | dT kvs => obtain ⟨_, _, _, _, o, _, _, e, _⟩ := x; exact Heap.lt_size e
  | set S n => obtain ⟨o, _, _, _, e, _⟩ := x; exact Heap.lt_size e
  | ins C dx fs => obtain ⟨_, _, _, e, _⟩ := x; exact Heap.lt_size e
  | own y => obtain ⟨_, e⟩ := x; exact Heap.lt_size e
  | xd fs => obtain ⟨_, ⟨_, _, _, e, _⟩, _⟩ := x; exact Heap.lt_size e
  | rng lo hi => obtain ⟨_, _, _, e⟩ := x; exact Heap.lt_size e
  | frz ob u => obtain ⟨e, _⟩ := x; exact Heap.lt_size e
  | tbl ps => exact Heap.lt_size (show h.get? a = some _ from x)
  | met f y => exact Heap.lt_size (show h.get? a = some _ from x)
  | ext φ => obtain ⟨_, ⟨_, e⟩, _⟩ := x; exact Heap.lt_size e
theorem Paired.mapP {α β : Type} {F G : α → β → Prop} : ∀ {l₁ : List α} {l₂ : List β}, Paired F l₁ l₂ → (∀ a b, F a b → G a b) → Paired G l₁ l₂
  | _, _, .nil, _ => .nil
  | _, _, .cons r t, f => .cons (f _ _ r) (Paired.mapP t f)
theorem ObjOk.stay (x : ObjOk P w H h a o) (k : ∀ b u, (b = a ∨ H b = some (.own a)) → h.get? b = some u → h'.get? b = some u)
    (ho : ∀ b, H b = some (.own a) → H' b = some (.own a)) (ht : ∀ b xs, H b = some (.tup xs) → H' b = some (.tup xs)) : ObjOk P w H' h' a o := by
  induction o with
  | lst xs => obtain ⟨z, its, n, r, e⟩ := x; exact ⟨z, its, n, r, k _ _ (.inl rfl) e⟩
  | tup xs => obtain ⟨z, its, r, ob, e, c⟩ := x; exact ⟨z, its, r, ob, k _ _ (.inl rfl) e, c⟩
  | dK kvs => obtain ⟨z, y, vs, r, ob, es, ep, e, c⟩ := x; exact ⟨z, y, vs, r, ob, es, ep, k _ _ (.inl rfl) e, c⟩
  | dT kvs =>
    obtain ⟨z, y, xs, r, ob, es, ep, e, c⟩ := x
    exact ⟨z, y, xs, Paired.mapP r fun p q z => ⟨z.1, ht _ _ z.2.1, z.2.2⟩, ob, es, ep, k _ _ (.inl rfl) e, c⟩
  | set S n => obtain ⟨ob, es, ep, t, e, c⟩ := x; exact ⟨ob, es, ep, t, k _ _ (.inl rfl) e, c⟩
  | ins C dx fs =>
    obtain ⟨d, z, ne, e, mA, ⟨od, es, ep, e2, c⟩, r⟩ := x
    exact ⟨ho _ d, z, ne, k _ _ (.inl rfl) e, mA, ⟨od, es, ep, k _ _ (.inr d) e2, c⟩, r⟩
  | own y => obtain ⟨ob, e⟩ := x; exact ⟨ob, k _ _ (.inl rfl) e⟩
  | xd fs => obtain ⟨mA, ⟨od, es, ep, e, c⟩, r⟩ := x; exact ⟨mA, ⟨od, es, ep, k _ _ (.inl rfl) e, c⟩, r⟩
  | rng lo hi => obtain ⟨t, u, v, e⟩ := x; exact ⟨t, u, v, k _ _ (.inl rfl) e⟩
  | frz ob u ih => obtain ⟨e, q⟩ := x; exact ⟨k _ _ (.inl rfl) e, ih q⟩
  | tbl ps =>
    have e : h.get? a = some { cls := .none, data := .fields ps } := x
    show h'.get? a = some { cls := .none, data := .fields ps }
    exact k a _ (.inl rfl) e
  | met f y =>
    have e : h.get? a = some (PySem.W.methodObj (.ref f) (.ref y)) := x
    show h'.get? a = some (PySem.W.methodObj (.ref f) (.ref y))
    exact k a _ (.inl rfl) e
  | ext φ => obtain ⟨p, ⟨o, e⟩, st⟩ := x; exact ⟨st _ _ p fun o q => k _ _ (.inl rfl) q, ⟨o, k _ _ (.inl rfl) e⟩, st⟩
theorem HOk.lt (x : HOk P w H h) (e : H a = some o) : a < h.objs.size := (x a o e).lt
theorem HOk.fresh (x : HOk P w H h) (e : h.objs.size ≤ a) : H a = none := by
  cases q : H a with
  | none => rfl
  | some u => exact absurd (Nat.lt_of_lt_of_le (x.lt q) e) (Nat.lt_irrefl _)
theorem HOk.kept (x : HOk P w H h) (k : ∀ b u, h.get? b = some u → h'.get? b = some u) : HOk P w H h' := fun a o e =>
  (x a o e).stay (fun b u _ q => k b u q) (fun _ q => q) fun _ _ q => q
theorem HOk.laid (x : HOk P w H h) (k : ∀ b u, h.get? b = some u → h'.get? b = some u) (hp : h.objs.size ≤ a) (new : ObjOk P w (upd H a o) h' a o) : HOk P w (upd H a o) h' := fun b u e => by
  have hn := x.fresh hp
  by_cases hb : b = a
  · subst hb; rw [upd_same] at e; cases e; exact new
  · rw [upd_ne hb] at e
    exact (x b u e).stay (fun c v _ q => k c v q) (fun c q => by rw [upd_ne (ne_of_none q hn)]; exact q) fun c xs q => by rw [upd_ne (ne_of_none q hn)]; exact q
end
def Rd (H : Hp) (a : Addr) (u : HO) : Prop := H a = some u ∨ ∃ o, H a = some (.frz o u)
theorem Rd.of {H : Hp} {a : Addr} {u : HO} (h : H a = some u) : Rd H a u := .inl h
theorem Rd.ok {P : Program} {w : World} {H : Hp} {h : Heap} {a : Addr} {u : HO} (r : Rd H a u) (x : HOk P w H h) : ObjOk P w H h a u := by
  rcases r with r | ⟨o, r⟩
  · exact x a u r
  · obtain ⟨_, q⟩ := x a _ r
    exact q
def Mut : Option HO → Prop
  | some (.lst _) => True
  | some (.dK _) => True
  | some (.dT _) => True
  | some (.set _ _) => True
  | some (.ins _ _ _) => True
  | some (.ext _) => True
  | _ => False
section
variable {P : Program} {w : World} {H : Hp} {h h' : Heap} {x e : Addr} {o' : HO}
theorem HOk.write (ok : HOk P w H h) (mu : Mut (H x)) (he : e = x ∨ H e = some (.own x)) (k : ∀ b u, b ≠ e → h.get? b = some u → h'.get? b = some u) (heo : ∃ u, h'.get? e = some u)
    (new : ObjOk P w (upd H x o') h' x o') : HOk P w (upd H x o') h' := fun b u q => by
  have nown : ∀ c y, H c = some (.own y) → c ≠ x := fun c y r z => by subst z; rw [r] at mu; exact mu
  have ntup : ∀ c xs, H c = some (.tup xs) → c ≠ x := fun c xs r z => by subst z; rw [r] at mu; exact mu
  by_cases hb : b = x
  · subst hb; rw [upd_same] at q; cases q; exact new
  · rw [upd_ne hb] at q
    by_cases hbe : b = e
    · have q' : H b = some (.own x) := by
        rcases he with z | z
        · exact absurd (hbe.trans z) hb
        · rw [hbe]; exact z
      rw [q] at q'; cases q'
      obtain ⟨v, hv⟩ := heo
      exact ⟨v, by rw [hbe]; exact hv⟩
    · refine (ok b u q).stay (fun c v hc r => k c v ?_ r) (fun c r => by rw [upd_ne (nown c b r)]; exact r) fun c xs r => by rw [upd_ne (ntup c xs r)]; exact r
      rcases hc with rfl | hc
      · exact hbe
      · rintro rfl
        rcases he with z | z
        · exact nown c b hc z
        · rw [hc] at z; cases z; exact hb rfl
end
structure Un (fs ex : List Addr) (H H' : Hp) (h h' : Heap) : Prop where
  keep : ∀ b o, h.get? b = some o → H b = none → b ∉ fs → b ∉ ex → h'.get? b = some o
  slot : ∀ b o, h.get? b = some o → H b = none → b ∈ fs → b ∉ ex → ∃ sl, h'.get? b = some { o with slots := sl }
  free : ∀ b o, h.get? b = some o → H b = none → b ∉ ex → H' b = none
  there : ∀ b o, h.get? b = some o → b ∉ ex → ∃ o', h'.get? b = some o'
  tups : ∀ b xs, H b = some (.tup xs) → H' b = some (.tup xs)
  frzs : ∀ b o u, H b = some (.frz o u) → H' b = some (.frz o u)
  tbls : ∀ b ps, H b = some (.tbl ps) → ∃ more, H' b = some (.tbl (ps ++ more))
section
variable {fs fs' ex ex' : List Addr} {H H1 H2 : Hp} {h h1 h2 h' : Heap} {a x e : Addr} {o : HO}
theorem Un.any (u : Un fs ex H H1 h h1) {b : Addr} {ob : Obj} (q : h.get? b = some ob) (n : H b = none) (hx : b ∉ ex) : ∃ sl, h1.get? b = some { ob with slots := sl } := by
  by_cases hb : b ∈ fs
  · exact u.slot b ob q n hb hx
  · exact ⟨ob.slots, u.keep b ob q n hb hx⟩
theorem Un.kept (k : ∀ b u, h.get? b = some u → h'.get? b = some u) : Un fs ex H H h h' :=
  ⟨fun b ob q _ _ _ => k b ob q, fun b ob q _ _ _ => ⟨ob.slots, k b ob q⟩, fun _ _ _ n _ => n, fun b ob q _ => ⟨ob, k b ob q⟩, fun _ _ q => q, fun _ _ _ q => q, fun _ ps q => ⟨#[], by rw [q]; simp⟩⟩
theorem Un.refl : Un fs ex H H h h := Un.kept fun _ _ q => q
theorem Un.laid (k : ∀ b u, h.get? b = some u → h'.get? b = some u) (hp : h.objs.size ≤ a) (hn : H a = none) : Un fs ex H (upd H a o) h h' where
  keep := fun b u q _ _ _ => k b u q
  slot := fun b u q _ _ _ => ⟨u.slots, k b u q⟩
  free := fun b u q n _ => by rw [upd_ne (Nat.ne_of_lt (Nat.lt_of_lt_of_le (Heap.lt_size q) hp))]; exact n
  there := fun b u q _ => ⟨u, k b u q⟩
  tups := fun b xs q => by rw [upd_ne (ne_of_none q hn)]; exact q
  frzs := fun b u xs q => by rw [upd_ne (ne_of_none q hn)]; exact q
  tbls := fun b ps q => ⟨#[], by rw [upd_ne (ne_of_none q hn), q]; simp⟩
theorem Un.write (mu : Mut (H x)) (he : e = x ∨ H e = some (.own x)) (k : ∀ b u, b ≠ e → h.get? b = some u → h'.get? b = some u) (heo : ∃ u, h'.get? e = some u) : Un fs ex H (upd H x o) h h' := by
  have hx : ∀ b, H b = none → b ≠ x := fun b n z => by subst z; rw [n] at mu; exact mu
  have hb : ∀ b, H b = none → b ≠ e := fun b n z => by
    subst z
    rcases he with r | r
    · exact hx b n r
    · rw [n] at r; cases r
  have hm : ∀ b u, H b = some u → ¬ Mut (some u) → b ≠ x := fun b u q nm z => by subst z; rw [q] at mu; exact nm mu
  refine ⟨fun b u q n _ _ => k b u (hb b n) q, fun b u q n _ _ => ⟨u.slots, k b u (hb b n) q⟩, fun b u q n _ => by rw [upd_ne (hx b n)]; exact n, fun b u q _ => ?_,
    fun b xs q => by rw [upd_ne (hm b _ q fun z => z)]; exact q, fun b u xs q => by rw [upd_ne (hm b _ q fun z => z)]; exact q, fun b ps q => ⟨#[], by rw [upd_ne (hm b _ q fun z => z), q]; simp⟩⟩
  by_cases hbe : b = e
  · subst hbe; exact heo
  · exact ⟨u, k b u hbe q⟩
end
def trk (h : Heap) (H : Hp) : List Addr := (List.range h.objs.size).filter fun a => (H a).isSome
def hidT (h : Heap) (H : Hp) : Heap := PySem.W.hideAll h (trk h H)
theorem hidT_size (h : Heap) (H : Hp) : (hidT h H).objs.size = h.objs.size := PySem.W.hideAll_size _ _
theorem hidT_get {h : Heap} {H : Hp} {b : Addr} {o : Obj} (e : h.get? b = some o) (n : H b = none) : (hidT h H).get? b = some o :=
  PySem.W.hideAll_get _ e fun hm => by
    have q : (H b).isSome = true := (List.mem_filter.mp hm).2
    rw [n] at q; simp at q
theorem of_hidT {h : Heap} {H : Hp} {b : Addr} {o : Obj} (e : (hidT h H).get? b = some o) : h.get? b = some o ∧ H b = none := by
  have e' : h.get? b = some o := PySem.W.of_hideAll (trk h H) e
  refine ⟨e', ?_⟩
  cases q : H b with
  | none => rfl
  | some x =>
    have hm : b ∈ trk h H := List.mem_filter.mpr ⟨List.mem_range.mpr (Heap.lt_size e'), by simp [q]⟩
    have z : (hidT h H).get? b = none := PySem.W.hideAll_none (trk h H) hm
    rw [z] at e; cases e
end L2
namespace L2
open PySem PySem.Spec PyProof.Rows
structure Mod (K : PySem.W.Frag) (mg : Str → Option Value) (base : Heap) : Prop where
  kin : K.In base
  glob : base.Ns mainGlobals mg
  blt : ∃ mb, base.Ns builtinsNs mb ∧ ∀ x : Str, x ≠ "__name__" → mb x = bootBuiltins x
  nolimit : base.NoLimit
structure Cx where
  prog : Program
  w : World
  K : PySem.W.Frag
  mg : Str → Option Value
  base : Heap
  A : Around
  N : List Str
  s_0 : Shared
  H_0 : Hp
  env : Env
  outer : List Env
  stack : List Env
  ex : List Addr
  fn : Str → Bool
  calm : Bool
  pn : List (Addr × Obj)
  xe : Value → Shared → Prop
def frs (l : List Env) : List Addr := l.filterMap (·.frame)
abbrev Cx.fs (X : Cx) : List Addr := frs X.outer
def Vis (sc : Scope) (x : Str) : Prop := sc.names.lookup x = some .local ∨ sc.names.lookup x = some .cell ∨ sc.names.lookup x = some .free
def Loc (sc : Scope) (x : Str) : Prop := sc.names.lookup x = some .local ∨ sc.names.lookup x = some .cell
def Look (env : Env) (h : Heap) (m : Str → Option Value) (x : Str) (u : Value) : Prop :=
  (env.kindOf x = some .local ∧ m x = some u) ∨ ((env.kindOf x = some .cell ∨ env.kindOf x = some .free) ∧ ∃ c, env.cells.lookup x = some c ∧ h.IsCell c (some u))
structure Cx.Ok (X : Cx) : Prop where
  mod : Mod X.K X.mg X.base
  kind : X.env.scope.kind = .function
  glob : X.env.globals = mainGlobals
  blt : X.env.builtins = builtinsNs
  above : X.s_0.heap.objs.size ≤ X.env.locals
  inj : ∀ x y c, X.env.cells.lookup x = some c → X.env.cells.lookup y = some c → x = y
  has : ∀ x, (X.env.kindOf x = some .cell ∨ X.env.kindOf x = some .free) → ∃ c, X.env.cells.lookup x = some c
  cab : ∀ x c, X.fn x = true → X.env.cells.lookup x = some c → X.s_0.heap.objs.size ≤ c
  hd : X.calm = true → X.A.handled = none
  frames : X.A.frames = some X.stack
  stk : X.stack = X.outer ∨ (X.stack = X.env :: X.outer ∧ X.env.frame = some X.env.locals)
  exf : ∀ b ∈ X.ex, b ≠ X.env.locals ∧ ∀ x c, X.env.cells.lookup x = some c → c ≠ b
  bs : ∀ b o, X.base.get? b = some o → X.s_0.heap.get? b = some o ∧ X.H_0 b = none
  bsz : X.base.objs.size ≤ X.s_0.heap.objs.size
  noex : ∀ b o, X.base.get? b = some o → b ∉ X.ex
  exfs : ∀ b ∈ X.ex, b ∉ X.fs
  funs : X.s_0.heap.FunFrames X.base X.outer
  frf : ∀ b ∈ X.fs, X.H_0 b = none
structure Inv (X : Cx) (pins : List (Addr × Obj)) (σ : List (Option V)) (H : Hp) (s : Shared) : Prop where
  ok : X.Ok
  os : s.os = X.s_0.os
  bare : AllBare s.gens
  base : Un X.fs X.ex X.H_0 H X.s_0.heap s.heap
  loc : ∃ m, s.heap.Ns X.env.locals m ∧ ∀ (i : Nat) (x : Str) (v : V), X.N[i]? = some x → σ[i]? = some (some v) → Vis X.env.scope x → ∃ u, RelV v u ∧ Look X.env s.heap m x u
  cell : ∀ x c, X.env.cells.lookup x = some c → ∃ v, s.heap.IsCell c v
  free : H X.env.locals = none
  freeC : ∀ x c, X.env.cells.lookup x = some c → H c = none
  pin : ∀ p ∈ X.pn ++ pins, s.heap.get? p.1 = some p.2 ∧ H p.1 = none ∧ p.1 ≠ X.env.locals ∧ p.1 ∉ X.fs ∧ ∀ v, p.2.data ≠ .cell v
  hok : HOk X.prog X.w H s.heap
  len : σ.length = X.N.length
section
variable {X : Cx} {pins : List (Addr × Obj)} {σ : List (Option V)} {H H' : Hp} {s : Shared} {h' : Heap}
theorem Cx.Ok.nofr (ok : X.Ok) {b : Addr} {o : Obj} (e : X.base.get? b = some o) : b ∉ X.fs := fun hb => by
  have := (ok.funs.mem hb).1
  rw [e] at this; cases this
theorem Inv.bs (I : Inv X pins σ H s) : ∀ b o, X.base.get? b = some o → s.heap.get? b = some o ∧ H b = none := fun b o e =>
  ⟨I.base.keep b o (I.ok.bs b o e).1 (I.ok.bs b o e).2 (I.ok.nofr e) (I.ok.noex b o e), I.base.free b o (I.ok.bs b o e).1 (I.ok.bs b o e).2 (I.ok.noex b o e)⟩
theorem Inv.bk (I : Inv X pins σ H s) : ∀ b o, X.base.get? b = some o → s.heap.get? b = some o := fun b o e => (I.bs b o e).1
theorem Inv.mod (I : Inv X pins σ H s) : Mod X.K X.mg X.base := I.ok.mod
theorem Inv.kIn (I : Inv X pins σ H s) : X.K.In s.heap := I.ok.mod.kin.keeps I.bk
theorem Inv.lt (I : Inv X pins σ H s) : X.env.locals < s.heap.objs.size := let ⟨_, hn, _⟩ := I.loc; hn.lt
theorem Inv.sz (I : Inv X pins σ H s) : X.s_0.heap.objs.size ≤ s.heap.objs.size := Nat.le_trans I.ok.above (Nat.le_of_lt I.lt)
theorem Inv.nofs (I : Inv X pins σ H s) {a : Addr} (h : s.heap.objs.size ≤ a) : a ∉ X.fs := fun hb => by
  obtain ⟨_, o, ho, _⟩ := I.ok.funs.mem hb
  exact absurd (Nat.lt_of_lt_of_le (Heap.lt_size ho) (Nat.le_trans I.sz h)) (Nat.lt_irrefl _)
theorem Inv.cne (I : Inv X pins σ H s) : ∀ x c, X.env.cells.lookup x = some c → c ≠ X.env.locals := fun x c e z => by
  obtain ⟨v, o, ho, hd⟩ := I.cell x c e
  obtain ⟨m, ⟨o', es, ep, ho', hd', _⟩, _⟩ := I.loc
  rw [z, ho'] at ho; cases ho; rw [hd'] at hd; cases hd
theorem Inv.funs (I : Inv X pins σ H s) : s.heap.FunFrames X.base X.outer := by
  have all : ∀ (l : List Env), (∀ b ∈ frs l, b ∈ X.fs) → X.s_0.heap.FunFrames X.base l → s.heap.FunFrames X.base l := by
    intro l
    induction l with
    | nil => intro _ _; trivial
    | cons env r ih =>
      intro hs hl
      obtain ⟨hk, ⟨L, o, hf, hn, ho, hd⟩, hr⟩ := hl
      have hL : L ∈ X.fs := hs L (by unfold frs; rw [List.filterMap_cons, hf]; exact List.mem_cons_self)
      obtain ⟨sl, e⟩ := I.base.slot L o ho (I.ok.frf L hL) hL fun z => I.ok.exfs L z hL
      exact ⟨hk, ⟨L, _, hf, hn, e, hd⟩, ih (fun b hb => hs b (by unfold frs; rw [List.filterMap_cons, hf]; exact List.mem_cons_of_mem _ hb)) hr⟩
  exact all X.outer (fun _ hb => hb) I.ok.funs
theorem Inv.stack (I : Inv X pins σ H s) : s.heap.FunFrames X.base X.stack := by
  rcases I.ok.stk with e | ⟨e, hf⟩
  · rw [e]; exact I.funs
  · rw [e]
    obtain ⟨m, hn, _⟩ := I.loc
    refine .cons (by rw [I.ok.kind]; decide) hf hn ?_ I.funs
    exact Heap.get?_none_of_le (Nat.le_trans I.ok.bsz I.ok.above)
theorem Inv.stkSub (I : Inv X pins σ H s) : ∀ b ∈ frs X.stack, b ∈ X.env.locals :: X.fs := fun b hb => by
  rcases I.ok.stk with e | ⟨e, hf⟩
  · rw [e] at hb; exact List.mem_cons_of_mem _ hb
  · rw [e] at hb
    unfold frs at hb
    rw [List.filterMap_cons, hf] at hb
    exact hb
theorem Inv.stkFree (I : Inv X pins σ H s) : ∀ b ∈ frs X.stack, H b = none := fun b hb => by
  rcases List.mem_cons.mp (I.stkSub b hb) with e | hb
  · rw [e]; exact I.free
  · obtain ⟨_, o, ho, _⟩ := I.ok.funs.mem hb
    exact I.base.free b o ho (I.ok.frf b hb) fun z => I.ok.exfs b z hb
theorem Inv.step {g' : Array GenState} {t' : Nat} {d' : Drawn} {ch : List Addr} (I : Inv X pins σ H s)
    (hch : ∀ b ∈ ch, (b ∈ X.ex ∨ X.s_0.heap.objs.size ≤ b) ∧ b ≠ X.env.locals ∧ (∀ x c, X.env.cells.lookup x = some c → c ≠ b) ∧ ∀ p ∈ X.pn ++ pins, p.1 ≠ b)
    (keep : ∀ b o, b ≠ X.env.locals → b ∉ X.fs → b ∉ ch → s.heap.get? b = some o → H b = none → h'.get? b = some o)
    (slot : ∀ b o, b ≠ X.env.locals → b ∈ X.fs → b ∉ ch → s.heap.get? b = some o → H b = none → ∃ sl, h'.get? b = some { o with slots := sl }) (free : ∀ b o, b ∉ ch → s.heap.get? b = some o → H b = none → H' b = none)
    (there : ∀ b o, b ∉ ch → s.heap.get? b = some o → ∃ o', h'.get? b = some o')
    (tups : ∀ b xs, H b = some (.tup xs) → H' b = some (.tup xs)) (frzs : ∀ b o u, H b = some (.frz o u) → H' b = some (.frz o u)) (tbls : ∀ b ps, H b = some (.tbl ps) → ∃ more, H' b = some (.tbl (ps ++ more)))
    (ns : ∀ m, s.heap.Ns X.env.locals m → h'.Ns X.env.locals m) (hok : HOk X.prog X.w H' h') (hg : AllBare g') :
    Inv X pins σ H' { s with heap := h', gens := g', drawn := d', toks := t' } := by
  have neL : ∀ b o, X.s_0.heap.get? b = some o → b ≠ X.env.locals := fun b o e => Nat.ne_of_lt (Nat.lt_of_lt_of_le (Heap.lt_size e) I.ok.above)
  have neC : ∀ b o, X.s_0.heap.get? b = some o → b ∉ X.ex → b ∉ ch := fun b o e hx hb => by
    rcases (hch b hb).1 with z | z
    · exact hx z
    · exact absurd (Nat.lt_of_lt_of_le (Heap.lt_size e) z) (Nat.lt_irrefl _)
  have cellK : ∀ x c, X.env.cells.lookup x = some c → ∀ v, s.heap.IsCell c v → h'.IsCell c v := fun x c e v ⟨o, ho, hd⟩ => by
    have nch : c ∉ ch := fun z => (hch c z).2.2.1 x c e rfl
    by_cases hc : c ∈ X.fs
    · obtain ⟨sl, q⟩ := slot c o (I.cne x c e) hc nch ho (I.freeC x c e)
      exact ⟨_, q, hd⟩
    · exact ⟨o, keep c o (I.cne x c e) hc nch ho (I.freeC x c e), hd⟩
  refine ⟨I.ok, I.os, hg, ⟨fun b o e n hb hx => ?_, fun b o e n hb hx => ?_, fun b o e n hx => ?_, fun b o e hx => ?_, fun b xs e => tups b xs (I.base.tups b xs e), fun b o xs e => frzs b o xs (I.base.frzs b o xs e), fun b ps e => ?_⟩, ?_, fun x c e => ?_, ?_, fun x c e => ?_, fun p hp => ?_, hok, I.len⟩
  · exact keep b o (neL b o e) hb (neC b o e hx) (I.base.keep b o e n hb hx) (I.base.free b o e n hx)
  · obtain ⟨sl, e1⟩ := I.base.slot b o e n hb hx
    obtain ⟨sl', e2⟩ := slot b _ (neL b o e) hb (neC b o e hx) e1 (I.base.free b o e n hx)
    exact ⟨sl', e2⟩
  · obtain ⟨o', e1⟩ := I.base.there b o e hx
    exact free b o' (neC b o e hx) e1 (I.base.free b o e n hx)
  · obtain ⟨o', e1⟩ := I.base.there b o e hx
    exact there b o' (neC b o e hx) e1
  · obtain ⟨m1, e1⟩ := I.base.tbls b ps e
    obtain ⟨m2, e2⟩ := tbls b _ e1
    exact ⟨m1 ++ m2, by rw [e2, Array.append_assoc]⟩
  · obtain ⟨m, hn, hl⟩ := I.loc
    refine ⟨m, ns m hn, fun i x v e1 e2 e3 => ?_⟩
    obtain ⟨u, r, l⟩ := hl i x v e1 e2 e3
    refine ⟨u, r, ?_⟩
    rcases l with l | ⟨k, c, e, z⟩
    · exact .inl l
    · exact .inr ⟨k, c, e, cellK x c e _ z⟩
  · obtain ⟨v, z⟩ := I.cell x c e
    exact ⟨v, cellK x c e v z⟩
  · obtain ⟨m, ⟨o, _, _, ho, _⟩, _⟩ := I.loc
    exact free _ o (fun z => (hch _ z).2.1 rfl) ho I.free
  · obtain ⟨v, o, ho, hd⟩ := I.cell x c e
    exact free c o (fun z => (hch c z).2.2.1 x c e rfl) ho (I.freeC x c e)
  · obtain ⟨e, n, ne, nf, d⟩ := I.pin p hp
    have nch : p.1 ∉ ch := fun z => (hch p.1 z).2.2.2 p hp rfl
    exact ⟨keep p.1 p.2 ne nf nch e n, free p.1 p.2 nch e n, ne, nf, d⟩
theorem Inv.un {t' : Nat} (I : Inv X pins σ H s) (u : Un X.fs [] H H' s.heap h') (hok : HOk X.prog X.w H' h') : Inv X pins σ H' { s with heap := h', toks := t' } := by
  obtain ⟨m, ⟨o, es, ep, ho, r⟩, _⟩ := id I.loc
  obtain ⟨sl, hL⟩ := u.any ho I.free (by simp)
  exact I.step (g' := s.gens) (d' := s.drawn) (ch := []) (fun _ z => nomatch z) (fun b o _ hb _ e n => u.keep b o e n hb (by simp)) (fun b o _ hb _ e n => u.slot b o e n hb (by simp)) (fun b o _ e n => u.free b o e n (by simp)) (fun b o _ e => u.there b o e (by simp)) u.tups u.frzs u.tbls (fun m' hm => by
    obtain ⟨o', es', ep', ho', r'⟩ := hm
    rw [ho] at ho'; cases ho'
    exact ⟨_, es', ep', hL, r'⟩) hok I.bare
theorem Inv.call {g' : Array GenState} {t' : Nat} {d' : Drawn} {ch : List Addr} (I : Inv X pins σ H s) (u : Un (frs X.stack) ch H H' s.heap h') (hok : HOk X.prog X.w H' h') (hg : AllBare g')
    (hch : ∀ b ∈ ch, (b ∈ X.ex ∨ X.s_0.heap.objs.size ≤ b) ∧ b ≠ X.env.locals ∧ (∀ x c, X.env.cells.lookup x = some c → c ≠ b) ∧ ∀ p ∈ X.pn ++ pins, p.1 ≠ b) :
    Inv X pins σ H' { s with heap := h', gens := g', drawn := d', toks := t' } := by
  obtain ⟨m, ⟨o, es, ep, ho, r⟩, _⟩ := id I.loc
  obtain ⟨sl, hL⟩ := u.any ho I.free fun z => (hch _ z).2.1 rfl
  exact I.step (ch := ch) hch (fun b o hL hb hc e n => u.keep b o e n (fun z => (List.mem_cons.mp (I.stkSub b z)).elim hL hb) hc) (fun b o _ _ hc e n => u.any e n hc) (fun b o hc e n => u.free b o e n hc) (fun b o hc e => u.there b o e hc) u.tups u.frzs u.tbls (fun m' hm => by
    obtain ⟨o', es', ep', ho', r'⟩ := hm
    rw [ho] at ho'; cases ho'
    exact ⟨_, es', ep', hL, r'⟩) hok hg
theorem Inv.turned {t' : Nat} {it : Addr} (I : Inv X pins σ H s) (k : ∀ b o, b ≠ it → s.heap.get? b = some o → h'.get? b = some o) (hn : H it = none) (hL : it ≠ X.env.locals)
    (h1 : it ∈ X.ex ∨ X.s_0.heap.objs.size ≤ it) (h2 : ∀ x c, X.env.cells.lookup x = some c → c ≠ it) (h3 : ∀ p ∈ X.pn ++ pins, p.1 ≠ it) : Inv X pins σ H { s with heap := h', toks := t' } := by
  have nit : ∀ b u, H b = some u → b ≠ it := fun b u e z => by rw [z, hn] at e; cases e
  refine I.step (g' := s.gens) (d' := s.drawn) (ch := [it]) (fun b hb => ?_) (fun b o _ _ hc e _ => k b o (fun z => hc (by simp [z])) e) (fun b o _ _ hc e _ => ⟨o.slots, k b o (fun z => hc (by simp [z])) e⟩) (fun _ _ _ _ n => n)
    (fun b o hc e => ⟨o, k b o (fun z => hc (by simp [z])) e⟩) (fun _ _ e => e) (fun _ _ _ e => e) (fun b ps e => ⟨#[], by rw [e]; simp⟩) (fun m hm => ?_) (fun b u e => ?_) I.bare
  · have e : b = it := by simpa using hb
    subst e
    exact ⟨h1, hL, h2, h3⟩
  · obtain ⟨o, es, ep, ho, r⟩ := hm
    exact ⟨o, es, ep, k _ o (Ne.symm hL) ho, r⟩
  · refine (I.hok b u e).stay (fun c v hc q => k c v ?_ q) (fun _ q => q) fun _ _ q => q
    rcases hc with z | z
    · rw [z]; exact nit b u e
    · exact nit c _ z
theorem Inv.tok (I : Inv X pins σ H s) (t : Nat) : Inv X pins σ H { s with toks := t } := I.un (h' := s.heap) (t' := t) Un.refl I.hok
theorem Inv.kept {t' : Nat} (I : Inv X pins σ H s) (k : ∀ b u, s.heap.get? b = some u → h'.get? b = some u) : Inv X pins σ H { s with heap := h', toks := t' } := I.un (Un.kept k) (I.hok.kept k)
theorem Inv.laid {a : Addr} {o : HO} {t' : Nat} (I : Inv X pins σ H s) (k : ∀ b u, s.heap.get? b = some u → h'.get? b = some u) (hp : s.heap.objs.size ≤ a) (new : ObjOk X.prog X.w (upd H a o) h' a o) :
    Inv X pins σ (upd H a o) { s with heap := h', toks := t' } := I.un (Un.laid k hp (I.hok.fresh hp)) (I.hok.laid k hp new)
theorem Inv.write {x e : Addr} {o : HO} {t' : Nat} (I : Inv X pins σ H s) (mu : Mut (H x)) (he : e = x ∨ H e = some (.own x)) (k : ∀ b u, b ≠ e → s.heap.get? b = some u → h'.get? b = some u) (heo : ∃ u, h'.get? e = some u)
    (new : ObjOk X.prog X.w (upd H x o) h' x o) : Inv X pins σ (upd H x o) { s with heap := h', toks := t' } := I.un (Un.write mu he k heo) (I.hok.write mu he k heo new)
theorem Inv.weak {σ' : List (Option V)} (I : Inv X pins σ H s) (hl : σ'.length = σ.length) (w : ∀ (i : Nat) v, σ'[i]? = some (some v) → σ[i]? = some (some v)) : Inv X pins σ' H s :=
  ⟨I.ok, I.os, I.bare, I.base, let ⟨m, hn, hl'⟩ := I.loc; ⟨m, hn, fun i x v e1 e2 e3 => hl' i x v e1 (w i v e2) e3⟩, I.cell, I.free, I.freeC, I.pin, I.hok, hl.trans I.len⟩
theorem Inv.pins_of {pins' : List (Addr × Obj)} (I : Inv X pins σ H s) (h : ∀ p ∈ pins', s.heap.get? p.1 = some p.2 ∧ H p.1 = none ∧ p.1 ≠ X.env.locals ∧ p.1 ∉ X.fs ∧ ∀ v, p.2.data ≠ .cell v) : Inv X pins' σ H s :=
  ⟨I.ok, I.os, I.bare, I.base, I.loc, I.cell, I.free, I.freeC, fun p hp => (List.mem_append.mp hp).elim (fun z => I.pin p (List.mem_append_left _ z)) (h p), I.hok, I.len⟩
theorem nodup_ix {N : List Str} (hN : N.Nodup) {i j : Nat} {x : Str} (a : N[i]? = some x) (b : N[j]? = some x) : i = j := by
  obtain ⟨h1, e1⟩ := List.getElem?_eq_some_iff.mp a
  obtain ⟨h2, e2⟩ := List.getElem?_eq_some_iff.mp b
  exact (List.getElem_inj hN).mp (e1.trans e2.symm)
theorem store_ok2 {M : Model} {A : Around} {E : Value → Shared → Prop} {i : Nat} {x : Str} {v : V} {u : Value} {Q : Unit → Shared → Prop} (I : Inv X pins σ H s) (hN : X.N.Nodup) (hi : X.N[i]? = some x) (hx : Loc X.env.scope x) (r : RelV v u)
    (h : ∀ s', Inv X pins (σ.set i (some v)) H s' → (∃ a, Heap.SameBut a s.heap s'.heap ∧ (a = X.env.locals ∨ X.env.cells.lookup x = some a)) → Q () s') (hf : X.fn x = true ∨ X.env.scope.names.lookup x = some .local := by first | exact .inl rfl | exact .inr rfl | assumption) : wpAny M A (storeName X.env x u) Q E s := by
  obtain ⟨m, hn, hl⟩ := id I.loc
  have hcls : (X.env.scope.kind == .class || (X.env.scope.kind == .module && X.env.locals != X.env.globals)) = false := by rw [I.ok.kind]; rfl
  have hiσ : i < σ.length := by rw [I.len]; exact (List.getElem?_eq_some_iff.mp hi).1
  have cne := I.cne
  have tracked : ∀ {a : Addr} {h' : Heap}, (∃ o, s.heap.get? a = some o ∧ H a = none) → Heap.SameBut a s.heap h' → HOk X.prog X.w H h' := fun {a h'} ha hs b ob e => by
    obtain ⟨_, _, hfree⟩ := ha
    refine (I.hok b ob e).stay (fun c w' hc q => (hs.2 c ?_).trans q) (fun _ q => q) fun _ _ q => q
    rintro rfl
    rcases hc with rfl | hc
    · rw [hfree] at e; cases e
    · rw [hfree] at hc; cases hc
  rcases hx with hk | hk
  · refine wpAny_storeName_local hk hn (fun h' hn' hs => ?_) hcls
    obtain ⟨oL, _, _, hoL, _⟩ := id hn
    refine h _ ⟨I.ok, I.os, I.bare, ⟨fun b o e n hb hx => ?_, fun b o e n hb hx => ?_, I.base.free, fun b o e hx => ?_, I.base.tups, I.base.frzs, I.base.tbls⟩, ⟨_, hn', fun j y v' e1 e2 e3 => ?_⟩, fun y c e => ?_, I.free, I.freeC, fun p hp => ?_, tracked ⟨oL, hoL, I.free⟩ hs, by simpa using I.len⟩ ⟨_, hs, .inl rfl⟩
    · exact (hs.2 b (Nat.ne_of_lt (Nat.lt_of_lt_of_le (Heap.lt_size e) I.ok.above))).trans (I.base.keep b o e n hb hx)
    · obtain ⟨sl, e1⟩ := I.base.slot b o e n hb hx
      exact ⟨sl, (hs.2 b (Nat.ne_of_lt (Nat.lt_of_lt_of_le (Heap.lt_size e) I.ok.above))).trans e1⟩
    · obtain ⟨o', e1⟩ := I.base.there b o e hx
      exact ⟨o', (hs.2 b (Nat.ne_of_lt (Nat.lt_of_lt_of_le (Heap.lt_size e) I.ok.above))).trans e1⟩
    · by_cases hj : j = i
      · subst hj
        rw [hi] at e1; cases e1
        rw [List.getElem?_set_self hiσ] at e2
        cases e2
        exact ⟨u, r, .inl ⟨hk, by simp⟩⟩
      · rw [List.getElem?_set_ne (Ne.symm hj)] at e2
        obtain ⟨u', r', q⟩ := hl j y v' e1 e2 e3
        refine ⟨u', r', ?_⟩
        rcases q with ⟨k, e⟩ | ⟨k, c, e, z⟩
        · refine .inl ⟨k, ?_⟩
          have : y ≠ x := fun e => hj (nodup_ix hN e1 (e ▸ hi))
          simp [this, e]
        · exact .inr ⟨k, c, e, z.sameBut hs (cne y c e)⟩
    · obtain ⟨w', z⟩ := I.cell y c e
      exact ⟨w', z.sameBut hs (cne y c e)⟩
    · obtain ⟨e, n, ne, nf, d⟩ := I.pin p hp
      exact ⟨(hs.2 p.1 ne).trans e, n, ne, nf, d⟩
  · have hfn : X.fn x = true := by
      rcases hf with z | z
      · exact z
      · rw [z] at hk; cases hk
    obtain ⟨c, hc⟩ := I.ok.has x (.inl hk)
    obtain ⟨w', z⟩ := I.cell x c hc
    refine wpAny_storeName_cell I.ok.kind hk hc z (fun h' hc' hs => ?_)
    obtain ⟨oc, hoc, hocd⟩ := id z
    refine h { s with heap := h' } ⟨I.ok, I.os, I.bare, ⟨fun b o e n hb hx => ?_, fun b o e n hb hx => ?_, I.base.free, fun b o e hx => ?_, I.base.tups, I.base.frzs, I.base.tbls⟩, ⟨m, hn.sameBut hs (Ne.symm (cne x c hc)), fun j y v' e1 e2 e3 => ?_⟩, fun y c' e => ?_, I.free, I.freeC, fun p hp => ?_, tracked ⟨oc, hoc, I.freeC x c hc⟩ hs, by simpa using I.len⟩ ⟨c, hs, .inr hc⟩
    · exact (hs.2 b (Nat.ne_of_lt (Nat.lt_of_lt_of_le (Heap.lt_size e) (I.ok.cab x c hfn hc)))).trans (I.base.keep b o e n hb hx)
    · obtain ⟨sl, e1⟩ := I.base.slot b o e n hb hx
      exact ⟨sl, (hs.2 b (Nat.ne_of_lt (Nat.lt_of_lt_of_le (Heap.lt_size e) (I.ok.cab x c hfn hc)))).trans e1⟩
    · obtain ⟨o', e1⟩ := I.base.there b o e hx
      exact ⟨o', (hs.2 b (Nat.ne_of_lt (Nat.lt_of_lt_of_le (Heap.lt_size e) (I.ok.cab x c hfn hc)))).trans e1⟩
    · by_cases hj : j = i
      · subst hj
        rw [hi] at e1; cases e1
        rw [List.getElem?_set_self hiσ] at e2
        cases e2
        exact ⟨u, r, .inr ⟨.inl hk, c, hc, hc'⟩⟩
      · rw [List.getElem?_set_ne (Ne.symm hj)] at e2
        obtain ⟨u', r', q⟩ := hl j y v' e1 e2 e3
        refine ⟨u', r', ?_⟩
        rcases q with q | ⟨k, c', e, z'⟩
        · exact .inl q
        · refine .inr ⟨k, c', e, z'.sameBut hs ?_⟩
          rintro rfl
          exact hj (nodup_ix hN e1 (I.ok.inj _ _ _ e hc ▸ hi))
    · by_cases hcc : c' = c
      · subst hcc; exact ⟨_, hc'⟩
      · obtain ⟨w2, z2⟩ := I.cell y c' e
        exact ⟨w2, z2.sameBut hs hcc⟩
    · obtain ⟨e, n, ne, nf, d⟩ := I.pin p hp
      refine ⟨(hs.2 p.1 ?_).trans e, n, ne, nf, d⟩
      intro q
      rw [q, hoc] at e
      have q' : oc = p.2 := Option.some.inj e
      exact d w' (by rw [← q']; exact hocd)
theorem store_ok {M : Model} {A : Around} {E : Value → Shared → Prop} {i : Nat} {x : Str} {v : V} {u : Value} {Q : Unit → Shared → Prop} (I : Inv X pins σ H s) (hN : X.N.Nodup) (hi : X.N[i]? = some x) (hx : Loc X.env.scope x) (r : RelV v u)
    (h : ∀ s', Inv X pins (σ.set i (some v)) H s' → Q () s') (hf : X.fn x = true ∨ X.env.scope.names.lookup x = some .local := by first | exact .inl rfl | exact .inr rfl | assumption) : wpAny M A (storeName X.env x u) Q E s :=
  store_ok2 I hN hi hx r (fun s' I' _ => h s' I') hf
theorem Inv.call' {s' : Shared} {ch : List Addr} (I : Inv X pins σ H s) (ho : s'.os = s.os) (u : Un (frs X.stack) ch H H' s.heap s'.heap) (hok : HOk X.prog X.w H' s'.heap) (hg : AllBare s'.gens)
    (hch : ∀ b ∈ ch, (b ∈ X.ex ∨ X.s_0.heap.objs.size ≤ b) ∧ b ≠ X.env.locals ∧ (∀ x c, X.env.cells.lookup x = some c → c ≠ b) ∧ ∀ p ∈ X.pn ++ pins, p.1 ≠ b) : Inv X pins σ H' s' := by
  obtain ⟨h', g', d', t', o'⟩ := s'
  have e : o' = s.os := ho
  subst e
  exact I.call (g' := g') (t' := t') (d' := d') u hok hg hch
end
abbrev XK := Value → Option Addr → Hp → Prop
abbrev St := List (Option V)
abbrev VK := V → Hp → Prop
abbrev TE := St → Hp → VK → Prop
abbrev TT := St → Hp → (Bool → Hp → Prop) → Prop
abbrev TA := St → Hp → (List V → Hp → Prop) → Prop
structure Ends where
  nx : St → Hp → Prop
  rt : VK
  bk : St → Hp → Prop := fun _ _ => False
  ct : St → Hp → Prop := fun _ _ => False
abbrev TS := Ends → St → Hp → Prop
def EP (X : Cx) (pins : List (Addr × Obj)) (σ : St) (Q : VK) (u : Value) (s' : Shared) : Prop := ∃ v H', Inv X pins σ H' s' ∧ RelV v u ∧ Q v H'
def TP (X : Cx) (pins : List (Addr × Obj)) (σ : St) (Q : Bool → Hp → Prop) (b : Bool) (s' : Shared) : Prop := ∃ H', Inv X pins σ H' s' ∧ Q b H'
def AP (X : Cx) (pins : List (Addr × Obj)) (σ : St) (Q : List V → Hp → Prop) (us : List Value) (s' : Shared) : Prop := ∃ vs H', Inv X pins σ H' s' ∧ Vals vs us ∧ Q vs H'
def SP (X : Cx) (pins : List (Addr × Obj)) (D : Ends) (f : Flow) (s' : Shared) : Prop :=
  match f with
  | .next => ∃ σ' H', Inv X pins σ' H' s' ∧ D.nx σ' H'
  | .brk => ∃ σ' H', Inv X pins σ' H' s' ∧ D.bk σ' H'
  | .cont => ∃ σ' H', Inv X pins σ' H' s' ∧ D.ct σ' H'
  | .ret u => ∃ v σ' H', Inv X pins σ' H' s' ∧ RelV v u ∧ D.rt v H'
def PE (X : Cx) (e : Expr) (t : TE) : Prop :=
  ∀ (pins : List (Addr × Obj)) (s : Shared) (σ : St) (H : Hp) (Q : VK), Inv X pins σ H s → t σ H Q → wpAny (model X.prog X.w) X.A (eval e X.env) (EP X pins σ Q) X.xe s
def PT (X : Cx) (e : Expr) (t : TT) : Prop :=
  ∀ (pins : List (Addr × Obj)) (s : Shared) (σ : St) (H : Hp) (Q : Bool → Hp → Prop), Inv X pins σ H s → t σ H Q → wpAny (model X.prog X.w) X.A (isTrue e X.env (eval e X.env)) (TP X pins σ Q) X.xe s
def PW (X : Cx) (e : Expr) (t : TT) : Prop :=
  ∀ (whole : Sem Value) (pins : List (Addr × Obj)) (s : Shared) (σ : St) (H : Hp) (Q : Bool → Hp → Prop), Inv X pins σ H s → t σ H Q → wpAny (model X.prog X.w) X.A (isTrue e X.env whole) (TP X pins σ Q) X.xe s
theorem PW.pt {X : Cx} {e : Expr} {t : TT} (h : PW X e t) : PT X e t := h _
def PA (X : Cx) (es : List Expr) (t : TA) : Prop :=
  ∀ (pos : Pos) (pins : List (Addr × Obj)) (s : Shared) (σ : St) (H : Hp) (Q : List V → Hp → Prop), Inv X pins σ H s → t σ H Q → wpAny (model X.prog X.w) X.A (spliced (backTo pos (starEach es X.env))) (AP X pins σ Q) X.xe s
def PS (X : Cx) (st : Stmt) (t : TS) : Prop :=
  ∀ (pins : List (Addr × Obj)) (s : Shared) (σ : St) (H : Hp) (D : Ends), Inv X pins σ H s → t D σ H → wpAny (model X.prog X.w) X.A (exec st X.env) (SP X pins D) X.xe s
def PSs (X : Cx) (st : List Stmt) (t : TS) : Prop :=
  ∀ (pins : List (Addr × Obj)) (s : Shared) (σ : St) (H : Hp) (D : Ends), Inv X pins σ H s → t D σ H → wpAny (model X.prog X.w) X.A (execs st X.env) (SP X pins D) X.xe s
theorem thn {α : Type} {t : Sem α} {Q Q' : α → Shared → Prop} {M : Model} {A : Around} {E : Value → Shared → Prop} {s : Shared} (h : wpAny M A t Q E s) (hQ : ∀ a s, Q a s → Q' a s) : wpAny M A t Q' E s := wpAny_mono h hQ fun _ _ x => x
end L2
namespace L2
open PySem PySem.Spec PyProof.Rows
section
variable {X : Cx}
def tVar (i : Nat) : TE := fun σ H Q => ∃ v, σ[i]? = some (some v) ∧ Q v H
def tC (v : V) : TE := fun _ H Q => Q v H
theorem pe_var {i : Nat} {x : Str} {pos : Pos} (hN : X.N[i]? = some x) (hv : Vis X.env.scope x) (hd : (x == ("__debug__" : Str)) = false := by decide) (hcd : (x == ("__classdict__" : Str)) = false := by decide) : PE X (.Name x pos) (tVar i) := by
  intro pins s σ H Q I h
  obtain ⟨v, e, h⟩ := h
  obtain ⟨m, hn, hl⟩ := I.loc
  obtain ⟨u, r, l⟩ := hl i x v hN e hv
  have fin : EP X pins σ Q u s := ⟨v, H, I, r, h⟩
  rcases l with ⟨hk, hm⟩ | ⟨hk, c, hc, hcell⟩
  · exact wpAny_Name (wpAny_loadName_local I.ok.kind hk hn hm fin) hd
  · rcases hk with hk | hk
    · exact wpAny_Name (wpAny_loadName_cell I.ok.kind hk hc hcell fin) hd
    · exact wpAny_Name (wpAny_loadName_free I.ok.kind hk hc hcell fin hcd) hd
theorem pe_int {i j pos} : PE X (.Constant (.int i) j pos) (tC (.int i)) := fun _ _ _ H _ I h => wpAny_Constant_int ⟨.int i, H, I.tok _, ⟨_, rfl⟩, h⟩
theorem pe_bl {b j pos} : PE X (.Constant (.bool b) j pos) (tC (.bl b)) := fun _ _ _ H _ I h => Constant_bool ⟨.bl b, H, I, rfl, h⟩
theorem pe_non {j pos} : PE X (.Constant .none j pos) (tC .non) := fun _ _ _ H _ I h => Constant_none ⟨.non, H, I, rfl, h⟩
def Gl (X : Cx) (x : Str) : Prop := X.env.kindOf x = some .globalImplicit
theorem ld_glob {E : Value → Shared → Prop} {pins : List (Addr × Obj)} {s : Shared} {σ : St} {H : Hp} {x : Str} {u : Value} {pos : Pos} {Q : Value → Shared → Prop} (I : Inv X pins σ H s) (hg : Gl X x) (hm : X.mg x = some u) (h : Q u s)
    (hd : (x == ("__debug__" : Str)) = false := by decide) : wpAny (model X.prog X.w) X.A (eval (.Name x pos) X.env) Q E s :=
  Calls.Name_function_global I.ok.kind hg (Calls.loadGlobal_global (by rw [I.ok.glob]; exact I.mod.glob.keeps I.bk) hm h) hd
theorem ld_blt {E : Value → Shared → Prop} {pins : List (Addr × Obj)} {s : Shared} {σ : St} {H : Hp} {x : Str} {u : Value} {pos : Pos} {Q : Value → Shared → Prop} (I : Inv X pins σ H s) (hg : Gl X x) (hm : X.mg x = none) (hv : bootBuiltins x = some u) (h : Q u s)
    (hn : x ≠ "__name__" := by decide) (hd : (x == ("__debug__" : Str)) = false := by decide) : wpAny (model X.prog X.w) X.A (eval (.Name x pos) X.env) Q E s := by
  obtain ⟨mb, h1, h2⟩ := I.mod.blt
  exact Calls.Name_function_global I.ok.kind hg (Calls.loadGlobal_builtin (by rw [I.ok.glob]; exact I.mod.glob.keeps I.bk) hm (by rw [I.ok.blt]; exact h1.keeps I.bk) ((h2 x hn).trans hv) h) hd
theorem pe_glob {x : Str} {v : V} {u : Value} {pos : Pos} (hg : Gl X x) (hm : X.mg x = some u) (r : RelV v u) (hd : (x == ("__debug__" : Str)) = false := by decide) : PE X (.Name x pos) (tC v) :=
  fun _ _ _ H _ I h => ld_glob I hg hm ⟨v, H, I, r, h⟩ hd
variable {a b : Expr} {ta tb : TE} {pos : Pos}
def PC (X : Cx) (op : CmpOp) (a b : Expr) (t : TE) : Prop :=
  ∀ (pins : List (Addr × Obj)) (s : Shared) (σ : St) (H : Hp) (Q : VK), Inv X pins σ H s → t σ H Q →
    wpAny (model X.prog X.w) X.A (eval a X.env) (fun v s₁ => wpAny (model X.prog X.w) X.A (eval b X.env) (fun u s₂ => wpAny (model X.prog X.w) X.A (compareOp op v u) (EP X pins σ Q) X.xe s₂) X.xe s₁) X.xe s
theorem nobehind (b : Expr) {op : CmpOp} (h : op ≠ .In) (h2 : op ≠ .NotIn) : behindInMarks op b = false := by
  have e1 : (op == CmpOp.In) = false := by cases op <;> first | rfl | exact absurd rfl h
  have e2 : (op == CmpOp.NotIn) = false := by cases op <;> first | rfl | exact absurd rfl h2
  cases b <;> simp [behindInMarks, e1, e2]
def tIsN (ta : TE) : TE := fun σ H Q => ta σ H fun x H1 => Q (.bl (decide (x = .non))) H1
def tNotN (ta : TE) : TE := fun σ H Q => ta σ H fun x H1 => Q (.bl (!decide (x = .non))) H1
theorem RelV.none_iff {x : V} {v : Value} (r : RelV x v) : (v == Value.none) = decide (x = .non) := by
  cases x with
  | non => cases r; rfl
  | bl _ => cases r; rfl
  | int _ => obtain ⟨t, rfl⟩ := r; rfl
  | str _ => obtain ⟨t, rfl⟩ := r; rfl
  | byt _ => obtain ⟨t, rfl⟩ := r; rfl
  | flt _ => obtain ⟨t, rfl⟩ := r; rfl
  | ref _ => cases r; rfl
  | ty _ => cases r; rfl
theorem pc_isN {j pos'} (ha : PE X a ta) : PC X .Is a (.Constant .none j pos') (tIsN ta) := by
  intro pins s σ H Q I h
  refine thn (ha pins s σ H _ I h) fun v s1 ⟨x, H1, I1, r1, q1⟩ => ?_
  exact Constant_none (is_none_gen ⟨.bl _, H1, I1, by rw [r1.none_iff]; rfl, q1⟩)
theorem pc_notN {j pos'} (ha : PE X a ta) : PC X .IsNot a (.Constant .none j pos') (tNotN ta) := by
  intro pins s σ H Q I h
  refine thn (ha pins s σ H _ I h) fun v s1 ⟨x, H1, I1, r1, q1⟩ => ?_
  exact Constant_none (isnot_none_gen ⟨.bl _, H1, I1, by rw [r1.none_iff]; rfl, q1⟩)
def tB (t : TE) : TT := fun σ H Q => t σ H fun x H1 => ∃ c, x = .bl c ∧ Q c H1
theorem pt_cmp {op : CmpOp} {t : TE} (h : PC X op a b t) (h1 : behindInMarks op b = false := by first | exact nobehind _ (by decide) (by decide) | rfl) : PT X (.Compare a [op] [b] pos) (tB t) := by
  intro pins s σ H Q I hw
  refine wpAny_isTrue_Compare1 (thn (h pins s σ H _ I hw) fun v s1 h1 => thn h1 fun u s2 h2 => thn h2 fun c s3 ⟨x, H1, I1, r1, q1⟩ => ?_) h1
  obtain ⟨d, rfl, q⟩ := q1
  cases r1
  exact wpAny_truthy_bool ⟨H1, I1, q⟩
theorem pt_val {e : Expr} {t : TE} (h : PE X e t) (he : ∀ whole, isTrue e X.env whole = (do let v ← whole; standAt e.pos; holding [v] (truthy v)) := by intro _; rfl) : PT X e (tB t) := by
  intro pins s σ H Q I hw
  refine isTrue_plain (thn (h pins s σ H _ I hw) fun v s1 ⟨x, H1, I1, r1, q1⟩ => ?_) (he _)
  obtain ⟨d, rfl, q⟩ := q1
  cases r1
  exact wpAny_truthy_bool ⟨H1, I1, q⟩
variable {tA tB' : TT} {rest : List Expr}
def tAnd (t u : TT) : TT := fun σ H Q => t σ H fun c H1 => if c = true then u σ H1 Q else Q false H1
def tOr (t u : TT) : TT := fun σ H Q => t σ H fun c H1 => if c = true then Q true H1 else u σ H1 Q
def tNot (t : TT) : TT := fun σ H Q => t σ H fun c H1 => Q (!c) H1
theorem pw_and1 (ha : PT X a tA) : PW X (.BoolOp .And [a] pos) tA := by
  intro wh pins s σ H Q I h
  refine isTrue_and (thn (ha pins s σ H Q I h) fun c s1 e => ?_)
  cases c with
  | true => exact isTrue_and_nil e
  | false => exact e
theorem pw_or1 (ha : PT X a tA) : PW X (.BoolOp .Or [a] pos) tA := by
  intro wh pins s σ H Q I h
  refine isTrue_or (thn (ha pins s σ H Q I h) fun c s1 e => ?_)
  cases c with
  | false => exact isTrue_or_nil e
  | true => exact e
theorem pw_and (ha : PT X a tA) (hb : PW X (.BoolOp .And (b :: rest) pos) tB') : PW X (.BoolOp .And (a :: b :: rest) pos) (tAnd tA tB') := by
  intro wh pins s σ H Q I h
  refine isTrue_and (thn (ha pins s σ H _ I h) fun c s1 ⟨H1, I1, q1⟩ => ?_)
  cases c with
  | true => exact hb wh pins s1 σ H1 Q I1 q1
  | false => exact ⟨H1, I1, q1⟩
theorem pw_or (ha : PT X a tA) (hb : PW X (.BoolOp .Or (b :: rest) pos) tB') : PW X (.BoolOp .Or (a :: b :: rest) pos) (tOr tA tB') := by
  intro wh pins s σ H Q I h
  refine isTrue_or (thn (ha pins s σ H _ I h) fun c s1 ⟨H1, I1, q1⟩ => ?_)
  cases c with
  | true => exact ⟨H1, I1, q1⟩
  | false => exact hb wh pins s1 σ H1 Q I1 q1
theorem pt_not (ha : PT X a tA) : PT X (.UnaryOp .Not a pos) (tNot tA) := by
  intro pins s σ H Q I h
  exact isTrue_not (ha pins s σ H (fun c H1 => Q (!c) H1) I h)
def tAndV (ta tb : TE) : TE := fun σ H Q => ta σ H fun x H1 => ∃ c, x = .bl c ∧ if c = true then tb σ H1 Q else Q (.bl false) H1
theorem pe_one {op} {t : TE} (h : PE X a t) : PE X (.BoolOp op [a] pos) t := fun pins s σ H Q I hw => BoolOp_one (h pins s σ H Q I hw)
theorem pe_and (ha : PE X a ta) (hb : PE X (.BoolOp .And (b :: rest) pos) tb) : PE X (.BoolOp .And (a :: b :: rest) pos) (tAndV ta tb) := by
  intro pins s σ H Q I h
  refine BoolOp_and (thn (ha pins s σ H _ I h) fun v s1 ⟨x, H1, I1, r1, q1⟩ => ?_)
  obtain ⟨c, rfl, q1⟩ := q1
  cases r1
  refine wpAny_truthy_bool ?_
  cases c with
  | true => exact hb pins s1 σ H1 Q I1 q1
  | false => exact ⟨.bl false, H1, I1, rfl, q1⟩
def tIf (t : TT) (ta tb : TE) : TE := fun σ H Q => t σ H fun c H1 => if c = true then ta σ H1 Q else tb σ H1 Q
theorem pe_ifExp {c : Expr} (hc : PT X c tA) (ha : PE X a ta) (hb : PE X b tb) : PE X (.IfExp c a b pos) (tIf tA ta tb) := by
  intro pins s σ H Q I h
  refine wpAny_IfExp (thn (hc pins s σ H _ I h) fun d s1 ⟨H1, I1, q1⟩ => ?_)
  cases d with
  | true => exact ha pins s1 σ H1 Q I1 q1
  | false => exact hb pins s1 σ H1 Q I1 q1
end
end L2
namespace L2
open PySem PySem.Spec PyProof.Rows
def SqL (K : PySem.W.Frag) (H : Hp) (a : Addr) (xs : List V) : Prop :=
  Rd H a (.lst xs) ∨
    ∃ (o : Obj) (its : Array Value) (n : Nat), K.lookup a = some o ∧ o.cls = .type "list" ∧ o.dict = none ∧ o.data = .seq its n ∧ its.size ≤ sizeLine ∧ Vals xs its.toList
def SqT (K : PySem.W.Frag) (H : Hp) (a : Addr) (xs : List V) : Prop :=
  Rd H a (.tup xs) ∨
    ∃ (o : Obj) (its : Array Value) (n : Nat), K.lookup a = some o ∧ o.cls = .type "tuple" ∧ o.data = .seq its n ∧ its.size ≤ sizeLine ∧ Vals xs its.toList
def absV : Value → Option V
  | .none => some .non
  | .bool b => some (.bl b)
  | .int i _ => some (.int i)
  | .str x _ => some (.str x)
  | .bytes b _ => some (.byt b)
  | .float b _ => some (.flt b)
  | .ref a => some (.ref a)
  | .type n => some (.ty n)
  | _ => none
theorem RelV.abs {x : V} {u : Value} (r : RelV x u) : absV u = some x := by
  cases x with
  | non => cases r; rfl
  | bl _ => cases r; rfl
  | int _ => obtain ⟨t, rfl⟩ := r; rfl
  | str _ => obtain ⟨t, rfl⟩ := r; rfl
  | byt _ => obtain ⟨t, rfl⟩ := r; rfl
  | flt _ => obtain ⟨t, rfl⟩ := r; rfl
  | ref _ => cases r; rfl
  | ty _ => cases r; rfl
theorem RelV.inj {x y : V} {u : Value} (r : RelV x u) (q : RelV y u) : x = y := Option.some.inj (r.abs.symm.trans q.abs)
theorem Vals.inj : ∀ {xs ys : List V} {us : List Value}, Vals xs us → Vals ys us → xs = ys
  | _, _, _, .nil, .nil => rfl
  | _, _, _, .cons r t, .cons r' t' => by rw [r.inj r', Vals.inj t t']
section
variable {X : Cx} {pins : List (Addr × Obj)} {σ : St} {H : Hp} {s : Shared} {a : Addr} {xs ys : List V}
theorem SqL.of {K : PySem.W.Frag} (h : H a = some (.lst xs)) : SqL K H a xs := .inl (.inl h)
theorem SqT.of {K : PySem.W.Frag} (h : H a = some (.tup xs)) : SqT K H a xs := .inl (.inl h)
theorem Inv.list (I : Inv X pins σ H s) (h : SqL X.K H a xs) : ∃ its : List Value, Vals xs its ∧ PlainL s.heap a its.toArray ∧ xs.length ≤ sizeLine := by
  rcases h with h | ⟨o, its, n, hk, hc, hd, hs, hz, r⟩
  · obtain ⟨z, its, n, r, e⟩ := h.ok I.hok
    exact ⟨its, r, ⟨_, n, e, rfl, rfl, rfl⟩, z⟩
  · refine ⟨its.toList, r, ⟨o, n, I.kIn a o hk, hc, hd, by simpa using hs⟩, ?_⟩
    have e := r.length
    simp only [Array.length_toList] at e
    omega
theorem Inv.tuple (I : Inv X pins σ H s) (h : SqT X.K H a xs) : ∃ its : List Value, Vals xs its ∧ IsTup s.heap a its.toArray ∧ xs.length ≤ sizeLine := by
  rcases h with h | ⟨o, its, n, hk, hc, hs, hz, r⟩
  · obtain ⟨z, its, r, p⟩ := h.ok I.hok
    exact ⟨its, r, p, z⟩
  · refine ⟨its.toList, r, ⟨o, I.kIn a o hk, hc, n, by simpa using hs⟩, ?_⟩
    have e := r.length
    simp only [Array.length_toList] at e
    omega
theorem Inv.list_inj (I : Inv X pins σ H s) (h : SqL X.K H a xs) (h' : SqL X.K H a ys) : xs = ys := by
  obtain ⟨its, r, ⟨o, n, e, _, _, d⟩, _⟩ := I.list h
  obtain ⟨its', r', ⟨o', n', e', _, _, d'⟩, _⟩ := I.list h'
  rw [e] at e'; cases e'
  rw [d] at d'
  injection d' with d1 _
  have : its = its' := by simpa using congrArg Array.toList d1
  subst this
  exact r.inj r'
theorem Inv.tuple_inj (I : Inv X pins σ H s) (h : SqT X.K H a xs) (h' : SqT X.K H a ys) : xs = ys := by
  obtain ⟨its, r, ⟨o, e, _, n, d⟩, _⟩ := I.tuple h
  obtain ⟨its', r', ⟨o', e', _, n', d'⟩, _⟩ := I.tuple h'
  rw [e] at e'; cases e'
  rw [d] at d'
  injection d' with d1 _
  have : its = its' := by simpa using congrArg Array.toList d1
  subst this
  exact r.inj r'
end
abbrev Cx.wish (X : Cx) (E : Value → Shared → Prop) : Cx := { X with xe := E }
abbrev Cx.nox (X : Cx) : Cx := X.wish fun _ _ => False
theorem Cx.Ok.wish {X : Cx} (ok : X.Ok) (E : Value → Shared → Prop) : (X.wish E).Ok :=
  ⟨ok.mod, ok.kind, ok.glob, ok.blt, ok.above, ok.inj, ok.has, ok.cab, ok.hd, ok.frames, ok.stk, ok.exf, ok.bs, ok.bsz, ok.noex, ok.exfs, ok.funs, ok.frf⟩
theorem Cx.Ok.unwish {X : Cx} {E : Value → Shared → Prop} (ok : (X.wish E).Ok) : X.Ok :=
  ⟨ok.mod, ok.kind, ok.glob, ok.blt, ok.above, ok.inj, ok.has, ok.cab, ok.hd, ok.frames, ok.stk, ok.exf, ok.bs, ok.bsz, ok.noex, ok.exfs, ok.funs, ok.frf⟩
section
variable {X : Cx} {pins : List (Addr × Obj)} {σ : St} {H : Hp} {s : Shared} {E : Value → Shared → Prop}
theorem Inv.wish (I : Inv X pins σ H s) (E : Value → Shared → Prop) : Inv (X.wish E) pins σ H s := ⟨I.ok.wish E, I.os, I.bare, I.base, I.loc, I.cell, I.free, I.freeC, I.pin, I.hok, I.len⟩
theorem Inv.unwish (I : Inv (X.wish E) pins σ H s) : Inv X pins σ H s := ⟨I.ok.unwish, I.os, I.bare, I.base, I.loc, I.cell, I.free, I.freeC, I.pin, I.hok, I.len⟩
theorem SP.unwish {D : Ends} {f : Flow} {s' : Shared} (h : SP (X.wish E) pins D f s') : SP X pins D f s' := by
  cases f with
  | next => obtain ⟨σ', H', I, q⟩ := h; exact ⟨σ', H', I.unwish, q⟩
  | brk => obtain ⟨σ', H', I, q⟩ := h; exact ⟨σ', H', I.unwish, q⟩
  | cont => obtain ⟨σ', H', I, q⟩ := h; exact ⟨σ', H', I.unwish, q⟩
  | ret u => obtain ⟨v, σ', H', I, r, q⟩ := h; exact ⟨v, σ', H', I.unwish, r, q⟩
theorem PSs.nox {st : List Stmt} {t : TS} (h : PSs X.nox st t) : PSs X st t := fun pins s σ H D I hw =>
  wpAny_mono (h pins s σ H D (I.wish _) hw) (fun _ _ q => q.unwish) fun _ _ z => False.elim z
end
section
variable {X : Cx} {st : Stmt} {rest : List Stmt} {t u : TS} {e : Expr} {te : TE} {pos : Pos}
def tNext : TS := fun D σ H => D.nx σ H
def tSeq (t u : TS) : TS := fun D σ H => t { D with nx := u D } σ H
theorem pss_nil : PSs X [] tNext := fun _ _ σ H _ I h => wpAny_execs_nil ⟨σ, H, I, h⟩
theorem pss_cons (h1 : PS X st t) (h2 : PSs X rest u) : PSs X (st :: rest) (tSeq t u) := by
  intro pins s σ H D I h
  refine wpAny_execs_cons (thn (h1 pins s σ H { D with nx := u D } I h) fun f s1 q => ?_)
  cases f with
  | next =>
    obtain ⟨σ', H', I', q⟩ := q
    exact h2 pins s1 σ' H' D I' q
  | ret v => exact q
  | brk => exact q
  | cont => exact q
theorem pss_one (h1 : PS X st t) : PSs X [st] t := by
  intro pins s σ H D I h
  refine wpAny_execs_cons (thn (h1 pins s σ H D I h) fun f s1 q => ?_)
  cases f with
  | next => exact wpAny_execs_nil q
  | ret v => exact q
  | brk => exact q
  | cont => exact q
theorem Inv.quiet {pins : List (Addr × Obj)} {σ : St} {H : Hp} {s : Shared} (I : Inv X pins σ H s) : interactive X.env = false := by simp [interactive, I.ok.kind]
def tDrop (te : TE) : TS := fun D σ H => te σ H fun _ H1 => D.nx σ H1
theorem ps_expr (he : PE X e te) (hs : swapsWith e none pos.line X.env = pure false := by rfl) : PS X (.Expr e pos) (tDrop te) := by
  intro pins s σ H D I h
  exact wpAny_Expr_any (thn (he pins s σ H _ I h) fun v s1 ⟨x, H1, I1, r1, q1⟩ => ⟨σ, H1, I1, q1⟩) I.quiet hs
def tRet (te : TE) : TS := fun D σ H => te σ H D.rt
theorem ps_ret (he : PE X e te) : PS X (.Return (some e) pos) (tRet te) := by
  intro pins s σ H D I h
  exact wpAny_Return_some (thn (he pins s σ H _ I h) fun v s1 ⟨x, H1, I1, r1, q1⟩ => ⟨x, σ, H1, I1, r1, q1⟩)
def tIfS (c : TT) (t u : TS) : TS := fun D σ H => c σ H fun b H1 => if b = true then t D σ H1 else u D σ H1
theorem ps_if {c : Expr} {a b : List Stmt} {tc : TT} (hc : PT X c tc) (ha : PSs X a t) (hb : PSs X b u) : PS X (.If c a b pos) (tIfS tc t u) := by
  intro pins s σ H D I h
  refine wpAny_If (thn (hc pins s σ H _ I h) fun d s1 ⟨H1, I1, q1⟩ => ?_)
  cases d with
  | true => exact ha pins s1 σ H1 D I1 q1
  | false => exact hb pins s1 σ H1 D I1 q1
end
abbrev TG := V → St → Hp → (St → Hp → Prop) → Prop
abbrev TGs := List V → St → Hp → (St → Hp → Prop) → Prop
def PG (X : Cx) (target : Expr) (t : TG) : Prop :=
  ∀ (pins : List (Addr × Obj)) (s : Shared) (σ : St) (H : Hp) (v : V) (u : Value) (Q : St → Hp → Prop), Inv X pins σ H s → RelV v u → t v σ H Q →
    wpAny (model X.prog X.w) X.A (assign target X.env u) (fun _ s' => ∃ σ' H', Inv X pins σ' H' s' ∧ Q σ' H') X.xe s
def PGs (X : Cx) (ts : List Expr) (t : TGs) : Prop :=
  ∀ (pins : List (Addr × Obj)) (s : Shared) (σ : St) (H : Hp) (vs : List V) (us : List Value) (Q : St → Hp → Prop), Inv X pins σ H s → Vals vs us → t vs σ H Q →
    wpAny (model X.prog X.w) X.A (assignInOrder ((assignEach ts X.env).map (·.2)) us) (fun _ s' => ∃ σ' H', Inv X pins σ' H' s' ∧ Q σ' H') X.xe s
section
variable {X : Cx} {pos : Pos}
def gName (i : Nat) : TG := fun v σ H Q => Q (σ.set i (some v)) H
theorem pg_name {i : Nat} {x : Str} (hN : X.N.Nodup) (hi : X.N[i]? = some x) (hx : Loc X.env.scope x) (hf : X.fn x = true ∨ X.env.scope.names.lookup x = some .local := by first | exact .inl rfl | exact .inr rfl | assumption) : PG X (.Name x pos) (gName i) := by
  intro pins s σ H v u Q I r h
  exact wpAny_assign_Name (store_ok I hN hi hx r (fun s' I' => ⟨_, H, I', h⟩) hf)
def gNil : TGs := fun vs σ H Q => vs = [] ∧ Q σ H
def gCons (t : TG) (u : TGs) : TGs := fun vs σ H Q => ∃ v r, vs = v :: r ∧ t v σ H fun σ' H' => u r σ' H' Q
theorem pgs_nil : PGs X [] gNil := by
  intro pins s σ H vs us Q I r h
  obtain ⟨e, h⟩ := h
  subst e
  cases r
  exact assignInOrder_nil ⟨σ, H, I, h⟩
theorem pgs_cons {e : Expr} {es : List Expr} {t : TG} {u : TGs} (h1 : PG X e t) (h2 : PGs X es u)
    (hs : (assignEach (e :: es) X.env).map (·.2) = assign e X.env :: (assignEach es X.env).map (·.2) := by rfl) : PGs X (e :: es) (gCons t u) := by
  intro pins s σ H vs us Q I r h
  obtain ⟨v, vr, e1, h⟩ := h
  subst e1
  cases r with
  | cons r rr =>
    rw [hs]
    refine assignInOrder_cons (thn (h1 pins s σ H _ _ _ I r h) fun _ s1 ⟨σ1, H1, I1, q1⟩ => ?_)
    exact h2 pins s1 σ1 H1 _ _ Q I1 rr q1
def gTup (K : PySem.W.Frag) (n : Nat) (t : TGs) : TG := fun v σ H Q => ∃ a xs, v = .ref a ∧ SqT K H a xs ∧ xs.length = n ∧ t xs σ H Q
theorem pg_tup {es : List Expr} {k : Nat} {t : TGs} {n : Nat} (hc : X.calm = true) (h : PGs X es t)
    (hn : (assignEach es X.env).length = n := by rfl) (hst : (assignEach es X.env).findIdx? (·.1) = none := by rfl) : PG X (.Tuple es k pos) (gTup X.K n t) := by
  intro pins s σ H v u Q I r hw
  obtain ⟨a, xs, e1, hq, hl, hw⟩ := hw
  subst e1
  cases r
  obtain ⟨its, rv, ht, hz⟩ := I.tuple hq
  refine assign_Tuple_tuple (I.ok.hd hc) ht (by simp [hn, ← hl, rv.length]) hst fun h' hx => ?_
  have I1 : Inv X pins σ H { s with heap := h' } := I.kept (t' := s.toks) fun b o e => hx b o (Nat.ne_of_lt (Heap.lt_size e)) e
  exact h pins _ σ H xs _ Q I1 (by simpa using rv) hw
def tAsg (te : TE) (g : TG) : TS := fun D σ H => te σ H fun x H1 => g x σ H1 D.nx
theorem ps_set {i : Nat} {x : Str} {e : Expr} {te : TE} {pos' : Pos} (hN : X.N.Nodup) (hi : X.N[i]? = some x) (hx : Loc X.env.scope x) (he : PE X e te) (hs : swapsWith e (some (.Name x pos')) pos.line X.env = pure false := by rfl) (hf : X.fn x = true ∨ X.env.scope.names.lookup x = some .local := by first | exact .inl rfl | exact .inr rfl | assumption) :
    PS X (.Assign [.Name x pos'] e pos) (tAsg te (gName i)) := by
  intro pins s σ H D I h
  refine wpAny_Assign_Name (thn (he pins s σ H _ I h) fun v s1 ⟨y, H1, I1, r1, q1⟩ => ?_) hs
  exact store_ok I1 hN hi hx r1 (fun s2 I2 => ⟨_, H1, I2, q1⟩) hf
end
section
variable {X : Cx} {pos : Pos}
def tWhile (c : TT) (tb : TS) : TS := fun D σ H => ∃ W : Nat → St → Hp → Prop, (∃ m, W m σ H) ∧ ∀ m σ H, W m σ H →
  c σ H fun b H1 => if b = true then ∃ N : St → Hp → Prop, (∀ σ' H', N σ' H' → ∃ m', m' < m ∧ W m' σ' H') ∧ tb { D with nx := N, ct := N, bk := D.nx } σ H1 else D.nx σ H1
theorem ps_while {c : Expr} {body : List Stmt} {tc : TT} {tb : TS} (hp : PassesOwn (model X.prog X.w) X.A X.env X.xe) (hc : PT X c tc) (hb : PSs X body tb) : PS X (.While c body [] pos) (tWhile tc tb) := by
  intro pins s σ H D I h
  obtain ⟨W, ⟨m0, w0⟩, turn⟩ := h
  refine wpAny_While (codeAny_whileLoop (fun n s' => ∃ σ' H', Inv X pins σ' H' s' ∧ W n σ' H') ?_ m0 ⟨σ, H, I, w0⟩)
  rintro n s1 ⟨σ1, H1, I1, w1⟩
  refine wpAny_passesOwn hp (thn (hc pins s1 σ1 H1 _ I1 (turn n σ1 H1 w1)) fun b s2 ⟨H2, I2, q2⟩ => ?_)
  cases b with
  | true =>
    obtain ⟨N, hN, q2⟩ := q2
    rw [if_pos rfl]
    refine wpAny_passesOwn hp (thn (hb pins s2 σ1 H2 _ I2 q2) fun f s3 q3 => ?_)
    cases f with
    | next =>
      obtain ⟨σ3, H3, I3, n3⟩ := q3
      obtain ⟨m', hm, w3⟩ := hN σ3 H3 n3
      exact ⟨m', hm, σ3, H3, I3, w3⟩
    | cont =>
      obtain ⟨σ3, H3, I3, n3⟩ := q3
      obtain ⟨m', hm, w3⟩ := hN σ3 H3 n3
      exact ⟨m', hm, σ3, H3, I3, w3⟩
    | brk => exact q3
    | ret v => exact q3
  | false =>
    rw [if_neg Bool.false_ne_true]
    exact wpAny_execs_nil ⟨σ1, H2, I2, q2⟩
end
structure It where
  go : Nat → Hp → Prop
  yld : Nat → Hp → V → Hp → Prop
  stop : Nat → Hp → Prop
def FpOk (X : Cx) (pins : List (Addr × Obj)) (H : Hp) (b : Addr) : Prop :=
  H b = none ∧ b ≠ X.env.locals ∧ b ∉ X.fs ∧ (b ∈ X.ex ∨ X.s_0.heap.objs.size ≤ b) ∧ (∀ x c, X.env.cells.lookup x = some c → c ≠ b) ∧ ∀ p ∈ X.pn ++ pins, p.1 ≠ b
theorem Inv.fpOk {X : Cx} {pins : List (Addr × Obj)} {σ : St} {H H' : Hp} {s : Shared} {b : Addr} (I : Inv X pins σ H s) (hb : s.heap.objs.size ≤ b) (hn : H' b = none) : FpOk X pins H' b := by
  refine ⟨hn, Nat.ne_of_gt (Nat.lt_of_lt_of_le I.lt hb), I.nofs hb, .inr (Nat.le_trans I.sz hb), fun x c e z => ?_, fun p hp z => ?_⟩
  · obtain ⟨v, q⟩ := I.cell x c e
    exact absurd (Nat.lt_of_lt_of_le q.lt (by rw [z]; exact hb)) (Nat.lt_irrefl _)
  · exact absurd (Nat.lt_of_lt_of_le (Heap.lt_size (I.pin p hp).1) (by rw [z]; exact hb)) (Nat.lt_irrefl _)
structure Turn (P : Program) (w : World) (K : PySem.W.Frag) (tg : Expr) (J : It) (fp : List Addr) (it : Addr) (tn : Nat → Heap → Prop) : Prop where
  mem : it ∈ fp
  obj : ∀ i h, tn i h → ∀ b ∈ fp, ∃ o, h.get? b = some o ∧ ∀ v, o.data ≠ .cell v
  keep : ∀ i h h', tn i h → (∀ b ∈ fp, ∀ o, h.get? b = some o → h'.get? b = some o) → tn i h'
  item : ∀ (X : Cx), X.prog = P → X.w = w → X.K = K → X.calm = true → ∀ (i : Nat) (pins : List (Addr × Obj)) (s : Shared) (σ : St) (H : Hp) (E : Value → Shared → Prop), Inv X pins σ H s → (∀ b ∈ fp, FpOk X pins H b) → tn i s.heap → J.go i H →
    wpAny (model P w) X.A (pyNext (.ref it)) (fun r s1 => ∃ u, r = some u ∧
      wpAny (model P w) X.A (letOwnedTupleGo tg (.ref it) u) (fun _ s2 => ∃ x H', Inv X pins σ H' s2 ∧ RelV x u ∧ J.yld i H x H' ∧ tn (i + 1) s2.heap ∧ ∀ b ∈ fp, H' b = none) E s1) E s
  done : ∀ (X : Cx), X.prog = P → X.w = w → X.K = K → X.calm = true → ∀ (i : Nat) (pins : List (Addr × Obj)) (s : Shared) (σ : St) (H : Hp) (E : Value → Shared → Prop), Inv X pins σ H s → (∀ b ∈ fp, FpOk X pins H b) → tn i s.heap → J.stop i H →
    wpAny (model P w) X.A (pyNext (.ref it)) (fun r s1 => r = none ∧ Inv X pins σ H s1) E s
  self : ∀ (A : Around) (i : Nat) (s : Shared) (Q : Value → Shared → Prop) (E : Value → Shared → Prop), tn i s.heap → Q (.ref it) s → wpAny (model P w) A (pyIter (.ref it)) Q E s
abbrev TI := St → Hp → (It → Hp → Prop) → Prop
def PIE (X : Cx) (pins : List (Addr × Obj)) (σ : St) (tg : Expr) (R : It → Hp → Prop) (itv : Value) (s2 : Shared) : Prop :=
  ∃ (it : Addr) (fp : List Addr) (tn : Nat → Heap → Prop) (J : It) (H' : Hp), itv = .ref it ∧ Inv X pins σ H' s2 ∧ Turn X.prog X.w X.K tg J fp it tn ∧ tn 0 s2.heap ∧ (∀ b ∈ fp, FpOk X pins H' b) ∧ R J H'
def PI (X : Cx) (tg iter : Expr) (wi : TI) : Prop :=
  ∀ (pins : List (Addr × Obj)) (s : Shared) (σ : St) (H : Hp) (R : It → Hp → Prop), Inv X pins σ H s → wi σ H R →
    wpAny (model X.prog X.w) X.A (eval iter X.env) (fun v s1 => wpAny (model X.prog X.w) X.A (pyIter v) (PIE X pins σ tg R) X.xe s1) X.xe s
theorem go_of {M : Model} {A : Around} {E : Value → Shared → Prop} {s : Shared} {tg : Expr} {it : Addr} {u : Value} {o : Obj} {n : String} {vs : Array Value} {Q : Unit → Shared → Prop} (ho : s.heap.get? it = some o) (hc : o.cls = .type n) (hd : o.data = .fields vs)
    (hn : ["enumerate", "zip", "dict_itemiterator", "dict_reverseitemiterator", "odict_iterator", "itertools.zip_longest", "itertools.pairwise"].contains n = false) (hQ : Q () s) : wpAny M A (letOwnedTupleGo tg (.ref it) u) Q E s := by
  unfold letOwnedTupleGo
  cases tg <;> first
    | exact wpAny_pure hQ
    | (cases u <;> first
        | exact wpAny_pure hQ
        | (refine wpAny_bind (wpAny_load ho ?_)
           rw [hc, hd]
           show wpAny M A (if (["enumerate", "zip", "dict_itemiterator", "dict_reverseitemiterator", "odict_iterator", "itertools.zip_longest", "itertools.pairwise"].contains n && vs[0]? == some (rawInt _)) = true then _ else _) Q E s
           rw [if_neg (by intro h; rw [hn, Bool.false_and] at h; cases h)]
           exact wpAny_pure hQ))
def Itl (K : PySem.W.Frag) (a : Addr) : It :=
  ⟨fun i H => ∃ xs x, SqL K H a xs ∧ xs[i]? = some x, fun i H x H' => H' = H ∧ ∀ xs, SqL K H a xs → xs[i]? = some x, fun i H => ∃ xs, SqL K H a xs ∧ xs.length ≤ i⟩
def Itt (K : PySem.W.Frag) (a : Addr) : It :=
  ⟨fun i H => ∃ xs x, SqT K H a xs ∧ xs[i]? = some x, fun i H x H' => H' = H ∧ ∀ xs, SqT K H a xs → xs[i]? = some x, fun i H => ∃ xs, SqT K H a xs ∧ xs.length ≤ i⟩
def Itr (lo : Int) (n : Nat) : It := ⟨fun i _ => i < n, fun i H x H' => H' = H ∧ x = .int (lo + i), fun i _ => n ≤ i⟩
theorem turn_list {P : Program} {w : World} {K : PySem.W.Frag} {tg : Expr} (a it : Addr) : Turn P w K tg (Itl K a) [it] it (fun i h => h.IsListIter it a i) where
  mem := by simp
  obj := fun i h st b hb => by
    have e : b = it := by simpa using hb
    subst e
    obtain ⟨o, e, c, d⟩ := st
    exact ⟨o, e, fun v z => by rw [d] at z; cases z⟩
  keep := fun i h h' st k => st.at fun o e => k it (by simp) o e
  item := by
    intro X hP hw hK hc i pins s σ H E I hf st hg
    subst hP hw hK
    obtain ⟨xs, x, hq, hx⟩ := hg
    obtain ⟨its, rv, p, hz⟩ := I.list hq
    obtain ⟨u, hu, ru⟩ := rv.get hx
    obtain ⟨f0, f1, f2, f3, f4, f5⟩ := hf it (by simp)
    refine wpAny_pyNext_list_item st p.isList (x := u) (by simpa using hu) fun h' st' sb => ?_
    have I1 : Inv X pins σ H { s with heap := h' } := I.turned (t' := s.toks) (fun b o hb e => (sb.2 b hb).trans e) f0 f1 f3 f4 f5
    obtain ⟨o, e, c, d⟩ := id st'
    exact ⟨u, rfl, go_of (s := { s with heap := h' }) e c d (by decide) ⟨x, H, I1, ru, ⟨rfl, fun ys hy => by rw [I.list_inj hy hq]; exact hx⟩, st', fun b hb => (hf b hb).1⟩⟩
  done := by
    intro X hP hw hK hc i pins s σ H E I hf st hg
    subst hP hw hK
    obtain ⟨xs, hq, hx⟩ := hg
    obtain ⟨its, rv, p, hz⟩ := I.list hq
    obtain ⟨f0, f1, f2, f3, f4, f5⟩ := hf it (by simp)
    have hl := rv.length
    exact wpAny_pyNext_list_end (I.ok.hd hc) st p.isList (by simp; omega) fun h' eb => ⟨rfl, I.turned (t' := s.toks) (fun b o hb e => eb b o hb e) f0 f1 f3 f4 f5⟩
  self := fun _ _ _ _ _ st h => wpAny_pyIter_listiter st h
theorem turn_tuple {P : Program} {w : World} {K : PySem.W.Frag} {tg : Expr} (a it : Addr) : Turn P w K tg (Itt K a) [it] it (fun i h => h.IsTupleIter it a i) where
  mem := by simp
  obj := fun i h st b hb => by
    have e : b = it := by simpa using hb
    subst e
    obtain ⟨o, e, c, d⟩ := st
    exact ⟨o, e, fun v z => by rw [d] at z; cases z⟩
  keep := fun i h h' st k => st.at fun o e => k it (by simp) o e
  item := by
    intro X hP hw hK hc i pins s σ H E I hf st hg
    subst hP hw hK
    obtain ⟨xs, x, hq, hx⟩ := hg
    obtain ⟨its, rv, p, hz⟩ := I.tuple hq
    obtain ⟨u, hu, ru⟩ := rv.get hx
    obtain ⟨f0, f1, f2, f3, f4, f5⟩ := hf it (by simp)
    refine wpAny_pyNext_tuple_item st (show s.heap.IsTuple a its.toArray from p) (x := u) (by simpa using hu) fun h' st' sb => ?_
    have I1 : Inv X pins σ H { s with heap := h' } := I.turned (t' := s.toks) (fun b o hb e => (sb.2 b hb).trans e) f0 f1 f3 f4 f5
    obtain ⟨o, e, c, d⟩ := id st'
    exact ⟨u, rfl, go_of (s := { s with heap := h' }) e c d (by decide) ⟨x, H, I1, ru, ⟨rfl, fun ys hy => by rw [I.tuple_inj hy hq]; exact hx⟩, st', fun b hb => (hf b hb).1⟩⟩
  done := by
    intro X hP hw hK hc i pins s σ H E I hf st hg
    subst hP hw hK
    obtain ⟨xs, hq, hx⟩ := hg
    obtain ⟨its, rv, p, hz⟩ := I.tuple hq
    obtain ⟨f0, f1, f2, f3, f4, f5⟩ := hf it (by simp)
    have hl := rv.length
    exact wpAny_pyNext_tuple_end (I.ok.hd hc) st (show s.heap.IsTuple a its.toArray from p) (by simp; omega) fun h' eb => ⟨rfl, I.turned (t' := s.toks) (fun b o hb e => eb b o hb e) f0 f1 f3 f4 f5⟩
  self := fun _ _ _ _ _ st h => wpAny_pyIter_tupleiter st h
theorem turn_range {P : Program} {w : World} {K : PySem.W.Frag} {tg : Expr} (it : Addr) (lo : Int) (n : Nat) : Turn P w K tg (Itr lo n) [it] it (fun i h => IsRangeIter h it (lo + (i : Nat) * 1) ((n : Int) - (i : Nat)) 1) where
  mem := by simp
  obj := fun i h st b hb => by
    have e : b = it := by simpa using hb
    subst e
    exact ⟨_, st, fun v z => by
      have z' : Data.fields _ = Data.cell v := z
      cases z'⟩
  keep := fun i h h' st k => k it (by simp) _ st
  item := by
    intro X hP hw hK hc i pins s σ H E I hf st hg
    subst hP hw hK
    obtain ⟨f0, f1, f2, f3, f4, f5⟩ := hf it (by simp)
    have W := Walks.range (prog := X.prog) (w := X.w) (I.ok.hd hc) it lo 1 n
    refine W.item i s _ _ hg st fun v h' tk hv st' kk => ?_
    obtain ⟨t, rfl⟩ := hv
    have I1 : Inv X pins σ H { s with heap := h', toks := tk } := I.turned (fun b o hb e => kk b o (by simpa using hb) e) f0 f1 f3 f4 f5
    refine ⟨_, rfl, go_of (s := { s with heap := h', toks := tk }) (n := "range_iterator") st' rfl rfl (by decide) ⟨.int (lo + i), H, I1, ⟨t, ?_⟩, ⟨rfl, rfl⟩, st', fun b hb => (hf b hb).1⟩⟩
    rw [Int.mul_one]
  done := by
    intro X hP hw hK hc i pins s σ H E I hf st hg
    subst hP hw hK
    obtain ⟨f0, f1, f2, f3, f4, f5⟩ := hf it (by simp)
    exact wpAny_pyNext_range_end (I.ok.hd hc) st (by have : n ≤ i := hg; omega) fun h' eb => ⟨rfl, I.turned (t' := s.toks) (fun b o hb e => eb b o hb e) f0 f1 f3 f4 f5⟩
  self := fun _ _ _ _ _ st h => wpAny_pyIter_rangeiter st h
end L2
namespace L2
open PySem PySem.Spec PyProof.Rows
section
variable {X : Cx} {tg : Expr}
def iList (K : PySem.W.Frag) (tl : TE) : TI := fun σ H R => tl σ H fun x H1 => ∃ a, x = .ref a ∧ (∃ xs, SqL K H1 a xs) ∧ R (Itl K a) H1
theorem pi_list {l : Expr} {tl : TE} (hl : PE X l tl) : PI X tg l (iList X.K tl) := by
  intro pins s σ H R I h
  refine thn (hl pins s σ H _ I h) fun v s1 ⟨x, H1, I1, r1, q1⟩ => ?_
  obtain ⟨a, e, ⟨xs, hq⟩, q⟩ := q1
  subst e
  cases r1
  obtain ⟨its, rv, p, hz⟩ := I1.list hq
  refine wpAny_pyIter_list p.isList ?_
  refine ⟨s1.heap.objs.size, [s1.heap.objs.size], _, _, H1, rfl, I1.kept (t' := s1.toks) fun b o e => Heap.get?_push_of_some _ e, turn_list a _, ⟨_, Heap.get?_push_size _ rfl, rfl, rfl⟩, fun b hb => ?_, q⟩
  have e : b = s1.heap.objs.size := by simpa using hb
  subst e
  exact I1.fpOk (Nat.le_refl _) (I1.hok.fresh (Nat.le_refl _))
theorem range_it {pins : List (Addr × Obj)} {σ : St} {H : Hp} {s : Shared} {R : It → Hp → Prop} {E : Value → Shared → Prop} {lo hi : Int} {t u v : Tok} {tk : Nat} (I : Inv X pins σ H s) (h1 : -(2 ^ 62) ≤ lo) (h2 : lo < 2 ^ 62) (h3 : -(2 ^ 62) ≤ hi) (h4 : hi < 2 ^ 62)
    (q : R (Itr lo (hi - lo).toNat) H) : wpAny (model X.prog X.w) X.A (pyIter (.ref s.heap.objs.size)) (PIE X pins σ tg R) E { s with heap := s.heap.push { cls := .type "range", data := .fields #[.int lo t, .int hi u, .int 1 v] }, toks := tk } := by
  refine wpAny_pyIter_range (IsRange.new ..) (small_one h1 h2 h3 h4) ?_
  have I1 : Inv X pins σ H { s with heap := s.heap.push { cls := .type "range", data := .fields #[.int lo t, .int hi u, .int 1 v] }, toks := tk } := I.kept fun b o e => Heap.get?_push_of_some _ e
  refine ⟨(s.heap.push { cls := .type "range", data := .fields #[.int lo t, .int hi u, .int 1 v] }).objs.size, [(s.heap.push { cls := .type "range", data := .fields #[.int lo t, .int hi u, .int 1 v] }).objs.size], _, _, H, rfl,
    I1.kept (t' := tk) fun b o e => Heap.get?_push_of_some _ e, turn_range _ lo (hi - lo).toNat, ?_, fun b hb => ?_, q⟩
  · have e1 : lo + ((0 : Nat) : Int) * 1 = lo := by simp
    have e2 : (((hi - lo).toNat : Nat) : Int) - ((0 : Nat) : Int) = Builtin.Range.rangeSize lo hi 1 := by rw [rangeSize_one]; split <;> omega
    show IsRangeIter _ _ (lo + ((0 : Nat) : Int) * 1) ((((hi - lo).toNat : Nat) : Int) - ((0 : Nat) : Int)) 1
    rw [e1, e2]
    exact Heap.get?_push_size _ rfl
  · have e : b = (s.heap.push { cls := .type "range", data := .fields #[.int lo t, .int hi u, .int 1 v] }).objs.size := by simpa using hb
    subst e
    exact I1.fpOk (Nat.le_refl _) (I1.hok.fresh (Nat.le_refl _))
def iRng1 (ta : TA) : TI := fun σ H R => ta σ H fun vs H1 => ∃ j : Int, vs = [.int j] ∧ -(2 ^ 62) ≤ j ∧ j < 2 ^ 62 ∧ R (Itr 0 j.toNat) H1
def iRng2 (ta : TA) : TI := fun σ H R => ta σ H fun vs H1 => ∃ i j : Int, vs = [.int i, .int j] ∧ (-(2 ^ 62) ≤ i ∧ i < 2 ^ 62 ∧ -(2 ^ 62) ≤ j ∧ j < 2 ^ 62) ∧ R (Itr i (j - i).toNat) H1
theorem pi_range1 {a : Expr} {ta : TA} {p pos : Pos} (hg : Gl X "range") (hm : X.mg "range" = none) (ha : PA X [a] ta) (hs : starEach [a] X.env = [(false, eval a X.env)] := by rfl) : PI X tg (.Call (.Name "range" p) [a] [] pos) (iRng1 ta) := by
  intro pins s σ H R I h
  refine Call_ (ld_blt I hg hm boot_range (PyProof.Rows.callWith_type1 (thn (ha pos pins s σ H _ I h) fun us s1 ⟨vs, H1, I1, r1, q1⟩ => ?_) hs rfl))
  obtain ⟨j, e, q1, q2, q⟩ := q1
  subst e
  cases r1 with
  | cons r rr =>
    cases rr
    obtain ⟨t, rfl⟩ := r
    exact call_range_1 (range_it I1 (by omega) (by omega) q1 q2 (by simpa using q))
theorem pi_range2 {a b : Expr} {ta : TA} {p pos : Pos} (hg : Gl X "range") (hm : X.mg "range" = none) (ha : PA X [a, b] ta) (hs : starEach [a, b] X.env = [(false, eval a X.env), (false, eval b X.env)] := by rfl) (hs2 : starEach [b] X.env = [(false, eval b X.env)] := by rfl) :
    PI X tg (.Call (.Name "range" p) [a, b] [] pos) (iRng2 ta) := by
  intro pins s σ H R I h
  refine Call_ (ld_blt I hg hm boot_range (PyProof.Rows.callWith_type1 (thn (ha pos pins s σ H _ I h) fun us s1 ⟨vs, H1, I1, r1, q1⟩ => ?_) (by rw [hs, hs2]) (by rw [hs2]; rfl)))
  obtain ⟨i, j, e, ⟨q1, q2, q3, q4⟩, q⟩ := q1
  subst e
  cases r1 with
  | cons r rr =>
    cases rr with
    | cons r' rr =>
      cases rr
      obtain ⟨t, rfl⟩ := r
      obtain ⟨t', rfl⟩ := r'
      exact call_range_2 (range_it I1 q1 q2 q3 q4 q)
def tFor (wi : TI) (g : TG) (tb : TS) : TS := fun D σ H => wi σ H fun J H1 => ∃ W : Nat → Nat → St → Hp → Prop, (∃ m, W 0 m σ H1) ∧ ∀ i m σ H, W i m σ H →
  (J.stop i H ∧ D.nx σ H) ∨ (J.go i H ∧ ∃ N : St → Hp → Prop, (∀ σ' H', N σ' H' → ∃ m', m' < m ∧ W (i + 1) m' σ' H') ∧ ∀ x H', J.yld i H x H' → g x σ H' fun σ2 H2 => tb { D with nx := N, ct := N, bk := D.nx } σ2 H2)
def pinsAt (fp : List Addr) (h : Heap) : List (Addr × Obj) := fp.filterMap fun b => (h.get? b).map fun o => (b, o)
theorem mem_pinsAt {fp : List Addr} {h : Heap} {b : Addr} {o : Obj} (hb : b ∈ fp) (e : h.get? b = some o) : (b, o) ∈ pinsAt fp h := List.mem_filterMap.mpr ⟨b, hb, by rw [e]; rfl⟩
theorem of_pinsAt {fp : List Addr} {h : Heap} {p : Addr × Obj} (hp : p ∈ pinsAt fp h) : p.1 ∈ fp ∧ h.get? p.1 = some p.2 := by
  obtain ⟨b, hb, e⟩ := List.mem_filterMap.mp hp
  cases q : h.get? b with
  | none => rw [q] at e; cases e
  | some o =>
    rw [q] at e
    have e' : (b, o) = p := Option.some.inj e
    subst e'
    exact ⟨hb, q⟩
theorem Inv.pinned {pins : List (Addr × Obj)} {σ : St} {H : Hp} {s : Shared} {fp : List Addr} (I : Inv X pins σ H s) (hf : ∀ b ∈ fp, FpOk X pins H b) (ho : ∀ b ∈ fp, ∃ o, s.heap.get? b = some o ∧ ∀ v, o.data ≠ .cell v) : Inv X (pins ++ pinsAt fp s.heap) σ H s :=
  I.pins_of fun p hp => (List.mem_append.mp hp).elim (fun z => I.pin p (List.mem_append_right _ z)) fun z => by
    obtain ⟨hb, e⟩ := of_pinsAt z
    obtain ⟨f0, f1, f2, _⟩ := hf p.1 hb
    obtain ⟨o, e', d⟩ := ho p.1 hb
    rw [e] at e'; cases e'
    exact ⟨e, f0, f1, f2, d⟩
theorem Inv.unpinned {pins pl : List (Addr × Obj)} {σ : St} {H : Hp} {s : Shared} (I : Inv X (pins ++ pl) σ H s) : Inv X pins σ H s := I.pins_of fun p hp => I.pin p (List.mem_append_right _ (List.mem_append_left _ hp))
theorem ps_for {iter : Expr} {body : List Stmt} {wi : TI} {g : TG} {tb : TS} {pos : Pos} (hp : PassesOwn (model X.prog X.w) X.A X.env X.xe) (hc : X.calm = true) (hi : PI X tg iter wi) (hg : PG X tg g) (hb : PSs X body tb)
    (hs : ∀ x, foldedSetIterable iter X.env x = pure x := by intro _; rfl) : PS X (.For tg iter body [] pos) (tFor wi g tb) := by
  intro pins s σ H D I h
  refine wpAny_For (thn (hi pins s σ H _ I h) fun v s1 h1 => thn h1 fun itv s2 h2 => ?_) hs
  obtain ⟨it, fp, tn, J, H2, e, I2, T, st2, f2, W, ⟨m0, w0⟩, turn⟩ := h2
  subst e
  -- what stays true of the iterator's objects through the loop
  have stat : ∀ {H' : Hp}, (∀ b ∈ fp, H' b = none) → ∀ b ∈ fp, FpOk X pins H' b := fun hn b hb => ⟨hn b hb, (f2 b hb).2⟩
  refine codeAny_forLoop_any (fun n s' => ∃ i σ' H', Inv X pins σ' H' s' ∧ tn i s'.heap ∧ (∀ b ∈ fp, H' b = none) ∧ W i n σ' H') ?_ m0 ⟨0, σ, H2, I2, st2, fun b hb => (f2 b hb).1, w0⟩
  rintro n s3 ⟨i, σ3, H3, I3, st3, fr3, w3⟩
  rcases turn i n σ3 H3 w3 with ⟨stop, qn⟩ | ⟨go, N, hN, step⟩
  · refine wpAny_passesOwn hp (thn (T.done X rfl rfl rfl hc i pins s3 σ3 H3 X.xe I3 (stat fr3) st3 stop) fun r s4 ⟨hr, I4⟩ => ?_)
    subst hr
    exact wpAny_execs_nil ⟨σ3, H3, I4, qn⟩
  · refine wpAny_passesOwn hp (thn (T.item X rfl rfl rfl hc i pins s3 σ3 H3 X.xe I3 (stat fr3) st3 go) fun r s4 ⟨u, hr, h4⟩ => ?_)
    subst hr
    refine wpAny_passesOwn hp (thn h4 fun _ s5 ⟨x, H5, I5, r5, y5, st5, fr5⟩ => ?_)
    have I5' := I5.pinned (stat fr5) (T.obj _ _ st5)
    refine wpAny_passesOwn hp (thn (hg _ s5 σ3 H5 x u _ I5' r5 (step x H5 y5)) fun _ s6 ⟨σ6, H6, I6, q6⟩ => ?_)
    refine wpAny_passesOwn hp (thn (hb _ s6 σ6 H6 _ I6 q6) fun f s7 q7 => ?_)
    have again : ∀ {σ7 : St} {H7 : Hp}, Inv X (pins ++ pinsAt fp s5.heap) σ7 H7 s7 → N σ7 H7 → ∃ m, m < n ∧ ∃ i σ' H', Inv X pins σ' H' s7 ∧ tn i s7.heap ∧ (∀ b ∈ fp, H' b = none) ∧ W i m σ' H' := fun {σ7 H7} I7 n7 => by
      obtain ⟨m', hm, w7⟩ := hN σ7 H7 n7
      refine ⟨m', hm, i + 1, σ7, H7, I7.unpinned, T.keep _ _ _ st5 fun b hb o e => (I7.pin (b, o) (List.mem_append_right _ (List.mem_append_right _ (mem_pinsAt hb e)))).1, fun b hb => ?_, w7⟩
      obtain ⟨o, e, d⟩ := T.obj _ _ st5 b hb
      exact (I7.pin (b, o) (List.mem_append_right _ (List.mem_append_right _ (mem_pinsAt hb e)))).2.1
    cases f with
    | next => obtain ⟨σ7, H7, I7, n7⟩ := q7; exact again I7 n7
    | cont => obtain ⟨σ7, H7, I7, n7⟩ := q7; exact again I7 n7
    | brk => obtain ⟨σ7, H7, I7, q7⟩ := q7; exact ⟨σ7, H7, I7.unpinned, q7⟩
    | ret v => obtain ⟨x7, σ7, H7, I7, r7, q7⟩ := q7; exact ⟨x7, σ7, H7, I7.unpinned, r7, q7⟩
end
theorem for_list {K : PySem.W.Frag} {a : Addr} {xs : List V} {g : TG} {tb : TS} {D : Ends} {σ : St} {H : Hp} (Pv : Nat → St → Hp → Prop) (h0 : Pv 0 σ H) (hl : ∀ i σ H, i ≤ xs.length → Pv i σ H → SqL K H a xs)
    (hs : ∀ i x σ H, xs[i]? = some x → Pv i σ H → g x σ H fun σ2 H2 => tb { D with nx := Pv (i + 1), ct := Pv (i + 1), bk := D.nx } σ2 H2) (hd : ∀ σ H, Pv xs.length σ H → D.nx σ H) :
    ∃ W : Nat → Nat → St → Hp → Prop, (∃ m, W 0 m σ H) ∧ ∀ i m σ H, W i m σ H →
      ((Itl K a).stop i H ∧ D.nx σ H) ∨ ((Itl K a).go i H ∧ ∃ N : St → Hp → Prop, (∀ σ' H', N σ' H' → ∃ m', m' < m ∧ W (i + 1) m' σ' H') ∧ ∀ x H', (Itl K a).yld i H x H' → g x σ H' fun σ2 H2 => tb { D with nx := N, ct := N, bk := D.nx } σ2 H2) := by
  refine ⟨fun i m σ H => m = xs.length - i ∧ i ≤ xs.length ∧ Pv i σ H, ⟨xs.length, by simp, Nat.zero_le _, h0⟩, ?_⟩
  rintro i m σ H ⟨rfl, hi, p⟩
  have q := hl i σ H hi p
  by_cases hlt : i < xs.length
  · refine .inr ⟨⟨xs, xs[i], q, by simp [hlt]⟩, Pv (i + 1), fun σ' H' p' => ⟨xs.length - (i + 1), by omega, rfl, hlt, p'⟩, fun x H' y => ?_⟩
    obtain ⟨e, y⟩ := y
    subst e
    exact hs i x σ _ (y xs q) p
  · have e : i = xs.length := by omega
    subst e
    exact .inl ⟨⟨xs, q, Nat.le_refl _⟩, hd σ H p⟩
theorem for_tup {K : PySem.W.Frag} {a : Addr} {xs : List V} {g : TG} {tb : TS} {D : Ends} {σ : St} {H : Hp} (Pv : Nat → St → Hp → Prop) (h0 : Pv 0 σ H) (hl : ∀ i σ H, i ≤ xs.length → Pv i σ H → SqT K H a xs)
    (hs : ∀ i x σ H, xs[i]? = some x → Pv i σ H → g x σ H fun σ2 H2 => tb { D with nx := Pv (i + 1), ct := Pv (i + 1), bk := D.nx } σ2 H2) (hd : ∀ σ H, Pv xs.length σ H → D.nx σ H) :
    ∃ W : Nat → Nat → St → Hp → Prop, (∃ m, W 0 m σ H) ∧ ∀ i m σ H, W i m σ H →
      ((Itt K a).stop i H ∧ D.nx σ H) ∨ ((Itt K a).go i H ∧ ∃ N : St → Hp → Prop, (∀ σ' H', N σ' H' → ∃ m', m' < m ∧ W (i + 1) m' σ' H') ∧ ∀ x H', (Itt K a).yld i H x H' → g x σ H' fun σ2 H2 => tb { D with nx := N, ct := N, bk := D.nx } σ2 H2) := by
  refine ⟨fun i m σ H => m = xs.length - i ∧ i ≤ xs.length ∧ Pv i σ H, ⟨xs.length, by simp, Nat.zero_le _, h0⟩, ?_⟩
  rintro i m σ H ⟨rfl, hi, p⟩
  have q := hl i σ H hi p
  by_cases hlt : i < xs.length
  · refine .inr ⟨⟨xs, xs[i], q, by simp [hlt]⟩, Pv (i + 1), fun σ' H' p' => ⟨xs.length - (i + 1), by omega, rfl, hlt, p'⟩, fun x H' y => ?_⟩
    obtain ⟨e, y⟩ := y
    subst e
    exact hs i x σ _ (y xs q) p
  · have e : i = xs.length := by omega
    subst e
    exact .inl ⟨⟨xs, q, Nat.le_refl _⟩, hd σ H p⟩
theorem for_range {lo : Int} {n : Nat} {g : TG} {tb : TS} {D : Ends} {σ : St} {H : Hp} (Pv : Nat → St → Hp → Prop) (h0 : Pv 0 σ H)
    (hs : ∀ i σ H, i < n → Pv i σ H → g (.int (lo + i)) σ H fun σ2 H2 => tb { D with nx := Pv (i + 1), ct := Pv (i + 1), bk := D.nx } σ2 H2) (hd : ∀ σ H, Pv n σ H → D.nx σ H) :
    ∃ W : Nat → Nat → St → Hp → Prop, (∃ m, W 0 m σ H) ∧ ∀ i m σ H, W i m σ H →
      ((Itr lo n).stop i H ∧ D.nx σ H) ∨ ((Itr lo n).go i H ∧ ∃ N : St → Hp → Prop, (∀ σ' H', N σ' H' → ∃ m', m' < m ∧ W (i + 1) m' σ' H') ∧ ∀ x H', (Itr lo n).yld i H x H' → g x σ H' fun σ2 H2 => tb { D with nx := N, ct := N, bk := D.nx } σ2 H2) := by
  refine ⟨fun i m σ H => m = n - i ∧ i ≤ n ∧ Pv i σ H, ⟨n, by simp, Nat.zero_le _, h0⟩, ?_⟩
  rintro i m σ H ⟨rfl, hi, p⟩
  by_cases hlt : i < n
  · refine .inr ⟨hlt, Pv (i + 1), fun σ' H' p' => ⟨n - (i + 1), by omega, rfl, hlt, p'⟩, fun x H' y => ?_⟩
    obtain ⟨e, y⟩ := y
    subst e y
    exact hs i σ _ hlt p
  · have e : i = n := by omega
    subst e
    exact .inl ⟨Nat.le_refl _, hd σ H p⟩
theorem while_by {c : TT} {tb : TS} {D : Ends} {σ : St} {H : Hp} (Pv : St → Hp → Prop) (μ : St → Hp → Nat) (h0 : Pv σ H)
    (hs : ∀ σ H, Pv σ H → c σ H fun b H1 => if b = true then tb { D with nx := fun σ' H' => Pv σ' H' ∧ μ σ' H' < μ σ H, ct := fun σ' H' => Pv σ' H' ∧ μ σ' H' < μ σ H, bk := D.nx } σ H1 else D.nx σ H1)
    (mono : ∀ σ H Q Q', (∀ b H1, Q b H1 → Q' b H1) → c σ H Q → c σ H Q') : tWhile c tb D σ H := by
  refine ⟨fun m σ H => m = μ σ H ∧ Pv σ H, ⟨_, rfl, h0⟩, ?_⟩
  rintro m σ H ⟨rfl, p⟩
  refine mono σ H _ _ (fun b H1 q => ?_) (hs σ H p)
  cases b with
  | true => exact ⟨_, fun σ' H' ⟨p', l⟩ => ⟨_, l, rfl, p'⟩, q⟩
  | false => exact q
end L2
namespace L2
open PySem PySem.Spec PyProof.Rows
abbrev R2 := V → V → Hp → VK → Prop
def OpR (X : Cx) (f : Value → Value → Sem Value) (r : R2) : Prop :=
  ∀ (pins : List (Addr × Obj)) (s : Shared) (σ : St) (H : Hp) (x y : V) (v u : Value) (Q : VK), Inv X pins σ H s → RelV x v → RelV y u → r x y H Q →
    wpAny (model X.prog X.w) X.A (f v u) (EP X pins σ Q) X.xe s
def CallR (X : Cx) (f : Value) (r : List V → Hp → VK → Prop) : Prop :=
  ∀ (pins : List (Addr × Obj)) (s : Shared) (σ : St) (H : Hp) (xs : List V) (us : List Value) (Q : VK), Inv X pins σ H s → Vals xs us → r xs H Q →
    wpAny (model X.prog X.w) X.A (call f us) (EP X pins σ Q) X.xe s
def tOp (r : R2) (ta tb : TE) : TE := fun σ H Q => ta σ H fun x H1 => tb σ H1 fun y H2 => r x y H2 Q
def rI (C : Int → Int → Prop) (g : Int → Int → V) : R2 := fun x y H Q => ∃ i j, x = .int i ∧ y = .int j ∧ C i j ∧ Q (g i j) H
def rI0 (g : Int → Int → V) : R2 := fun x y H Q => ∃ i j, x = .int i ∧ y = .int j ∧ Q (g i j) H
section
variable {X : Cx} {a b c : Expr} {ta tb tc : TE} {pos : Pos}
theorem binT (ha : PE X a ta) (hb : PE X b tb) {pins : List (Addr × Obj)} {s : Shared} {σ : St} {H : Hp} {R : V → V → Hp → Prop} (I : Inv X pins σ H s)
    (h : ta σ H fun x H1 => tb σ H1 fun y H2 => R x y H2) {Q : Value → Shared → Prop} {f : Value → Value → Sem Value}
    (hf : ∀ v u s2 x y H2, Inv X pins σ H2 s2 → RelV x v → RelV y u → R x y H2 → wpAny (model X.prog X.w) X.A (f v u) Q X.xe s2) :
    wpAny (model X.prog X.w) X.A (eval a X.env) (fun v s₁ => wpAny (model X.prog X.w) X.A (eval b X.env) (fun u s₂ => wpAny (model X.prog X.w) X.A (f v u) Q X.xe s₂) X.xe s₁) X.xe s := by
  refine thn (ha pins s σ H _ I h) fun v s1 ⟨x, H1, I1, r1, q1⟩ => ?_
  refine thn (hb pins s1 σ H1 _ I1 q1) fun u s2 ⟨y, H2, I2, r2, q2⟩ => ?_
  exact hf v u s2 x y H2 I2 r1 r2 q2
theorem pe_op {op : Operator} {r : R2} (ho : OpR X (binaryOp op) r) (ha : PE X a ta) (hb : PE X b tb) : PE X (.BinOp a op b pos) (tOp r ta tb) := by
  intro pins s σ H Q I h
  exact wpAny_BinOp (binT ha hb I h fun v u s2 x y H2 I2 rx ry q => ho pins s2 σ H2 x y v u Q I2 rx ry q)
theorem opI {f : Value → Value → Sem Value} {C : Int → Int → Prop} {g : Int → Int → Int}
    (rule : ∀ (i j : Int) (t u : Tok) (s : Shared) (Q : Value → Shared → Prop) (E : Value → Shared → Prop), C i j → Q (.int (g i j) s.toks) { s with toks := s.toks + 1 } → wpAny (model X.prog X.w) X.A (f (.int i t) (.int j u)) Q E s) :
    OpR X f (rI C fun i j => .int (g i j)) := by
  intro pins s σ H x y v u Q I rx ry h
  obtain ⟨i, j, rfl, rfl, hc, q⟩ := h
  obtain ⟨t, rfl⟩ := rx
  obtain ⟨t', rfl⟩ := ry
  exact rule i j t t' s _ _ hc ⟨.int (g i j), H, I.tok _, ⟨_, rfl⟩, q⟩
theorem opI0 {f : Value → Value → Sem Value} {g : Int → Int → Int}
    (rule : ∀ (i j : Int) (t u : Tok) (s : Shared) (Q : Value → Shared → Prop) (E : Value → Shared → Prop), Q (.int (g i j) s.toks) { s with toks := s.toks + 1 } → wpAny (model X.prog X.w) X.A (f (.int i t) (.int j u)) Q E s) :
    OpR X f (rI0 fun i j => .int (g i j)) := by
  intro pins s σ H x y v u Q I rx ry h
  obtain ⟨i, j, rfl, rfl, q⟩ := h
  obtain ⟨t, rfl⟩ := rx
  obtain ⟨t', rfl⟩ := ry
  exact rule i j t t' s _ _ ⟨.int (g i j), H, I.tok _, ⟨_, rfl⟩, q⟩
theorem opB0 {f : Value → Value → Sem Value} {g : Int → Int → Bool}
    (rule : ∀ (i j : Int) (t u : Tok) (s : Shared) (Q : Value → Shared → Prop) (E : Value → Shared → Prop), Q (.bool (g i j)) s → wpAny (model X.prog X.w) X.A (f (.int i t) (.int j u)) Q E s) :
    OpR X f (rI0 fun i j => .bl (g i j)) := by
  intro pins s σ H x y v u Q I rx ry h
  obtain ⟨i, j, rfl, rfl, q⟩ := h
  obtain ⟨t, rfl⟩ := rx
  obtain ⟨t', rfl⟩ := ry
  exact rule i j t t' s _ _ ⟨.bl (g i j), H, I, rfl, q⟩
def CDiv (i j : Int) : Prop := 0 < j ∧ j < 1073741824
def CPow (i j : Int) : Prop := 0 ≤ j ∧ j ≤ 1000000 ∧ i.natAbs < 2 ^ 64
theorem two_pow_nn (k : Nat) : (0 : Int) ≤ 2 ^ k := by
  rw [two_pow_cast]
  exact Int.natCast_nonneg _
theorem op_add : OpR X (binaryOp .Add) (rI0 fun i j => .int (i + j)) := opI0 fun _ _ _ _ _ _ _ q => add_int q
theorem op_sub : OpR X (binaryOp .Sub) (rI0 fun i j => .int (i - j)) := opI0 fun _ _ _ _ _ _ _ q => sub_int q
theorem op_fdiv : OpR X (binaryOp .FloorDiv) (rI CDiv fun i j => .int (i / j)) := opI fun i j _ _ _ _ _ hc q => by
  have h1 : (0 : Int) < j := hc.1
  have h2 : j < 1073741824 := hc.2
  exact floordiv_int (by omega) (by rw [Int.fdiv_eq_ediv_of_nonneg i (by omega)]; exact q) (.inl (PyProof.noPylong_small (by omega)))
theorem op_shl : OpR X (binaryOp .LShift) (rI CPow fun i j => .int (i * 2 ^ j.toNat)) := opI fun _ _ _ _ _ _ _ hc q => lshift_int_small hc.1 hc.2.1 hc.2.2 q
theorem op_shr : OpR X (binaryOp .RShift) (rI (fun _ j => 0 ≤ j) fun i j => .int (i / 2 ^ j.toNat)) := opI fun i j _ _ _ _ _ hc q =>
  rshift_int hc (by rw [Int.fdiv_eq_ediv_of_nonneg i (two_pow_nn _)]; exact q)
theorem op_and : OpR X (binaryOp .BitAnd) (rI0 fun i j => .int (Builtin.bitAnd i j)) := opI0 fun _ _ _ _ _ _ _ q => and_int q
theorem op_or : OpR X (binaryOp .BitOr) (rI0 fun i j => .int (Builtin.bitOr i j)) := opI0 fun _ _ _ _ _ _ _ q => or_int q
end
def scal : V → V → Bool
  | .non, .non => true | .non, .int _ => true | .int _, .non => true | .non, .bl _ => true | .bl _, .non => true | .non, .str _ => true | .str _, .non => true
  | .int _, .int _ => true | .bl _, .bl _ => true | .str _, .str _ => true | .byt _, .byt _ => true
  | .int _, .str _ => true | .str _, .int _ => true | .bl _, .str _ => true | .str _, .bl _ => true
  | _, _ => false
def rEq : R2 := fun x y H Q => scal x y = true ∧ Q (.bl (decide (x = y))) H
def rNe : R2 := fun x y H Q => scal x y = true ∧ Q (.bl (!decide (x = y))) H
theorem dec_int {i j : Int} : decide (V.int i = V.int j) = (i == j) := by
  rw [Bool.eq_iff_iff]
  simp
theorem dec_bl {i j : Bool} : decide (V.bl i = V.bl j) = (i == j) := by
  rw [Bool.eq_iff_iff]
  simp
theorem dec_str {i j : Str} : decide (V.str i = V.str j) = (i == j) := by
  rw [Bool.eq_iff_iff]
  simp
theorem dec_byt {i j : Array UInt8} : decide (V.byt i = V.byt j) = (i.toList == j.toList) := by
  rw [Bool.eq_iff_iff]
  cases i
  cases j
  simp
section
variable {X : Cx} {a b c : Expr} {ta tb tc : TE} {pos : Pos}
theorem fin_bl {pins : List (Addr × Obj)} {σ : St} {H : Hp} {s : Shared} {Q : VK} {k k' : Bool} (I : Inv X pins σ H s) (q : Q (.bl k) H) (e : k = k') : EP X pins σ Q (.bool k') s := by
  subst e
  exact ⟨.bl k, H, I, rfl, q⟩
theorem op_eq : OpR X (compareOp .Eq) rEq := by
  intro pins s σ H x y v u Q I rx ry h
  obtain ⟨hs, q⟩ := h
  cases x with
  | non =>
    cases rx
    cases y with
    | non => cases ry; exact PySem.EqNone.eq_none_none (fin_bl I q (by simp))
    | bl j => cases ry; exact PySem.EqNone.eq_none_bool (fin_bl I q (by simp))
    | int j => obtain ⟨t', rfl⟩ := ry; exact PySem.EqNone.eq_none_int (fin_bl I q (by simp))
    | str j => obtain ⟨t', rfl⟩ := ry; exact PySem.EqNone.eq_none_str (fin_bl I q (by simp))
    | _ => exact absurd (show false = true from hs) Bool.false_ne_true
  | bl i =>
    cases rx
    cases y with
    | non => cases ry; exact PySem.EqNone.eq_bool_none (fin_bl I q (by simp))
    | bl j => cases ry; exact eq_bool (fin_bl I q dec_bl)
    | str j => obtain ⟨t', rfl⟩ := ry; exact PySem.EqMixed.eq_bool_str (fin_bl I q (by simp))
    | _ => exact absurd (show false = true from hs) Bool.false_ne_true
  | int i =>
    obtain ⟨t, rfl⟩ := rx
    cases y with
    | non => cases ry; exact PySem.EqNone.eq_int_none (fin_bl I q (by simp))
    | int j => obtain ⟨t', rfl⟩ := ry; exact eq_int (fin_bl I q dec_int)
    | str j => obtain ⟨t', rfl⟩ := ry; exact PySem.EqMixed.eq_int_str (fin_bl I q (by simp))
    | _ => exact absurd (show false = true from hs) Bool.false_ne_true
  | str i =>
    obtain ⟨t, rfl⟩ := rx
    cases y with
    | non => cases ry; exact PySem.EqNone.eq_str_none (fin_bl I q (by simp))
    | bl j => cases ry; exact PySem.EqMixed.eq_str_bool (fin_bl I q (by simp))
    | int j => obtain ⟨t', rfl⟩ := ry; exact PySem.EqMixed.eq_str_int (fin_bl I q (by simp))
    | str j => obtain ⟨t', rfl⟩ := ry; exact eq_str (fin_bl I q dec_str)
    | _ => exact absurd (show false = true from hs) Bool.false_ne_true
  | byt i =>
    obtain ⟨t, rfl⟩ := rx
    cases y with
    | byt j => obtain ⟨t', rfl⟩ := ry; exact PySem.W.eq_bytes (fin_bl I q dec_byt)
    | _ => exact absurd (show false = true from hs) Bool.false_ne_true
  | _ => cases y <;> exact absurd (show false = true from hs) Bool.false_ne_true
theorem op_ne : OpR X (compareOp .NotEq) rNe := by
  intro pins s σ H x y v u Q I rx ry h
  obtain ⟨hs, q⟩ := h
  cases x with
  | non =>
    cases rx
    cases y with
    | non => cases ry; exact PySem.EqNone.ne_none_none (fin_bl I q (by simp))
    | bl j => cases ry; exact PySem.EqNone.ne_none_bool (fin_bl I q (by simp))
    | int j => obtain ⟨t', rfl⟩ := ry; exact PySem.EqNone.ne_none_int (fin_bl I q (by simp))
    | str j => obtain ⟨t', rfl⟩ := ry; exact PySem.EqNone.ne_none_str (fin_bl I q (by simp))
    | _ => exact absurd (show false = true from hs) Bool.false_ne_true
  | bl i =>
    cases rx
    cases y with
    | non => cases ry; exact PySem.EqNone.ne_bool_none (fin_bl I q (by simp))
    | bl j => cases ry; exact ne_bool (fin_bl I q (congrArg not dec_bl))
    | str j => obtain ⟨t', rfl⟩ := ry; exact PySem.EqMixed.ne_bool_str (fin_bl I q (by simp))
    | _ => exact absurd (show false = true from hs) Bool.false_ne_true
  | int i =>
    obtain ⟨t, rfl⟩ := rx
    cases y with
    | non => cases ry; exact PySem.EqNone.ne_int_none (fin_bl I q (by simp))
    | int j => obtain ⟨t', rfl⟩ := ry; exact ne_int (fin_bl I q (congrArg not dec_int))
    | str j => obtain ⟨t', rfl⟩ := ry; exact PySem.EqMixed.ne_int_str (fin_bl I q (by simp))
    | _ => exact absurd (show false = true from hs) Bool.false_ne_true
  | str i =>
    obtain ⟨t, rfl⟩ := rx
    cases y with
    | non => cases ry; exact PySem.EqNone.ne_str_none (fin_bl I q (by simp))
    | bl j => cases ry; exact PySem.EqMixed.ne_str_bool (fin_bl I q (by simp))
    | int j => obtain ⟨t', rfl⟩ := ry; exact PySem.EqMixed.ne_str_int (fin_bl I q (by simp))
    | str j => obtain ⟨t', rfl⟩ := ry; exact ne_str (fin_bl I q (congrArg not dec_str))
    | _ => exact absurd (show false = true from hs) Bool.false_ne_true
  | byt i =>
    obtain ⟨t, rfl⟩ := rx
    cases y with
    | byt j => obtain ⟨t', rfl⟩ := ry; exact PySem.W.ne_bytes (fin_bl I q (congrArg not dec_byt))
    | _ => exact absurd (show false = true from hs) Bool.false_ne_true
  | _ => cases y <;> exact absurd (show false = true from hs) Bool.false_ne_true
theorem op_lt : OpR X (compareOp .Lt) (rI0 fun i j => .bl (decide (i < j))) := opB0 fun _ _ _ _ _ _ _ q => lt_int q
theorem op_le : OpR X (compareOp .LtE) (rI0 fun i j => .bl (decide (i ≤ j))) := opB0 fun _ _ _ _ _ _ _ q => le_int q
theorem op_gt : OpR X (compareOp .Gt) (rI0 fun i j => .bl (decide (j < i))) := opB0 fun _ _ _ _ _ _ _ q => gt_int q
theorem op_ge : OpR X (compareOp .GtE) (rI0 fun i j => .bl (decide (j ≤ i))) := opB0 fun _ _ _ _ _ _ _ q => ge_int q
theorem nomark (b : Expr) {op : CmpOp} (h : op ≠ .In := by decide) (h2 : op ≠ .NotIn := by decide) : behindInMarks op b = false := by
  have e1 : (op == CmpOp.In) = false := by cases op <;> first | rfl | exact absurd rfl h
  have e2 : (op == CmpOp.NotIn) = false := by cases op <;> first | rfl | exact absurd rfl h2
  cases b <;> simp [behindInMarks, e1, e2]
theorem pe_cmpR {op : CmpOp} {r : R2} (ho : OpR X (compareOp op) r) (ha : PE X a ta) (hb : PE X b tb) (hm : behindInMarks op b = false) : PE X (.Compare a [op] [b] pos) (tOp r ta tb) := by
  intro pins s σ H Q I h
  exact wpAny_Compare1 (binT ha hb I h fun v u s2 x y H2 I2 rx ry q => ho pins s2 σ H2 x y v u Q I2 rx ry q) hm
def tTest (t : TE) : TT := fun σ H Q => t σ H fun x H' => ∃ k, x = .bl k ∧ Q k H'
theorem pt_cmpR {op : CmpOp} {r : R2} (ho : OpR X (compareOp op) r) (ha : PE X a ta) (hb : PE X b tb) (hm : behindInMarks op b = false) : PT X (.Compare a [op] [b] pos) (tTest (tOp r ta tb)) := by
  intro pins s σ H Q I h
  refine wpAny_isTrue_Compare1 (thn (ha pins s σ H _ I h) fun v s1 ⟨x, H1, I1, r1, q1⟩ => thn (hb pins s1 σ H1 _ I1 q1) fun u s2 ⟨y, H2, I2, r2, q2⟩ =>
    thn (ho pins s2 σ H2 x y v u _ I2 r1 r2 q2) fun c s3 ⟨z, H3, I3, r3, k, e, q3⟩ => ?_) hm
  subst e
  cases r3
  exact wpAny_truthy_bool ⟨H3, I3, q3⟩
theorem line63 : (sizeLine : Nat) < 2 ^ 63 := by rw [sizeLine_eq]; decide
theorem vals1 {x : V} {us : List Value} (r : Vals [x] us) : ∃ u, us = [u] ∧ RelV x u := by
  cases r with
  | cons r1 r2 => cases r2; exact ⟨_, rfl, r1⟩
theorem vals2 {x y : V} {us : List Value} (r : Vals [x, y] us) : ∃ u w', us = [u, w'] ∧ RelV x u ∧ RelV y w' := by
  cases r with
  | cons r1 r2 =>
    cases r2 with
    | cons r3 r4 => cases r4; exact ⟨_, _, rfl, r1, r3⟩
theorem call_max2 (hc : X.calm = true) : CallR X (.builtin "max") (fun xs H Q => ∃ i j, xs = [.int i, .int j] ∧ Q (.int (if j > i then j else i)) H) := by
  intro pins s σ H xs us Q I r h
  obtain ⟨i, j, rfl, q⟩ := h
  obtain ⟨u, w', rfl, ⟨t, rfl⟩, ⟨t', rfl⟩⟩ := vals2 r
  refine max_two_ints (I.ok.hd hc) fun h' tk k => ⟨_, H, I.kept k, ?_, q⟩
  by_cases hj : j > i
  · rw [if_pos hj, if_pos hj]; exact ⟨_, rfl⟩
  · rw [if_neg hj, if_neg hj]; exact ⟨_, rfl⟩
end
end L2
namespace L2
open PySem PySem.Spec PyProof.Rows
structure ObjM (h : Heap) (x dx C : Addr) (mA : Str → Option Value) : Prop where
  obj : h.get? x = some (PySem.W.instObj C dx)
  ns : h.Ns1 dx mA
  ne : dx ≠ x
theorem lookIn_ns {h : Heap} {dx : Addr} {mA : Str → Option Value} (n : h.Ns1 dx mA) : ∃ od, h.get? dx = some od ∧ ∀ name, PySem.W.lookIn name od = some (mA name) := by
  obtain ⟨o, es, ep, ho, hd, hk, _, hm⟩ := n
  refine ⟨o, ho, fun name => ?_⟩
  have e := hm name
  unfold nsFind findBy at e
  rw [← Array.find?_toList] at e
  unfold PySem.W.lookIn
  rw [hd]
  dsimp only
  split
  · rename_i y q
    rw [q] at e
    exact congrArg some e
  · rename_i q
    rw [q] at e
    have a : es.toList.any (·.refKey) = false := by
      rw [List.any_eq_false]
      intro y hy
      obtain ⟨z, t, hkey⟩ := hk y (Array.mem_toList_iff.mp hy)
      simp [DictEntry.refKey, hkey]
    have a' : ¬ es.toList.any (·.refKey) = true := by rw [a]; exact Bool.false_ne_true
    rw [if_neg a']
    exact congrArg some e
theorem ObjM.look {h : Heap} {x dx C : Addr} {mA : Str → Option Value} (I : ObjM h x dx C mA) : ∃ od, PySem.W.InstAt h x (PySem.W.instObj C dx) C (some od) ∧ ∀ name, PySem.W.lookIn name od = some (mA name) :=
  let ⟨od, ho, hl⟩ := lookIn_ns I.ns
  ⟨od, ⟨I.obj, rfl, rfl, ho⟩, hl⟩
section
variable {prog : Program} {w : World} {A : Around} {E : Value → Shared → Prop} {s : Shared} {K : PySem.W.Frag} {x dx C f : Addr} {mA : Str → Option Value} {name : Str} {v : Value}
theorem get_map {expr : Bool} {Q : Value → Shared → Prop} (X : K.In s.heap) (I : ObjM s.heap x dx C mA) (hg : PySem.W.plainGet K C name = true) (hh : PySem.W.hasDictIn K C = true)
    (ha : PySem.W.findIn K (.ref C) name = some none) (hv : mA name = some v) (hv' : PySem.W.handedIn v = true) (h : Q v { s with toks := s.toks + 1 }) :
    wpAny (model prog w) A (getAttr (.ref x) name expr) Q E s := by
  obtain ⟨od, J, hl⟩ := I.look
  exact PySem.W.get_value X J (PySem.W.plainGet_of hg).1 (PySem.W.findObj_own hh ha rfl (by rw [hl, hv])) hv' h
theorem get_meth {pl : Sem Bool} {Q : Value × List Value → Shared → Prop} (X : K.In s.heap) (I : ObjM s.heap x dx C mA) (hg : PySem.W.plainGet K C name = true)
    (hf : PySem.W.findIn K (.ref C) name = some (some (.ref f))) (ht : PySem.W.isFn K (.ref f) = true) (hv : mA name = none) (h : Q (.ref f, [.ref x]) s) :
    wpAny (model prog w) A (getMethod (.ref x) name pl) Q E s := by
  obtain ⟨od, J, hl⟩ := I.look
  exact PySem.W.method_fn X J (PySem.W.plainGet_of hg).1 (PySem.W.plainGet_of hg).2 hf (beq_iff_eq.mp ht) (by show (PySem.W.lookIn name od).map (·.isSome) = some false; rw [hl, hv]; rfl) h
theorem set_map {ns : List Str} {Q : Unit → Shared → Prop} (X : K.In s.heap) (I : ObjM s.heap x dx C mA)
    (hs : PySem.W.findIn K (.ref C) "__setattr__" = some (some (.builtin "object.__setattr__"))) (hp : PySem.W.plainOver K C = true) (ht : PySem.W.takerIn K C name = some none) (hh : PySem.W.hasDictIn K C = true)
    (hw : PySem.Within mA ns) (hsz : ns.length ≤ sizeLine)
    (h : ∀ h', ObjM h' x dx C (fun y => if y = name then some v else mA y) → Heap.SameBut dx s.heap h' → Q () { s with heap := h', toks := s.toks + 2 }) :
    wpAny (model prog w) A (setAttr (.ref x) name v) Q E s := by
  obtain ⟨od, J, hl⟩ := I.look
  refine PySem.W.set_plain X J hs (PySem.W.osa_open (s := { s with toks := s.toks + 1 }) (r := none) X J hp ht fun b => ?_)
  obtain ⟨cd, hc, hd'⟩ := PySem.W.any_some hh
  have hx : s.heap.get? x = some ⟨.ref C, some dx, .plain, #[]⟩ := I.obj
  refine wpAny_bind (wpAny_pure (wpAny_bind (wpAny_bind (wpAny_loadPart hx (wpAny_bind (PySem.W.Looks.here (s := { s with toks := s.toks + 1 }) (PySem.W.looks_clsIn X hc) ?_))))))
  rw [hd']
  refine wpAny_pure (a := some dx) (wpAny_bind (wpAny_pure (wpAny_bind ?_)))
  refine wpAny_nsSet1 (s := { s with toks := s.toks + 1 }) I.ns fun h' hn2 hs2 => ?_
  obtain ⟨oD, esD, epD, hoD, hdD, hcD⟩ := hn2.count (PySem.Within.cons name v hw)
  refine wpAny_bind (wpAny_lookBehind hoD (by rw [hdD]; exact pastItsLine_dict (Nat.le_trans hcD (by rw [List.length_cons]; omega))) ?_)
  exact wpAny_pure (h _ ⟨(hs2.2 _ (Ne.symm I.ne)).trans I.obj, hn2, I.ne⟩ hs2)
theorem make_map {R : Result → Shared → Prop} {vs : List Value} {kw : List (Str × Value)} (X : K.In s.heap) (hm : PySem.W.makesIn K C = true)
    (hi : PySem.W.findIn K (.ref C) "__init__" = some (some (.ref f))) (hf : PySem.W.typeIn K (.ref f) = some (.type "function"))
    (h : codeAny (model prog w) (A.under (.builtin "type.__call__" ⟨.ref C :: vs, kw⟩)) (.call (.ref f) ⟨.ref (s.heap.objs.size + 1) :: vs, kw⟩) (PySem.W.InitBack (s.heap.objs.size + 1) R)
      { s with heap := (s.heap.push PySem.W.emptyDict).push (PySem.W.instObj C s.heap.objs.size) }) :
    codeAny (model prog w) A (.call (.ref C) ⟨vs, kw⟩) R s := by
  obtain ⟨hh, g, d, t, os⟩ := s
  exact PySem.W.make_core (PySem.W.makes_of X hm) (PySem.W.looks_findIn X hi) (fun self => PySem.W.bind_fn X self hf) (.inl rfl) h
end
def putF (f : Str) (v : V) : List (Str × V) → List (Str × V)
  | [] => [(f, v)]
  | (g, x) :: r => if g = f then (g, v) :: r else (g, x) :: putF f v r
theorem lookup_putF (f g : Str) (v : V) : ∀ fs : List (Str × V), (putF f v fs).lookup g = if g = f then some v else fs.lookup g
  | [] => by
    show List.lookup g [(f, v)] = _
    by_cases h : g = f
    · have hb : (g == f) = true := beq_iff_eq.mpr h
      simp only [List.lookup, hb, if_pos h]
    · have hb : (g == f) = false := beq_eq_false_iff_ne.mpr h
      simp only [List.lookup, hb, if_neg h]
  | (k, x) :: r => by
    have ih := lookup_putF f g v r
    rw [show putF f v ((k, x) :: r) = (if k = f then (k, v) :: r else (k, x) :: putF f v r) from rfl]
    by_cases hk : k = f
    · rw [if_pos hk]
      by_cases h : g = k
      · have hb : (g == k) = true := beq_iff_eq.mpr h
        simp only [List.lookup, hb, if_pos (h.trans hk)]
      · have hb : (g == k) = false := beq_eq_false_iff_ne.mpr h
        simp only [List.lookup, hb, if_neg (fun e : g = f => h (e.trans hk.symm))]
    · rw [if_neg hk]
      by_cases h : g = k
      · have hb : (g == k) = true := beq_iff_eq.mpr h
        simp only [List.lookup, hb, if_neg (fun e : g = f => hk (h.symm.trans e))]
      · have hb : (g == k) = false := beq_eq_false_iff_ne.mpr h
        simp only [List.lookup, hb]
        exact ih
theorem keys_putF (f : Str) (v : V) : ∀ fs : List (Str × V), f ∈ (putF f v fs).map (·.1) ∧ ∀ g, g ∈ fs.map (·.1) → g ∈ (putF f v fs).map (·.1)
  | [] => ⟨by simp [putF], fun g h => by simp at h⟩
  | (k, x) :: r => by
    obtain ⟨i1, i2⟩ := keys_putF f v r
    rw [show putF f v ((k, x) :: r) = (if k = f then (k, v) :: r else (k, x) :: putF f v r) from rfl]
    by_cases hk : k = f
    · rw [if_pos hk]
      subst hk
      exact ⟨by simp, fun g h => by simpa using h⟩
    · rw [if_neg hk]
      refine ⟨?_, fun g h => ?_⟩
      · rw [List.map_cons]
        exact List.mem_cons_of_mem _ i1
      · rw [List.map_cons] at h ⊢
        rcases List.mem_cons.mp h with e | e
        · exact List.mem_cons.mpr (.inl e)
        · exact List.mem_cons_of_mem _ (i2 g e)
theorem length_putF (f : Str) (v : V) : ∀ fs : List (Str × V), (putF f v fs).length ≤ fs.length + 1
  | [] => by simp [putF]
  | (k, x) :: r => by
    have ih := length_putF f v r
    rw [show putF f v ((k, x) :: r) = (if k = f then (k, v) :: r else (k, x) :: putF f v r) from rfl]
    by_cases hk : k = f
    · rw [if_pos hk, List.length_cons, List.length_cons]; omega
    · rw [if_neg hk, List.length_cons, List.length_cons]; omega
theorem RelO.some_of {v : V} {o : Option Value} (r : RelO (some v) o) : ∃ u, o = some u ∧ RelV v u := by
  cases o with
  | none => exact (show False from r).elim
  | some u => exact ⟨u, rfl, r⟩
theorem RelO.none_of {o : Option Value} (r : RelO none o) : o = none := by
  cases o with
  | none => rfl
  | some u => exact (show False from r).elim
theorem handed_of {v : V} {u : Value} (r : RelV v u) : PySem.W.handedIn u = true := by
  cases v with
  | non => cases (show u = Value.none from r); rfl
  | bl b => cases (show u = Value.bool b from r); rfl
  | int i => obtain ⟨t, e⟩ := (show ∃ t, u = Value.int i t from r); cases e; rfl
  | str x => obtain ⟨t, e⟩ := (show ∃ t, u = Value.str x t from r); cases e; rfl
  | byt b => obtain ⟨t, e⟩ := (show ∃ t, u = Value.bytes b t from r); cases e; rfl
  | flt b => obtain ⟨t, e⟩ := (show ∃ t, u = Value.float b t from r); cases e; rfl
  | ref a => cases (show u = Value.ref a from r); rfl
  | ty n => cases (show u = Value.type n from r); rfl
section
variable {P : Program} {w : World} {H H' : Hp} {h h' : Heap} {a C dx : Addr} {fs fs' : List (Str × V)}
theorem ins_get (hok : HOk P w H h) (e : H a = some (.ins C dx fs)) : ∃ mA, ObjM h a dx C mA ∧ (∀ f, RelO (fs.lookup f) (mA f)) ∧ PySem.Within mA (fs.map (·.1)) ∧ fs.length ≤ 1000 ∧ H dx = some (.own a) := by
  obtain ⟨d, z, ne, ob, mA, n, r, q⟩ := (show ObjOk P w H h a (.ins C dx fs) from hok a _ e)
  exact ⟨mA, ⟨ob, n, ne⟩, r, q, z, d⟩
end
structure Cls (K : PySem.W.Frag) (C : Addr) : Prop where
  pg : PySem.W.plainGet K C Str.empty = true
  hd : PySem.W.hasDictIn K C = true
  po : PySem.W.plainOver K C = true
  sa : PySem.W.findIn K (.ref C) "__setattr__" = some (some (.builtin "object.__setattr__"))
theorem Cls.get {K : PySem.W.Frag} {C : Addr} (c : Cls K C) (f : Str) : PySem.W.plainGet K C f = true := c.pg
def NoAttr (K : PySem.W.Frag) (C : Addr) (f : Str) : Prop := PySem.W.findIn K (.ref C) f = some none
theorem NoAttr.taker {K : PySem.W.Frag} {C : Addr} {f : Str} (n : NoAttr K C f) : PySem.W.takerIn K C f = some none := by
  unfold PySem.W.takerIn
  rw [show PySem.W.findIn K (.ref C) f = some none from n]
  rfl
structure Meth (K : PySem.W.Frag) (C : Addr) (m : Str) (f : Addr) : Prop where
  at_ : PySem.W.findIn K (.ref C) m = some (some (.ref f))
  fn : PySem.W.isFn K (.ref f) = true
  kp : PySem.W.keepIn K (.ref f) = true
section
variable {X : Cx} {pins : List (Addr × Obj)} {σ : St} {H : Hp} {s : Shared} {a C dx : Addr} {fs : List (Str × V)} {f : Str} {v : V} {A : Around} {E : Value → Shared → Prop}
theorem getattr_ok {b : Bool} {Q : Value → Shared → Prop} (I : Inv X pins σ H s) (e : H a = some (.ins C dx fs)) (c : Cls X.K C) (n : NoAttr X.K C f) (l : fs.lookup f = some v)
    (h : ∀ u s', Inv X pins σ H s' → RelV v u → Q u s') : wpAny (model X.prog X.w) A (getAttr (.ref a) f b) Q E s := by
  obtain ⟨mA, O, r, _, _, _⟩ := ins_get I.hok e
  obtain ⟨u, hu, ru⟩ := RelO.some_of (v := v) (o := mA f) (by rw [← l]; exact r f)
  exact get_map I.kIn O (c.get f) c.hd n hu (handed_of ru) (h u _ (I.tok _) ru)
theorem getmeth_ok {m : Str} {g : Addr} {pl : Sem Bool} {Q : Value × List Value → Shared → Prop} (I : Inv X pins σ H s) (e : H a = some (.ins C dx fs)) (c : Cls X.K C) (k : Meth X.K C m g) (l : fs.lookup m = none)
    (h : Q (.ref g, [.ref a]) s) : wpAny (model X.prog X.w) A (getMethod (.ref a) m pl) Q E s := by
  obtain ⟨mA, O, r, _, _, _⟩ := ins_get I.hok e
  have hn : mA m = none := RelO.none_of (by rw [← l]; exact r m)
  exact get_meth I.kIn O (c.get m) k.at_ k.fn hn h
theorem setattr_ok {y : V} {u : Value} {Q : Unit → Shared → Prop} (I : Inv X pins σ H s) (e : H a = some (.ins C dx fs)) (c : Cls X.K C) (n : NoAttr X.K C f) (hl : fs.length < 1000) (ry : RelV y u)
    (h : ∀ s', Inv X pins σ (upd H a (.ins C dx (putF f y fs))) s' → Q () s') : wpAny (model X.prog X.w) A (setAttr (.ref a) f u) Q E s := by
  obtain ⟨mA, O, r, wi, _, ho⟩ := ins_get I.hok e
  have hz : (fs.map (·.1)).length ≤ sizeLine := by rw [List.length_map, sizeLine_eq]; omega
  refine set_map I.kIn O c.sa c.po n.taker c.hd wi hz fun h' O' sb => h _ ?_
  have hd : ∃ o, h'.get? dx = some o := let ⟨o, _, _, e', _⟩ := O'.ns; ⟨o, e'⟩
  refine I.write (x := a) (e := dx) (by rw [e]; exact True.intro) (.inr ho) (fun b q hb z => (sb.2 b hb).trans z) hd ?_
  refine ⟨by rw [upd_ne O.ne]; exact ho, ?_, O.ne, O'.obj, _, O'.ns, fun g => ?_, fun g hg => ?_⟩
  · have := length_putF f y fs; omega
  · show RelO ((putF f y fs).lookup g) (if g = f then some u else mA g)
    rw [lookup_putF]
    by_cases q : g = f
    · rw [if_pos q, if_pos q]; exact ry
    · rw [if_neg q, if_neg q]; exact r g
  · by_cases q : g = f
    · rw [q]; exact (keys_putF f y fs).1
    · refine (keys_putF f y fs).2 g (wi g fun z => hg ?_)
      show (if g = f then some u else mA g) = none
      rw [if_neg q]; exact z
theorem Inv.made (I : Inv X pins σ H s) : Inv X pins σ (upd (upd H s.heap.objs.size (.own (s.heap.objs.size + 1))) (s.heap.objs.size + 1) (.ins C s.heap.objs.size []))
    { s with heap := (s.heap.push PySem.W.emptyDict).push (PySem.W.instObj C s.heap.objs.size) } := by
  have e1 : (s.heap.push PySem.W.emptyDict).get? s.heap.objs.size = some PySem.W.emptyDict := Heap.get?_push_size s.heap rfl
  have e2 : ((s.heap.push PySem.W.emptyDict).push (PySem.W.instObj C s.heap.objs.size)).get? (s.heap.objs.size + 1) = some (PySem.W.instObj C s.heap.objs.size) := by
    have := Heap.get?_push_size (s.heap.push PySem.W.emptyDict) (o := PySem.W.instObj C s.heap.objs.size) rfl
    rwa [Heap.size_push] at this
  have e3 : (s.heap.push PySem.W.emptyDict).Ns s.heap.objs.size (fun _ => none) := ⟨PySem.W.emptyDict, #[], _, e1, rfl, (fun e he => absurd he (by simp)), fun _ => rfl⟩
  have I1 := I.laid (a := s.heap.objs.size) (o := .own (s.heap.objs.size + 1)) (h' := s.heap.push PySem.W.emptyDict) (t' := s.toks) (fun b u q => Heap.get?_push_of_some _ q) (Nat.le_refl _) ⟨_, e1⟩
  refine I1.laid (a := s.heap.objs.size + 1) (o := .ins C s.heap.objs.size []) (t' := s.toks) (fun b u q => Heap.get?_push_of_some _ q) (Nat.le_of_eq (Heap.size_push _ _)) ?_
  have ne : s.heap.objs.size ≠ s.heap.objs.size + 1 := Nat.ne_of_lt (Nat.lt_succ_self _)
  refine ⟨by rw [upd_ne ne, upd_same], Nat.zero_le _, ne, e2, fun _ => none, (Heap.Ns1.of_empty e3).at fun o q => Heap.get?_push_of_some _ q, fun _ => True.intro, fun y hy => absurd rfl hy⟩
theorem attr_of {prog : Program} {w : World} {env : Env} {e : Expr} {f : Str} {pos : Pos} {s : Shared} {Q : Value → Shared → Prop} (hb : attributeBase e f env (eval e env) = eval e env)
    (h : wpAny (model prog w) A (eval e env) (fun o s₁ => wpAny (model prog w) A (getAttr o f true) Q E s₁) E s) : wpAny (model prog w) A (eval (.Attribute e f pos) env) Q E s :=
  Attribute_any_ h (by rw [arm_eval_Attribute, hb])
end
def tFld (K : PySem.W.Frag) (ta : TE) (f : Str) : TE := fun σ H Q => ta σ H fun x H1 => ∃ a C dx fs v, x = .ref a ∧ H1 a = some (.ins C dx fs) ∧ Cls K C ∧ NoAttr K C f ∧ fs.lookup f = some v ∧ Q v H1
def sFld (K : PySem.W.Frag) (ta tv : TE) (f : Str) : TS := fun D σ H => tv σ H fun y H1 => ta σ H1 fun x H2 => ∃ a C dx fs, x = .ref a ∧ H2 a = some (.ins C dx fs) ∧ Cls K C ∧ NoAttr K C f ∧ fs.length < 1000 ∧
  D.nx σ (upd H2 a (.ins C dx (putF f y fs)))
section
variable {X : Cx} {o e value : Expr} {f : Str} {pos pos' tpos : Pos} {ta tv : TE}
theorem pe_fld (he : PE X e ta) (hb : attributeBase e f X.env (eval e X.env) = eval e X.env) : PE X (.Attribute e f pos) (tFld X.K ta f) := by
  intro pins s σ H Q I h
  refine attr_of hb (thn (he pins s σ H _ I h) fun u s1 ⟨x, H1, I1, rx, a, C, dx, fs, v, ex, ea, c, n, l, q⟩ => ?_)
  subst ex
  obtain rfl : u = Value.ref a := rx
  exact getattr_ok I1 ea c n l fun u' s2 I2 ru => ⟨v, H1, I2, ru, q⟩
theorem ps_fld (ha : PE X o ta) (hv : PE X value tv) (hs : swapsWith value (some (.Attribute o f pos')) pos.line X.env = pure false) : PS X (.Assign [.Attribute o f pos'] value pos) (sFld X.K ta tv f) := by
  intro pins s σ H D I h
  refine plainObj_wpAny_Assign_Attribute (thn (hv pins s σ H _ I h) fun u s1 ⟨y, H1, I1, ry, q⟩ => thn (ha pins s1 σ H1 _ I1 q) fun ov s2 ⟨x, H2, I2, rx, a, C, dx, fs, ex, ea, c, n, l, q2⟩ => ?_) hs
  subst ex
  obtain rfl : ov = Value.ref a := rx
  exact setattr_ok I2 ea c n l ry fun s3 I3 => ⟨σ, _, I3, q2⟩
end
section
variable {X : Cx} {pins : List (Addr × Obj)} {σ : St} {H : Hp} {s : Shared} {A : Around} {E : Value → Shared → Prop} {Q : Value → Shared → Prop} {c : Value} {b : Bool}
end
end L2
namespace L2
open PySem PySem.Spec PyProof.Rows
structure Room (k : Nat) (A : Around) : Prop where
  hd : A.handled = none
  dp : A.depth + 3 * k + 5 < recursionLimit
  un : A.units + 16 * k + 200 < cLine
theorem Room.mono {j k : Nat} {A : Around} (r : Room k A) (h : j ≤ k) : Room j A := ⟨r.hd, by have := r.dp; omega, by have := r.un; omega⟩
theorem Room.deeper {k : Nat} {A : Around} (r : Room (k + 1) A) (env : Env) : Room k (A.deeper env) :=
  ⟨r.hd, by have := r.dp; show A.depth + 1 + 3 * k + 5 < _; omega, by have := r.un; show A.units + 3 + 16 * k + 200 < _; omega⟩
theorem make_depth {A : Around} {C : Addr} {us : List Value} {kw : List (Str × Value)} : (A.under (.builtin "type.__call__" ⟨.ref C :: us, kw⟩)).depth = A.depth + 1 := by
  first | rfl | simp [Around.under, Code.weight, Code.isCreation, Code.isGuard, Code.isCaller, Code.frames, Code.isFrame, guardIds]
theorem make_units {A : Around} {C : Addr} {us : List Value} {kw : List (Str × Value)} : (A.under (.builtin "type.__call__" ⟨.ref C :: us, kw⟩)).units = A.units + 1 := by
  first | rfl | simp [Around.under, Code.cUnits, Code.frames, Code.isFrame]
theorem Room.make {k : Nat} {A : Around} (r : Room (k + 1) A) (C : Addr) (us : List Value) (kw : List (Str × Value)) : Room k (A.under (.builtin "type.__call__" ⟨.ref C :: us, kw⟩)) :=
  ⟨r.hd, by have := r.dp; rw [make_depth]; omega, by have := r.un; rw [make_units]; omega⟩
theorem Room.depth {k : Nat} {A : Around} (r : Room k A) : A.depth < recursionLimit := by have := r.dp; omega
theorem Room.units {k : Nat} {A : Around} (r : Room k A) : A.units + 64 < cLine := by have := r.un; omega
def tNil : TA := fun _ H Q => Q [] H
def tCons (ta : TE) (tr : TA) : TA := fun σ H Q => ta σ H fun x H1 => tr σ H1 fun xs H2 => Q (x :: xs) H2
section
variable {X : Cx} {e : Expr} {es : List Expr} {te : TE} {t : TA} {pos : Pos}
theorem pa_nil : PA X [] tNil := fun _ _ _ _ H Q I h => Calls.spliced_nil ⟨[], H, I, .nil, h⟩
theorem pa_cons (ha : PE X e te) (hr : PA X es t) (hs : starEach (e :: es) X.env = (false, eval e X.env) :: starEach es X.env := by rfl) : PA X (e :: es) (tCons te t) := by
  intro pos pins s σ H Q I h
  rw [hs]
  show wpAny _ _ (spliced ((false, eval e X.env) :: backTo pos (starEach es X.env))) _ _ s
  refine Calls.spliced_cons (thn (ha pins s σ H _ I h) fun u s1 ⟨x, H1, I1, r1, q1⟩ => ?_)
  exact thn (hr pos pins s1 σ H1 _ I1 q1) fun us s2 ⟨xs, H2, I2, r2, q2⟩ => ⟨x :: xs, H2, I2, .cons r1 r2, q2⟩
def tTup (t : TA) : TE := fun σ H Q => t σ H fun xs H1 => xs.length ≤ sizeLine ∧ ∀ p, H1 p = none → Q (.ref p) (upd H1 p (.tup xs))
def tLst (t : TA) : TE := fun σ H Q => t σ H fun xs H1 => xs.length ≤ sizeLine ∧ ∀ p, H1 p = none → Q (.ref p) (upd H1 p (.lst xs))
theorem pe_tup {x1} (h : PA X es t) : PE X (.Tuple es x1 pos) (tTup t) := by
  intro pins s σ H Q I hq
  refine wpAny_Tuple_spliced (thn (h pos pins s σ H _ I hq) fun us s1 ⟨xs, H1, I1, r, z, q⟩ => ⟨by rw [← r.length]; exact z, ?_⟩)
  have hf : H1 s1.heap.objs.size = none := I1.hok.fresh (Nat.le_refl _)
  refine ⟨.ref s1.heap.objs.size, upd H1 s1.heap.objs.size (.tup xs), I1.laid (t' := s1.toks) (fun b u e => Heap.get?_push_of_some _ e) (Nat.le_refl _) ?_, rfl, q _ hf⟩
  exact ⟨z, us, r, ⟨_, Heap.get?_push_size _ rfl, rfl, _, rfl⟩⟩
theorem pe_lst (h : PA X es t) : PE X (.List es pos) (tLst t) := by
  intro pins s σ H Q I hq
  refine wpAny_List_spliced (thn (h pos pins s σ H _ I hq) fun us s1 ⟨xs, H1, I1, r, z, q⟩ => ⟨by rw [← r.length]; exact z, ?_⟩)
  have hf : H1 s1.heap.objs.size = none := I1.hok.fresh (Nat.le_refl _)
  refine ⟨.ref s1.heap.objs.size, upd H1 s1.heap.objs.size (.lst xs), I1.laid (t' := s1.toks) (fun b u e => Heap.get?_push_of_some _ e) (Nat.le_refl _) ?_, rfl, q _ hf⟩
  exact ⟨z, us, 0, r, Heap.get?_push_size _ rfl⟩
end
abbrev Sp := List V → Hp → VK → XK → Prop
abbrev CXT := List Env → Hp → Shared → XK → Value → Shared → Prop
structure Env0 (P : Program) (w : World) (K : PySem.W.Frag) (mg : Str → Option Value) (base : Heap) (A : Around) (outer : List Env) (s : Shared) (H : Hp) : Prop where
  frames : A.frames = some outer
  mod : Mod K mg base
  bs : ∀ b o, base.get? b = some o → s.heap.get? b = some o ∧ H b = none
  bsz : base.objs.size ≤ s.heap.objs.size
  funs : s.heap.FunFrames base outer
  frf : ∀ b ∈ frs outer, H b = none
  hok : HOk P w H s.heap
  bare : AllBare s.gens
def CE (outer : List Env) (P : Program) (w : World) (H : Hp) (s : Shared) (Q : VK) (u : Value) (s' : Shared) : Prop :=
  ∃ v H', s'.os = s.os ∧ AllBare s'.gens ∧ Un (frs outer) [] H H' s.heap s'.heap ∧ HOk P w H' s'.heap ∧ RelV v u ∧ Q v H'
def CR (CX : CXT) (outer : List Env) (P : Program) (w : World) (H : Hp) (s : Shared) (Q : VK) (E : XK) (r : Result) (s' : Shared) : Prop :=
  match r with
  | .ok (.ret u) => CE outer P w H s Q u s'
  | .ok _ => False
  | .error e => CX outer H s E e s'
structure FnOk (P : Program) (w : World) (K : PySem.W.Frag) (mg : Str → Option Value) (base : Heap) (CX : CXT) (k : Nat) (f : Addr) (fd : FuncData) (ps : List Str) (sp : Sp) : Prop where
  len : ∀ vs H Q E, sp vs H Q E → vs.length = ps.length
  run : ∀ (A : Around) (outer : List Env) (s : Shared) (H : Hp) (args : Args) (us : List Value) (vs : List V) (Q : VK) (E : XK), Room k A → Env0 P w K mg base A outer s H → BindsTo s fd args (ps.zip us) → Vals vs us → sp vs H Q E →
    codeAny (model P w) A (.call (.ref f) args) (CR CX outer P w H s Q E) s
theorem Env0.make {P : Program} {w : World} {K : PySem.W.Frag} {mg : Str → Option Value} {base : Heap} {A : Around} {outer : List Env} {s : Shared} {H : Hp} (e : Env0 P w K mg base A outer s H) (C : Addr) (us : List Value) (kw : List (Str × Value)) :
    Env0 P w K mg base (A.under (.builtin "type.__call__" ⟨.ref C :: us, kw⟩)) outer s H := ⟨by first | exact e.frames | (simpa [Around.under, Code.envs, Code.isFrame, pushEnvs] using e.frames), e.mod, e.bs, e.bsz, e.funs, e.frf, e.hok, e.bare⟩
section
variable {X : Cx} {pins : List (Addr × Obj)} {σ : St} {H : Hp} {s s' : Shared}
theorem Inv.env0 (I : Inv X pins σ H s) : Env0 X.prog X.w X.K X.mg X.base X.A X.stack s H :=
  ⟨I.ok.frames, I.ok.mod, I.bs, Nat.le_trans I.ok.bsz I.sz, I.stack, I.stkFree, I.hok, I.bare⟩
theorem Inv.after {Q : VK} {u : Value} (I : Inv X pins σ H s) (h : CE X.stack X.prog X.w H s Q u s') : EP X pins σ Q u s' := by
  obtain ⟨v, H', os, bare, un, hok, r, q⟩ := h
  obtain ⟨hh, g, d, t, os'⟩ := s'
  obtain rfl : os' = s.os := os
  exact ⟨v, H', I.call (h' := hh) (g' := g) (d' := d) (t' := t) (ch := []) un hok bare (fun b z => absurd z (by simp)), r, q⟩
end
def tCall (sp : Sp) (dvs : List V) (E : XK) (t : TA) : TE := fun σ H Q => t σ H fun vs H1 => sp (vs ++ dvs) H1 Q E
def tMeth (C : Addr) (m : Str) (sp : Sp) (dvs : List V) (E : XK) (ta : TE) (t : TA) : TE := fun σ H Q => ta σ H fun x H1 => ∃ a dx fs, x = .ref a ∧ H1 a = some (.ins C dx fs) ∧ fs.lookup m = none ∧
  t σ H1 fun vs H2 => sp (x :: (vs ++ dvs)) H2 Q E
def tMake (C : Addr) (sp : Sp) (dvs : List V) (E : XK) (t : TA) : TE := fun σ H Q => t σ H fun vs H1 => ∀ x dx, H1 x = none → H1 dx = none → dx ≠ x →
  sp (.ref x :: (vs ++ dvs)) (upd (upd H1 dx (.own x)) x (.ins C dx [])) (fun v H2 => v = .non ∧ Q (.ref x) H2) E
def Binds (K : PySem.W.Frag) (fd : FuncData) (ps : List Str) (ds : List Value) : Prop :=
  ∀ (s : Shared) (us : List Value), K.In s.heap → (us ++ ds).length = ps.length → BindsTo s fd ⟨us, []⟩ (ps.zip (us ++ ds))
theorem Binds.all {K : PySem.W.Frag} {fd : FuncData} {ps : List Str} (h : ∀ us : List Value, us.length = ps.length → bindArgs fd ⟨us, []⟩ = pure (ps.zip us)) : Binds K fd ps [] := fun s us _ hl => by
  rw [List.append_nil] at hl ⊢
  exact .of_eq (h us hl)
def Passes (CX : CXT) (X : Cx) (E : XK) : Prop := ∀ (pins : List (Addr × Obj)) (σ : St) (H : Hp) (s : Shared) (e : Value) (s' : Shared), Inv X pins σ H s → CX X.stack H s E e s' → X.xe e s'
section
variable {X : Cx} {CX : CXT} {k : Nat} {f C : Addr} {fd : FuncData} {ps : List Str} {sp : Sp} {dvs : List V} {ds : List Value} {E : XK} {x m : Str} {p pos apos : Pos} {e o : Expr} {es : List Expr} {ta : TE} {t : TA}
theorem run_fn {pins : List (Addr × Obj)} {σ : St} {H : Hp} {s : Shared} {Q : VK} {us : List Value} {vs : List V} (F : FnOk X.prog X.w X.K X.mg X.base CX k f fd ps sp) (hr : Room k X.A) (hb : Binds X.K fd ps ds) (hd : Vals dvs ds) (hx : Passes CX X E)
    (I : Inv X pins σ H s) (r : Vals vs us) (h : sp (vs ++ dvs) H Q E) : wpAny (model X.prog X.w) X.A (call (.ref f) us) (EP X pins σ Q) X.xe s := by
  have r2 : Vals (vs ++ dvs) (us ++ ds) := r.append hd
  have hl : (us ++ ds).length = ps.length := by rw [← r2.length]; exact F.len _ _ _ _ h
  refine wpAny_call (codeAny_mono (F.run X.A X.stack s H ⟨us, []⟩ (us ++ ds) (vs ++ dvs) Q E hr I.env0 (hb s us I.kIn hl) r2 h) fun r s' hq => ?_)
  cases r with
  | error e => exact hx pins σ H s e s' I hq
  | ok fl =>
    cases fl with
    | ret u => exact I.after hq
    | next => exact False.elim hq
    | brk => exact False.elim hq
    | cont => exact False.elim hq
theorem pe_call (F : FnOk X.prog X.w X.K X.mg X.base CX k f fd ps sp) (hr : Room k X.A) (hg : Gl X x) (hm : X.mg x = some (.ref f)) (hk : PySem.W.keepIn X.K (.ref f) = true) (hb : Binds X.K fd ps ds) (hd : Vals dvs ds) (hx : Passes CX X E)
    (ha : PA X (e :: es) t) (hdb : (x == ("__debug__" : Str)) = false := by decide) (he : starEach (e :: es) X.env = (false, eval e X.env) :: starEach es X.env := by rfl) (hpl : (backTo pos (starEach es X.env)).any (·.1) = false := by rfl) :
    PE X (.Call (.Name x p) (e :: es) [] pos) (tCall sp dvs E t) := by
  intro pins s σ H Q I h
  refine wpAny_Call_Name_kw (ld_glob I hg hm ?_ hdb)
  refine PySem.W.callWith_K (h₀ := X.base) I.ok.mod.kin hk (thn (ha pos pins s σ H _ I h) fun us s1 ⟨vs, H1, I1, r, q⟩ => ⟨I1.kIn, ?_⟩) he hpl
  exact run_fn F hr hb hd hx I1 r q
theorem pe_meth {pl : Sem Bool} (he : PE X o ta) (c : Cls X.K C) (hm : Meth X.K C m f) (F : FnOk X.prog X.w X.K X.mg X.base CX k f fd ps sp) (hr : Room k X.A) (hb : Binds X.K fd ps ds) (hd : Vals dvs ds) (hx : Passes CX X E) (ha : PA X (e :: es) t)
    (hst : starEach (e :: es) X.env = (false, eval e X.env) :: starEach es X.env := by rfl) (hpl : (backTo pos (starEach es X.env)).any (·.1) = false := by rfl)
    (ht : eval (.Call (.Attribute o m apos) (e :: es) [] pos) X.env = (do
      let ov ← eval o X.env
      standAt apos.atName
      let (f, first) ← holding [ov] (getMethod ov m pl)
      callWith pos f first (backTo pos (starEach (e :: es) X.env)) (backToKw pos (keywordEach [] X.env))) := by rfl) :
    PE X (.Call (.Attribute o m apos) (e :: es) [] pos) (tMeth C m sp dvs E ta t) := by
  intro pins s σ H Q I h
  refine PySem.W.methodCall_KW (pl := pl) (thn (he pins s σ H _ I h) fun u s1 ⟨x, H1, I1, rx, a, dx, fs, ex, ea, l, q⟩ => ?_) ht
  subst ex
  obtain rfl : u = Value.ref a := rx
  refine getmeth_ok I1 ea c hm l ?_
  refine PySem.W.callWith_K (first := [.ref a]) (h₀ := X.base) I.ok.mod.kin hm.kp (thn (ha pos pins s1 σ H1 _ I1 q) fun us s2 ⟨vs, H2, I2, r, q2⟩ => ⟨I2.kIn, ?_⟩) hst hpl
  exact run_fn (us := .ref a :: us) (vs := .ref a :: vs) F hr hb hd hx I2 (.cons rfl r) q2
structure Mk (K : PySem.W.Frag) (C f : Addr) : Prop where
  makes : PySem.W.makesIn K C = true
  init : PySem.W.findIn K (.ref C) "__init__" = some (some (.ref f))
  fn : PySem.W.isFn K (.ref f) = true
  kp : PySem.W.keepIn K (.ref C) = true
theorem run_make {pins : List (Addr × Obj)} {σ : St} {H : Hp} {s : Shared} {Q : VK} {us : List Value} {vs : List V} (M : Mk X.K C f) (F : FnOk X.prog X.w X.K X.mg X.base CX k f fd ps sp) (hr : Room (k + 1) X.A) (hb : Binds X.K fd ps ds) (hd : Vals dvs ds)
    (hx : Passes CX X E) (I : Inv X pins σ H s) (r : Vals vs us)
    (h : ∀ x dx, H x = none → H dx = none → dx ≠ x → sp (.ref x :: (vs ++ dvs)) (upd (upd H dx (.own x)) x (.ins C dx [])) (fun v H2 => v = .non ∧ Q (.ref x) H2) E) :
    wpAny (model X.prog X.w) X.A (call (.ref C) us) (EP X pins σ Q) X.xe s := by
  have hq := h (s.heap.objs.size + 1) s.heap.objs.size (I.hok.fresh (Nat.le_succ _)) (I.hok.fresh (Nat.le_refl _)) (Nat.ne_of_lt (Nat.lt_succ_self _))
  have I2 := Inv.made (C := C) I
  have r2 : Vals (V.ref (s.heap.objs.size + 1) :: (vs ++ dvs)) (Value.ref (s.heap.objs.size + 1) :: (us ++ ds)) := .cons rfl (r.append hd)
  have hl : (Value.ref (s.heap.objs.size + 1) :: us ++ ds).length = ps.length := by
    have e := r2.length
    rw [F.len _ _ _ _ hq] at e
    exact e.symm
  refine wpAny_call (make_map (f := f) I.kIn M.makes M.init (beq_iff_eq.mp M.fn) (codeAny_mono (F.run _ X.stack _ _ ⟨Value.ref (s.heap.objs.size + 1) :: us, []⟩ (Value.ref (s.heap.objs.size + 1) :: (us ++ ds)) _ _ E (hr.make C us [])
    (I2.env0.make C us []) (hb _ (Value.ref (s.heap.objs.size + 1) :: us) I2.kIn hl) r2 hq) fun r s' hq' => ?_))
  cases r with
  | error e => exact hx pins σ _ _ e s' I2 hq'
  | ok fl =>
    cases fl with
    | ret u =>
      obtain ⟨v, H', I3, rv, ev, q3⟩ := I2.after hq'
      subst ev
      exact ⟨rv, ⟨V.ref (s.heap.objs.size + 1), H', I3, rfl, q3⟩⟩
    | next => exact False.elim hq'
    | brk => exact False.elim hq'
    | cont => exact False.elim hq'
theorem pe_make0 (M : Mk X.K C f) (F : FnOk X.prog X.w X.K X.mg X.base CX k f fd ps sp) (hr : Room (k + 1) X.A) (hg : Gl X x) (hm : X.mg x = some (.ref C)) (hb : Binds X.K fd ps ds) (hd : Vals dvs ds) (hx : Passes CX X E)
    (hdb : (x == ("__debug__" : Str)) = false := by decide) : PE X (.Call (.Name x p) [] [] pos) (tMake C sp dvs E tNil) := by
  intro pins s σ H Q I h
  refine wpAny_Call_Name_kw (ld_glob I hg hm ?_ hdb)
  exact PySem.W.callWith_K0 I.kIn M.kp (run_make (us := []) M F hr hb hd hx I .nil h)
end
def PK (X : Cx) (kws : List Keyword) (t : TA) : Prop :=
  ∀ (pos : Pos) (pins : List (Addr × Obj)) (s : Shared) (σ : St) (H : Hp) (Q : List V → Hp → Prop), Inv X pins σ H s → t σ H Q → wpAny (model X.prog X.w) X.A (evalAll ((backToKw pos (keywordEach kws X.env)).map (·.2))) (AP X pins σ Q) X.xe s
section
variable {X : Cx} {CX : CXT} {k : Nat} {f C : Addr} {fd : FuncData} {ps ks : List Str} {sp : Sp} {E : XK} {x m : Str} {p pos apos kpos : Pos} {e o : Expr} {es : List Expr} {kws : List Keyword} {te ta : TE} {t tk : TA} {nm : Option Str}
theorem pk_nil : PK X [] tNil := fun _ _ _ _ H Q I h => wpAny_evalAll_nil ⟨[], H, I, .nil, h⟩
theorem pk_cons (ha : PE X e te) (hr : PK X kws t) : PK X (⟨nm, e, kpos⟩ :: kws) (tCons te t) := by
  intro pos pins s σ H Q I h
  show wpAny _ _ (evalAll ((do let v ← eval e X.env; standAt pos; pure v) :: (backToKw pos (keywordEach kws X.env)).map (·.2))) _ _ s
  refine wpAny_evalAll_cons (wpAny_bind (thn (ha pins s σ H _ I h) fun u s1 ⟨x, H1, I1, r1, q1⟩ => wpAny_bind (wpAny_standAt (wpAny_pure ?_))))
  exact thn (hr pos pins s1 σ H1 _ I1 q1) fun us s2 ⟨xs, H2, I2, r2, q2⟩ => ⟨x :: xs, H2, I2, .cons r1 r2, q2⟩
variable {g : List Value → List Value → List Value} {gV : List V → List V → List V}
end
structure FnScope (N P : List Str) (sc : Scope) : Prop where
  kind : sc.kind = .function
  co : sc.isCoroutine = false
  gen : sc.isGenerator = false
  nd : N.Nodup
  pre : N.take P.length = P
  par : ∀ x ∈ P, sc.names.lookup x = some .local ∨ sc.names.lookup x = some .cell
  nofree : ∀ y ∈ sc.names, y.2 ≠ .free
theorem bindL_out {kindOf : Str → Option NameKind} {x : Str} : ∀ {binds : List (Str × Value)} {m : Str → Option Value}, (∀ v, (x, v) ∉ binds) → bindL kindOf binds m x = m x
  | [], _, _ => rfl
  | (n, v) :: r, m, h => by
    unfold bindL
    rw [bindL_out fun w hw => h w (List.mem_cons_of_mem _ hw)]
    split
    · have : x ≠ n := by rintro rfl; exact h v List.mem_cons_self
      simp [this]
    · rfl
theorem bindC_out {kindOf : Str → Option NameKind} {x : Str} : ∀ {binds : List (Str × Value)} {m : Str → Option Value}, (∀ v, (x, v) ∉ binds) → bindC kindOf binds m x = m x
  | [], _, _ => rfl
  | (n, v) :: r, m, h => by
    unfold bindC
    rw [bindC_out fun w hw => h w (List.mem_cons_of_mem _ hw)]
    split
    · rfl
    · have : x ≠ n := by rintro rfl; exact h v List.mem_cons_self
      simp [this]
theorem bindL_get {kindOf : Str → Option NameKind} {x : Str} {v : Value} : ∀ {P : List Str} {vs : List Value} {i : Nat} {m : Str → Option Value}, P.Nodup → P[i]? = some x → vs[i]? = some v → kindOf x = some .local →
    bindL kindOf (P.zip vs) m x = some v
  | [], _, _, _, _, h, _, _ => by simp at h
  | _ :: _, [], _, _, _, _, h, _ => by simp at h
  | p :: P, w :: vs, 0, m, nd, h1, h2, hk => by
    simp at h1 h2; subst h1; subst h2
    show bindL kindOf ((p, w) :: P.zip vs) m p = _
    unfold bindL
    rw [bindL_out fun v hv => (List.nodup_cons.mp nd).1 (List.of_mem_zip hv).1, if_pos hk]
    simp
  | p :: P, w :: vs, i + 1, m, nd, h1, h2, hk => by
    show bindL kindOf ((p, w) :: P.zip vs) m x = _
    unfold bindL
    exact bindL_get (i := i) (List.nodup_cons.mp nd).2 (by simpa using h1) (by simpa using h2) hk
theorem bindC_get {kindOf : Str → Option NameKind} {x : Str} {v : Value} : ∀ {P : List Str} {vs : List Value} {i : Nat} {m : Str → Option Value}, P.Nodup → P[i]? = some x → vs[i]? = some v → kindOf x ≠ some .local →
    bindC kindOf (P.zip vs) m x = some v
  | [], _, _, _, _, h, _, _ => by simp at h
  | _ :: _, [], _, _, _, _, h, _ => by simp at h
  | p :: P, w :: vs, 0, m, nd, h1, h2, hk => by
    simp at h1 h2; subst h1; subst h2
    show bindC kindOf ((p, w) :: P.zip vs) m p = _
    unfold bindC
    rw [bindC_out fun v hv => (List.nodup_cons.mp nd).1 (List.of_mem_zip hv).1, if_neg hk]
    simp
  | p :: P, w :: vs, i + 1, m, nd, h1, h2, hk => by
    show bindC kindOf ((p, w) :: P.zip vs) m x = _
    unfold bindC
    exact bindC_get (i := i) (List.nodup_cons.mp nd).2 (by simpa using h1) (by simpa using h2) hk
def start (N : List Str) (vs : List V) : St := vs.map some ++ List.replicate (N.length - vs.length) none
def cxOf (CX : CXT) (P : Program) (w : World) (K : PySem.W.Frag) (mg : Str → Option Value) (base : Heap) (N : List Str) (qual : Str) (scope : Scope) (f : Addr) (cd : Value) (A : Around) (outer : List Env) (s : Shared) (H : Hp) (E : XK) : Cx where
  prog := P
  w := w
  K := K
  mg := mg
  base := base
  A := A.deeper (envOfC qual scope s.heap.objs.size f cd)
  N := N
  s_0 := s
  H_0 := H
  env := envOfC qual scope s.heap.objs.size f cd
  outer := outer
  stack := envOfC qual scope s.heap.objs.size f cd :: outer
  ex := []
  calm := true
  fn := fun _ => true
  pn := []
  xe := fun e s' => wpAny (model P w) (A.deeper (envOfC qual scope s.heap.objs.size f cd)) (leaving (envOfC qual scope s.heap.objs.size f cd) e) (fun _ s'' => CX outer H s E e s'') (fun e' s'' => CX outer H s E e' s'') s'
theorem cell_has {sc : Scope} {n : Nat} {x : Str} (h : sc.names.lookup x = some .cell) : ∃ c, (cellsFrom n sc.names []).lookup x = some c := by
  have q := PySem.W.cellsFrom_some sc.names n [] (.inl h)
  exact Option.isSome_iff_exists.mp q
theorem inv_start {CX : CXT} {P : Program} {w : World} {K : PySem.W.Frag} {mg : Str → Option Value} {base : Heap} {N ps : List Str} {qual : Str} {scope : Scope} {f : Addr} {cd : Value} {A : Around} {outer : List Env} {s s1 : Shared} {H : Hp} {E : XK} {us : List Value} {vs : List V}
    (S : FnScope N ps scope) (hd : A.handled = none) (e0 : Env0 P w K mg base A outer s H) (hl : vs.length = ps.length) (r : Vals vs us)
    (x : InCallC s s.heap.objs.size (bindL (envOfC qual scope s.heap.objs.size f cd).kindOf (ps.zip us) fun _ => none) (cellsFrom (s.heap.objs.size + 1) scope.names []) (bindC (envOfC qual scope s.heap.objs.size f cd).kindOf (ps.zip us) fun _ => none) s1) :
    Inv (cxOf CX P w K mg base N qual scope f cd A outer s H E) [] (start N vs) H s1 := by
  have hpl : ps.length ≤ N.length := by have := congrArg List.length S.pre; rw [List.length_take] at this; omega
  obtain ⟨h1, tk, rfl, hk⟩ := x.done
  have noA : ∀ b : Addr, b ∉ (cxOf CX P w K mg base N qual scope f cd A outer s H E).ex := fun b z => absurd (show b ∈ ([] : List Addr) from z) (by simp)
  refine ⟨⟨e0.mod, S.kind, rfl, rfl, Nat.le_refl _, fun y z c h1 h2 => ?_, fun y hy => ?_, fun y c _ h => ?_, fun _ => hd, Around.frames_deeper e0.frames, .inr ⟨rfl, rfl⟩, fun b z => absurd z (noA b), e0.bs, e0.bsz, fun b _ _ => noA b, fun b z => absurd z (noA b), e0.funs, e0.frf⟩,
    rfl, e0.bare, Un.kept hk, ⟨_, x.toInCall.ns, fun i y v h1 h2 h3 => ?_⟩, fun y c h => ⟨_, x.cell y c h⟩, e0.hok.fresh (Nat.le_refl _), fun y c h => ?_, fun p hp => absurd (show p ∈ ([] : List (Addr × Obj)) from hp) (by simp), e0.hok.kept hk, ?_⟩
  · exact name_of_addr x.apart (PySem.mem_of_lookup h1) (PySem.mem_of_lookup h2)
  · have hy : scope.names.lookup y = some .cell ∨ scope.names.lookup y = some .free := hy
    rcases hy with hy | hy
    · exact cell_has hy
    · exact absurd rfl (S.nofree _ (PySem.mem_of_lookup hy))
  · exact Nat.le_of_lt (x.above y c (PySem.mem_of_lookup h))
  · have hi : i < vs.length := by
      unfold start at h2
      by_cases hi : i < vs.length
      · exact hi
      · rw [List.getElem?_append_right (by simpa using hi)] at h2
        rw [List.getElem?_replicate] at h2
        split at h2 <;> cases h2
    have ha : vs[i]? = some v := by
      unfold start at h2
      rw [List.getElem?_append_left (by simpa using hi), List.getElem?_map] at h2
      cases e : vs[i]? with
      | none => rw [e] at h2; cases h2
      | some a => rw [e] at h2; cases h2; rfl
    obtain ⟨u, hu, rv⟩ := r.get ha
    have hp : ps[i]? = some y := by
      rw [← S.pre, List.getElem?_take_of_lt (by omega)]; exact h1
    have ndP : ps.Nodup := by rw [← S.pre]; exact S.nd.sublist (List.take_sublist _ _)
    refine ⟨u, rv, ?_⟩
    rcases S.par y (List.mem_of_getElem? hp) with k | k
    · exact .inl ⟨k, bindL_get ndP hp hu k⟩
    · obtain ⟨c, e⟩ := cell_has (n := s.heap.objs.size + 1) k
      refine .inr ⟨.inl k, c, e, ?_⟩
      have q := x.cell y c e
      rw [bindC_get ndP hp hu (by show scope.names.lookup y ≠ _; rw [k]; decide)] at q
      exact q
  · exact e0.hok.fresh (Nat.le_of_lt (x.above y c (PySem.mem_of_lookup h)))
  · unfold start
    show _ = N.length
    rw [List.length_append, List.length_map, List.length_replicate]
    omega
theorem fn_of {CX : CXT} {P : Program} {w : World} {K : PySem.W.Frag} {mg : Str → Option Value} {base : Heap} {k : Nat} {f : Addr} {name qual : Str} {params : Arguments} {body : List Stmt} {scope : Scope} {dV kV doc pm cdv ct oc : Value} {an od : Option Addr}
    {osl : Array (Option Value)} {N ps : List Str} {sp : Sp} (lk : K.lookup f = some ⟨oc, od, .func (PySem.W.fnOf name qual params body scope dV kV doc pm an cdv ct), osl⟩) (hcd : PySem.W.codeIn K cdv qual = true) (S : FnScope N ps scope)
    (len : ∀ vs H Q E, sp vs H Q E → vs.length = ps.length)
    (hbody : ∀ (A : Around) (outer : List Env) (s : Shared) (H : Hp) (vs : List V) (Q : VK) (E : XK), Room k (A.deeper (envOfC qual scope s.heap.objs.size f cdv)) → sp vs H Q E →
      ∃ t, PSs (cxOf CX P w K mg base N qual scope f cdv A outer s H E) body t ∧ t { nx := fun _ H' => Q .non H', rt := Q } (start N vs) H) :
    FnOk P w K mg base CX (k + 1) f (PySem.W.fnOf name qual params body scope dV kV doc pm an cdv ct) ps sp := by
  refine ⟨len, fun A outer s H args us vs Q E hr e0 hb r hsp => ?_⟩
  have hl := len _ _ _ _ hsp
  have KX : K.In s.heap := e0.mod.kin.keeps fun b o e => (e0.bs b o e).1
  have lim : s.heap.NoLimit := e0.mod.nolimit.keeps fun b o e => (e0.bs b o e).1
  have hkind : ∀ y ∈ ps.zip us, scope.names.lookup y.1 = some .local ∨ (scope.names.lookup y.1 = some .cell ∧ ((cellsFrom (s.heap.objs.size + 1) scope.names []).lookup y.1).isSome = true) := fun ⟨n, v⟩ hy => by
    rcases S.par n (List.of_mem_zip hy).1 with q | q
    · exact .inl q
    · exact .inr ⟨q, PySem.W.cellsFrom_some _ _ _ (.inl q)⟩
  refine codeAny_call_function hr.depth (KX _ _ lk) rfl S.co S.gen rfl (PySem.W.codeRec_of KX hcd) (hb _ _ _ _ ?_)
  refine wpAny_newFunctionEnv_cells S.kind hkind fun env he s1 x => ?_
  subst he
  refine ⟨lim.keeps x.toInCall.keep, codeAny_func ?_⟩
  obtain ⟨t, ht, hq⟩ := hbody A outer s H vs Q E (hr.deeper _) hsp
  have I : Inv (cxOf CX P w K mg base N qual scope f cdv A outer s H E) [] (start N vs) H s1 := inv_start S hr.hd e0 hl r x
  refine wpAny_mono (ht [] s1 (start N vs) H _ I hq) (fun fl s' hs => ?_) fun e s' hs => hs
  have fin : ∀ {σ' : St} {H' : Hp} {v : V} {u : Value}, Inv (cxOf CX P w K mg base N qual scope f cdv A outer s H E) [] σ' H' s' → RelV v u → Q v H' → CE outer P w H s Q u s' :=
    fun {σ' H' v u} J rv q => ⟨v, H', J.os, J.bare, J.base, J.hok, rv, q⟩
  cases fl with
  | ret u =>
    obtain ⟨v, σ', H', J, rv, q⟩ := hs
    exact fin J rv q
  | next =>
    obtain ⟨σ', H', J, q⟩ := hs
    exact fin (v := V.non) (u := Value.none) J rfl q
  | brk =>
    obtain ⟨_, _, _, q⟩ := hs
    exact False.elim q
  | cont =>
    obtain ⟨_, _, _, q⟩ := hs
    exact False.elim q
end L2
namespace L2
open PySem PySem.Spec PyProof.Rows
section
variable {X : Cx} {x : Str} {p pos : Pos} {e : Expr} {es : List Expr} {t : TA} {id T : String} {r : List V → Hp → VK → Prop}
def tCB (r : List V → Hp → VK → Prop) (t : TA) : TE := fun σ H Q => t σ H fun vs H1 => r vs H1 Q
theorem pe_callB (hc : CallR X (.builtin id) r) (hg : Gl X x) (hm : X.mg x = none) (hv : bootBuiltins x = some (.builtin id)) (ha : PA X (e :: es) t) (hn : x ≠ "__name__" := by decide) (hdb : (x == ("__debug__" : Str)) = false := by decide)
    (he : starEach (e :: es) X.env = (false, eval e X.env) :: starEach es X.env := by rfl) (hpl : (backTo pos (starEach es X.env)).any (·.1) = false := by rfl) : PE X (.Call (.Name x p) (e :: es) [] pos) (tCB r t) := by
  intro pins s σ H Q I h
  refine wpAny_Call_Name_kw (ld_blt I hg hm hv ?_ hn hdb)
  exact PyProof.Rows.callWith_builtin1 (thn (ha pos pins s σ H _ I h) fun us s1 ⟨vs, H1, I1, r1, q1⟩ => hc pins s1 σ H1 vs us Q I1 r1 q1) he hpl
theorem pe_callTy (hc : CallR X (.type T) r) (hg : Gl X x) (hm : X.mg x = none) (hv : bootBuiltins x = some (.type T)) (ha : PA X (e :: es) t) (hn : x ≠ "__name__" := by decide) (hdb : (x == ("__debug__" : Str)) = false := by decide)
    (he : starEach (e :: es) X.env = (false, eval e X.env) :: starEach es X.env := by rfl) (hpl : (backTo pos (starEach es X.env)).any (·.1) = false := by rfl) : PE X (.Call (.Name x p) (e :: es) [] pos) (tCB r t) := by
  intro pins s σ H Q I h
  refine wpAny_Call_Name_kw (ld_blt I hg hm hv ?_ hn hdb)
  exact PyProof.Rows.callWith_type1 (thn (ha pos pins s σ H _ I h) fun us s1 ⟨vs, H1, I1, r1, q1⟩ => hc pins s1 σ H1 vs us Q I1 r1 q1) he hpl
end
end L2
namespace HT
open PySem PyProof.Rows
def lexLt : List Int → List Int → Bool
  | [], [] => false
  | [], _ :: _ => true
  | _ :: _, [] => false
  | x :: xs, y :: ys => if x = y then lexLt xs ys else decide (x < y)
theorem lexLt_cons (x y : Int) (xs ys : List Int) : lexLt (x :: xs) (y :: ys) = if x = y then lexLt xs ys else decide (x < y) := rfl
theorem lexLt_nil_nil : lexLt [] [] = false := rfl
theorem lexLt_nil_cons (y : Int) (ys : List Int) : lexLt [] (y :: ys) = true := rfl
theorem lexLt_cons_nil (x : Int) (xs : List Int) : lexLt (x :: xs) [] = false := rfl
theorem eqAt_int (A : Around) (s : Shared) (a : Int) (t : Tok) (c : Int) (u : Tok) : ∃ e, SeqAt.EqAt A s (.int a t) (.int c u) e ∧ (e = true ↔ a = c) :=
  ⟨(a == c), SeqAt.EqAt.int_int a t c u, by simp⟩
theorem rcLt_int (A : Around) (s : Shared) (a : Int) (t : Tok) (c : Int) (u : Tok) (prog : Program) (w : World) (E : Value → Shared → Prop) (Q : Value → Shared → Prop) (h : Q (.bool (decide (a < c))) s) :
    wpAny (model prog w) A (richCompare .Lt (.int a t) (.int c u)) Q E s :=
  (PyProof.Rows.lt_int h : wpAny (model prog w) A (compareOp .Lt (.int a t) (.int c u)) Q E s)
section
open PySem.SeqAt
open PySem.AutoSeq1 (wpAny_loadPart')
open PySem.MeetsSeq PySem.MeetsSeq2 PySem.MeetsSeq3
theorem tuple_lt_ints (l b : Addr) (items items2 : Array Value) (n n2 : Nat) (dd dd2 : Option Addr) (sl sl2 : Array (Option Value)) (ns ms : List Int) (hi : IntsAre items.toList ns) (hj : IntsAre items2.toList ms) :
    Meets (Builtin.«tuple.__lt__» ⟨[.ref l, .ref b], []⟩)
      (fun _ R s => s.heap.get? l = some { cls := .type "tuple", dict := dd, data := .seq items n, slots := sl } ∧ s.heap.get? b = some { cls := .type "tuple", dict := dd2, data := .seq items2 n2, slots := sl2 } ∧
        R (.ok (.ret (.bool (lexLt ns ms)))) s) :=
  .of_wp fun prog w A R s h => by
    obtain ⟨hp, g, d, tk, os⟩ := s; obtain ⟨hl, hb, h⟩ := h
    have f2 := AutoSeq1.sub_tuple_tuple
    have z1 : items.size = ns.length := by rw [← hi.length]; simp
    have z2 : items2.size = ms.length := by rw [← hj.length]; simp
    wp_walk using wpAny_loadPart' hl, wpAny_loadPart' hb, wpAny_forIn_list _ (fun rest b s' => b.1 = none ∧ s' = ⟨hp, g, d, tk, os⟩ ∧ ∃ (vs ws : List Value) (ns' ms' : List Int), rest = vs.zip ws ∧
      IntsAre vs ns' ∧ IntsAre ws ms' ∧ ns'.length + items2.size = ms'.length + items.size ∧ R (.ok (.ret (.bool (lexLt ns' ms')))) ⟨hp, g, d, tk, os⟩) _
    case turn =>
      rintro ⟨y, x⟩ rest b s' ⟨hb', rfl, vs, ws, ns', ms', hz, hvi, hwi, hlen, hR⟩
      cases hvi with
      | nil => rw [List.zip_nil_left] at hz; cases hz
      | cons a t hvi' =>
        cases hwi with
        | nil => rw [List.zip_nil_right] at hz; cases hz
        | cons c u hwi' =>
          rw [List.zip_cons_cons] at hz
          injection hz with hyx hrest
          injection hyx with hy hx
          subst hy hx
          rw [lexLt_cons] at hR
          simp only [List.length_cons] at hlen
          obtain ⟨e, he, hiff⟩ := eqAt_int A.in1 ⟨hp, g, d, tk, os⟩ a t c u
          refine wpAny_bind (he prog w _ _ ?_)
          cases e with
          | true =>
            rw [if_pos (hiff.mp rfl)] at hR
            wp_walk
            exact ⟨rfl, rfl, _, _, _, _, hrest, hvi', hwi', by omega, hR⟩
          | false =>
            rw [if_neg (fun q => absurd (hiff.mpr q) Bool.false_ne_true)] at hR
            have hri := rcLt_int A.in1 ⟨hp, g, d, tk, os⟩ a t c u prog w
            wp_walk using hri
            exact ⟨_, rfl, by simpa using hR⟩
    case fin =>
      rintro ⟨b1, b2⟩ s' ⟨hb', rfl, vs, ws, ns', ms', hz, hvi, hwi, hlen, hR⟩
      simp only at hb'
      subst hb'
      have hv : lexLt ns' ms' = decide (items.size < items2.size) := by
        cases hvi with
        | nil =>
          cases hwi with
          | nil =>
            simp only [List.length_nil] at hlen
            rw [lexLt_nil_nil]
            exact (decide_eq_false (by omega)).symm
          | cons c u hw =>
            simp only [List.length_nil, List.length_cons] at hlen
            rw [lexLt_nil_cons]
            exact (decide_eq_true (by omega)).symm
        | cons a t hv =>
          cases hwi with
          | nil =>
            simp only [List.length_nil, List.length_cons] at hlen
            rw [lexLt_cons_nil]
            exact (decide_eq_false (by omega)).symm
          | cons c u hw =>
            rw [List.zip_cons_cons] at hz
            cases hz
      rw [hv] at hR
      wp_walk
      exact ⟨_, rfl, by simpa [Builtin.Tuple.tupleCompareSizes] using hR⟩
    case h =>
      exact ⟨rfl, rfl, items.toList, items2.toList, ns, ms, rfl, hi, hj, by omega, h⟩
end
section
variable {prog : Program} {w : World} {A : Around} {E : Value → Shared → Prop} {s : Shared}
theorem lt_tupInts {l b : Addr} {items items2 : Array Value} {ns ms : List Int} {Q : Value → Shared → Prop} (hl : IsTup s.heap l items) (hb : IsTup s.heap b items2) (hi : IntsAre items.toList ns) (hj : IntsAre items2.toList ms)
    (hu : A.units < cLine) (h : Q (.bool (lexLt ns ms)) s) : wpAny (model prog w) A (compareOp .Lt (.ref l) (.ref b)) Q E s := by
  obtain ⟨⟨cls, dd, data, sl⟩, ho, hc, n, hd⟩ := id hl
  obtain ⟨⟨cls2, dd2, data2, sl2⟩, ho2, hc2, n2, hd2⟩ := id hb
  simp only at hc hd hc2 hd2
  subst hc hd hc2 hd2
  exact richCompare_meets_room (op := .Lt) ⟨_, ho, rfl⟩ ⟨_, ho2, rfl⟩ PySem.F.slot_tuple_lt PySem.F.entry_tuple_lt (PySem.F.args_tuple_lt_2 _ _) (tuple_lt_ints l b items items2 n n2 dd dd2 sl sl2 ns ms hi hj)
    ⟨ho, ho2, show Value.bool (lexLt ns ms) ≠ Value.notImplemented ∧ Q (.bool (lexLt ns ms)) s from ⟨(fun x => nomatch x), h⟩⟩ hu
theorem cat_tup {t b : Addr} {vs ws : List Value} {Q : Value → Shared → Prop} (ht : IsTup s.heap t vs.toArray) (hb : IsTup s.heap b ws.toArray) (hv : vs ≠ [])
    (h1 : ws = [] → Q (.ref t) s) (h2 : ws ≠ [] → Q (.ref s.heap.objs.size) { s with heap := s.heap.push { cls := .type "tuple", data := .seq (vs ++ ws).toArray } })
    (hsz : vs.length + ws.length ≤ sizeLine) : wpAny (model prog w) A (binaryOp .Add (.ref t) (.ref b)) Q E s := by
  obtain ⟨⟨cls, dd, data, sl⟩, ho, hc, n, hd⟩ := id ht
  obtain ⟨⟨cls2, dd2, data2, sl2⟩, ho2, hc2, n2, hd2⟩ := id hb
  simp only at hc hd hc2 hd2
  subst hc hd hc2 hd2
  have e : vs.toArray ++ ws.toArray = (vs ++ ws).toArray := by simp
  by_cases hw : ws = []
  · exact concat_meets ⟨_, ho, rfl⟩ ⟨_, ho2, rfl⟩ noFill_tuple_add seq_tuple_add PySem.F.slot_tuple_add PySem.F.entry_tuple_add (PySem.F.args_tuple_add_2 _ _)
      (tuple_addW1 t b vs.toArray ws.toArray n n2 dd dd2 sl sl2 (by simpa using hv) (by simp [hw])) ⟨ho, ho2, h1 hw⟩
  · refine concat_meets ⟨_, ho, rfl⟩ ⟨_, ho2, rfl⟩ noFill_tuple_add seq_tuple_add PySem.F.slot_tuple_add PySem.F.entry_tuple_add (PySem.F.args_tuple_add_2 _ _)
      (tuple_addW2 t b vs.toArray ws.toArray n n2 dd dd2 sl sl2 (by simpa using hv) (by simpa using hw) (by rw [List.size_toArray, List.size_toArray]; exact hsz)) ⟨ho, ho2, ?_⟩
    rw [e]
    exact h2 hw
def sIx (n d : Nat) : Option Int → Nat
  | none => d
  | some v => if v < 0 then (v + (n : Int)).toNat else min v.toNat n
theorem sIx_none (n d : Nat) : sIx n d none = d := rfl
theorem sIx_nat (n d k : Nat) : sIx n d (some (k : Int)) = min k n := by
  show (if (k : Int) < 0 then ((k : Int) + (n : Int)).toNat else min (k : Int).toNat n) = min k n
  rw [if_neg (by omega), Int.toNat_natCast]
end
end HT
namespace L2
open PySem PySem.Spec PyProof.Rows
abbrev TO := St → Hp → (Option Int → Hp → Prop) → Prop
def PO (X : Cx) (e : Option Expr) (t : TO) : Prop :=
  ∀ (pins : List (Addr × Obj)) (s : Shared) (σ : St) (H : Hp) (Q : Option Int → Hp → Prop), Inv X pins σ H s → t σ H Q →
    wpAny (model X.prog X.w) X.A (evalPart e X.env) (fun u s' => ∃ o H', Inv X pins σ H' s' ∧ IsPart u o ∧ Q o H') X.xe s
def tNoPart : TO := fun _ H Q => Q none H
def tPart (t : TE) : TO := fun σ H Q => t σ H fun x H1 => ∃ i, x = .int i ∧ Q (some i) H1
theorem intsAre_of {ns : List Int} : ∀ {us : List Value}, Vals (ns.map V.int) us → IntsAre us ns := by
  induction ns with
  | nil => intro us r; rw [List.map_nil] at r; cases r; exact .nil
  | cons n ns ih =>
    intro us r
    rw [List.map_cons] at r
    cases r with
    | cons r1 r2 =>
      obtain ⟨t, e⟩ := r1
      subst e
      exact .cons n t (ih r2)
section
variable {X : Cx} {e : Expr} {te : TE} {lo hi : Option Expr} {tl th : TO} {pos p2 : Pos}
theorem po_none : PO X none tNoPart := by
  intro pins s σ H Q I h
  rw [evalPart_none]
  exact wpAny_pure ⟨none, H, I, .none, h⟩
theorem po_some (h : PE X e te) : PO X (some e) (tPart te) := by
  intro pins s σ H Q I hw
  rw [evalPart_some]
  refine thn (h pins s σ H _ I hw) fun u s1 ⟨x, H1, I1, r1, q1⟩ => ?_
  obtain ⟨i, rfl, q⟩ := q1
  obtain ⟨t, rfl⟩ := r1
  exact ⟨some i, H1, I1, .int i t, q⟩
def SlR (X : Cx) (r : V → Option Int → Option Int → Hp → VK → Prop) : Prop :=
  ∀ (pins : List (Addr × Obj)) (s : Shared) (σ : St) (H : Hp) (x : V) (v vl vu : Value) (lo hi : Option Int) (sl : Addr) (Q : VK), Inv X pins σ H s → RelV x v → s.heap.IsSliceOf sl vl vu .none → IsPart vl lo → IsPart vu hi → r x lo hi H Q →
    ∃ T id, typeLookup (.type T) "__getitem__" = pure (some (.builtin id)) ∧ s.TypeIs v T ∧ wpAny (model X.prog X.w) X.A (getItem v (.ref sl)) (EP X pins σ Q) X.xe s
def tSl (r : V → Option Int → Option Int → Hp → VK → Prop) (te : TE) (tl th : TO) : TE := fun σ H Q => te σ H fun x H1 => tl σ H1 fun l H2 => th σ H2 fun u H3 => r x l u H3 Q
theorem pe_slice {r : V → Option Int → Option Int → Hp → VK → Prop} (hr : SlR X r) (he : PE X e te) (hl : PO X lo tl) (hu : PO X hi th) : PE X (.Subscript e (.Slice lo hi none p2) pos) (tSl r te tl th) := by
  intro pins s σ H Q I h
  refine Subscript_ (thn (he pins s σ H _ I h) fun v s1 ⟨x, H1, I1, r1, q1⟩ => ?_)
  refine wpAny_Slice (thn (hl pins s1 σ H1 _ I1 q1) fun vl s2 ⟨l, H2, I2, pl, q2⟩ => thn (hu pins s2 σ H2 _ I2 q2) fun vu s3 ⟨u, H3, I3, pu, q3⟩ => ?_)
  rw [evalPart_none]
  refine wpAny_pure ?_
  have I4 : Inv X pins σ H3 { s3 with heap := s3.heap.push { cls := .type "slice", data := .fields #[vl, vu, .none] } } := I3.kept (t' := s3.toks) fun b ob q => Heap.get?_push_of_some _ q
  obtain ⟨T, id, hT, ht, hg⟩ := hr pins { s3 with heap := s3.heap.push { cls := .type "slice", data := .fields #[vl, vu, .none] } } σ H3 x v vl vu l u s3.heap.objs.size Q I4 r1 (Heap.IsSliceOf.new ..) pl pu q3
  show wpAny (model X.prog X.w) X.A (subscriptTail e (.Slice lo hi none p2) v (.ref s3.heap.objs.size)) (EP X pins σ Q) X.xe { s3 with heap := s3.heap.push { cls := .type "slice", data := .fields #[vl, vu, .none] } }
  exact tail_any (ops := [.ref s3.heap.objs.size, v]) ht hT hg (by with_unfolding_all rfl)
def cutV (xs : List V) (lo hi : Option Int) : List V := (xs.drop (HT.sIx xs.length 0 lo)).take (HT.sIx xs.length xs.length hi - HT.sIx xs.length 0 lo)
theorem cutV_length (xs : List V) (lo hi : Option Int) : (cutV xs lo hi).length ≤ xs.length := by
  unfold cutV
  rw [List.length_take, List.length_drop]
  omega
def rCatT (K : PySem.W.Frag) : R2 := fun x y H Q => ∃ a b xs ys, x = .ref a ∧ y = .ref b ∧ SqT K H a xs ∧ SqT K H b ys ∧ xs ≠ [] ∧ xs.length + ys.length ≤ sizeLine ∧
  (ys = [] → Q (.ref a) H) ∧ (ys ≠ [] → ∀ p, H p = none → Q (.ref p) (upd H p (.tup (xs ++ ys))))
theorem Vals.nil_iff {xs : List V} {us : List Value} (r : Vals xs us) : us = [] ↔ xs = [] := by
  cases r with
  | nil => simp
  | cons _ _ => simp
theorem op_catT : OpR X (binaryOp .Add) (rCatT X.K) := by
  intro pins s σ H x y v u Q I rx ry h
  obtain ⟨a, b, xs, ys, rfl, rfl, ha, hb, hx, hz, q1, q2⟩ := h
  cases rx
  cases ry
  obtain ⟨its, r1, p1, _⟩ := I.tuple ha
  obtain ⟨its2, r2, p2, _⟩ := I.tuple hb
  refine HT.cat_tup p1 p2 (fun z => hx (r1.nil_iff.mp z)) (fun z => ⟨.ref a, H, I, rfl, q1 (r2.nil_iff.mp z)⟩) (fun z => ?_) (by rw [← r1.length, ← r2.length]; exact hz)
  refine ⟨.ref s.heap.objs.size, _, I.laid (t' := s.toks) (o := .tup (xs ++ ys)) (fun b ob q => Heap.get?_push_of_some _ q) (Nat.le_refl _) ?_, rfl, q2 (fun w => z (r2.nil_iff.mpr w)) _ (I.hok.fresh (Nat.le_refl _))⟩
  exact ⟨by rw [List.length_append]; exact hz, _, r1.append r2, IsTup.new _ _⟩
end
end L2
namespace L2
open PySem PySem.Spec PyProof.Rows
def ixN (n : Nat) (i : Int) : Option Nat := if 0 ≤ i then (if i < n then some i.toNat else none) else if -(n : Int) ≤ i then some (i + n).toNat else none
def atI {α : Type} (xs : List α) (i : Int) : Option α := (ixN xs.length i).bind fun j => xs[j]?
theorem ixN_seq {n : Nat} {i : Int} {j : Nat} (h : ixN n i = some j) : seqIndex? i n = some j ∧ j < n ∧ -(n : Int) ≤ i ∧ i < n := by
  unfold ixN at h
  by_cases h0 : 0 ≤ i
  · rw [if_pos h0] at h
    by_cases h1 : i < n
    · rw [if_pos h1] at h
      have e : i.toNat = j := Option.some.inj h
      exact ⟨by rw [seqIndex_of h0 h1, e], by omega, by omega, h1⟩
    · rw [if_neg h1] at h; cases h
  · rw [if_neg h0] at h
    by_cases h1 : -(n : Int) ≤ i
    · rw [if_pos h1] at h
      have e : (i + n).toNat = j := Option.some.inj h
      exact ⟨by rw [seqIndex_neg (by omega) h1, e], by omega, h1, by omega⟩
    · rw [if_neg h1] at h; cases h
theorem atI_get {α : Type} {xs : List α} {i : Int} {v : α} (h : atI xs i = some v) : ∃ j, seqIndex? i xs.length = some j ∧ xs[j]? = some v ∧ j < xs.length ∧ -(xs.length : Int) ≤ i ∧ i < xs.length := by
  unfold atI at h
  cases e : ixN xs.length i with
  | none => rw [e] at h; cases h
  | some j =>
    rw [e] at h
    obtain ⟨h1, h2, h3, h4⟩ := ixN_seq e
    exact ⟨j, h1, h, h2, h3, h4⟩
theorem atI_nat {α : Type} {xs : List α} {j : Nat} {v : α} (h : xs[j]? = some v) : atI xs (j : Int) = some v := by
  have hj : j < xs.length := (List.getElem?_eq_some_iff.mp h).1
  have e : ixN xs.length (j : Int) = some j := by
    unfold ixN
    rw [if_pos (by omega), if_pos (by omega)]; simp
  unfold atI; rw [e]; exact h
def PlainIx (b : Expr) : Prop := ∀ o i, subscripted b false o i = operate [o, i] (getItem o i)
def IxR (X : Cx) (r : R2) : Prop :=
  ∀ (value slice : Expr) (pins : List (Addr × Obj)) (s : Shared) (σ : St) (H : Hp) (x y : V) (v u : Value) (Q : VK), Inv X pins σ H s → RelV x v → RelV y u → r x y H Q →
    subscripted slice false v u = operate [v, u] (getItem v u) → wpAny (model X.prog X.w) X.A (subscriptTail value slice v u) (EP X pins σ Q) X.xe s
def MtR (X : Cx) (id : String) (r : V → List V → Hp → VK → Prop) : Prop :=
  ∀ (pins : List (Addr × Obj)) (s : Shared) (σ : St) (H : Hp) (x : V) (xs : List V) (v : Value) (us : List Value) (Q : VK), Inv X pins σ H s → RelV x v → Vals xs us → r x xs H Q →
    wpAny (model X.prog X.w) X.A (call (.builtin id) (v :: us)) (EP X pins σ Q) X.xe s
section
variable {X : Cx} {a b : Expr} {ta tb : TE} {pos : Pos}
theorem pe_ix {r : R2} (hr : IxR X r) (ha : PE X a ta) (hb : PE X b tb) (hs : PlainIx b) : PE X (.Subscript a b pos) (tOp r ta tb) := by
  intro pins s σ H Q I h
  exact Subscript_ (binT ha hb I h fun v u s2 x y H2 I2 rx ry q => hr a b pins s2 σ H2 x y v u Q I2 rx ry q (hs _ _))
def rIxL (K : PySem.W.Frag) : R2 := fun x y H Q => ∃ p xs i v, x = .ref p ∧ y = .int i ∧ SqL K H p xs ∧ atI xs i = some v ∧ Q v H
def rIxT (K : PySem.W.Frag) : R2 := fun x y H Q => ∃ p xs i v, x = .ref p ∧ y = .int i ∧ SqT K H p xs ∧ atI xs i = some v ∧ Q v H
theorem ix_list : IxR X (rIxL X.K) := by
  intro value slice pins s σ H x y v u Q I rx ry h hs
  obtain ⟨p, xs, i, z, rfl, rfl, hq, he, q⟩ := h
  cases rx
  obtain ⟨t, rfl⟩ := ry
  obtain ⟨its, r, pl, hz⟩ := I.list hq
  obtain ⟨j, h1, h2, h3, h4, h5⟩ := atI_get he
  obtain ⟨w, ew, rw'⟩ := r.get h2
  have hl := r.length
  have hn := line63
  have fin : EP X pins σ Q w s := ⟨z, H, I, rw', q⟩
  by_cases h0 : 0 ≤ i
  · have hj : i.toNat = j := by
      rw [seqIndex_of h0 h5] at h1
      exact Option.some.inj h1
    exact item_listR pl.isList h0 (by omega) (by rw [hj]; simpa using ew) fin hs
  · have hj : (i + (its.toArray.size : Int)).toNat = j := by
      rw [seqIndex_neg (by omega) h4] at h1
      rw [List.size_toArray, ← hl]
      exact Option.some.inj h1
    exact subscriptTail_builtinR (x := w) pl.isList.typeIs slot_list_getitem.lookup
      (wpAny_getItem_list_neg (Q := fun r s' => r = w ∧ EP X pins σ Q r s') pl.isList (by omega) (by rw [List.size_toArray] <;> omega) (by omega) (by rw [hj]; simpa using ew) ⟨rfl, fin⟩) hs
theorem ix_tup : IxR X (rIxT X.K) := by
  intro value slice pins s σ H x y v u Q I rx ry h hs
  obtain ⟨p, xs, i, z, rfl, rfl, hq, he, q⟩ := h
  cases rx
  obtain ⟨t, rfl⟩ := ry
  obtain ⟨its, r, pl, hz⟩ := I.tuple hq
  obtain ⟨j, h1, h2, h3, h4, h5⟩ := atI_get he
  obtain ⟨w, ew, rw'⟩ := r.get h2
  have hl := r.length
  have hn := line63
  have fin : EP X pins σ Q w s := ⟨z, H, I, rw', q⟩
  exact subscriptTail_builtinR (x := w) pl.typeIs slot_tuple_getitem.lookup
    (getItem_tuple (j := j) (Q := fun r s' => r = w ∧ EP X pins σ Q r s') pl (by omega) (by omega) (by rw [List.size_toArray, ← hl]; exact h1) (by simpa using ew) ⟨rfl, fin⟩) hs
theorem slice_bounds (lo hi : Option Int) (n : Nat) : (sliceBounds lo hi none n).1 = ((HT.sIx n 0 lo : Nat) : Int) ∧ (sliceBounds lo hi none n).2.1 = ((HT.sIx n n hi : Nat) : Int) ∧ (sliceBounds lo hi none n).2.2 = 1 := by
  refine ⟨?_, ?_, rfl⟩
  · cases lo with
    | none => simp [sliceBounds, HT.sIx]
    | some i =>
      simp only [sliceBounds, HT.sIx, Option.getD_none, show (1 : Int) > 0 by decide, if_true]
      by_cases h : i < 0
      · simp only [h, if_true] <;> omega
      · simp only [h, if_false] <;> omega
  · cases hi with
    | none => simp [sliceBounds, HT.sIx]
    | some i =>
      simp only [sliceBounds, HT.sIx, Option.getD_none, show (1 : Int) > 0 by decide, if_true]
      by_cases h : i < 0
      · simp only [h, if_true] <;> omega
      · simp only [h, if_false] <;> omega
theorem slicePick_cut (its : List Value) (lo hi : Option Int) : slicePick its.toArray lo hi none = ((its.drop (HT.sIx its.length 0 lo)).take (HT.sIx its.length its.length hi - HT.sIx its.length 0 lo)).toArray := by
  obtain ⟨h1, h2, h3⟩ := slice_bounds lo hi its.toArray.size
  unfold slicePick
  rw [h1, h2, h3]
  simp only [sliceRange_one, pick_run, List.size_toArray] <;> rfl
def rSlL (K : PySem.W.Frag) : V → Option Int → Option Int → Hp → VK → Prop := fun x lo hi H Q => ∃ a xs, x = .ref a ∧ SqL K H a xs ∧ ∀ p, H p = none → Q (.ref p) (upd H p (.lst (cutV xs lo hi)))
theorem sl_list : SlR X (rSlL X.K) := by
  intro pins s σ H x v vl vu lo hi sl Q I rx hs pl pu h
  obtain ⟨a, xs, rfl, hx, q⟩ := h
  cases rx
  obtain ⟨its, r, ht, hz⟩ := I.list hx
  have hlen := r.length
  refine ⟨"list", _, slot_list_getitem.lookup, ht.isList.typeIs, ?_⟩
  refine wpAny_getItem_list_slice ht.isList hs pl pu .none (by simp) ?_ (by rw [List.size_toArray] <;> omega)
  rw [slicePick_cut, ← hlen]
  refine ⟨.ref s.heap.objs.size, _, I.laid (t' := s.toks) (o := .lst (cutV xs lo hi)) (fun b ob q => Heap.get?_push_of_some _ q) (Nat.le_refl _) ?_, rfl, q _ (I.hok.fresh (Nat.le_refl _))⟩
  exact ⟨Nat.le_trans (cutV_length xs lo hi) hz, _, 0, (r.drop (HT.sIx xs.length 0 lo)).take (HT.sIx xs.length xs.length hi - HT.sIx xs.length 0 lo), Heap.get?_push_size _ rfl⟩
def flatV : V → Bool
  | .non => true
  | .bl _ => true
  | .int _ => true
  | .str _ => true
  | _ => false
def eqV : V → V → Bool
  | .non, .non => true
  | .bl a, .bl b => a == b
  | .bl a, .int b => (if a then 1 else 0) == b
  | .int a, .bl b => a == (if b then 1 else 0)
  | .int a, .int b => a == b
  | .str a, .str b => a == b
  | _, _ => false
theorem eqAt_V {A : Around} {s : Shared} {y x : V} {u v : Value} (ry : RelV y u) (rx : RelV x v) (fy : flatV y = true) (fx : flatV x = true) : SeqAt.EqAt A s u v (eqV y x) := by
  cases y with
  | non =>
    cases ry
    cases x with
    | non => cases rx; exact SeqAt.EqAt.same _
    | bl b => cases rx; exact SeqAt.EqAt.none_bool b
    | int b => obtain ⟨t, rfl⟩ := rx; exact SeqAt.EqAt.none_int b t
    | str b => obtain ⟨t, rfl⟩ := rx; exact SeqAt.EqAt.none_str b t
    | _ => exact absurd (show false = true from fx) Bool.false_ne_true
  | bl a =>
    cases ry
    cases x with
    | non => cases rx; exact SeqAt.EqAt.bool_none a
    | bl b => cases rx; exact SeqAt.EqAt.bool_bool a b
    | int b => obtain ⟨t, rfl⟩ := rx; exact SeqAt.EqAt.bool_int a b t
    | str b => obtain ⟨t, rfl⟩ := rx; exact SeqAt.EqAt.bool_str a b t
    | _ => exact absurd (show false = true from fx) Bool.false_ne_true
  | int a =>
    obtain ⟨t', rfl⟩ := ry
    cases x with
    | non => cases rx; exact SeqAt.EqAt.int_none a t'
    | bl b => cases rx; exact SeqAt.EqAt.int_bool a t' b
    | int b => obtain ⟨t, rfl⟩ := rx; exact SeqAt.EqAt.int_int a t' b t
    | str b => obtain ⟨t, rfl⟩ := rx; exact SeqAt.EqAt.int_str a t' b t
    | _ => exact absurd (show false = true from fx) Bool.false_ne_true
  | str a =>
    obtain ⟨t', rfl⟩ := ry
    cases x with
    | non => cases rx; exact SeqAt.EqAt.str_none a t'
    | bl b => cases rx; exact SeqAt.EqAt.str_bool a t' b
    | int b => obtain ⟨t, rfl⟩ := rx; exact SeqAt.EqAt.str_int a t' b t
    | str b => obtain ⟨t, rfl⟩ := rx; exact SeqAt.EqAt.str_str a t' b t
    | _ => exact absurd (show false = true from fx) Bool.false_ne_true
  | _ => exact absurd (show false = true from fy) Bool.false_ne_true
def eqU (x : V) (u : Value) : Bool := match u with
  | .none => eqV .non x
  | .bool b => eqV (.bl b) x
  | .int i _ => eqV (.int i) x
  | .str z _ => eqV (.str z) x
  | _ => false
theorem eqU_of {x y : V} {u : Value} (r : RelV y u) (f : flatV y = true) : eqU x u = eqV y x := by
  cases y with
  | non => cases r; rfl
  | bl b => cases r; rfl
  | int i => obtain ⟨t, rfl⟩ := r; rfl
  | str z => obtain ⟨t, rfl⟩ := r; rfl
  | _ => exact absurd (show false = true from f) Bool.false_ne_true
theorem any_eqU {x : V} : ∀ {xs : List V} {us : List Value}, Vals xs us → xs.all flatV = true → us.any (eqU x) = xs.any fun y => eqV y x
  | _, _, .nil, _ => rfl
  | y :: xs, u :: us, .cons r t, f => by
    rw [List.all_cons, Bool.and_eq_true] at f
    rw [List.any_cons, List.any_cons, eqU_of r f.1, any_eqU t f.2]
theorem mem_eqAt {A : Around} {s : Shared} {x : V} {v : Value} (rx : RelV x v) (fx : flatV x = true) : ∀ {xs : List V} {us : List Value}, Vals xs us → xs.all flatV = true → ∀ u ∈ us, SeqAt.EqAt A s u v (eqU x u)
  | _, _, .nil, _ => fun u hu => by cases hu
  | y :: xs, u :: us, .cons r t, f => fun u' hu => by
    rw [List.all_cons, Bool.and_eq_true] at f
    rcases List.mem_cons.mp hu with rfl | hu
    · rw [eqU_of r f.1]; exact eqAt_V r rx f.1 fx
    · exact mem_eqAt rx fx t f.2 u' hu
def inV (x : V) (xs : List V) : Bool := xs.any fun y => eqV y x
def rIn (K : PySem.W.Frag) (neg : Bool) : R2 := fun x y H Q => ∃ p xs, y = .ref p ∧ (SqL K H p xs ∨ SqT K H p xs) ∧ flatV x = true ∧ xs.all flatV = true ∧ Q (.bl (if neg then !inV x xs else inV x xs)) H
theorem op_notIn_seq : OpR X (compareOp .NotIn) (rIn X.K true) := by
  intro pins s σ H x y v u Q I rx ry h
  obtain ⟨p, xs, rfl, hq, fx, fs, q⟩ := h
  cases ry
  rcases hq with hq | hq
  · obtain ⟨its, r, pl, hz⟩ := I.list hq
    refine SeqAt.notIn_listAt (eqU x) pl.isList (fun w hw => mem_eqAt rx fx r fs w (by simpa using hw)) ⟨.bl _, H, I, rfl, ?_⟩
    rw [show its.toArray.any (eqU x) = its.any (eqU x) by simp, any_eqU r fs]
    exact q
  · obtain ⟨its, r, pl, hz⟩ := I.tuple hq
    refine SeqAt.notIn_tupleAt (eqU x) pl (fun w hw => mem_eqAt rx fx r fs w (by simpa using hw)) ⟨.bl _, H, I, rfl, ?_⟩
    rw [show its.toArray.any (eqU x) = its.any (eqU x) by simp, any_eqU r fs]
    exact q
theorem call_len_seq : CallR X (.builtin "len") (fun xs H Q => ∃ p ys, xs = [.ref p] ∧ (SqL X.K H p ys ∨ SqT X.K H p ys) ∧ Q (.int ys.length) H) := by
  intro pins s σ H xs us Q I r h
  obtain ⟨p, ys, rfl, hq, q⟩ := h
  obtain ⟨u, rfl, rx⟩ := vals1 r
  cases rx
  have hn := line63
  rcases hq with hq | hq
  · obtain ⟨its, r', pl, hz⟩ := I.list hq
    have hlen := r'.length
    exact Calls.call_len_list pl.isList (by simp only [List.size_toArray] <;> omega) ⟨.int ys.length, H, I.tok _, ⟨s.toks + 1, by rw [List.size_toArray, hlen]⟩, q⟩
  · obtain ⟨its, r', pl, hz⟩ := I.tuple hq
    have hlen := r'.length
    exact len_tuple pl (by simp only [List.size_toArray] <;> omega) ⟨.int ys.length, H, I.tok _, ⟨s.toks + 1, by rw [List.size_toArray, hlen]⟩, q⟩
theorem call_list_of : CallR X (.type "list") (fun xs H Q => ∃ p ys, xs = [.ref p] ∧ (SqL X.K H p ys ∨ SqT X.K H p ys) ∧ ∀ l, H l = none → Q (.ref l) (upd H l (.lst ys))) := by
  intro pins s σ H xs us Q I r h
  obtain ⟨p, ys, rfl, hq, q⟩ := h
  obtain ⟨u, rfl, rx⟩ := vals1 r
  cases rx
  have fin : ∀ (its : List Value), Vals ys its → ys.length ≤ sizeLine → ∀ (h' : Heap) (c' : Nat), (∀ b o', s.heap.get? b = some o' → h'.get? b = some o') →
      h'.get? s.heap.objs.size = some { cls := .type "list", dict := none, data := .seq its.toArray c', slots := #[] } → EP X pins σ Q (.ref s.heap.objs.size) { s with heap := h' } := fun its r' hz h' c' kp e =>
    ⟨.ref s.heap.objs.size, _, I.laid (t' := s.toks) kp (Nat.le_refl _) (show ObjOk X.prog X.w _ h' _ (.lst ys) from ⟨hz, its, c', r', e⟩), rfl, q _ (I.hok.fresh (Nat.le_refl _))⟩
  rcases hq with hq | hq
  · obtain ⟨its, r', pl, hz⟩ := I.list hq
    have hlen := r'.length
    obtain ⟨o, ho, hc, n, hd⟩ := pl.isList
    exact call_list_seq p (.inl rfl) ho hc hd (fun h' c' kp e => fin its r' hz h' c' kp e) (by simp only [List.size_toArray] <;> omega)
  · obtain ⟨its, r', pl, hz⟩ := I.tuple hq
    have hlen := r'.length
    obtain ⟨o, ho, hc, n, hd⟩ := pl
    exact call_list_seq p (.inr rfl) ho hc hd (fun h' c' kp e => fin its r' hz h' c' kp e) (by simp only [List.size_toArray] <;> omega)
def tyV (K : PySem.W.Frag) (T : String) (x : V) (H : Hp) : Prop := match x with
  | .str _ => T = "str"
  | .int _ => T = "int"
  | .ref p => (T = "list" ∧ ∃ xs, SqL K H p xs) ∨ (T = "tuple" ∧ ∃ o, K.lookup p = some o ∧ o.cls = .type "tuple" ∧ o.dict = none) ∨
      (T = "dict" ∧ ((∃ kvs, H p = some (.dK kvs)) ∨ ∃ kvs, H p = some (.dT kvs))) ∨ (T = "set" ∧ ∃ S n, H p = some (.set S n))
  | _ => False
theorem tyV_is {pins : List (Addr × Obj)} {σ : St} {H : Hp} {s : Shared} {T : String} {x : V} {v : Value} (I : Inv X pins σ H s) (r : RelV x v) (ty : tyV X.K T x H) :
    s.TypeIs v T ∧ ∀ a, v = .ref a → ∃ ob, s.heap.get? a = some ob ∧ ob.dict = none := by
  cases x with
  | str z =>
    obtain ⟨t, rfl⟩ := r
    cases (show T = "str" from ty)
    exact ⟨typeIs_str s z t, fun _ e => nomatch e⟩
  | int i =>
    obtain ⟨t, rfl⟩ := r
    cases (show T = "int" from ty)
    exact ⟨typeIs_int s i t, fun _ e => nomatch e⟩
  | ref p =>
    cases r
    rcases ty with ⟨rfl, xs, hq⟩ | ⟨rfl, o, hk, hc, hd⟩ | ⟨rfl, hk⟩ | ⟨rfl, S, n, hk⟩
    · obtain ⟨its, _, pl, _⟩ := I.list hq
      refine ⟨pl.isList.typeIs, fun a e => ?_⟩
      cases e
      obtain ⟨o, n, e, c, hd, _⟩ := pl
      exact ⟨o, e, hd⟩
    · refine ⟨⟨o, I.kIn p o hk, hc⟩, fun a e => ?_⟩
      cases e
      exact ⟨o, I.kIn _ o hk, hd⟩
    · have z : ∃ o, s.heap.get? p = some o ∧ o.ExactDict := by
        rcases hk with ⟨kvs, hk⟩ | ⟨kvs, hk⟩
        · obtain ⟨_, _, _, _, o, _, _, e, ex, _⟩ := I.hok p _ hk
          exact ⟨o, e, ex⟩
        · obtain ⟨_, _, _, _, o, _, _, e, ex, _⟩ := I.hok p _ hk
          exact ⟨o, e, ex⟩
      obtain ⟨o, e, ex⟩ := z
      refine ⟨⟨o, e, ex.1⟩, fun a e2 => ?_⟩
      cases e2
      exact ⟨o, e, ex.2.1⟩
    · obtain ⟨o, _, _, _, e, ex, _⟩ := I.hok p _ hk
      refine ⟨⟨o, e, ex.1⟩, fun a e2 => ?_⟩
      cases e2
      exact ⟨o, e, ex.2.1⟩
  | _ => exact False.elim ty
def tBM (K : PySem.W.Frag) (T : String) (r : V → List V → Hp → VK → Prop) (to : TE) (t : TA) : TE := fun σ H Q => to σ H fun x H1 => tyV K T x H1 ∧ t σ H1 fun xs H2 => r x xs H2 Q
variable {o e : Expr} {es : List Expr} {to : TE} {t : TA} {name : Str} {apos cpos : Pos} {T id : String} {r : V → List V → Hp → VK → Prop}
theorem pe_bm (pa : PlainAttrs T) (slot : Slot T name id) (hty : typeOf (.builtin id) = pure (.type "method_descriptor")) (hm : MtR X id r) (ho : PE X o to) (ha : PA X (e :: es) t)
    (hbase : attributeBase o name X.env (eval o X.env) = eval o X.env := by rfl)
    (hfew : ((backTo cpos (starEach (e :: es) X.env)).all (fun x => !x.1) && (backToKw cpos (keywordEach [] X.env)).all (fun x => x.1.isSome)
      && decide ((e :: es).length + ([] : List Keyword).length + (if ([] : List Keyword).isEmpty then 0 else 1) < 30)) = true := by rfl)
    (hline : (apos.endLine == cpos.line) = true := by rfl) (hs : starEach (e :: es) X.env = (false, eval e X.env) :: starEach es X.env := by rfl) (hplain : (backTo cpos (starEach es X.env)).any (·.1) = false := by rfl) :
    PE X (.Call (.Attribute o name apos) (e :: es) [] cpos) (tBM X.K T r to t) := by
  intro pins s σ H Q I h
  refine wpAny_Call_method_late hbase hfew hline rfl (thn (ho pins s σ H _ I h) fun v s1 ⟨x, H1, I1, r1, ty, q1⟩ => ?_)
  obtain ⟨h1, h2⟩ := tyV_is I1 r1 ty
  refine ⟨T, id, pa, slot, hty, h1, h2, ?_⟩
  have hA := ha cpos pins s1 σ H1 _ I1 q1
  rw [hs] at hA ⊢
  refine Calls.callWith_builtin (by show (false || (backTo cpos (starEach es X.env)).any (·.1)) = false; rw [hplain] <;> rfl) (Calls.evalArgs_plain ?_)
  exact thn hA fun us s2 ⟨vs, H2, I2, r2, q2⟩ => hm pins s2 σ H2 x vs v us Q I2 r1 r2 q2
end
end L2
namespace L2
open PySem PySem.Spec PyProof.Rows
def MtM (X : Cx) (id : String) (r : V → List V → Hp → VK → Prop) : Prop :=
  ∀ (pins : List (Addr × Obj)) (s : Shared) (σ : St) (H : Hp) (x : V) (xs : List V) (v : Value) (us : List Value) (Q : VK), Inv X pins σ H s → RelV x v → Vals xs us → r x xs H Q →
    wpAny (model X.prog X.w) X.A (call (.builtin id) (v :: us)) (EP X pins σ Q) X.xe s
theorem Vals.one : ∀ {x : V} {us : List Value}, Vals [x] us → ∃ u, us = [u] ∧ RelV x u
  | _, _, .cons r .nil => ⟨_, rfl, r⟩
theorem Vals.eraseIdx : ∀ {xs : List V} {us : List Value} (i : Nat), Vals xs us → Vals (xs.eraseIdx i) (us.eraseIdx i)
  | _, _, _, .nil => .nil
  | _, _, 0, .cons _ t => t
  | _, _, i + 1, .cons r t => .cons r (Vals.eraseIdx i t)
theorem len_erase {α : Type} : ∀ (l : List α) (i : Nat), (l.eraseIdx i).length ≤ l.length
  | [], _ => Nat.le_refl _
  | _ :: _, 0 => Nat.le_succ _
  | _ :: r, i + 1 => Nat.succ_le_succ (len_erase r i)
section
variable {X : Cx} {pins : List (Addr × Obj)} {σ : St} {H : Hp} {s : Shared} {l b : Addr} {xs ys zs : List V}
theorem Inv.lset {its its' : List Value} {n : Nat} {f : Array Value → Array Value} {t' : Nat} (I : Inv X pins σ H s) (hH : H l = some (.lst xs))
    (e : s.heap.get? l = some { cls := .type "list", data := .seq its.toArray n }) (hf : f its.toArray = its'.toArray) (hv : Vals ys its') (hz : ys.length ≤ sizeLine) :
    Inv X pins σ (upd H l (.lst ys)) { s with heap := s.heap.update l (Obj.mapSeq f), toks := t' } := by
  have q := PySem.IsL.update e f
  rw [hf] at q
  refine I.write (x := l) (e := l) (by rw [hH]; exact trivial) (.inl rfl) (fun b' u hb hu => (Heap.get?_update_other s.heap (Obj.mapSeq f) (Ne.symm hb)).trans hu) ⟨_, q⟩ ?_
  exact ⟨hz, its', _, hv, q⟩
theorem Inv.lnew {its : List Value} {t' : Nat} (I : Inv X pins σ H s) (hv : Vals ys its) (hz : ys.length ≤ sizeLine) :
    Inv X pins σ (upd H s.heap.objs.size (.lst ys)) { s with heap := s.heap.push { cls := .type "list", data := .seq its.toArray }, toks := t' } :=
  I.laid (fun _ _ q => Heap.get?_push_of_some _ q) (Nat.le_refl _) ⟨hz, its, 0, hv, Heap.get?_push_size _ rfl⟩
theorem Inv.fresh (I : Inv X pins σ H s) : H s.heap.objs.size = none := I.hok.fresh (Nat.le_refl _)
theorem Inv.lstM (I : Inv X pins σ H s) (hH : H l = some (.lst xs)) : xs.length ≤ sizeLine ∧ ∃ (its : List Value) (n : Nat), Vals xs its ∧ xs.length = its.length ∧ s.heap.get? l = some { cls := .type "list", data := .seq its.toArray n } := by
  obtain ⟨z, its, n, r, e⟩ := I.hok l _ hH
  exact ⟨z, its, n, r, r.length, e⟩
theorem notLongL {n : Nat} (h : n ≤ sizeLine) : Builtin.List.listTooLong n = false := by
  unfold Builtin.List.listTooLong
  exact decide_eq_false (by omega)
end
section
variable {X : Cx}
def rAppend : V → List V → Hp → VK → Prop := fun x vs H Q => ∃ l xs y, x = .ref l ∧ vs = [y] ∧ H l = some (.lst xs) ∧ xs.length < sizeLine ∧ Q .non (upd H l (.lst (xs ++ [y])))
theorem mt_append : MtM X "list.append" rAppend := by
  intro pins s σ H x vs v us Q I rx rv h
  obtain ⟨l, xs, y, rfl, rfl, hH, hz, q⟩ := h
  cases rx
  obtain ⟨u, rfl, ru⟩ := rv.one
  obtain ⟨z, its, n, r, hl, e⟩ := I.lstM hH
  refine call_meets F.slot_list_append ⟨_, e, rfl⟩ F.entry_list_append (F.args_list_append_2 _ _) (PySem.list_append l its.toArray n u (by rw [List.size_toArray]; omega)) ⟨e, ?_⟩
  refine ⟨.non, _, I.lset (its' := its ++ [u]) hH e (by simp) (r.append (.cons ru .nil)) ?_, rfl, q⟩
  rw [List.length_append, List.length_singleton]
  omega
def rExtend : V → List V → Hp → VK → Prop := fun x vs H Q => ∃ l b xs zs, x = .ref l ∧ vs = [.ref b] ∧ H l = some (.lst xs) ∧ H b = some (.lst zs) ∧ xs.length + zs.length ≤ sizeLine ∧ Q .non (upd H l (.lst (xs ++ zs)))
theorem mt_extend : MtM X "list.extend" rExtend := by
  intro pins s σ H x vs v us Q I rx rv h
  obtain ⟨l, b, xs, zs, rfl, rfl, hH, hB, hz, q⟩ := h
  cases rx
  obtain ⟨u, rfl, ru⟩ := rv.one
  cases ru
  obtain ⟨z, its, n, r, hl, e⟩ := I.lstM hH
  obtain ⟨z2, its2, n2, r2, hl2, e2⟩ := I.lstM hB
  have hsz : its.toArray.size + its2.toArray.size ≤ sizeLine := by rw [List.size_toArray, List.size_toArray]; omega
  have hlong : ¬ (!its.toArray.isEmpty && Builtin.List.listTooLong (its.toArray.size + its2.toArray.size)) = true := by
    rw [notLongL hsz, Bool.and_false]
    exact Bool.false_ne_true
  refine call_meets F.slot_list_extend ⟨_, e, rfl⟩ F.entry_list_extend (F.args_list_extend_2 _ _)
    (AutoSeq1.list_extend_list_list_0 l its.toArray n b its2.toArray n2 hlong (by rw [List.size_toArray]; omega) (by omega)) ⟨e, e2, ?_⟩
  refine ⟨.non, _, I.lset (its' := its ++ its2) hH e (by simp) (r.append r2) ?_, rfl, q⟩
  rw [List.length_append]
  omega
def rPopAt : V → List V → Hp → VK → Prop := fun x vs H Q => ∃ l xs i k y, x = .ref l ∧ vs = [.int i] ∧ H l = some (.lst xs) ∧ -(2 ^ 63) ≤ i ∧ i < 2 ^ 63 ∧ seqIndex? i xs.length = some k ∧ xs[k]? = some y ∧ Q y (upd H l (.lst (xs.eraseIdx k)))
theorem mt_popAt : MtM X "list.pop" rPopAt := by
  intro pins s σ H x vs v us Q I rx rv h
  obtain ⟨l, xs, i, k, y, rfl, rfl, hH, h1, h2, hk, hy, q⟩ := h
  cases rx
  obtain ⟨u, rfl, ru⟩ := rv.one
  obtain ⟨t, rfl⟩ := ru
  obtain ⟨z, its, n, r, hl, e⟩ := I.lstM hH
  obtain ⟨w, hw, rw'⟩ := r.get hy
  refine call_meets F.slot_list_pop ⟨_, e, rfl⟩ F.entry_list_pop (F.args_list_pop_2 _ _)
    (MeetsSeq.list_pop_at l its.toArray n i t k w (fitsIndex_both h1 h2) (by rw [List.size_toArray, ← hl]; exact hk) (by rw [← Array.getElem?_toList]; exact hw) (by rw [List.size_toArray]; omega)) ⟨e, ?_⟩
  refine ⟨y, _, I.lset (its' := its.eraseIdx k) hH e ?_ (r.eraseIdx k) ?_, rw', q⟩
  · show its.toArray.eraseIdxIfInBounds k = (its.eraseIdx k).toArray
    rw [List.eraseIdxIfInBounds_toArray]
  · have := len_erase xs k
    omega
def rCat : R2 := fun x y H Q => ∃ l b xs zs, x = .ref l ∧ y = .ref b ∧ H l = some (.lst xs) ∧ H b = some (.lst zs) ∧ xs.length + zs.length ≤ sizeLine ∧ ∀ p, H p = none → Q (.ref p) (upd H p (.lst (xs ++ zs)))
theorem op_cat : OpR X (binaryOp .Add) rCat := by
  intro pins s σ H x y v u Q I rx ry h
  obtain ⟨l, b, xs, zs, rfl, rfl, hH, hB, hz, q⟩ := h
  cases rx
  cases ry
  obtain ⟨z, its, n, r, hl, e⟩ := I.lstM hH
  obtain ⟨z2, its2, n2, r2, hl2, e2⟩ := I.lstM hB
  refine PySem.P.add_list e e2 ?_ (by rw [List.size_toArray, List.size_toArray]; omega)
  have ea : its.toArray ++ its2.toArray = (its ++ its2).toArray := by simp
  rw [ea]
  exact ⟨.ref _, _, I.lnew (t' := s.toks) (r.append r2) (by rw [List.length_append]; omega), rfl, q _ I.fresh⟩
end
section
variable {prog : Program} {w : World} {A : Around} {E : Value → Shared → Prop} {s : Shared}
set_option maxRecDepth 100000 in
end
section
variable {X : Cx}
end
end L2
namespace L2
open PySem PySem.Spec PyProof.Rows
theorem Vals.ints : ∀ {ns : List Int} {us : List Value}, Vals (ns.map V.int) us → IntsAre us ns
  | [], us, h => by
    rw [List.map_nil] at h
    cases h
    exact IntsAre.nil
  | n :: ns, us, h => by
    rw [List.map_cons] at h
    cases h with
    | cons r t =>
      obtain ⟨k, rfl⟩ := r
      exact IntsAre.cons n k (Vals.ints t)
theorem vals_of_ints : ∀ {us : List Value} {ns : List Int}, IntsAre us ns → Vals (ns.map V.int) us
  | _, _, .nil => by rw [List.map_nil]; exact Paired.nil
  | _, _, .cons n t h => by rw [List.map_cons]; exact Paired.cons (show RelV (V.int n) (Value.int n t) from ⟨t, rfl⟩) (vals_of_ints h)
theorem Vals.ref1 {a : Addr} {us : List Value} (r : Vals [V.ref a] us) : us = [Value.ref a] := by
  cases r with
  | cons r t =>
    cases t
    cases r
    rfl
section
variable {prog : Program} {w : World} {A : Around} {E : Value → Shared → Prop} {s : Shared} {l : Addr} {its : List Value} {ns : List Int} {Q : Value → Shared → Prop}
end
section
variable {X : Cx}
theorem small64 {n : Nat} (h : n < 64) : n ≤ sizeLine := by rw [sizeLine_eq]; omega
end
section
variable {X : Cx}
end
section
variable {X : Cx}
end
section
variable {X : Cx}
end
section
variable {X : Cx} {pins : List (Addr × Obj)} {σ : St} {H : Hp} {s : Shared}
end
section
variable {X : Cx}
end
end L2
namespace L2
open PySem PySem.Spec PyProof.Rows
abbrev CellAt (h : Heap) (c : Addr) (v : Option Value) : Prop := h.IsCell c v
def relS (scope sc : Scope) : Scope :=
  { scope with names := scope.names.map fun (n, k) => if (k == .free && sc.kind == .function && sc.names.lookup n == some .cell) then (n, .cell) else (n, k) }
def cloFrom (cells : List (Str × Addr)) : List (Str × NameKind) → List (Str × Addr) → List (Str × Addr)
  | [], acc => acc
  | (n, k) :: r, acc => if k == .free then cloFrom cells r ((n, (cells.lookup n).getD 0) :: acc) else cloFrom cells r acc
theorem closure_loop (env : Env) (f : Str × NameKind → List (Str × Addr) → Sem (ForInStep (List (Str × Addr))))
    (hf : ∀ n k c, f (n, k) c = if k == .free then (do let a ← cellOf env n; pure (.yield ((n, a) :: c))) else pure (.yield c)) :
    ∀ (names : List (Str × NameKind)) (acc : List (Str × Addr)), (∀ y ∈ names, y.2 = .free → ∃ c, env.cells.lookup y.1 = some c) → forIn names acc f = pure (cloFrom env.cells names acc)
  | [], acc, _ => by rw [List.forIn_nil]; rfl
  | (n, k) :: r, acc, h => by
    rw [List.forIn_cons, hf]
    have ih := fun acc => closure_loop env f hf r acc fun y hy => h y (List.mem_cons_of_mem _ hy)
    unfold cloFrom
    by_cases hk : (k == NameKind.free) = true
    · rw [if_pos hk, if_pos hk]
      obtain ⟨c, hc⟩ := h (n, k) List.mem_cons_self (by simpa using hk)
      have e : cellOf env n = pure c := by unfold cellOf; rw [hc]
      rw [e]
      have e2 : (env.cells.lookup n).getD 0 = c := by rw [hc]; rfl
      rw [e2]
      exact ih _
    · rw [if_neg hk, if_neg hk]
      exact ih _
theorem closure_ok {scope : Scope} {env : Env} (h : ∀ y ∈ scope.names, y.2 = .free → ∃ c, env.cells.lookup y.1 = some c) : closureFor scope env = pure (cloFrom env.cells scope.names []) := by
  simp only [closureFor]
  rw [closure_loop env _ (fun n k c => rfl) scope.names [] h]
  rfl
theorem mem_lookup {α : Type} : ∀ {l : List (Str × α)} {n : Str} {c : α}, (n, c) ∈ l → ∃ c', l.lookup n = some c'
  | (k, v) :: r, n, c, h => by
    rw [List.lookup_cons]
    cases hb : n == k with
    | true => exact ⟨_, rfl⟩
    | false =>
      rcases List.mem_cons.mp h with e | h
      · cases e; simp at hb
      · exact mem_lookup h
theorem cloFrom_mem {cells : List (Str × Addr)} : ∀ {names : List (Str × NameKind)} {acc : List (Str × Addr)} {n : Str} {c : Addr}, (n, c) ∈ cloFrom cells names acc → (n, c) ∈ acc ∨ ((n, .free) ∈ names ∧ c = (cells.lookup n).getD 0)
  | [], _, _, _, h => .inl h
  | (m, k) :: r, acc, n, c, h => by
    unfold cloFrom at h
    split at h
    · rename_i hk
      have hk : k = .free := by simpa using hk
      rcases cloFrom_mem h with h | ⟨h1, h2⟩
      · rcases List.mem_cons.mp h with e | h
        · cases e; exact .inr ⟨hk ▸ List.mem_cons_self, rfl⟩
        · exact .inl h
      · exact .inr ⟨List.mem_cons_of_mem _ h1, h2⟩
    · rcases cloFrom_mem h with h | ⟨h1, h2⟩
      · exact .inl h
      · exact .inr ⟨List.mem_cons_of_mem _ h1, h2⟩
theorem cloFrom_acc {cells : List (Str × Addr)} : ∀ {names : List (Str × NameKind)} {acc : List (Str × Addr)} {p : Str × Addr}, p ∈ acc → p ∈ cloFrom cells names acc
  | [], _, _, h => h
  | (m, k) :: r, acc, p, h => by
    unfold cloFrom
    split
    · exact cloFrom_acc (List.mem_cons_of_mem _ h)
    · exact cloFrom_acc h
theorem cloFrom_has {cells : List (Str × Addr)} : ∀ {names : List (Str × NameKind)} {acc : List (Str × Addr)} {n : Str}, (n, .free) ∈ names → (n, (cells.lookup n).getD 0) ∈ cloFrom cells names acc
  | (m, k) :: r, acc, n, h => by
    unfold cloFrom
    rcases List.mem_cons.mp h with e | h
    · cases e
      exact cloFrom_acc List.mem_cons_self
    · split
      · exact cloFrom_has h
      · exact cloFrom_has h
theorem cells_mem : ∀ {names : List (Str × NameKind)} {h : Heap} {acc : List (Str × Addr)} {x : Str} {c : Addr}, (x, c) ∈ cellsFrom h.objs.size names acc →
    (x, c) ∈ acc ∨ ((x, .cell) ∈ names ∧ h.objs.size ≤ c ∧ CellAt (pushCells h names) c none)
  | [], _, _, _, _, h => .inl h
  | (n, k) :: r, h, acc, x, c, hm => by
    unfold cellsFrom at hm
    unfold pushCells
    split at hm
    · rename_i hk
      rw [if_pos hk]
      have hk : k = .cell := by simpa using hk
      rw [← Heap.size_push h { cls := .type "cell", data := .cell none }] at hm
      rcases cells_mem hm with hm | ⟨h1, h2, h3⟩
      · rcases List.mem_cons.mp hm with e | hm
        · cases e
          exact .inr ⟨hk ▸ List.mem_cons_self, Nat.le_refl _, _, pushCells_keeps r _ _ _ (Heap.get?_push_size _ rfl), rfl⟩
        · exact .inl hm
      · rw [Heap.size_push] at h2
        exact .inr ⟨List.mem_cons_of_mem _ h1, Nat.le_of_succ_le h2, h3⟩
    · rename_i hk
      rw [if_neg hk]
      rcases cells_mem hm with hm | ⟨h1, h2, h3⟩
      · exact .inl hm
      · exact .inr ⟨List.mem_cons_of_mem _ h1, h2, h3⟩
theorem cells_acc : ∀ {names : List (Str × NameKind)} {n : Nat} {acc : List (Str × Addr)} {p : Str × Addr}, p ∈ acc → p ∈ cellsFrom n names acc
  | [], _, _, _, h => h
  | (m, k) :: r, n, acc, p, h => by
    unfold cellsFrom
    split
    · exact cells_acc (List.mem_cons_of_mem _ h)
    · exact cells_acc h
theorem cells_has : ∀ {names : List (Str × NameKind)} {n : Nat} {acc : List (Str × Addr)} {x : Str}, (x, .cell) ∈ names → ∃ c, (x, c) ∈ cellsFrom n names acc
  | (m, k) :: r, n, acc, x, h => by
    unfold cellsFrom
    rcases List.mem_cons.mp h with e | h
    · cases e
      exact ⟨n, cells_acc List.mem_cons_self⟩
    · split
      · exact cells_has h
      · exact cells_has h
theorem cells_inj : ∀ {names : List (Str × NameKind)} {h : Heap} {acc : List (Str × Addr)} {x y : Str} {c : Addr}, (∀ p ∈ acc, p.2 < h.objs.size) → (∀ x y c, (x, c) ∈ acc → (y, c) ∈ acc → x = y) →
    (x, c) ∈ cellsFrom h.objs.size names acc → (y, c) ∈ cellsFrom h.objs.size names acc → x = y
  | [], _, _, _, _, _, _, hi, h1, h2 => hi _ _ _ h1 h2
  | (n, k) :: r, h, acc, x, y, c, hl, hi, h1, h2 => by
    unfold cellsFrom at h1 h2
    split at h1
    · rename_i hk
      rw [if_pos hk] at h2
      rw [← Heap.size_push h { cls := .type "cell", data := .cell none }] at h1 h2
      refine cells_inj (h := h.push _) (fun p hp => ?_) (fun x y c a b => ?_) h1 h2
      · rw [Heap.size_push]
        rcases List.mem_cons.mp hp with rfl | hp
        · exact Nat.lt_succ_self _
        · exact Nat.lt_succ_of_lt (hl p hp)
      · rcases List.mem_cons.mp a with e | a <;> rcases List.mem_cons.mp b with e' | b
        · cases e; cases e'; rfl
        · cases e; exact absurd (hl _ b) (Nat.lt_irrefl _)
        · cases e'; exact absurd (hl _ a) (Nat.lt_irrefl _)
        · exact hi _ _ _ a b
    · rename_i hk
      rw [if_neg hk] at h2
      exact cells_inj hl hi h1 h2
theorem newEnv_comp {M : Model} {A : Around} {E : Value → Shared → Prop} {s : Shared} {scope : Scope} {globals : Addr} {closure : List (Str × Addr)} {qual : Str} {func : Option Addr} {code : Value} {around : Env} {builtins : Addr} {Q : Env → Shared → Prop}
    (h : Q (newEnv scope s.heap.objs.size globals (cellsFrom (s.heap.objs.size + 1) scope.names closure) qual func code (some around) builtins)
      { s with heap := pushCells (s.heap.push { cls := .type "dict", data := .dict #[] }) scope.names }) :
    wpAny M A (newFunctionEnv scope globals closure [] qual func code (some around) builtins) Q E s := by
  simp only [newFunctionEnv, Option.isSome_some, if_true]
  refine wpAny_bind (wpAny_alloc ?_)
  refine wpAny_bind (wpAny_layCells _ (fun n k c => rfl) scope.names closure _ _ ?_)
  rw [show ({ s with heap := s.heap.push { cls := .type "dict", data := .dict #[] } } : Shared).heap.objs.size = s.heap.objs.size + 1 from Heap.size_push ..]
  rw [List.forIn_nil]
  exact wpAny_bind (wpAny_pure (wpAny_pure h))
theorem lookup_relS {sc : Scope} : ∀ {names : List (Str × NameKind)} {x : Str} {k : NameKind},
    (names.map fun (n, k) => if (k == NameKind.free && sc.kind == .function && sc.names.lookup n == some .cell) then (n, NameKind.cell) else (n, k)).lookup x = some k →
    ∃ k', names.lookup x = some k' ∧ (k = k' ∨ (k' = .free ∧ k = .cell))
  | [], _, _, h => by simp at h
  | (n, k₀) :: r, x, k, h => by
    have ih := @lookup_relS sc r x k
    have h' : List.lookup x ((if (k₀ == NameKind.free && sc.kind == .function && sc.names.lookup n == some .cell) = true then (n, NameKind.cell) else (n, k₀)) :: (r.map _)) = some k := h
    cases hx : x == n with
    | true =>
      simp only [List.lookup_cons, hx]
      by_cases hc : (k₀ == NameKind.free && sc.kind == .function && sc.names.lookup n == some .cell) = true
      · rw [if_pos hc] at h'
        simp only [List.lookup_cons, hx] at h'
        cases h'
        simp only [Bool.and_eq_true, beq_iff_eq] at hc
        exact ⟨k₀, rfl, .inr ⟨hc.1.1, rfl⟩⟩
      · rw [if_neg hc] at h'
        simp only [List.lookup_cons, hx] at h'
        cases h'
        exact ⟨_, rfl, .inl rfl⟩
    | false =>
      simp only [List.lookup_cons, hx]
      by_cases hc : (k₀ == NameKind.free && sc.kind == .function && sc.names.lookup n == some .cell) = true
      · rw [if_pos hc] at h'
        simp only [List.lookup_cons, hx] at h'
        exact ih h'
      · rw [if_neg hc] at h'
        simp only [List.lookup_cons, hx] at h'
        exact ih h'
structure BlkOk (N : List Str) (sc scope : Scope) (own : List (Str × Nat)) : Prop where
  kind : scope.kind = .function
  uniq : ∀ y ∈ scope.names, scope.names.lookup y.1 = some y.2
  ix : ∀ p ∈ own, N[p.2]? = some p.1
  free : ∀ y ∈ scope.names, y.2 = .free → sc.names.lookup y.1 = some .cell ∨ sc.names.lookup y.1 = some .free
  own : ∀ y ∈ scope.names, y.2 = .local ∨ y.2 = .cell → y.1 ∈ own.map (·.1) ∨ y.1 ∉ N
def wipe (σ : St) : List Nat → St
  | [] => σ
  | v :: vs => (wipe σ vs).set v none
theorem wipe_length (σ : St) : ∀ vs : List Nat, (wipe σ vs).length = σ.length
  | [] => rfl
  | v :: vs => by unfold wipe; rw [List.length_set, wipe_length σ vs]
theorem wipe_some {σ : St} {i : Nat} {x : V} : ∀ {vs : List Nat}, (wipe σ vs)[i]? = some (some x) → σ[i]? = some (some x) ∧ i ∉ vs
  | [], h => ⟨h, by simp⟩
  | v :: vs, h => by
    unfold wipe at h
    by_cases hi : v = i
    · subst hi
      by_cases hv : v < (wipe σ vs).length
      · rw [List.getElem?_set_self hv] at h; cases h
      · rw [List.getElem?_eq_none (by simpa using hv)] at h; cases h
    · rw [List.getElem?_set_ne hi] at h
      obtain ⟨h1, h2⟩ := wipe_some h
      exact ⟨h1, by simp only [List.mem_cons, not_or]; exact ⟨fun e => hi e.symm, h2⟩⟩
abbrev Cx.blk (X : Cx) (s : Shared) (H : Hp) (scope : Scope) (cenv : Env) (fp : List Addr) : Cx := { X with s_0 := s, H_0 := H, env := cenv, outer := X.stack, ex := fp, fn := fun x => scope.names.lookup x == some .cell, pn := [], xe := fun _ _ => False }
section
variable {X : Cx} {pins : List (Addr × Obj)} {σ : St} {H : Hp} {s : Shared}
theorem block_start {scope : Scope} {own : List (Str × Nat)} {fp : List Addr} (I : Inv X pins σ H s) (ok : BlkOk X.N X.env.scope scope own) (hN : X.N.Nodup) (hfp : ∀ b ∈ fp, FpOk X pins H b ∧ b < s.heap.objs.size) :
    Inv (X.blk s H scope (compEnvC scope (cellsFrom (s.heap.objs.size + 1) scope.names (cloFrom X.env.cells scope.names [])) s.heap.objs.size X.env) fp) [] (wipe σ (own.map (·.2))) H { s with heap := pushCells (s.heap.push { cls := .type "dict", data := .dict #[] }) scope.names } := by
  have hfree : ∀ y ∈ scope.names, y.2 = .free → ∃ c, X.env.cells.lookup y.1 = some c := fun y hy e => by
    rcases ok.free y hy e with k | k
    · exact I.ok.has _ (.inl k)
    · exact I.ok.has _ (.inr k)
  generalize hcenv : compEnvC scope (cellsFrom (s.heap.objs.size + 1) scope.names (cloFrom X.env.cells scope.names [])) s.heap.objs.size X.env = cenv
  have kp : ∀ b o, s.heap.get? b = some o → (pushCells (s.heap.push { cls := .type "dict", data := .dict #[] }) scope.names).get? b = some o := fun b o e => pushCells_keeps _ _ _ _ (Heap.get?_push_of_some _ e)
  have hL : cenv.locals = s.heap.objs.size := by rw [← hcenv]; rfl
  have hcl : cenv.cells = cellsFrom (s.heap.objs.size + 1) scope.names (cloFrom X.env.cells scope.names []) := by rw [← hcenv]; rfl
  have hsc : cenv.scope = relS scope X.env.scope := by rw [← hcenv]; rfl
  rw [← Heap.size_push s.heap { cls := .type "dict", data := .dict #[] }] at hcl
  have cm : ∀ {y c}, (y, c) ∈ cloFrom X.env.cells scope.names [] → X.env.cells.lookup y = some c ∧ c < s.heap.objs.size := fun {y c} hm => by
    rcases cloFrom_mem hm with hm | ⟨h1, rfl⟩
    · cases hm
    · obtain ⟨c, hc⟩ := hfree _ h1 rfl
      rw [hc]
      obtain ⟨w, z⟩ := I.cell _ _ hc
      exact ⟨rfl, z.lt⟩
  have mem : ∀ {y c}, cenv.cells.lookup y = some c → (X.env.cells.lookup y = some c ∧ c < s.heap.objs.size) ∨ (s.heap.objs.size + 1 ≤ c ∧ CellAt (pushCells (s.heap.push { cls := .type "dict", data := .dict #[] }) scope.names) c none) := fun {y c} e => by
    rw [hcl] at e
    rcases cells_mem (PySem.mem_of_lookup e) with hm | ⟨_, h2, h3⟩
    · exact .inl (cm hm)
    · rw [Heap.size_push] at h2; exact .inr ⟨h2, h3⟩
  have look : ∀ {y}, scope.names.lookup y = some .free → ∃ c, cenv.cells.lookup y = some c ∧ X.env.cells.lookup y = some c := fun {y} hl => by
    have hy : (y, NameKind.free) ∈ scope.names := PySem.mem_of_lookup hl
    obtain ⟨c', e'⟩ := mem_lookup (cells_acc (names := scope.names) (n := (s.heap.push { cls := .type "dict", data := .dict #[] }).objs.size) (cloFrom_has (cells := X.env.cells) (acc := []) hy))
    rw [← hcl] at e'
    refine ⟨c', e', ?_⟩
    rw [hcl] at e'
    rcases cells_mem (PySem.mem_of_lookup e') with hm | ⟨h1, _, _⟩
    · exact (cm hm).1
    · have := ok.uniq _ h1
      rw [hl] at this; cases this
  have okB : (X.blk s H scope cenv fp).Ok := by
    refine ⟨I.ok.mod, by show cenv.scope.kind = _; rw [hsc]; exact ok.kind, by show cenv.globals = _; rw [← hcenv]; exact I.ok.glob, by show cenv.builtins = _; rw [← hcenv]; exact I.ok.blt, by show s.heap.objs.size ≤ cenv.locals; rw [hL]; exact Nat.le_refl _,
      fun y z c e1 e2 => ?_, fun y hy => ?_, fun y c z e => ?_, I.ok.hd, I.ok.frames, .inl rfl, fun b hb => ⟨?_, fun y c e z => ?_⟩, I.bs, Nat.le_trans I.ok.bsz I.sz, fun b o e hb => ?_, fun b hb z => ?_, I.stack, I.stkFree⟩
    · have e1 : cenv.cells.lookup y = some c := e1
      have e2 : cenv.cells.lookup z = some c := e2
      rw [hcl] at e1 e2
      refine cells_inj (fun p hp => ?_) (fun y z c a b => I.ok.inj y z c (cm a).1 (cm b).1) (PySem.mem_of_lookup e1) (PySem.mem_of_lookup e2)
      rw [Heap.size_push]
      exact Nat.lt_succ_of_lt (cm (y := p.1) (c := p.2) hp).2
    · show ∃ c, cenv.cells.lookup y = some c
      have key : ∀ k, cenv.kindOf y = some k → (k = .cell ∨ k = .free) → ∃ c, cenv.cells.lookup y = some c := fun k hk hk' => by
        unfold Env.kindOf at hk
        rw [hsc] at hk
        obtain ⟨k', e, r⟩ := lookup_relS hk
        have : k' = .cell ∨ k' = .free := by
          rcases r with rfl | ⟨rfl, _⟩
          · exact hk'
          · exact .inr rfl
        rcases this with rfl | rfl
        · obtain ⟨c, hm⟩ := cells_has (n := (s.heap.push { cls := .type "dict", data := .dict #[] }).objs.size) (acc := cloFrom X.env.cells scope.names []) (PySem.mem_of_lookup e)
          obtain ⟨c', e'⟩ := mem_lookup hm
          exact ⟨c', by rw [hcl]; exact e'⟩
        · obtain ⟨c, h1, _⟩ := look e
          exact ⟨c, h1⟩
      rcases hy with hy | hy
      · exact key _ hy (.inl rfl)
      · exact key _ hy (.inr rfl)
    · have z : (scope.names.lookup y == some NameKind.cell) = true := z
      have z : scope.names.lookup y = some .cell := by simpa using z
      have e : cenv.cells.lookup y = some c := e
      rw [hcl] at e
      rcases cells_mem (PySem.mem_of_lookup e) with hm | ⟨_, h2, _⟩
      · rcases cloFrom_mem hm with hm | ⟨h1, _⟩
        · cases hm
        · have q := ok.uniq _ h1
          rw [z] at q; cases q
      · rw [Heap.size_push] at h2
        exact Nat.le_of_succ_le h2
    · show b ≠ cenv.locals
      rw [hL]; exact Nat.ne_of_lt (hfp b hb).2
    · have e : cenv.cells.lookup y = some c := e
      rcases mem e with ⟨h1, _⟩ | ⟨h1, _⟩
      · exact (hfp b hb).1.2.2.2.2.1 y c h1 z
      · have h2 : s.heap.objs.size + 1 ≤ b := by rw [← z]; exact h1
        exact absurd (Nat.lt_of_lt_of_le (hfp b hb).2 (Nat.le_of_succ_le h2)) (Nat.lt_irrefl _)
    · rcases (hfp b hb).1.2.2.2.1 with z | z
      · exact I.ok.noex b o e z
      · exact absurd (Nat.lt_of_lt_of_le (Heap.lt_size e) (Nat.le_trans I.ok.bsz z)) (Nat.lt_irrefl _)
    · rcases List.mem_cons.mp (I.stkSub b z) with z | z
      · exact (hfp b hb).1.2.1 z
      · exact (hfp b hb).1.2.2.1 z
  refine ⟨okB, rfl, I.bare, Un.kept kp, ⟨fun _ => none, ?_, fun i y av e1 e2 e3 => ?_⟩, fun y c e => ?_, ?_, fun y c e => ?_, fun p hp => ?_, I.hok.kept kp, by rw [wipe_length]; exact I.len⟩
  · show Heap.Ns _ cenv.locals _
    rw [hL]
    exact Heap.Ns.keeps (Heap.Ns.new ..) fun b o e => pushCells_keeps _ _ _ _ e
  · obtain ⟨e2, hne⟩ := wipe_some e2
    have hfr : scope.names.lookup y = some .free ∧ (cenv.kindOf y = some .cell ∨ cenv.kindOf y = some .free) := by
      have key : ∀ k, cenv.scope.names.lookup y = some k → k = .local ∨ k = .cell ∨ k = .free → scope.names.lookup y = some .free ∧ (cenv.kindOf y = some .cell ∨ cenv.kindOf y = some .free) := fun k hk hk' => by
        have hk0 := hk
        rw [hsc] at hk
        obtain ⟨k', e, r⟩ := lookup_relS hk
        have no : ¬ (k' = .local ∨ k' = .cell) := fun hh => by
          rcases ok.own _ (PySem.mem_of_lookup e) hh with e' | e'
          · obtain ⟨p, hp, hpy⟩ := List.mem_map.mp e'
            have e3 := ok.ix p hp
            have : p.1 = y := hpy
            rw [this] at e3
            exact hne (List.mem_map.mpr ⟨p, hp, nodup_ix hN e3 e1⟩)
          · exact e' (List.mem_of_getElem? e1)
        rcases r with rfl | ⟨rfl, rfl⟩
        · rcases hk' with rfl | rfl | rfl
          · exact absurd (.inl rfl) no
          · exact absurd (.inr rfl) no
          · exact ⟨e, .inr hk0⟩
        · exact ⟨e, .inl hk0⟩
      have e3 : Vis cenv.scope y := e3
      rcases e3 with e3 | e3 | e3
      · exact key _ e3 (.inl rfl)
      · exact key _ e3 (.inr (.inl rfl))
      · exact key _ e3 (.inr (.inr rfl))
    obtain ⟨m, hn, hl⟩ := I.loc
    have hvis : Vis X.env.scope y := (ok.free _ (PySem.mem_of_lookup hfr.1) rfl).elim (fun k => .inr (.inl k)) (fun k => .inr (.inr k))
    obtain ⟨w, r, q⟩ := hl i y av e1 e2 hvis
    refine ⟨w, r, .inr ⟨hfr.2, ?_⟩⟩
    obtain ⟨c, h1, h2⟩ := look hfr.1
    rcases q with ⟨k, _⟩ | ⟨_, c', e', z⟩
    · have k : X.env.scope.names.lookup y = some .local := k
      rcases ok.free _ (PySem.mem_of_lookup hfr.1) rfl with k' | k' <;> rw [show X.env.scope.names.lookup y = _ from k'] at k <;> cases k
    · rw [h2] at e'; cases e'
      exact ⟨c, h1, z.keeps kp⟩
  · have e : cenv.cells.lookup y = some c := e
    rcases mem e with ⟨h1, _⟩ | ⟨_, z⟩
    · obtain ⟨w, z⟩ := I.cell y c h1
      exact ⟨w, z.keeps kp⟩
    · exact ⟨_, z⟩
  · show H cenv.locals = none
    rw [hL]; exact I.hok.fresh (Nat.le_refl _)
  · have e : cenv.cells.lookup y = some c := e
    rcases mem e with ⟨h1, _⟩ | ⟨h1, _⟩
    · exact I.freeC y c h1
    · exact I.hok.fresh (Nat.le_of_succ_le h1)
  · exact absurd (show p ∈ ([] : List (Addr × Obj)) ++ [] from hp) (by simp)
theorem app_ok {E : Value → Shared → Prop} {D : Addr} {xs : List V} {y : V} {v : Value} {Q : Value → Shared → Prop} (I : Inv X pins σ H s) (hD : H D = some (.lst xs)) (hz : xs.length < sizeLine) (r : RelV y v)
    (h : ∀ s', Inv X pins σ (upd H D (.lst (xs ++ [y]))) s' → Q .none s') : wpAny (model X.prog X.w) X.A (call (.builtin "list.append") [.ref D, v]) Q E s := by
  obtain ⟨hz', its, n, ri, e⟩ := I.hok D _ hD
  have hl := ri.length
  refine append_at (hsz := by rw [List.size_toArray]; omega) e fun h' sb ho' => ?_
  refine h { s with heap := h' } (I.write (t' := s.toks) (by rw [hD]; trivial) (.inl rfl) (fun b u hb q => (sb.2 b hb).trans q) ⟨_, ho'⟩ ⟨by rw [List.length_append]; exact hz, its ++ [v], n + 1, ri.append (.cons r .nil), ?_⟩)
  rw [ho']
  simp
def PTs (X : Cx) (ifs : List Expr) (t : TT) : Prop :=
  ∀ (pins : List (Addr × Obj)) (s : Shared) (σ : St) (H : Hp) (Q : Bool → Hp → Prop), Inv X pins σ H s → t σ H Q →
    wpAny (model X.prog X.w) X.A (forIn ifs true fun c r => if r = true then do let ok ← isTrue c X.env (eval c X.env); pure (ForInStep.yield ok) else pure (ForInStep.yield r)) (TP X pins σ Q) X.xe s
def tYes : TT := fun _ H Q => Q true H
theorem pts_nil : PTs X [] tYes := fun _ _ _ H _ I h => wpAny_tests_nil ⟨H, I, h⟩
theorem pts_one {c : Expr} {t : TT} (h : PT X c t) : PTs X [c] t := fun pins s σ H Q I hw => wpAny_tests_one (h pins s σ H Q I hw)
end
theorem thnF {α : Type} {t : Sem α} {Q Q' : α → Shared → Prop} {M : Model} {A : Around} {E : Value → Shared → Prop} {s : Shared} (h : wpAny M A t Q (fun _ _ => False) s) (hQ : ∀ a s, Q a s → Q' a s) : wpAny M A t Q' E s := wpAny_mono h hQ fun _ _ z => False.elim z
theorem compLoop_any {prog : Program} {w : World} {A : Around} {R : Result → Shared → Prop} {s : Shared} {elt target iter : Expr} {ifs : List Expr} {scope : Scope} {pos : Pos} {it acc : Value} {env : Env} (I : Nat → Shared → Prop)
    (turn : ∀ n s, I n s → wpAny (model prog w) A (pyNext it) (fun r s₁ => match r with
      | none => R (.ok .next) s₁
      | some v => wpAny (model prog w) A (letOwnedTupleGo target it v) (fun _ s₁' => wpAny (model prog w) A (assign target env v) (fun _ s₂ =>
          wpAny (model prog w) A (forIn ifs true fun c r => if r = true then do let ok ← isTrue c env (eval c env); pure (ForInStep.yield ok) else pure (ForInStep.yield r)) (fun ok s₃ =>
            if ok = true then wpAny (model prog w) A (eval elt env) (fun x s₄ =>
              wpAny (model prog w) A (call (.builtin "list.append") [acc, x]) (fun _ s₅ => ∃ m, m < n ∧ I m s₅) (notedBy (model prog w) A env fun e s' => R (.error e) s') s₄) (notedBy (model prog w) A env fun e s' => R (.error e) s') s₃
            else ∃ m, m < n ∧ I m s₃) (notedBy (model prog w) A env fun e s' => R (.error e) s') s₂) (notedBy (model prog w) A env fun e s' => R (.error e) s') s₁') (notedBy (model prog w) A env fun e s' => R (.error e) s') s₁) (notedBy (model prog w) A env fun e s' => R (.error e) s') s)
    (n : Nat) (h : I n s) :
    codeAny (model prog w) A (.compLoop (.ListComp elt [⟨target, iter, ifs, 0⟩] scope pos) 0 it acc env) R s := by
  refine codeAny_loop rfl I (fun n s hI => ?_) n h
  show wpAny _ A ((compTurn (.ListComp elt [⟨target, iter, ifs, 0⟩] scope pos) 0 it acc env).onRaise (fun x => do noteFrame x env; theTreesLotGoes x)) _ _ s
  refine wpAny_noted ?_
  rw [compTurn_list]
  refine wpAny_bind (wpAny_standAt (wpAny_bind (wpAny_mono (turn n s hI) (fun r s₁ h₁ => ?_) fun _ _ h' => h')))
  cases r with
  | none => exact wpAny_pure h₁
  | some v =>
    refine wpAny_bind (wpAny_mono h₁ (fun _ s₁' h₁' => ?_) fun _ _ h' => h')
    refine wpAny_bind (wpAny_mono h₁' (fun _ s₂ h₂ => wpAny_bind (wpAny_mono h₂ (fun ok s₃ h₃ => ?_) fun _ _ h' => h')) fun _ _ h' => h')
    cases ok with
    | false => exact wpAny_pure ⟨rfl, h₃⟩
    | true =>
      exact wpAny_bind (wpAny_bind (wpAny_mono h₃ (fun x s₄ h₄ => wpAny_bind (wpAny_mono h₄ (fun _ s₅ h₅ => wpAny_pure (wpAny_pure ⟨rfl, h₅⟩)) fun _ _ h' => h')) fun _ _ h' => h'))
section
variable {X : Cx}
def tLc (wi : TI) (g : TG) (tt : TT) (te : TE) (vs : List Nat) : TE := fun σ H Q => wi σ H fun J H1 => ∀ D, H1 D = none → ∃ W : Nat → Nat → Hp → Prop, (∃ m, W 0 m (upd H1 D (.lst []))) ∧ ∀ i m H, W i m H →
  (J.stop i H ∧ Q (.ref D) H) ∨ (J.go i H ∧ ∃ Nx : Hp → Prop, (∀ H', Nx H' → ∃ m', m' < m ∧ W (i + 1) m' H') ∧ ∀ x H', J.yld i H x H' → g x (wipe σ vs) H' fun σ2 H2 => wipe σ2 vs = wipe σ vs ∧ tt σ2 H2 fun b H3 =>
    if b = true then te σ2 H3 fun y H4 => ∃ acc, H4 D = some (.lst acc) ∧ acc.length < sizeLine ∧ Nx (upd H4 D (.lst (acc ++ [y]))) else Nx H3)
theorem lc_core {pins : List (Addr × Obj)} {s : Shared} {σ : St} {H : Hp} {Q : VK} {elt tg iter : Expr} {ifs : List Expr} {scope : Scope} {own : List (Str × Nat)} {pos pos' : Pos} {wi : TI} {g : TG} {tt : TT} {te : TE} {use : Option (Value → Sem Unit)} {Qf : Value → Shared → Prop}
    (hc : X.calm = true) (hN : X.N.Nodup) (I : Inv X pins σ H s) (hi : PI X tg iter wi) (ok : BlkOk X.N X.env.scope scope own)
    (hg : ∀ (s : Shared) (H : Hp) (C : Addr) (cl : List (Str × Addr)) (fp : List Addr), PG (X.blk s H scope (compEnvC scope cl C X.env) fp) tg g) (ht : ∀ (s : Shared) (H : Hp) (C : Addr) (cl : List (Str × Addr)) (fp : List Addr), PTs (X.blk s H scope (compEnvC scope cl C X.env) fp) ifs tt)
    (he : ∀ (s : Shared) (H : Hp) (C : Addr) (cl : List (Str × Addr)) (fp : List Addr), PE (X.blk s H scope (compEnvC scope cl C X.env) fp) elt te) (hs : ∀ x, foldedSetIterable iter X.env x = pure x)
    (h : tLc wi g tt te (own.map (·.2)) σ H Q)
    (hRR : ∀ D C s' m H', Inv X pins σ H' s' → Q (.ref D) H' → s'.heap.Ns C m → FpOk X pins H' C → compPost (model X.prog X.w) X.A X.xe use Qf (.ref D) C (.ok .next) s') :
    wpAny (model X.prog X.w) X.A (comprehension (.ListComp elt [⟨tg, iter, ifs, 0⟩] scope pos) scope X.env pos' (newList []) false (eval iter X.env) use) Qf X.xe s := by
  have hfree : ∀ y ∈ scope.names, y.2 = .free → ∃ c, X.env.cells.lookup y.1 = some c := fun y hy e => by
    rcases ok.free y hy e with k | k
    · exact I.ok.has _ (.inl k)
    · exact I.ok.has _ (.inr k)
  refine wpAny_comprehension_free (use := use) rfl hs (closure_ok hfree) ok.kind (fun y hy e => by rw [ok.uniq y hy, e])
    (thn (hi pins s σ H _ I h) fun xv s1 hx => thn hx fun itv s2 h2 => ?_)
  obtain ⟨it, fp, tn, J, H2, e, I2, T, st2, f2, q⟩ := h2
  subst e
  refine wpAny_newObj_type (newEnv_comp ?_) (by show 0 ≤ sizeLine; decide)
  generalize hD : s2.heap.objs.size = D
  have hDn : H2 D = none := I2.hok.fresh (Nat.le_of_eq hD)
  obtain ⟨W, ⟨m0, w0⟩, turn⟩ := q D hDn
  -- the new list
  generalize hs3 : ({ s2 with heap := s2.heap.push { cls := .type "list", data := .seq ([] : List Value).toArray } } : Shared) = s3
  have I3 : Inv X pins σ (upd H2 D (.lst [])) s3 := by
    rw [← hs3]
    refine I2.laid (t' := s2.toks) (fun b o e => Heap.get?_push_of_some _ e) (Nat.le_of_eq hD) ⟨Nat.zero_le _, [], 0, .nil, ?_⟩
    rw [← hD]
    exact Heap.get?_push_size _ rfl
  have h3 : s3.heap = s2.heap.push { cls := .type "list", data := .seq ([] : List Value).toArray } := by rw [← hs3]
  have sz : ∀ b ∈ fp, b < s2.heap.objs.size := fun b hb => by
    obtain ⟨o, e, _⟩ := T.obj _ _ st2 b hb
    exact Heap.lt_size e
  have f3 : ∀ b ∈ fp, FpOk X pins (upd H2 D (.lst [])) b ∧ b < s3.heap.objs.size := fun b hb => by
    have hlt := sz b hb
    refine ⟨⟨?_, (f2 b hb).2⟩, by rw [h3, Heap.size_push]; exact Nat.lt_succ_of_lt hlt⟩
    rw [upd_ne (by rw [← hD]; exact Nat.ne_of_lt hlt)]
    exact (f2 b hb).1
  have st3 : tn 0 s3.heap := T.keep _ _ _ st2 fun b _ o e => by rw [h3]; exact Heap.get?_push_of_some _ e
  have I4 := block_start I3 ok hN f3
  have pg := hg s3 (upd H2 D (.lst [])) s3.heap.objs.size (cellsFrom (s3.heap.objs.size + 1) scope.names (cloFrom X.env.cells scope.names [])) fp
  have pt := ht s3 (upd H2 D (.lst [])) s3.heap.objs.size (cellsFrom (s3.heap.objs.size + 1) scope.names (cloFrom X.env.cells scope.names [])) fp
  have pe := he s3 (upd H2 D (.lst [])) s3.heap.objs.size (cellsFrom (s3.heap.objs.size + 1) scope.names (cloFrom X.env.cells scope.names [])) fp
  show codeAny _ _ (.compStart (.ListComp elt [⟨tg, iter, ifs, 0⟩] scope pos) 0 (.ref it) (.ref D) (compEnvC scope (cellsFrom (s3.heap.objs.size + 1) scope.names (cloFrom X.env.cells scope.names [])) s3.heap.objs.size X.env)) (compPost (model X.prog X.w) X.A X.xe use Qf (.ref D) s3.heap.objs.size) { s3 with heap := pushCells (s3.heap.push { cls := .type "dict", data := .dict #[] }) scope.names }
  have nfp : ∀ b ∈ fp, (upd H2 D (.lst [])) b = none := fun b hb => (f3 b hb).1.1
  generalize hce : compEnvC scope (cellsFrom (s3.heap.objs.size + 1) scope.names (cloFrom X.env.cells scope.names [])) s3.heap.objs.size X.env = ce at I4 pg pt pe ⊢
  have cL : ce.locals = s3.heap.objs.size := by subst hce; rfl
  generalize hH3 : upd H2 D (.lst []) = H3 at I3 I4 pg pt pe w0 nfp f3
  generalize hs4 : ({ s3 with heap := pushCells (s3.heap.push { cls := .type "dict", data := .dict #[] }) scope.names } : Shared) = s4 at I4 ⊢
  have st4 : tn 0 s4.heap := T.keep _ _ _ st3 fun b _ o e => by rw [← hs4]; exact pushCells_keeps _ _ _ _ (Heap.get?_push_of_some _ e)
  have stat : ∀ {σ' : St} {H' : Hp} {s' : Shared}, Inv (X.blk s3 H3 scope ce fp) [] σ' H' s' → (∀ b ∈ fp, H' b = none) → ∀ b ∈ fp, FpOk (X.blk s3 H3 scope ce fp) [] H' b := fun {σ' H' s'} I' hn b hb =>
    ⟨hn b hb, (I'.ok.exf b hb).1, I'.ok.exfs b hb, .inl hb, fun x c e => (I'.ok.exf b hb).2 x c e, fun p hp => absurd (show p ∈ ([] : List (Addr × Obj)) ++ [] from hp) (by simp)⟩
  have loop : codeAny (model X.prog X.w) X.A (.compLoop (.ListComp elt [⟨tg, iter, ifs, 0⟩] scope pos) 0 (.ref it) (.ref D) ce) (compPost (model X.prog X.w) X.A X.xe use Qf (.ref D) s3.heap.objs.size) s4 := by
    refine compLoop_any (fun n s' => ∃ i H', Inv (X.blk s3 H3 scope ce fp) [] (wipe σ (own.map (·.2))) H' s' ∧ tn i s'.heap ∧ (∀ b ∈ fp, H' b = none) ∧ W i n H') ?_ m0 ⟨0, H3, I4, st4, nfp, w0⟩
    rintro n s5 ⟨i, H5, I5, st5, n5, w5⟩
    rcases turn i n H5 w5 with ⟨stop, qq⟩ | ⟨go, Nx, hNx, step⟩
    · have td := T.done (X.blk s3 H3 scope ce fp) rfl rfl rfl hc i [] s5 _ H5 (fun _ _ => False) I5 (stat I5 n5) st5 stop
      refine thnF td fun r s6 ⟨hr, I6⟩ => ?_
      subst hr
      -- back in the def's context
      have I7 : Inv X pins σ H5 s6 := I3.call' (ch := fp) I6.os I6.base I6.hok I6.bare fun b hb => ⟨(f3 b hb).1.2.2.2.1, (f3 b hb).1.2.1, (f3 b hb).1.2.2.2.2.1, (f3 b hb).1.2.2.2.2.2⟩
      have nC : H5 s3.heap.objs.size = none := by
        have z : H5 ce.locals = none := I6.free
        rw [cL] at z
        exact z
      obtain ⟨m, hn, _⟩ := I6.loc
      have hn : s6.heap.Ns ce.locals m := hn
      rw [cL] at hn
      exact hRR D s3.heap.objs.size s6 m H5 I7 qq hn (I3.fpOk (Nat.le_refl _) nC)
    · have ti := T.item (X.blk s3 H3 scope ce fp) rfl rfl rfl hc i [] s5 _ H5 (fun _ _ => False) I5 (stat I5 n5) st5 go
      refine thnF ti fun r s6 ⟨u, hr, h6⟩ => ?_
      subst hr
      refine thnF h6 fun _ s7 ⟨x, H7, I7, r7, y7, st7, n7⟩ => ?_
      have I7' := I7.pinned (stat I7 n7) (T.obj _ _ st7)
      refine thnF (pg _ s7 _ H7 x u _ I7' r7 (step x H7 y7)) fun _ s8 ⟨σ8, H8, I8, hw8, q8⟩ => ?_
      refine thnF (pt _ s8 σ8 H8 _ I8 q8) fun b s9 ⟨H9, I9, q9⟩ => ?_
      -- the turn's end
      have fin : ∀ {s' : Shared} {H' : Hp}, Inv (X.blk s3 H3 scope ce fp) ([] ++ pinsAt fp s7.heap) σ8 H' s' → Nx H' → ∃ m, m < n ∧ ∃ i H', Inv (X.blk s3 H3 scope ce fp) [] (wipe σ (own.map (·.2))) H' s' ∧ tn i s'.heap ∧ (∀ b ∈ fp, H' b = none) ∧ W i m H' := fun {s' H'} I' nx => by
        obtain ⟨m', hm, w'⟩ := hNx H' nx
        have pin' : ∀ b ∈ fp, ∀ o, s7.heap.get? b = some o → s'.heap.get? b = some o ∧ H' b = none := fun b hb o e =>
          let z := I'.pin (b, o) (List.mem_append_right _ (List.mem_append_right _ (mem_pinsAt hb e)))
          ⟨z.1, z.2.1⟩
        have hl : (wipe σ (own.map (·.2))).length = σ8.length := by rw [← hw8, wipe_length]
        refine ⟨m', hm, i + 1, H', (I'.unpinned (pins := [])).weak hl (fun j v e => ?_), T.keep _ _ _ st7 fun b hb o e => (pin' b hb o e).1, fun b hb => ?_, w'⟩
        · rw [← hw8] at e
          exact (wipe_some e).1
        · obtain ⟨o, e, _⟩ := T.obj _ _ st7 b hb
          exact (pin' b hb o e).2
      cases b with
      | false =>
        simp only [Bool.false_eq_true, if_false] at q9 ⊢
        exact fin I9 q9
      | true =>
        simp only [if_true] at q9 ⊢
        refine thnF (pe _ s9 σ8 H9 _ I9 q9) fun z s10 ⟨yv, H10, I10, r10, acc, hD10, hz10, nx⟩ => ?_
        exact app_ok (X := X.blk s3 H3 scope ce fp) I10 hD10 hz10 r10 fun s11 I11 => fin I11 nx
  exact codeAny_compStart_list loop (T.self X.A 0 _ _ _ st4 loop)
theorem pe_lc {elt tg iter : Expr} {ifs : List Expr} {scope : Scope} {own : List (Str × Nat)} {pos : Pos} {wi : TI} {g : TG} {tt : TT} {te : TE} (hc : X.calm = true) (hN : X.N.Nodup) (hi : PI X tg iter wi) (ok : BlkOk X.N X.env.scope scope own)
    (hg : ∀ (s : Shared) (H : Hp) (C : Addr) (cl : List (Str × Addr)) (fp : List Addr), PG (X.blk s H scope (compEnvC scope cl C X.env) fp) tg g) (ht : ∀ (s : Shared) (H : Hp) (C : Addr) (cl : List (Str × Addr)) (fp : List Addr), PTs (X.blk s H scope (compEnvC scope cl C X.env) fp) ifs tt)
    (he : ∀ (s : Shared) (H : Hp) (C : Addr) (cl : List (Str × Addr)) (fp : List Addr), PE (X.blk s H scope (compEnvC scope cl C X.env) fp) elt te) (hs : ∀ x, foldedSetIterable iter X.env x = pure x := by intro _; rfl) :
    PE X (.ListComp elt [⟨tg, iter, ifs, 0⟩] scope pos) (tLc wi g tt te (own.map (·.2))) := by
  intro pins s σ H Q I h
  rw [eval_ListComp]
  refine lc_core hc hN I hi ok hg ht he hs h fun D C s' m H' I' q hn f => ⟨m, hn, fun h'' sb => ?_⟩
  obtain ⟨f0, f1, f2, f3, f4, f5⟩ := f
  exact ⟨.ref D, H', I'.turned (t' := s'.toks) (fun b o hb e => (sb.2 b hb).trans e) f0 f1 f3 f4 f5, rfl, q⟩
end
theorem lc_range {lo : Int} {n : Nat} {g : TG} {tt : TT} {te : TE} {vs : List Nat} {σ : St} {H1 : Hp} {D : Addr} {Qd : Hp → Prop} (Pv : Nat → Hp → Prop) (h0 : Pv 0 (upd H1 D (.lst [])))
    (hs : ∀ i H, i < n → Pv i H → g (.int (lo + i)) (wipe σ vs) H fun σ2 H2 => wipe σ2 vs = wipe σ vs ∧ tt σ2 H2 fun b H3 =>
      if b = true then te σ2 H3 fun y H4 => ∃ acc, H4 D = some (.lst acc) ∧ acc.length < sizeLine ∧ Pv (i + 1) (upd H4 D (.lst (acc ++ [y]))) else Pv (i + 1) H3) (hd : ∀ H, Pv n H → Qd H) :
    ∃ W : Nat → Nat → Hp → Prop, (∃ m, W 0 m (upd H1 D (.lst []))) ∧ ∀ i m H, W i m H →
      ((Itr lo n).stop i H ∧ Qd H) ∨ ((Itr lo n).go i H ∧ ∃ Nx : Hp → Prop, (∀ H', Nx H' → ∃ m', m' < m ∧ W (i + 1) m' H') ∧ ∀ x H', (Itr lo n).yld i H x H' → g x (wipe σ vs) H' fun σ2 H2 => wipe σ2 vs = wipe σ vs ∧ tt σ2 H2 fun b H3 =>
        if b = true then te σ2 H3 fun y H4 => ∃ acc, H4 D = some (.lst acc) ∧ acc.length < sizeLine ∧ Nx (upd H4 D (.lst (acc ++ [y]))) else Nx H3) := by
  refine ⟨fun i m H => m = n - i ∧ i ≤ n ∧ Pv i H, ⟨n, by simp, Nat.zero_le _, h0⟩, ?_⟩
  rintro i m H ⟨rfl, hi, p⟩
  by_cases hlt : i < n
  · refine .inr ⟨hlt, Pv (i + 1), fun H' p' => ⟨n - (i + 1), by omega, rfl, hlt, p'⟩, fun x H' y => ?_⟩
    obtain ⟨e, y⟩ := y
    subst e y
    exact hs i _ hlt p
  · have e : i = n := by omega
    subst e
    exact .inl ⟨Nat.le_refl _, hd H p⟩
theorem lc_list {K : PySem.W.Frag} {a : Addr} {xs : List V} {g : TG} {tt : TT} {te : TE} {vs : List Nat} {σ : St} {H1 : Hp} {D : Addr} {Qd : Hp → Prop} (Pv : Nat → Hp → Prop) (h0 : Pv 0 (upd H1 D (.lst []))) (hl : ∀ i H, i ≤ xs.length → Pv i H → SqL K H a xs)
    (hs : ∀ i x H, xs[i]? = some x → Pv i H → g x (wipe σ vs) H fun σ2 H2 => wipe σ2 vs = wipe σ vs ∧ tt σ2 H2 fun b H3 =>
      if b = true then te σ2 H3 fun y H4 => ∃ acc, H4 D = some (.lst acc) ∧ acc.length < sizeLine ∧ Pv (i + 1) (upd H4 D (.lst (acc ++ [y]))) else Pv (i + 1) H3) (hd : ∀ H, Pv xs.length H → Qd H) :
    ∃ W : Nat → Nat → Hp → Prop, (∃ m, W 0 m (upd H1 D (.lst []))) ∧ ∀ i m H, W i m H →
      ((Itl K a).stop i H ∧ Qd H) ∨ ((Itl K a).go i H ∧ ∃ Nx : Hp → Prop, (∀ H', Nx H' → ∃ m', m' < m ∧ W (i + 1) m' H') ∧ ∀ x H', (Itl K a).yld i H x H' → g x (wipe σ vs) H' fun σ2 H2 => wipe σ2 vs = wipe σ vs ∧ tt σ2 H2 fun b H3 =>
        if b = true then te σ2 H3 fun y H4 => ∃ acc, H4 D = some (.lst acc) ∧ acc.length < sizeLine ∧ Nx (upd H4 D (.lst (acc ++ [y]))) else Nx H3) := by
  refine ⟨fun i m H => m = xs.length - i ∧ i ≤ xs.length ∧ Pv i H, ⟨xs.length, by simp, Nat.zero_le _, h0⟩, ?_⟩
  rintro i m H ⟨rfl, hi, p⟩
  have q := hl i H hi p
  by_cases hlt : i < xs.length
  · refine .inr ⟨⟨xs, xs[i], q, by simp [hlt]⟩, Pv (i + 1), fun H' p' => ⟨xs.length - (i + 1), by omega, rfl, hlt, p'⟩, fun x H' y => ?_⟩
    obtain ⟨e, y⟩ := y
    subst e
    exact hs i x _ (y xs q) p
  · have e : i = xs.length := by omega
    subst e
    exact .inl ⟨⟨xs, q, Nat.le_refl _⟩, hd H p⟩
def blkC (N : List Str) (sc scope : Scope) (own : List (Str × Nat)) : Bool :=
  (match scope.kind with | .function => true | _ => false) && (scope.names.all fun y => decide (scope.names.lookup y.1 = some y.2)) && (own.all fun p => decide (N[p.2]? = some p.1)) &&
    (scope.names.all fun y => match y.2 with
      | .free => (match sc.names.lookup y.1 with | some .cell => true | some .free => true | _ => false)
      | .local => decide (y.1 ∈ own.map (·.1)) || decide (y.1 ∉ N)
      | .cell => decide (y.1 ∈ own.map (·.1)) || decide (y.1 ∉ N)
      | _ => true)
theorem blkOk_by {N : List Str} {sc scope : Scope} {own : List (Str × Nat)} (h : blkC N sc scope own = true) : BlkOk N sc scope own := by
  unfold blkC at h
  simp only [Bool.and_eq_true, List.all_eq_true, decide_eq_true_eq] at h
  obtain ⟨⟨⟨h1, h2⟩, h3⟩, h4⟩ := h
  refine ⟨?_, h2, h3, fun y hy e => ?_, fun y hy e => ?_⟩
  · split at h1
    · assumption
    · cases h1
  · have q := h4 y hy
    simp only [e] at q
    split at q <;> first | exact .inl (by assumption) | exact .inr (by assumption) | cases q
  · have q := h4 y hy
    rcases e with e | e <;> (simp only [e, Bool.or_eq_true, decide_eq_true_eq] at q; exact q)
end L2
namespace L2
open PySem PySem.Spec PyProof.Rows
section
variable {prog : Program} {w : World} {A : Around} {R : Result → Shared → Prop} {s : Shared} {elt t0 i0 t1 i1 : Expr} {ifs0 ifs1 : List Expr} {scope : Scope} {pos : Pos} {it acc : Value} {env : Env}
end
section
variable {X : Cx}
end
end L2
namespace L2
open PySem PySem.Spec PyProof.Rows
section
variable {κ : Type} [DecidableEq κ]
def valV (kvs : List (κ × V)) (k : κ) : Option V := (kvs.find? fun kv => decide (kv.1 = k)).map (·.2)
def putK (kvs : List (κ × V)) (k : κ) (v : V) : List (κ × V) :=
  if (kvs.any fun kv => decide (kv.1 = k)) = true then kvs.map (fun kv => if kv.1 = k then (kv.1, v) else kv) else kvs ++ [(k, v)]
def dropK (kvs : List (κ × V)) (k : κ) : List (κ × V) := kvs.filter fun kv => decide (kv.1 ≠ k)
theorem valV_pos {p : κ × V} {r : List (κ × V)} {k : κ} (e : p.1 = k) : valV (p :: r) k = some p.2 := by simp [valV, List.find?_cons, e]
theorem valV_neg {p : κ × V} {r : List (κ × V)} {k : κ} (e : ¬ p.1 = k) : valV (p :: r) k = valV r k := by simp [valV, List.find?_cons, e]
theorem valV_any (k : κ) : ∀ kvs : List (κ × V), (kvs.any fun kv => decide (kv.1 = k)) = (valV kvs k).isSome
  | [] => rfl
  | p :: r => by
    rw [List.any_cons]
    by_cases e : p.1 = k
    · simp only [valV_pos e, decide_eq_true e, Bool.true_or, Option.isSome_some]
    · rw [valV_neg e, decide_eq_false e, Bool.false_or]; exact valV_any k r
theorem valV_map (k j : κ) (y : V) : ∀ kvs : List (κ × V), valV (kvs.map fun kv => if kv.1 = k then (kv.1, y) else kv) j = (valV kvs j).map fun x => if j = k then y else x
  | [] => rfl
  | p :: r => by
    have ih := valV_map k j y r
    rw [List.map_cons]
    by_cases h : p.1 = k
    · rw [if_pos h]
      by_cases e : p.1 = j
      · rw [valV_pos (p := (p.1, y)) e, valV_pos e, Option.map_some, if_pos (e.symm.trans h)]
      · rw [valV_neg (p := (p.1, y)) e, valV_neg e, ih]
    · rw [if_neg h]
      by_cases e : p.1 = j
      · rw [valV_pos (p := p) e, valV_pos e, Option.map_some, if_neg (fun z => h (e.trans z))]
      · rw [valV_neg (p := p) e, valV_neg e, ih]
theorem valV_snoc (k j : κ) (y : V) : ∀ kvs : List (κ × V), valV kvs k = none → valV (kvs ++ [(k, y)]) j = if j = k then some y else valV kvs j
  | [], _ => by
    by_cases e : k = j
    · rw [if_pos e.symm]; exact valV_pos (p := (k, y)) e
    · rw [if_neg (fun z => e z.symm)]; exact valV_neg (p := (k, y)) e
  | p :: r, hn => by
    rw [List.cons_append]
    have hk : ¬ p.1 = k := fun z => by rw [valV_pos z] at hn; cases hn
    rw [valV_neg hk] at hn
    have ih := valV_snoc k j y r hn
    by_cases e : p.1 = j
    · rw [valV_pos e, valV_pos e, if_neg (fun z => hk (e.trans z))]
    · rw [valV_neg e, valV_neg e, ih]
theorem valV_put (kvs : List (κ × V)) (k j : κ) (y : V) : valV (putK kvs k y) j = if j = k then some y else valV kvs j := by
  unfold putK
  by_cases a : (kvs.any fun kv => decide (kv.1 = k)) = true
  · rw [if_pos a, valV_map]
    rw [valV_any] at a
    by_cases e : j = k
    · obtain ⟨x, hx⟩ := Option.isSome_iff_exists.mp a
      rw [if_pos e, e, hx, Option.map_some, if_pos rfl]
    · rw [if_neg e]
      cases valV kvs j with
      | none => rfl
      | some x => rw [Option.map_some, if_neg e]
  · rw [if_neg a]
    refine valV_snoc k j y kvs ?_
    rw [valV_any] at a
    cases q : valV kvs k with
    | none => rfl
    | some x => rw [q] at a; exact (a rfl).elim
theorem length_putK (kvs : List (κ × V)) (k : κ) (v : V) : (putK kvs k v).length ≤ kvs.length + 1 := by
  unfold putK
  split
  · rw [List.length_map]; omega
  · rw [List.length_append, List.length_cons, List.length_nil]; omega
theorem putK_new {kvs : List (κ × V)} {k : κ} (v : V) (h : valV kvs k = none) : putK kvs k v = kvs ++ [(k, v)] := by
  unfold putK
  rw [valV_any, h]
  exact if_neg (by decide)
theorem RelO.isSome_eq {o : Option V} {u : Option Value} (r : RelO o u) : o.isSome = u.isSome := by
  cases o with
  | none => cases u with
    | none => rfl
    | some _ => exact (show False from r).elim
  | some _ => cases u with
    | none => exact (show False from r).elim
    | some _ => rfl
theorem RelO.getD {o : Option V} {u : Option Value} {d : V} {d' : Value} (r : RelO o u) (rd : RelV d d') : RelV (o.getD d) (u.getD d') := by
  cases o with
  | none => cases u with
    | none => exact rd
    | some _ => exact (show False from r).elim
  | some _ => cases u with
    | none => exact (show False from r).elim
    | some _ => exact r
theorem KV.val {kvs : List (κ × V)} {vs : List (κ × Value)} (r : KV kvs vs) (k : κ) : RelO (valV kvs k) (valueAt vs k) := by
  unfold KV at r
  induction r with
  | nil => exact True.intro
  | @cons p q ps qs h t ih =>
    obtain ⟨h1, h2⟩ := h
    by_cases e : p.1 = k
    · have e' : q.1 = k := h1.symm.trans e
      have b : valueAt (q :: qs) k = some q.2 := by simp [valueAt, List.find?_cons, e']
      rw [valV_pos e, b]; exact h2
    · have e' : ¬ q.1 = k := fun z => e (h1.trans z)
      have b : valueAt (q :: qs) k = valueAt qs k := by simp [valueAt, List.find?_cons, e']
      rw [valV_neg e, b]; exact ih
theorem KV.any {kvs : List (κ × V)} {vs : List (κ × Value)} (r : KV kvs vs) (k : κ) : (kvs.any fun kv => decide (kv.1 = k)) = vs.any fun kv => decide (kv.1 = k) := by
  unfold KV at r
  induction r with
  | nil => rfl
  | cons h t ih => rw [List.any_cons, List.any_cons, ih, h.1]
theorem KV.repl {kvs : List (κ × V)} {vs : List (κ × Value)} (r : KV kvs vs) (k : κ) {y : V} {u : Value} (ry : RelV y u) :
    KV (kvs.map fun kv => if kv.1 = k then (kv.1, y) else kv) (vs.map fun kv => if kv.1 = k then (kv.1, u) else kv) := by
  unfold KV at r ⊢
  induction r with
  | nil => exact .nil
  | @cons p q ps qs h t ih =>
    rw [List.map_cons, List.map_cons]
    refine .cons ?_ ih
    obtain ⟨h1, h2⟩ := h
    by_cases e : p.1 = k
    · rw [if_pos e, if_pos (h1.symm.trans e)]; exact ⟨h1, ry⟩
    · rw [if_neg e, if_neg (fun z => e (h1.trans z))]; exact ⟨h1, h2⟩
theorem KV.put {kvs : List (κ × V)} {vs : List (κ × Value)} (r : KV kvs vs) (k : κ) {y : V} {u : Value} (ry : RelV y u) : KV (putK kvs k y) (stored vs k u) := by
  unfold putK stored
  rw [r.any k]
  by_cases e : (vs.any fun kv => decide (kv.1 = k)) = true
  · rw [if_pos e, if_pos e]; exact r.repl k ry
  · rw [if_neg e, if_neg e]; exact Paired.snoc r ⟨rfl, ry⟩
theorem KV.length {kvs : List (κ × V)} {vs : List (κ × Value)} (r : KV kvs vs) : kvs.length = vs.length := Paired.length r
theorem dropK_le (kvs : List (κ × V)) (k : κ) : (dropK kvs k).length ≤ kvs.length := List.length_filter_le _ _
end
theorem kV_is {P : Program} {w : World} {k : Key} {u : Value} (r : RelV (kV k) u) : (mixKind P w).is k u = true := by
  cases k with
  | inl i => obtain ⟨t, e⟩ := (show ∃ t, u = Value.int i t from r); subst e; exact mixKind_int P w i t
  | inr x => obtain ⟨t, e⟩ := (show ∃ t, u = Value.str x t from r); subst e; exact mixKind_str P w x t
theorem items_are {P : Program} {w : World} : ∀ {ks : List Key} {us : List Value}, Vals (ks.map kV) us → ItemsAre (mixKind P w) ks us
  | [], _, r => by rw [List.map_nil] at r; cases r; exact .nil
  | k :: ks, _, r => by
    rw [List.map_cons] at r
    cases r with
    | cons h t => exact .cons (kV_is h) (items_are t)
abbrev KT (H : Hp) : List (List Key × V) → List (List Key × Addr × Value) → Prop := Paired fun p q => p.1 = q.1 ∧ H q.2.1 = some (.tup (p.1.map kV)) ∧ RelV p.2 q.2.2
theorem KT.val {H : Hp} {kvs : List (List Key × V)} {xs : List (List Key × Addr × Value)} (r : KT H kvs xs) (k : List Key) : RelO (valV kvs k) ((atKey xs k).map (·.2)) := by
  induction r with
  | nil => exact True.intro
  | @cons p q ps qs h t ih =>
    obtain ⟨h1, _, h2⟩ := h
    by_cases e : p.1 = k
    · have e' : q.1 = k := h1.symm.trans e
      have b : atKey (q :: qs) k = some q.2 := by simp [atKey, List.find?_cons, e']
      rw [valV_pos e, b]; exact h2
    · have e' : ¬ q.1 = k := fun z => e (h1.trans z)
      have b : atKey (q :: qs) k = atKey qs k := by simp [atKey, List.find?_cons, e']
      rw [valV_neg e, b]; exact ih
theorem KT.repl {H : Hp} {kvs : List (List Key × V)} {xs : List (List Key × Addr × Value)} (r : KT H kvs xs) (k : List Key) {y : V} {u : Value} (ry : RelV y u) :
    KT H (kvs.map fun kv => if kv.1 = k then (kv.1, y) else kv) (xs.map (putAt k u)) := by
  induction r with
  | nil => exact .nil
  | @cons p q ps qs h t ih =>
    rw [List.map_cons, List.map_cons]
    refine .cons ?_ ih
    obtain ⟨h1, h2, h3⟩ := h
    unfold putAt
    by_cases e : p.1 = k
    · rw [if_pos e, if_pos (h1.symm.trans e)]; exact ⟨h1, h2, ry⟩
    · rw [if_neg e, if_neg (fun z => e (h1.trans z))]; exact ⟨h1, h2, h3⟩
theorem KT.put {H : Hp} {kvs : List (List Key × V)} {xs : List (List Key × Addr × Value)} (r : KT H kvs xs) (k : List Key) {b : Addr} {y : V} {u : Value} (hb : H b = some (.tup (k.map kV))) (ry : RelV y u) :
    KT H (putK kvs k y) (storedH xs k b u) := by
  have e : (kvs.any fun kv => decide (kv.1 = k)) = (atKey xs k).isSome := by
    rw [valV_any, (r.val k).isSome_eq, Option.isSome_map]
  unfold putK storedH
  rw [e]
  by_cases q : (atKey xs k).isSome = true
  · rw [if_pos q, if_pos q]; exact r.repl k ry
  · rw [if_neg q, if_neg q]; exact Paired.snoc r ⟨rfl, hb, ry⟩
theorem KT.keeps {H H' : Hp} {kvs : List (List Key × V)} {xs : List (List Key × Addr × Value)} (r : KT H kvs xs) (ht : ∀ b ys, H b = some (.tup ys) → H' b = some (.tup ys)) : KT H' kvs xs :=
  Paired.mapP r fun _ _ z => ⟨z.1, ht _ _ z.2.1, z.2.2⟩
section
variable {P : Program} {w : World} {H : Hp} {h : Heap} {a : Addr}
theorem rd_of {u : HO} (ok : HOk P w H h) (e : Rd H a u) : ObjOk P w H h a u := e.ok ok
theorem dk_rd {kvs : List (Key × V)} (ok : HOk P w H h) (e : Rd H a (.dK kvs)) : kvs.length ≤ sizeLine ∧ (a == sysModules) = false ∧ ∃ vs, KV kvs vs ∧ h.DictOf (mixKind P w) a vs :=
  show ObjOk P w H h a (.dK kvs) from rd_of ok e
theorem dk_of {kvs : List (Key × V)} (ok : HOk P w H h) (e : H a = some (.dK kvs)) : kvs.length ≤ sizeLine ∧ (a == sysModules) = false ∧ ∃ vs, KV kvs vs ∧ h.DictOf (mixKind P w) a vs := dk_rd ok (.inl e)
theorem key_of {ks : List Key} (ok : HOk P w H h) (e : H a = some (.tup (ks.map kV))) : (tupleKind (mixKind P w)).is h ks a := by
  obtain ⟨_, its, r, o, h1, h2, n, h3⟩ := (show ObjOk P w H h a (.tup (ks.map kV)) from ok a _ e)
  exact ⟨o, its.toArray, n, h1, h2, h3, by simpa using items_are r⟩
theorem dt_rd {kvs : List (List Key × V)} (ok : HOk P w H h) (e : Rd H a (.dT kvs)) : kvs.length ≤ sizeLine ∧ (a == sysModules) = false ∧
    ∃ xs, KT H kvs xs ∧ h.DictOfH (tupleKind (mixKind P w)) a xs := by
  obtain ⟨z, y, xs, r, o, es, ep, h1, h2, h3, h4, h5⟩ := (show ObjOk P w H h a (.dT kvs) from rd_of ok e)
  refine ⟨z, y, xs, r, o, es, ep, h1, h2, h3, h4, fun x hx => ?_, h5⟩
  have all : ∀ {l : List (List Key × V)} {m : List (List Key × Addr × Value)}, KT H l m → ∀ x ∈ m, (tupleKind (mixKind P w)).is h x.1 x.2.1 := by
    intro l m q
    induction q with
    | nil => intro x hx; exact nomatch hx
    | @cons p q ps qs hq t ih =>
      intro x hx
      rcases List.mem_cons.mp hx with e | hx
      · subst e
        exact key_of ok (by rw [← hq.1]; exact hq.2.1)
      · exact ih x hx
  exact all r x hx
theorem dt_of {kvs : List (List Key × V)} (ok : HOk P w H h) (e : H a = some (.dT kvs)) : kvs.length ≤ sizeLine ∧ (a == sysModules) = false ∧
    ∃ xs, KT H kvs xs ∧ h.DictOfH (tupleKind (mixKind P w)) a xs := dt_rd ok (.inl e)
end
def DGet (H : Hp) (a : Addr) (y : V) (r : Option V) : Prop :=
  (∃ kvs k, Rd H a (.dK kvs) ∧ y = kV k ∧ r = valV kvs k) ∨ ∃ kvs k b, Rd H a (.dT kvs) ∧ y = .ref b ∧ H b = some (.tup (k.map kV)) ∧ r = valV kvs k
def DPut (H : Hp) (a : Addr) (y v : V) (H' : Hp) : Prop :=
  (∃ kvs k, H a = some (.dK kvs) ∧ y = kV k ∧ kvs.length < sizeLine ∧ H' = upd H a (.dK (putK kvs k v))) ∨
  ∃ kvs k b, H a = some (.dT kvs) ∧ y = .ref b ∧ H b = some (.tup (k.map kV)) ∧ kvs.length < sizeLine ∧ H' = upd H a (.dT (putK kvs k v))
theorem DGet.k {H : Hp} {a : Addr} {kvs : List (Key × V)} {k : Key} (e : H a = some (.dK kvs)) : DGet H a (kV k) (valV kvs k) := .inl ⟨kvs, k, .inl e, rfl, rfl⟩
theorem DGet.t {H : Hp} {a b : Addr} {kvs : List (List Key × V)} {k : List Key} (e : H a = some (.dT kvs)) (eb : H b = some (.tup (k.map kV))) : DGet H a (.ref b) (valV kvs k) := .inr ⟨kvs, k, b, .inl e, rfl, eb, rfl⟩
theorem DPut.k {H : Hp} {a : Addr} {kvs : List (Key × V)} {k : Key} {v : V} (e : H a = some (.dK kvs)) (hl : kvs.length < sizeLine) : DPut H a (kV k) v (upd H a (.dK (putK kvs k v))) := .inl ⟨kvs, k, e, rfl, hl, rfl⟩
theorem DPut.t {H : Hp} {a b : Addr} {kvs : List (List Key × V)} {k : List Key} {v : V} (e : H a = some (.dT kvs)) (eb : H b = some (.tup (k.map kV))) (hl : kvs.length < sizeLine) :
    DPut H a (.ref b) v (upd H a (.dT (putK kvs k v))) := .inr ⟨kvs, k, b, e, rfl, eb, hl, rfl⟩
section
variable {X : Cx} {pins : List (Addr × Obj)} {σ : St} {H : Hp} {s : Shared} {a : Addr} {y v : V} {u r : Value} {o : Option V} {A : Around} {E : Value → Shared → Prop}
theorem Inv.big (I : Inv X pins σ H s) : sysModules < s.heap.objs.size := by
  have h : mainGlobals < s.heap.objs.size := (I.mod.glob.keeps I.bk).lt
  exact Nat.lt_trans (by decide) h
theorem d_getItem {Q : Value → Shared → Prop} (hu : A.units + 1 < cLine) (I : Inv X pins σ H s) (g : DGet H a y (some v)) (ry : RelV y u) (h : ∀ w' s', Inv X pins σ H s' → RelV v w' → Q w' s') :
    wpAny (model X.prog X.w) A (getItem (.ref a) u) Q E s := by
  rcases g with ⟨kvs, k, e, ey, l⟩ | ⟨kvs, k, b, e, ey, eb, l⟩
  · subst ey
    obtain ⟨z, hd, vs, rel, dd⟩ := dk_rd I.hok e
    obtain ⟨w', hw, rw'⟩ := RelO.some_of (v := v) (o := valueAt vs k) (by rw [l]; exact rel.val k)
    exact wpAny_getItem_of (kV_is ry) dd.mapOf hw (h w' _ (I.tok _) rw')
  · subst ey
    cases (show u = Value.ref b from ry)
    obtain ⟨z, hd, xs, rel, dd⟩ := dt_rd I.hok e
    obtain ⟨w', hw, rw'⟩ := RelO.some_of (v := v) (o := (atKey xs k).map (·.2)) (by rw [l]; exact rel.val k)
    obtain ⟨p, hp, hp2⟩ := Option.map_eq_some_iff.mp hw
    refine wpAny_getItem_heap (tupleKind_room_in1 hu) (key_of I.hok eb) dd hp ?_
    rw [hp2]
    exact h w' _ (I.tok _) rw'
theorem d_in {Q : Value → Shared → Prop} (hu : A.units + 1 < cLine) (I : Inv X pins σ H s) (g : DGet H a y o) (ry : RelV y u) (h : ∀ s', Inv X pins σ H s' → Q (.bool o.isSome) s') :
    wpAny (model X.prog X.w) A (compareOp .In u (.ref a)) Q E s := by
  rcases g with ⟨kvs, k, e, ey, l⟩ | ⟨kvs, k, b, e, ey, eb, l⟩
  · subst ey
    obtain ⟨z, hd, vs, rel, dd⟩ := dk_rd I.hok e
    refine wpAny_in_of (kV_is ry) hd dd.mapOf ?_
    rw [← (rel.val k).isSome_eq, ← l]
    exact h _ (I.tok _)
  · subst ey
    cases (show u = Value.ref b from ry)
    obtain ⟨z, hd, xs, rel, dd⟩ := dt_rd I.hok e
    refine wpAny_in_heap (tupleKind_room_in1 hu) (key_of I.hok eb) hd dd ?_
    have q := (rel.val k).isSome_eq
    rw [Option.isSome_map] at q
    rw [← q, ← l]
    exact h _ (I.tok _)
theorem d_notIn {Q : Value → Shared → Prop} (hu : A.units + 1 < cLine) (I : Inv X pins σ H s) (g : DGet H a y o) (ry : RelV y u) (h : ∀ s', Inv X pins σ H s' → Q (.bool (!o.isSome)) s') :
    wpAny (model X.prog X.w) A (compareOp .NotIn u (.ref a)) Q E s := by
  rcases g with ⟨kvs, k, e, ey, l⟩ | ⟨kvs, k, b, e, ey, eb, l⟩
  · subst ey
    obtain ⟨z, hd, vs, rel, dd⟩ := dk_rd I.hok e
    refine wpAny_notIn_of (kV_is ry) hd dd.mapOf ?_
    rw [← (rel.val k).isSome_eq, ← l]
    exact h _ (I.tok _)
  · subst ey
    cases (show u = Value.ref b from ry)
    obtain ⟨z, hd, xs, rel, dd⟩ := dt_rd I.hok e
    refine wpAny_notIn_heap (tupleKind_room_in1 hu) (key_of I.hok eb) hd dd ?_
    have q := (rel.val k).isSome_eq
    rw [Option.isSome_map] at q
    rw [← q, ← l]
    exact h _ (I.tok _)
theorem d_write {h' : Heap} {t' : Nat} {ob : HO} (I : Inv X pins σ H s) (mu : Mut (H a)) (hs : Heap.SameBut a s.heap h') (he : ∃ q, h'.get? a = some q) (new : ObjOk X.prog X.w (upd H a ob) h' a ob) :
    Inv X pins σ (upd H a ob) { s with heap := h', toks := t' } :=
  I.write (x := a) (e := a) mu (.inl rfl) (fun b q hb z => (hs.2 b hb).trans z) he new
theorem dk_new {P : Program} {w : World} {H' : Hp} {h' : Heap} {kvs : List (Key × V)} {vs : List (Key × Value)} (z : kvs.length ≤ sizeLine) (hd : (a == sysModules) = false) (rel : KV kvs vs) (dd : h'.DictOf (mixKind P w) a vs) :
    ObjOk P w H' h' a (.dK kvs) := ⟨z, hd, vs, rel, dd⟩
theorem d_setItem {H' : Hp} {Q : Unit → Shared → Prop} (hu : A.units + 1 < cLine) (I : Inv X pins σ H s) (g : DPut H a y v H') (ry : RelV y u) (rv : RelV v r) (h : ∀ s', Inv X pins σ H' s' → Q () s') :
    wpAny (model X.prog X.w) A (setItem (.ref a) u r) Q E s := by
  rcases g with ⟨kvs, k, e, ey, l, eH⟩ | ⟨kvs, k, b, e, ey, eb, l, eH⟩
  · subst ey eH
    obtain ⟨z, hd, vs, rel, dd⟩ := dk_of I.hok e
    have hz : vs.length ≤ sizeLine := by rw [← rel.length]; exact z
    have hl : (putK kvs k v).length ≤ sizeLine := by have := length_putK kvs k v; omega
    refine wpAny_setItem_pairs (hsz := hz) (kV_is ry) dd fun h' dd' hs => h _ ?_
    have he : ∃ q, h'.get? a = some q := let ⟨q, _, _, hq, _⟩ := dd'; ⟨q, hq⟩
    exact d_write I (by rw [e]; exact True.intro) hs he (dk_new hl hd (rel.put k rv) dd')
  · subst ey eH
    cases (show u = Value.ref b from ry)
    obtain ⟨z, hd, xs, rel, dd⟩ := dt_of I.hok e
    have hz : xs.length ≤ sizeLine := by rw [← Paired.length rel]; exact z
    have hl : (putK kvs k v).length ≤ sizeLine := by have := length_putK kvs k v; omega
    refine wpAny_setItem_heap (hsz := hz) (tupleKind_room_in1 hu) (key_of I.hok eb) dd fun h' dd' hs => h _ ?_
    obtain ⟨q, es, ep, hq, h2, h3, h4, _, h5⟩ := dd'
    refine d_write I (by rw [e]; exact True.intro) hs ⟨q, hq⟩ ⟨hl, hd, _, (rel.put k eb rv).keeps fun c ys ec => ?_, q, es, ep, hq, h2, h3, h4, h5⟩
    rw [upd_ne (ne_of ec e (fun z => nomatch z))]
    exact ec
end
section
variable {X : Cx} {pins : List (Addr × Obj)} {σ : St} {H : Hp} {s : Shared} {a : Addr} {kvs : List (Key × V)} {k : Key} {u : Value} {A : Around} {E : Value → Shared → Prop}
end
def NoSl (i : Expr) : Prop := ∀ ov iv, subscripted i false ov iv = operate [ov, iv] (getItem ov iv)
theorem subD_of {prog : Program} {w : World} {A : Around} {E : Value → Shared → Prop} {s : Shared} {env : Env} {value slice : Expr} {pos : Pos} {T id : String} {Q : Value → Shared → Prop}
    (hl : typeLookup (.type T) "__getitem__" = pure (some (.builtin id))) (hs : NoSl slice)
    (h : wpAny (model prog w) A (eval value env) (fun o s₁ => wpAny (model prog w) A (eval slice env) (fun i s₂ => s₂.TypeIs o T ∧ wpAny (model prog w) A (getItem o i) Q E s₂) E s₁) E s) :
    wpAny (model prog w) A (eval (.Subscript value slice pos) env) Q E s := by
  refine Subscript_ (wpAny_mono h (fun o s₁ h₁ => wpAny_mono h₁ (fun i s₂ h₂ => ?_) fun _ _ x => x) fun _ _ x => x)
  obtain ⟨hT, h₂⟩ := h₂
  unfold subscriptTail
  refine wpAny_bind ?_
  rw [getitemInPython_of_ne hT.not_modules]
  refine wpAny_bind (wpAny_specialOf hT hl ?_)
  have fin : wpAny (model prog w) A (subscripted slice false o i) (fun r s₃ => wpAny (model prog w) A (letTemporaryGo value o r >>= fun _ => pure r) Q E s₃) E s₂ := by
    rw [hs o i]
    exact wpAny_operating (wpAny_mono h₂ (fun r s₃ h₃ => wpAny_bind (wpAny_letTemporaryGo (wpAny_pure h₃))) fun _ _ x => x)
  first
    | exact wpAny_pure (wpAny_bind fin)
    | exact wpAny_bind (wpAny_pure (wpAny_bind fin))
    | exact wpAny_bind fin
theorem dict_typeIs {X : Cx} {pins : List (Addr × Obj)} {σ : St} {H : Hp} {s : Shared} {a : Addr} {y : V} {o : Option V} (I : Inv X pins σ H s) (g : DGet H a y o) : s.TypeIs (.ref a) "dict" := by
  rcases g with ⟨kvs, k, e, _, _⟩ | ⟨kvs, k, b, e, _, _, _⟩
  · obtain ⟨_, _, vs, _, dd⟩ := dk_rd I.hok e
    exact dd.typeIs
  · obtain ⟨_, _, xs, _, dd⟩ := dt_rd I.hok e
    exact dd.typeIs
def tDGet (td ty : TE) : TE := fun σ H Q => td σ H fun x H1 => ty σ H1 fun y H2 => ∃ a v, x = .ref a ∧ DGet H2 a y (some v) ∧ Q v H2
def tDIn (ty td : TE) : TE := fun σ H Q => ty σ H fun y H1 => td σ H1 fun x H2 => ∃ a o, x = .ref a ∧ DGet H2 a y o ∧ Q (.bl o.isSome) H2
def tDNotIn (ty td : TE) : TE := fun σ H Q => ty σ H fun y H1 => td σ H1 fun x H2 => ∃ a o, x = .ref a ∧ DGet H2 a y o ∧ Q (.bl (!o.isSome)) H2
def sDPut (td ty tv : TE) : TS := fun D σ H => tv σ H fun v H1 => td σ H1 fun x H2 => ty σ H2 fun y H3 => ∃ a H4, x = .ref a ∧ DPut H3 a y v H4 ∧ D.nx σ H4
section
variable {X : Cx} {o i e value : Expr} {pos pos' tpos : Pos} {td ty tv : TE}
theorem pe_dget (hu : X.A.units + 1 < cLine) (ho : PE X o td) (hi : PE X i ty) (hs : NoSl i) : PE X (.Subscript o i pos) (tDGet td ty) := by
  intro pins s σ H Q I h
  refine subD_of PySem.F.slot_dict_getitem.lookup hs (thn (ho pins s σ H _ I h) fun u s1 ⟨x, H1, I1, rx, q1⟩ => thn (hi pins s1 σ H1 _ I1 q1) fun iv s2 ⟨y, H2, I2, ry, a, v, ex, g, q2⟩ => ?_)
  subst ex
  obtain rfl : u = Value.ref a := rx
  exact ⟨dict_typeIs I2 g, d_getItem hu I2 g ry fun w' s3 I3 rw' => ⟨v, H2, I3, rw', q2⟩⟩
theorem pc_din (hu : X.A.units + 1 < cLine) (hi : PE X i ty) (ho : PE X o td) : PC X .In i o (tDIn ty td) := by
  intro pins s σ H Q I h
  refine thn (hi pins s σ H _ I h) fun iv s1 ⟨y, H1, I1, ry, q1⟩ => thn (ho pins s1 σ H1 _ I1 q1) fun u s2 ⟨x, H2, I2, rx, a, ov, ex, g, q2⟩ => ?_
  subst ex
  obtain rfl : u = Value.ref a := rx
  exact d_in hu I2 g ry fun s3 I3 => ⟨.bl ov.isSome, H2, I3, rfl, q2⟩
theorem pc_dnotin (hu : X.A.units + 1 < cLine) (hi : PE X i ty) (ho : PE X o td) : PC X .NotIn i o (tDNotIn ty td) := by
  intro pins s σ H Q I h
  refine thn (hi pins s σ H _ I h) fun iv s1 ⟨y, H1, I1, ry, q1⟩ => thn (ho pins s1 σ H1 _ I1 q1) fun u s2 ⟨x, H2, I2, rx, a, ov, ex, g, q2⟩ => ?_
  subst ex
  obtain rfl : u = Value.ref a := rx
  exact d_notIn hu I2 g ry fun s3 I3 => ⟨.bl (!ov.isSome), H2, I3, rfl, q2⟩
theorem ps_dput (hu : X.A.units + 1 < cLine) (ho : PE X o td) (hi : PE X i ty) (hv : PE X value tv) (hs : swapsWith value (some (.Subscript o i pos')) pos.line X.env = pure false) :
    PS X (.Assign [.Subscript o i pos'] value pos) (sDPut td ty tv) := by
  intro pins s σ H D I h
  refine wpAny_Assign_Subscript (thn (hv pins s σ H _ I h) fun r s1 ⟨v, H1, I1, rv, q1⟩ => thn (ho pins s1 σ H1 _ I1 q1) fun u s2 ⟨x, H2, I2, rx, q2⟩ => thn (hi pins s2 σ H2 _ I2 q2) fun iv s3 ⟨y, H3, I3, ry, a, H4, ex, g, q3⟩ => ?_) hs
  subst ex
  obtain rfl : u = Value.ref a := rx
  exact d_setItem hu I3 g ry rv fun s4 I4 => ⟨σ, H4, I4, q3⟩
end
theorem dk_empty {P : Program} {w : World} {H : Hp} (h : Heap) (hb : sysModules < h.objs.size) : ObjOk P w H (h.push { cls := .type "dict", data := .dict #[] }) h.objs.size (.dK []) :=
  ⟨Nat.zero_le _, beq_eq_false_iff_ne.mpr (Ne.symm (Nat.ne_of_lt hb)), [], .nil, Heap.DictOf.new h⟩
theorem dt_empty {P : Program} {w : World} {H : Hp} (h : Heap) (hb : sysModules < h.objs.size) : ObjOk P w H (h.push { cls := .type "dict", data := .dict #[] }) h.objs.size (.dT []) :=
  ⟨Nat.zero_le _, beq_eq_false_iff_ne.mpr (Ne.symm (Nat.ne_of_lt hb)), [], .nil, _, #[], 0, Heap.get?_push_size _ rfl, ⟨rfl, rfl, rfl⟩, rfl, rfl, List.nodup_nil⟩
def tDNewK : TE := fun _ H Q => ∀ p, H p = none → Q (.ref p) (upd H p (.dK []))
def tDNewT : TE := fun _ H Q => ∀ p, H p = none → Q (.ref p) (upd H p (.dT []))
section
variable {X : Cx} {pos : Pos}
theorem pe_dnewK : PE X (.Dict [] [] pos) tDNewK := fun pins s σ H Q I h =>
  wpAny_Dict_empty ⟨.ref s.heap.objs.size, _, I.laid (a := s.heap.objs.size) (o := .dK []) (t' := s.toks) (fun _ _ q => Heap.get?_push_of_some _ q) (Nat.le_refl _) (dk_empty s.heap I.big), rfl, h _ (I.hok.fresh (Nat.le_refl _))⟩
theorem pe_dnewT : PE X (.Dict [] [] pos) tDNewT := fun pins s σ H Q I h =>
  wpAny_Dict_empty ⟨.ref s.heap.objs.size, _, I.laid (a := s.heap.objs.size) (o := .dT []) (t' := s.toks) (fun _ _ q => Heap.get?_push_of_some _ q) (Nat.le_refl _) (dt_empty s.heap I.big), rfl, h _ (I.hok.fresh (Nat.le_refl _))⟩
end
def tPairs : List (TE × TE) → St → Hp → (List (V × V) → Hp → Prop) → Prop
  | [], _, H, Q => Q [] H
  | (tk, tv) :: r, σ, H, Q => tk σ H fun x H1 => tv σ H1 fun y H2 => tPairs r σ H2 fun ps H3 => Q ((x, y) :: ps) H3
abbrev VV : List (V × V) → List (Value × Value) → Prop := Paired fun p q => RelV p.1 q.1 ∧ RelV p.2 q.2
def PPs (X : Cx) (pos : Pos) (keys : List (Option Expr)) (values : List Expr) (trs : List (TE × TE)) : Prop :=
  ∀ (pins : List (Addr × Obj)) (s : Shared) (σ : St) (H : Hp) (Q : List (V × V) → Hp → Prop), Inv X pins σ H s → tPairs trs σ H Q →
    wpAny (model X.prog X.w) X.A (evalPairs (pairTrees keys values X.env pos)) (fun vs s' => ∃ ps H', Inv X pins σ H' s' ∧ VV ps vs ∧ Q ps H') X.xe s
theorem pps_nil {X : Cx} {pos : Pos} : PPs X pos [] [] [] := fun pins s σ H Q I h => pairTrees_nil_walk ⟨[], H, I, .nil, h⟩
theorem pps_cons {X : Cx} {pos : Pos} {k v : Expr} {ks : List (Option Expr)} {vs : List Expr} {tk tv : TE} {trs : List (TE × TE)} (hk : PE X k tk) (hv : PE X v tv) (hr : PPs X pos ks vs trs) :
    PPs X pos (some k :: ks) (v :: vs) ((tk, tv) :: trs) := fun pins s σ H Q I h =>
  pairTrees_cons_walk (thn (hk pins s σ H _ I h) fun u s1 ⟨x, H1, I1, rx, q1⟩ => thn (hv pins s1 σ H1 _ I1 q1) fun w2 s2 ⟨y, H2, I2, ry, q2⟩ =>
    thn (hr pins s2 σ H2 _ I2 q2) fun ws s3 ⟨ps, H3, I3, rel, q3⟩ => ⟨(x, y) :: ps, H3, I3, .cons ⟨rx, ry⟩ rel, q3⟩)
def mergeK (kvs more : List (Key × V)) : List (Key × V) := more.foldl (fun acc kv => putK acc kv.1 kv.2) kvs
theorem KV.merge : ∀ {more : List (Key × V)} {rs : List (Key × Value)} {kvs : List (Key × V)} {vs : List (Key × Value)}, KV more rs → KV kvs vs → KV (mergeK kvs more) (merged vs rs) := by
  intro more rs kvs vs r
  unfold KV at r
  induction r generalizing kvs vs with
  | nil => intro q; exact q
  | @cons p q ps qs h t ih =>
    intro r0
    have e : KV (putK kvs p.1 p.2) (stored vs q.1 q.2) := by
      have := r0.put p.1 h.2
      rw [← h.1]; exact this
    exact ih e
theorem length_mergeK : ∀ (more kvs : List (Key × V)), (mergeK kvs more).length ≤ kvs.length + more.length
  | [], kvs => by show kvs.length ≤ kvs.length + 0; omega
  | p :: r, kvs => by
    have h1 := length_mergeK r (putK kvs p.1 p.2)
    have h2 := length_putK kvs p.1 p.2
    show (mergeK (putK kvs p.1 p.2) r).length ≤ _
    rw [List.length_cons]; omega
theorem carries_of {P : Program} {w : World} : ∀ {kvs : List (Key × V)} {ws : List (Value × Value)}, VV (kvs.map fun kv => (kV kv.1, kv.2)) ws → ∃ rs, Carries (mixKind P w) ws rs ∧ KV kvs rs
  | [], _, r => by rw [List.map_nil] at r; cases r; exact ⟨[], True.intro, .nil⟩
  | p :: kvs, _, r => by
    rw [List.map_cons] at r
    cases r with
    | @cons a b as bs h t =>
      obtain ⟨rs, c, q⟩ := carries_of (P := P) (w := w) t
      obtain ⟨b1, b2⟩ := b
      exact ⟨(p.1, b2) :: rs, ⟨kV_is h.1, rfl, c⟩, .cons ⟨rfl, h.2⟩ q⟩
def tDisp (trs : List (TE × TE)) : TE := fun σ H Q => ∀ p, H p = none → tPairs trs σ (upd H p (.dK [])) fun ps H2 => H2 p = some (.dK []) ∧ ∃ kvs : List (Key × V), ps = kvs.map (fun kv => (kV kv.1, kv.2)) ∧ kvs.length ≤ 15 ∧ Q (.ref p) (upd H2 p (.dK (mergeK [] kvs)))
theorem pe_disp {X : Cx} {pos : Pos} {keys : List (Option Expr)} {values : List Expr} {trs : List (TE × TE)} (h : PPs X pos keys values trs) (hall : keys.all (·.isSome) = true) (hl : keys.length = values.length) (h0 : keys ≠ [])
    (h15 : keys.length ≤ 15) : PE X (.Dict keys values pos) (tDisp trs) := by
  intro pins s σ H Q I q
  have hn := I.hok.fresh (Nat.le_refl s.heap.objs.size)
  have I1 := I.laid (a := s.heap.objs.size) (o := .dK []) (h' := s.heap.push { cls := .type "dict", data := .dict #[] }) (t' := s.toks) (fun _ _ q => Heap.get?_push_of_some _ q) (Nat.le_refl _) (dk_empty s.heap I.big)
  refine wpAny_Dict_walk (knd := mixKind X.prog X.w) hall hl h0 h15 (thn (h pins _ σ _ _ I1 (q _ hn)) fun ws s2 ⟨ps, H2, I2, rel, e, kvs, ep, lk, q2⟩ => ?_)
  subst ep
  obtain ⟨rs, c, rk⟩ := carries_of (P := X.prog) (w := X.w) rel
  obtain ⟨z, hd, vs0, r0, dd⟩ := dk_of I2.hok e
  cases r0
  refine ⟨rs, c, dd, fun h' dd' hs => ⟨.ref s.heap.objs.size, _, ?_, rfl, q2⟩⟩
  have hz : (mergeK [] kvs).length ≤ sizeLine := by
    have h1 := length_mergeK kvs []
    rw [List.length_nil] at h1
    rw [sizeLine_eq]; omega
  have he : ∃ q, h'.get? s.heap.objs.size = some q := let ⟨q, _, _, hq, _⟩ := dd'; ⟨q, hq⟩
  exact d_write I2 (by rw [e]; exact True.intro) hs he (dk_new hz hd (rk.merge .nil) dd')
structure M1 (X : Cx) (o : Expr) (m : Str) (apos : Pos) (e : Expr) (cpos : Pos) : Prop where
  base : attributeBase o m X.env (eval o X.env) = eval o X.env
  few : ((backTo cpos (starEach [e] X.env)).all (fun x => !x.1) && (backToKw cpos (keywordEach [] X.env)).all (fun x => x.1.isSome)
    && decide (([e] : List Expr).length + ([] : List Keyword).length + (if ([] : List Keyword).isEmpty then 0 else 1) < 30)) = true
  line : (apos.endLine == cpos.line) = true
  trees : backTo cpos (starEach [e] X.env) = [(false, eval e X.env)]
def IsD (H : Hp) (a : Addr) : Prop := (∃ kvs, Rd H a (.dK kvs)) ∨ ∃ kvs, Rd H a (.dT kvs)
theorem isD_at {X : Cx} {pins : List (Addr × Obj)} {σ : St} {H : Hp} {s : Shared} {a : Addr} (I : Inv X pins σ H s) (d : IsD H a) :
    s.TypeIs (.ref a) "dict" ∧ (∀ b, Value.ref a = .ref b → ∃ ob, s.heap.get? b = some ob ∧ ob.dict = none) ∧ (a == sysModules) = false := by
  rcases d with ⟨kvs, e⟩ | ⟨kvs, e⟩
  · obtain ⟨_, hd, vs, _, dd⟩ := dk_rd I.hok e
    refine ⟨dd.typeIs, fun b q => ?_, hd⟩
    cases q
    obtain ⟨ob, _, _, h1, h2, _⟩ := dd
    exact ⟨ob, h1, h2.2.1⟩
  · obtain ⟨_, hd, xs, _, dd⟩ := dt_rd I.hok e
    refine ⟨dd.typeIs, fun b q => ?_, hd⟩
    cases q
    obtain ⟨ob, _, _, h1, h2, _⟩ := dd
    exact ⟨ob, h1, h2.2.1⟩
section
variable {X : Cx} {pins : List (Addr × Obj)} {σ : St} {H : Hp} {s : Shared} {a : Addr} {y d : V} {u r : Value} {o : Option V} {A : Around} {E : Value → Shared → Prop}
theorem d_get1 {Q : Value → Shared → Prop} (hu : A.units + 1 < cLine) (I : Inv X pins σ H s) (g : DGet H a y o) (ry : RelV y u) (h : ∀ w' s', Inv X pins σ H s' → RelV (o.getD .non) w' → Q w' s') :
    wpAny (model X.prog X.w) A (call (.builtin "dict.get") [.ref a, u]) Q E s := by
  rcases g with ⟨kvs, k, e, ey, l⟩ | ⟨kvs, k, b, e, ey, eb, l⟩
  · subst ey
    obtain ⟨z, hd, vs, rel, dd⟩ := dk_rd I.hok e
    refine call_meetsIn PySem.F.slot_dict_get dd.typeIs PySem.F.entry_dict_get (PySem.F.args_dict_get_2 _ _) (meets_dict_get (mixKind X.prog X.w) a (kV_is ry) hd) ⟨_, dd.mapOf, h _ _ (I.tok _) ?_⟩
    rw [l]
    exact (rel.val k).getD rfl
  · subst ey
    cases (show u = Value.ref b from ry)
    obtain ⟨z, hd, xs, rel, dd⟩ := dt_rd I.hok e
    refine call_meetsIn PySem.F.slot_dict_get dd.typeIs PySem.F.entry_dict_get (PySem.F.args_dict_get_2 _ _) (meetsH_dict_get (tupleKind (mixKind X.prog X.w)) a b hd) ⟨tupleKind_room_in1 hu, k, xs, key_of I.hok eb, dd, h _ _ (I.tok _) ?_⟩
    rw [l]
    exact (rel.val k).getD rfl
end
def tDGet1 (td ty : TE) : TE := fun σ H Q => td σ H fun x H1 => ∃ a, x = .ref a ∧ IsD H1 a ∧ ty σ H1 fun y H2 => ∃ o, DGet H2 a y o ∧ Q (o.getD .non) H2
section
variable {X : Cx} {o e f : Expr} {apos cpos : Pos} {td ty tx : TE}
theorem pe_dget1 (hu : X.A.units + 1 < cLine) (ho : PE X o td) (he : PE X e ty) (m : M1 X o "get" apos e cpos) : PE X (.Call (.Attribute o "get" apos) [e] [] cpos) (tDGet1 td ty) := by
  intro pins s σ H Q I h
  refine wpAny_Call_method m.base m.few m.line PySem.F.plainAttrs_dict PySem.F.slot_dict_get PySem.F.type_dict_get (thn (ho pins s σ H _ I h) fun u s1 ⟨x, H1, I1, rx, a, ex, d, q1⟩ => ?_)
  subst ex
  obtain rfl : u = Value.ref a := rx
  obtain ⟨t1, t2, _⟩ := isD_at I1 d
  refine ⟨t1, t2, ?_⟩
  rw [m.trees]
  refine Calls.callWith_builtin rfl (Calls.evalArgs_plain (Calls.spliced_cons (thn (he pins s1 σ H1 _ I1 q1) fun iv s2 ⟨y, H2, I2, ry, ov, g, q2⟩ => Calls.spliced_nil ?_)))
  exact d_get1 hu I2 g ry fun w' s3 I3 rw' => ⟨_, H2, I3, rw', q2⟩
end
section
variable {X : Cx} {pins : List (Addr × Obj)} {σ : St} {H : Hp} {s : Shared} {a : Addr} {kvs : List (Key × V)} {A : Around} {E : Value → Shared → Prop}
end
section
variable {X : Cx} {pins : List (Addr × Obj)} {σ : St} {H : Hp} {s : Shared} {a : Addr} {y : V} {u : Value} {A : Around} {E : Value → Shared → Prop}
end
end L2
namespace L2
open PySem PySem.Spec PyProof.Rows
section
variable {prog : Program} {w : World} {A : Around} {E : Value → Shared → Prop}
end
section
variable {X : Cx}
end
end L2
namespace L2
open PySem PySem.Spec PyProof.Rows
section
variable {X : Cx} {pins : List (Addr × Obj)} {σ : St} {H : Hp} {s : Shared} {h' : Heap}
theorem Inv.turnedNew {t' : Nat} {ch : List Addr} {T : Addr} {ob : HO} (I : Inv X pins σ H s) (k : ∀ b o, b ∉ ch → s.heap.get? b = some o → h'.get? b = some o) (hf : ∀ b ∈ ch, FpOk X pins H b) (hT : s.heap.objs.size ≤ T)
    (new : ObjOk X.prog X.w (upd H T ob) h' T ob) : Inv X pins σ (upd H T ob) { s with heap := h', toks := t' } := by
  have hn : H T = none := I.hok.fresh hT
  have nit : ∀ b u, H b = some u → b ∉ ch := fun b u e z => by
    have q := (hf b z).1
    rw [q] at e; cases e
  refine I.step (g' := s.gens) (d' := s.drawn) (ch := ch) (fun b hb => ⟨(hf b hb).2.2.2.1, (hf b hb).2.1, (hf b hb).2.2.2.2.1, (hf b hb).2.2.2.2.2⟩) (fun b o _ _ hc e _ => k b o hc e) (fun b o _ _ hc e _ => ⟨o.slots, k b o hc e⟩)
    (fun b o _ e n => ?_) (fun b o hc e => ⟨o, k b o hc e⟩) (fun b xs e => ?_) (fun b o u e => ?_) (fun b ps e => ⟨#[], ?_⟩) (fun m hm => ?_) (fun b u e => ?_) I.bare
  · rw [upd_ne (Nat.ne_of_lt (Nat.lt_of_lt_of_le (Heap.lt_size e) hT))]; exact n
  · rw [upd_ne (ne_of_none e hn)]; exact e
  · rw [upd_ne (ne_of_none e hn)]; exact e
  · rw [upd_ne (ne_of_none e hn), e]; simp
  · obtain ⟨o, es, ep, ho, r⟩ := hm
    exact ⟨o, es, ep, k _ o (fun z => (hf _ z).2.1 rfl) ho, r⟩
  · by_cases hb : b = T
    · subst hb
      rw [upd_same] at e
      cases e
      exact new
    · rw [upd_ne hb] at e
      refine (I.hok b u e).stay (fun c v hc q => k c v ?_ q) (fun c q => by rw [upd_ne (ne_of_none q hn)]; exact q) fun c xs q => by rw [upd_ne (ne_of_none q hn)]; exact q
      rcases hc with z | z
      · rw [z]; exact nit b u e
      · exact nit c _ z
theorem Inv.lock {d : Addr} {u : HO} (I : Inv X pins σ H s) (h : H d = some u) (mu : Mut (some u)) : ∃ od, Inv X pins σ (upd H d (.frz od u)) s := by
  have x := I.hok d u h
  have ex : ∃ od, s.heap.get? d = some od := by
    cases u with
    | lst xs => obtain ⟨_, _, _, _, e⟩ := x; exact ⟨_, e⟩
    | dK kvs => obtain ⟨_, _, _, _, o, _, _, e, _⟩ := x; exact ⟨o, e⟩
    | dT kvs => obtain ⟨_, _, _, _, o, _, _, e, _⟩ := x; exact ⟨o, e⟩
    | set S n => obtain ⟨o, _, _, _, e, _⟩ := x; exact ⟨o, e⟩
    | ins C dx fs => obtain ⟨_, _, _, e, _⟩ := x; exact ⟨_, e⟩
    | ext φ => obtain ⟨_, ⟨_, e⟩, _⟩ := x; exact ⟨_, e⟩
    | _ => exact False.elim mu
  obtain ⟨od, e⟩ := ex
  have new : ObjOk X.prog X.w (upd H d (.frz od u)) s.heap d (.frz od u) := by
    refine ⟨e, x.stay (fun b v _ q => q) (fun b q => ?_) fun b xs q => ?_⟩
    · rw [upd_ne (fun z => by rw [z, h] at q; cases q; exact mu)]; exact q
    · rw [upd_ne (fun z => by rw [z, h] at q; cases q; exact mu)]; exact q
  exact ⟨od, I.write (x := d) (e := d) (t' := s.toks) (h' := s.heap) (by rw [h]; exact mu) (.inl rfl) (fun b v _ q => q) ⟨od, e⟩ new⟩
theorem Inv.nofrz {d : Addr} {u : HO} (I : Inv X pins σ H s) (h : H d = some u) (mu : Mut (some u)) : ∀ o' u', X.H_0 d ≠ some (.frz o' u') := fun o' u' e => by
  have q := I.base.frzs d o' u' e
  rw [h] at q
  cases q
  exact mu
theorem Inv.unlock {d : Addr} {od : Obj} {u : HO} (I : Inv X pins σ H s) (h : H d = some (.frz od u)) (hn : ∀ o' u', X.H_0 d ≠ some (.frz o' u')) : Inv X pins σ (upd H d u) s := by
  have neH : ∀ b o, H b = some o → (∀ o' u', o ≠ .frz o' u') → b ≠ d := fun b o e hne z => by
    rw [z, h] at e
    cases e
    exact hne _ _ rfl
  have neN : ∀ b, H b = none → b ≠ d := fun b e z => by rw [z, h] at e; cases e
  refine ⟨I.ok, I.os, I.bare, ⟨I.base.keep, I.base.slot, fun b o e n hx => ?_, I.base.there, fun b xs e => ?_, fun b o x e => ?_, fun b ps e => ?_⟩, I.loc, I.cell, ?_, fun x c e => ?_, fun p hp => ?_, fun b o e => ?_, I.len⟩
  · rw [upd_ne (neN b (I.base.free b o e n hx))]; exact I.base.free b o e n hx
  · have q := I.base.tups b xs e
    rw [upd_ne (neH b _ q (fun _ _ z => nomatch z))]; exact q
  · have q := I.base.frzs b o x e
    rw [upd_ne (fun z => by rw [z] at e; exact hn _ _ e)]; exact q
  · obtain ⟨m, q⟩ := I.base.tbls b ps e
    exact ⟨m, by rw [upd_ne (neH b _ q (fun _ _ z => nomatch z))]; exact q⟩
  · rw [upd_ne (neN _ I.free)]; exact I.free
  · rw [upd_ne (neN c (I.freeC x c e))]; exact I.freeC x c e
  · obtain ⟨e, n, r⟩ := I.pin p hp
    exact ⟨e, by rw [upd_ne (neN _ n)]; exact n, r⟩
  · by_cases hb : b = d
    · rw [hb, upd_same] at e
      cases e
      rw [hb]
      obtain ⟨_, x⟩ := I.hok d _ h
      exact x.stay (fun c v _ q => q) (fun c q => by rw [upd_ne (neH c _ q (fun _ _ z => nomatch z))]; exact q) fun c xs q => by rw [upd_ne (neH c _ q (fun _ _ z => nomatch z))]; exact q
    · rw [upd_ne hb] at e
      exact (I.hok b o e).stay (fun c v _ q => q) (fun c q => by rw [upd_ne (neH c _ q (fun _ _ z => nomatch z))]; exact q) fun c xs q => by rw [upd_ne (neH c _ q (fun _ _ z => nomatch z))]; exact q
end
def tLock (t : TS) : TS := fun D σ H => ∃ d u, H d = some u ∧ Mut (some u) ∧ ∀ od, t ⟨fun σ' H' => H' d = some (.frz od u) ∧ D.nx σ' (upd H' d u), fun v H' => H' d = some (.frz od u) ∧ D.rt v (upd H' d u), fun σ' H' => H' d = some (.frz od u) ∧ D.bk σ' (upd H' d u), fun σ' H' => H' d = some (.frz od u) ∧ D.ct σ' (upd H' d u)⟩ σ (upd H d (.frz od u))
section
variable {X : Cx}
theorem ps_lock {st : Stmt} {t : TS} (h : PS X st t) : PS X st (tLock t) := by
  intro pins s σ H D I hw
  obtain ⟨d, u, hd, mu, hw⟩ := hw
  obtain ⟨od, I1⟩ := I.lock hd mu
  refine thn (h pins s σ _ _ I1 (hw od)) fun f s1 q => ?_
  cases f with
  | next => obtain ⟨σ', H', I2, e, q⟩ := q; exact ⟨σ', _, I2.unlock e (I.nofrz hd mu), q⟩
  | brk => obtain ⟨σ', H', I2, e, q⟩ := q; exact ⟨σ', _, I2.unlock e (I.nofrz hd mu), q⟩
  | cont => obtain ⟨σ', H', I2, e, q⟩ := q; exact ⟨σ', _, I2.unlock e (I.nofrz hd mu), q⟩
  | ret v => obtain ⟨x, σ', H', I2, r, e, q⟩ := q; exact ⟨x, σ', _, I2.unlock e (I.nofrz hd mu), r, q⟩
theorem pi_one {tg : Expr} {pins : List (Addr × Obj)} {σ : St} {H : Hp} {s : Shared} {R : It → Hp → Prop} {J : It} {tn : Nat → Heap → Prop} {tk : Nat} (I : Inv X pins σ H s) (o : Obj)
    (T : Turn X.prog X.w X.K tg J [s.heap.objs.size] s.heap.objs.size tn) (st : tn 0 (s.heap.push o)) (q : R J H) : PIE X pins σ tg R (.ref s.heap.objs.size) { s with heap := s.heap.push o, toks := tk } := by
  refine ⟨s.heap.objs.size, [s.heap.objs.size], tn, J, H, rfl, I.kept fun b ob e => Heap.get?_push_of_some _ e, T, st, fun b hb => ?_, q⟩
  have e : b = s.heap.objs.size := by simpa using hb
  subst e
  exact I.fpOk (Nat.le_refl _) (I.hok.fresh (Nat.le_refl _))
end
section
variable {X : Cx} {tg : Expr}
end
section
variable {X : Cx} {tg : Expr}
end
section
variable {prog : Program} {w : World} {A : Around} {E : Value → Shared → Prop} {s : Shared}
end
theorem kv_get {κ : Type} {kvs : List (κ × V)} {vs : List (κ × Value)} (h : KV kvs vs) : ∀ {i : Nat} {k : κ} {v : V}, kvs[i]? = some (k, v) → ∃ u, vs[i]? = some (k, u) ∧ RelV v u := by
  unfold KV at h
  induction h with
  | nil => intro i k v e; simp at e
  | @cons a b l₁ l₂ r t ih =>
    intro i k v e
    cases i with
    | zero =>
      simp only [List.getElem?_cons_zero, Option.some.injEq] at e
      subst e
      refine ⟨b.2, ?_, r.2⟩
      simp only [List.getElem?_cons_zero]
      exact congrArg some (Prod.ext r.1.symm rfl)
    | succ j =>
      simp only [List.getElem?_cons_succ] at e ⊢
      exact ih e
theorem paired_get {α β : Type} {G : α → β → Prop} {l₁ : List α} {l₂ : List β} (h : Paired G l₁ l₂) : ∀ {i : Nat} {a : α}, l₁[i]? = some a → ∃ b, l₂[i]? = some b ∧ G a b := by
  induction h with
  | nil => intro i a e; simp at e
  | @cons a b l₁ l₂ r t ih =>
    intro i a' e
    cases i with
    | zero =>
      simp only [List.getElem?_cons_zero, Option.some.injEq] at e
      subst e
      exact ⟨b, rfl, r⟩
    | succ j =>
      simp only [List.getElem?_cons_succ] at e ⊢
      exact ih e
theorem relV_key {k : Key} {u : Value} (h : keyIs k u = true) : RelV (kV k) u := by
  rcases keyIs_shape h with ⟨i, t, rfl, rfl⟩ | ⟨x, t, rfl, rfl⟩
  · exact ⟨t, rfl⟩
  · exact ⟨t, rfl⟩
section
variable {X : Cx} {pins : List (Addr × Obj)} {σ : St} {H : Hp} {s : Shared} {d : Addr} {o : Obj}
theorem Inv.frzK {kvs : List (Key × V)} (I : Inv X pins σ H s) (h : H d = some (.frz o (.dK kvs))) :
    (d == sysModules) = false ∧ s.heap.get? d = some o ∧ o.ExactDict ∧ ∃ (es : Array DictEntry) (ep : Nat) (vs : List (Key × Value)), o.data = .dict es ep ∧ es.size = kvs.length ∧ KV kvs vs ∧ s.heap.DictAt (mixKind X.prog X.w) d vs ep := by
  obtain ⟨hd, z, hs, vs, kv, o', es, ep, ho, hx, hdt, r⟩ := I.hok d _ h
  rw [hd] at ho
  cases ho
  refine ⟨hs, hd, hx, es, ep, vs, hdt, ?_, kv, o, es, hd, hx, hdt, r⟩
  have l1 := r.2.1.length
  have l2 : kvs.length = vs.length := Paired.length kv
  rw [Array.length_toList] at l1
  omega
end
def Itd (d : Addr) (o : Obj) (kvs : List (Key × V)) : It :=
  ⟨fun i H => H d = some (.frz o (.dK kvs)) ∧ i < kvs.length, fun i H x H' => H' = H ∧ ∃ k, kvs[i]? = some (k, x), fun i H => H d = some (.frz o (.dK kvs)) ∧ kvs.length ≤ i⟩
def Iti (d : Addr) (o : Obj) (kvs : List (Key × V)) : It :=
  ⟨fun i H => H d = some (.frz o (.dK kvs)) ∧ i < kvs.length, fun i H x H' => ∃ T k v, kvs[i]? = some (k, v) ∧ x = .ref T ∧ H T = none ∧ H' = upd H T (.tup [kV k, v]), fun i H => H d = some (.frz o (.dK kvs)) ∧ kvs.length ≤ i⟩
theorem dict_ep {o : Obj} {es es' : Array DictEntry} {ep ep' : Nat} (h : o.data = .dict es ep) (h' : o.data = .dict es' ep') : es' = es ∧ ep' = ep := by
  rw [h] at h'
  cases h'
  exact ⟨rfl, rfl⟩
section
variable {P : Program} {w : World} {K : PySem.W.Frag} {tg : Expr} {d : Addr} {o : Obj} {es : Array DictEntry} {ep : Nat}
theorem turn_vals {kvs : List (Key × V)} (it : Addr) (hod : o.data = .dict es ep) : Turn P w K tg (Itd d o kvs) [it] it (fun i h => h.IsValIter it d i kvs.length ep) where
  mem := by simp
  obj := fun i h st b hb => by
    have e : b = it := by simpa using hb
    subst e
    obtain ⟨oi, e, c, dd⟩ := st
    exact ⟨oi, e, fun v z => by rw [dd] at z; cases z⟩
  keep := fun i h h' st k => st.at fun oi e => k it (by simp) oi e
  item := by
    intro X hP hw hK hc i pins s σ H E I hf st hg
    subst hP hw hK
    obtain ⟨hd, hi⟩ := hg
    obtain ⟨f0, f1, f2, f3, f4, f5⟩ := hf it (by simp)
    obtain ⟨hs, hgd, hx, es', ep', vs, hdt, hsz, kv, hm⟩ := I.frzK hd
    obtain ⟨rfl, rfl⟩ := dict_ep hod hdt
    obtain ⟨⟨k, v⟩, hkv⟩ : ∃ p, kvs[i]? = some p := ⟨kvs[i], List.getElem?_eq_getElem hi⟩
    obtain ⟨u, hu, ru⟩ := kv_get kv hkv
    have hl : kvs.length = vs.length := Paired.length kv
    rw [hl] at st
    refine wpAny_pyNext_values_item st hm hu fun h' st' sb => ?_
    have I1 : Inv X pins σ H { s with heap := h' } := I.turned (t' := s.toks) (fun b ob hb e => (sb.2 b hb).trans e) f0 f1 f3 f4 f5
    obtain ⟨oi, e, c, dd⟩ := id st'
    refine ⟨u, rfl, go_of (s := { s with heap := h' }) e c dd (by decide) ⟨v, H, I1, ru, ⟨rfl, k, hkv⟩, ?_, fun b hb => (hf b hb).1⟩⟩
    show h'.IsValIter it d (i + 1) kvs.length _
    rw [hl]
    exact st'
  done := by
    intro X hP hw hK hc i pins s σ H E I hf st hg
    subst hP hw hK
    obtain ⟨hd, hi⟩ := hg
    obtain ⟨f0, f1, f2, f3, f4, f5⟩ := hf it (by simp)
    obtain ⟨hs, hgd, hx, es', ep', vs, hdt, hsz, kv, hm⟩ := I.frzK hd
    obtain ⟨rfl, rfl⟩ := dict_ep hod hdt
    have hl : kvs.length = vs.length := Paired.length kv
    rw [hl] at st
    exact wpAny_pyNext_values_end (I.ok.hd hc) st hm (List.getElem?_eq_none (by omega)) fun h' eb => ⟨rfl, I.turned (t' := s.toks) (fun b ob hb e => eb b ob hb e) f0 f1 f3 f4 f5⟩
  self := fun A i s Q E st h => wpAny_pyIter_valiter st h
theorem turn_items {kvs : List (Key × V)} {elts : List Expr} {kk : Nat} {tpos : Pos} (it : Addr) (hod : o.data = .dict es ep) :
    Turn P w K (.Tuple elts kk tpos) (Iti d o kvs) [it] it (fun i h => ∃ ok ov, IsItemIter h it d i kvs.length ep ok ov) where
  mem := by simp
  obj := fun i h st b hb => by
    have e : b = it := by simpa using hb
    subst e
    obtain ⟨ok, ov, e⟩ := st
    exact ⟨_, e, fun v z => nomatch z⟩
  keep := fun i h h' st k => let ⟨ok, ov, e⟩ := st; ⟨ok, ov, k it (by simp) _ e⟩
  item := by
    intro X hP hw hK hc i pins s σ H E I hf st hg
    subst hP hw hK
    obtain ⟨hd, hi⟩ := hg
    obtain ⟨hs, hgd, hx, es', ep', vs, hdt, hsz, kv, hm⟩ := I.frzK hd
    obtain ⟨rfl, rfl⟩ := dict_ep hod hdt
    obtain ⟨⟨k, v⟩, hkv⟩ : ∃ p, kvs[i]? = some p := ⟨kvs[i], List.getElem?_eq_getElem hi⟩
    obtain ⟨u, hu, ru⟩ := kv_get kv hkv
    have hl : kvs.length = vs.length := Paired.length kv
    obtain ⟨ok, ov, he⟩ := st
    rw [hl] at he
    have hlt : it < s.heap.objs.size := Heap.lt_size he
    refine wpAny_pyNext_items_item he hm hu fun key h' hkey ho hT hz hk => ?_
    refine ⟨_, rfl, wpAny_letOwnedTupleGo_items (s := { s with heap := h' }) ho fun h'' he' sb => ?_⟩
    have hT2 : h''.get? s.heap.objs.size = some { cls := .type "tuple", data := .seq #[key, u] } := (sb.2 _ (Nat.ne_of_gt hlt)).trans hT
    have new : ObjOk X.prog X.w (upd H s.heap.objs.size (.tup [kV k, v])) h'' s.heap.objs.size (.tup [kV k, v]) :=
      ⟨by show 2 ≤ sizeLine; decide, [key, u], .cons (relV_key (show keyIs k key = true from hkey)) (.cons ru .nil), ⟨_, hT2, rfl, _, rfl⟩⟩
    have I1 : Inv X pins σ (upd H s.heap.objs.size (.tup [kV k, v])) { s with heap := h'' } :=
      I.turnedNew (t' := s.toks) (ch := [it]) (fun b ob hb e => (sb.2 b (by simpa using hb)).trans (hk b ob (by simpa using hb) e)) hf (Nat.le_refl _) new
    refine ⟨.ref s.heap.objs.size, _, I1, rfl, ⟨_, k, v, hkv, rfl, I.hok.fresh (Nat.le_refl _), rfl⟩, ⟨key, u, ?_⟩, fun b hb => ?_⟩
    · rw [hl]; exact he'
    · have e : b = it := by simpa using hb
      rw [e, upd_ne (Nat.ne_of_lt hlt)]
      exact (hf it (by simp)).1
  done := by
    intro X hP hw hK hc i pins s σ H E I hf st hg
    subst hP hw hK
    obtain ⟨hd, hi⟩ := hg
    obtain ⟨f0, f1, f2, f3, f4, f5⟩ := hf it (by simp)
    obtain ⟨hs, hgd, hx, es', ep', vs, hdt, hsz, kv, hm⟩ := I.frzK hd
    obtain ⟨rfl, rfl⟩ := dict_ep hod hdt
    have hl : kvs.length = vs.length := Paired.length kv
    obtain ⟨ok, ov, he⟩ := st
    rw [hl] at he
    exact wpAny_pyNext_items_end (I.ok.hd hc) he hm (List.getElem?_eq_none (by omega)) fun h' eb => ⟨rfl, I.turned (t' := s.toks) (fun b ob hb e => eb b ob hb e) f0 f1 f3 f4 f5⟩
  self := fun A i s Q E st h => let ⟨_, _, e⟩ := st; PySem.W.kcp_self e h
end
def iVals (td : TE) : TI := fun σ H R => td σ H fun x H1 => ∃ d o kvs, x = .ref d ∧ H1 d = some (.frz o (.dK kvs)) ∧ R (Itd d o kvs) H1
def iItems (td : TE) : TI := fun σ H R => td σ H fun x H1 => ∃ d o kvs, x = .ref d ∧ H1 d = some (.frz o (.dK kvs)) ∧ R (Iti d o kvs) H1
section
variable {X : Cx} {tg e : Expr} {td : TE} {apos cpos : Pos}
theorem pi_values (he : PE X e td) (hbase : attributeBase e "values" X.env (eval e X.env) = eval e X.env := by rfl) (hline : (apos.endLine == cpos.line) = true := by rfl) : PI X tg (.Call (.Attribute e "values" apos) [] [] cpos) (iVals td) := by
  intro pins s σ H R I h
  refine wpAny_Call_method (T := "dict") (id := "dict.values") hbase rfl hline F.plainAttrs_dict F.slot_dict_values F.type_dict_values (thn (he pins s σ H _ I h) fun u s1 ⟨x, H1, I1, rx, d, o, kvs, ex, hd, q⟩ => ?_)
  subst ex
  obtain rfl : u = Value.ref d := rx
  obtain ⟨hs, hgd, hx, es, ep, vs, hdt, hsz, kv, hm⟩ := I1.frzK hd
  have hl : kvs.length = vs.length := Paired.length kv
  refine ⟨hm.dictOf.typeIs, hm.dictOf.mapOf.noDict, ?_⟩
  have I2 : Inv X pins σ H1 { s1 with heap := s1.heap.push { cls := .type "dict_values", data := .fields #[.ref d] } } := I1.kept (t' := s1.toks) fun b ob q => Heap.get?_push_of_some _ q
  have fin : wpAny (model X.prog X.w) X.A (pyIter (.ref s1.heap.objs.size)) (PIE X pins σ tg R) X.xe { s1 with heap := s1.heap.push { cls := .type "dict_values", data := .fields #[.ref d] } } := by
    refine wpAny_pyIter_values (d := d) (knd := mixKind X.prog X.w) ⟨_, Heap.get?_push_size _ rfl, rfl, rfl⟩ (hm.push _) (pi_one (tk := s1.toks) I2 _ (turn_vals _ hdt) ⟨_, Heap.get?_push_size _ rfl, rfl, ?_⟩ q)
    rw [hl] <;> rfl
  show wpAny _ _ (callWith cpos (.builtin "dict.values") [.ref d] [] []) _ X.xe s1
  exact method_meetsIn F.slot_dict_values F.entry_dict_values rfl (PySem.evalArgs_none ⟨rfl, hm.dictOf.typeIs, F.args_dict_values_1 _, _, meets_dict_values (mixKind X.prog X.w) d hs, ⟨vs, hm.dictOf⟩, fin⟩)
theorem pi_items {elts : List Expr} {kk : Nat} {tpos : Pos} (he : PE X e td) (hbase : attributeBase e "items" X.env (eval e X.env) = eval e X.env := by rfl) (hline : (apos.endLine == cpos.line) = true := by rfl) :
    PI X (.Tuple elts kk tpos) (.Call (.Attribute e "items" apos) [] [] cpos) (iItems td) := by
  intro pins s σ H R I h
  refine wpAny_Call_method (T := "dict") (id := "dict.items") hbase rfl hline F.plainAttrs_dict F.slot_dict_items F.type_dict_items (thn (he pins s σ H _ I h) fun u s1 ⟨x, H1, I1, rx, d, o, kvs, ex, hd, q⟩ => ?_)
  subst ex
  obtain rfl : u = Value.ref d := rx
  obtain ⟨hs, hgd, hx, es, ep, vs, hdt, hsz, kv, hm⟩ := I1.frzK hd
  have hl : kvs.length = vs.length := Paired.length kv
  refine ⟨hm.dictOf.typeIs, hm.dictOf.mapOf.noDict, ?_⟩
  have I2 : Inv X pins σ H1 { s1 with heap := s1.heap.push { cls := .type "dict_items", data := .fields #[.ref d] } } := I1.kept (t' := s1.toks) fun b ob q => Heap.get?_push_of_some _ q
  have fin : wpAny (model X.prog X.w) X.A (pyIter (.ref s1.heap.objs.size)) (PIE X pins σ (.Tuple elts kk tpos) R) X.xe { s1 with heap := s1.heap.push { cls := .type "dict_items", data := .fields #[.ref d] } } := by
    refine wpAny_pyIter_items (d := d) (knd := mixKind X.prog X.w) ⟨_, Heap.get?_push_size _ rfl, rfl, rfl⟩ (hm.push _) (pi_one (tk := s1.toks) I2 _ (turn_items _ hdt) ⟨.none, .none, ?_⟩ q)
    rw [hl]
    exact Heap.get?_push_size _ rfl
  show wpAny _ _ (callWith cpos (.builtin "dict.items") [.ref d] [] []) _ X.xe s1
  exact method_meetsIn F.slot_dict_items F.entry_dict_items rfl (PySem.evalArgs_none ⟨rfl, hm.dictOf.typeIs, F.args_dict_items_1 _, _, meets_dict_items (mixKind X.prog X.w) d hs, ⟨vs, hm.dictOf⟩, fin⟩)
end
def Ite (K : PySem.W.Frag) (a : Addr) : It :=
  ⟨fun i H => ∃ (xs : List V) (x : V), SqL K H a xs ∧ xs[i]? = some x, fun i H v H' => ∃ T x, v = .ref T ∧ H T = none ∧ H' = upd H T (.tup [.int (i : Nat), x]) ∧ ∀ xs, SqL K H a xs → xs[i]? = some x, fun i H => ∃ xs : List V, SqL K H a xs ∧ xs.length ≤ i⟩
theorem turn_enum {P : Program} {w : World} {K : PySem.W.Frag} {elts : List Expr} {kk : Nat} {tpos : Pos} (a e it : Addr) :
    Turn P w K (.Tuple elts kk tpos) (Ite K a) [e, it] e (fun i h => (∃ old, IsEnum h e it ((i : Nat) : Int) old) ∧ h.IsListIter it a i ∧ e ≠ it) where
  mem := by simp
  obj := fun i h st b hb => by
    obtain ⟨⟨old, he⟩, ⟨o, ho, hc, hd⟩, _⟩ := st
    have e' : b = e ∨ b = it := by simpa using hb
    rcases e' with z | z
    · rw [z]; exact ⟨_, he, fun v q => nomatch q⟩
    · rw [z]; exact ⟨o, ho, fun v q => by rw [hd] at q; cases q⟩
  keep := fun i h h' st k => let ⟨⟨old, he⟩, hi, hne⟩ := st; ⟨⟨old, k e (by simp) _ he⟩, hi.at fun o q => k it (by simp) o q, hne⟩
  item := by
    intro X hP hw hK hc i pins s σ H E I hf st hg
    subst hP hw hK
    obtain ⟨⟨old, he⟩, hit, hne⟩ := st
    obtain ⟨xs, x, hq, hx⟩ := hg
    obtain ⟨its, rv, p, hz⟩ := I.list hq
    obtain ⟨u, hu, ru⟩ := rv.get hx
    have hel : e < s.heap.objs.size := Heap.lt_size he
    have hil : it < s.heap.objs.size := by obtain ⟨_, q, _⟩ := hit; exact Heap.lt_size q
    refine wpAny_pyNext_enum_item he hit p.isList (x := u) (by simpa using hu) hne fun h' ho hit' hT hsz hk => ?_
    refine ⟨_, rfl, wpAny_letOwnedTupleGo_enum (s := { s with heap := h', toks := s.toks + 1 }) ho fun h'' he' sb => ?_⟩
    have hT2 : h''.get? s.heap.objs.size = some { cls := .type "tuple", data := .seq #[.int i s.toks, u] } := (sb.2 _ (Nat.ne_of_gt hel)).trans hT
    have new : ObjOk X.prog X.w (upd H s.heap.objs.size (.tup [.int (i : Nat), x])) h'' s.heap.objs.size (.tup [.int (i : Nat), x]) :=
      ⟨by show 2 ≤ sizeLine; decide, [.int i s.toks, u], .cons ⟨_, rfl⟩ (.cons ru .nil), ⟨_, hT2, rfl, _, rfl⟩⟩
    have I1 : Inv X pins σ (upd H s.heap.objs.size (.tup [.int (i : Nat), x])) { s with heap := h'', toks := s.toks + 1 } :=
      I.turnedNew (ch := [e, it]) (fun b ob hb q => (sb.2 b (fun z => hb (by simp [z]))).trans (hk b ob (fun z => hb (by simp [z])) (fun z => hb (by simp [z])) q)) hf (Nat.le_refl _) new
    refine ⟨.ref s.heap.objs.size, _, I1, rfl, ⟨_, x, rfl, I.hok.fresh (Nat.le_refl _), rfl, fun ys hy => by rw [I.list_inj hy hq]; exact hx⟩, ⟨⟨u, ?_⟩, hit'.at fun o q => (sb.2 it (Ne.symm hne)).trans q, hne⟩, fun b hb => ?_⟩
    · have e1 : ((i + 1 : Nat) : Int) = (i : Int) + 1 := by omega
      rw [e1]; exact he'
    · have hb' : b < s.heap.objs.size := by
        have e' : b = e ∨ b = it := by simpa using hb
        rcases e' with z | z
        · rw [z]; exact hel
        · rw [z]; exact hil
      rw [upd_ne (Nat.ne_of_lt hb')]
      exact (hf b hb).1
  done := by
    intro X hP hw hK hc i pins s σ H E I hf st hg
    subst hP hw hK
    obtain ⟨⟨old, he⟩, hit, hne⟩ := st
    obtain ⟨xs, hq, hx⟩ := hg
    obtain ⟨its, rv, p, hz⟩ := I.list hq
    obtain ⟨f0, f1, f2, f3, f4, f5⟩ := hf it (by simp)
    have hl := rv.length
    exact wpAny_pyNext_enum_end (I.ok.hd hc) he hit p.isList (by simp; omega) fun h' eb => ⟨rfl, I.turned (t' := s.toks) (fun b o hb q => eb b o hb q) f0 f1 f3 f4 f5⟩
  self := fun A i s Q E st h => let ⟨⟨_, he⟩, _⟩ := st; wpAny_pyIter_enum he h
def iEnum (K : PySem.W.Frag) (ta : TA) : TI := fun σ H R => ta σ H fun vs H1 => ∃ a xs, vs = [.ref a] ∧ SqL K H1 a xs ∧ R (Ite K a) H1
theorem pi_enum {X : Cx} {e : Expr} {ta : TA} {p pos tpos : Pos} {elts : List Expr} {kk : Nat} (hg : Gl X "enumerate") (hm : X.mg "enumerate" = none) (ha : PA X [e] ta) (hs : starEach [e] X.env = [(false, eval e X.env)] := by rfl) :
    PI X (.Tuple elts kk tpos) (.Call (.Name "enumerate" p) [e] [] pos) (iEnum X.K ta) := by
  intro pins s σ H R I h
  refine Call_ (ld_blt I hg hm boot_enumerate (PyProof.Rows.callWith_type1 (thn (ha pos pins s σ H _ I h) fun us s1 ⟨vs, H1, I1, r1, q1⟩ => ?_) hs rfl))
  obtain ⟨a, xs, ex, hq, q⟩ := q1
  subst ex
  cases r1 with
  | cons r rr =>
    cases rr
    cases r
    obtain ⟨its, rv, p', hz⟩ := I1.list hq
    refine call_enumerate_list p'.isList fun h' he hit hsz hk => wpAny_pyIter_enum he ?_
    have I2 : Inv X pins σ H1 { s1 with heap := h' } := I1.kept (t' := s1.toks) hk
    refine ⟨s1.heap.objs.size + 1, [s1.heap.objs.size + 1, s1.heap.objs.size], _, _, H1, rfl, I2, turn_enum a (s1.heap.objs.size + 1) s1.heap.objs.size, ⟨⟨.none, he⟩, hit, Nat.succ_ne_self _⟩, fun b hb => ?_, q⟩
    have e' : b = s1.heap.objs.size + 1 ∨ b = s1.heap.objs.size := by simpa using hb
    have hle : s1.heap.objs.size ≤ b := by
      rcases e' with z | z
      · rw [z]; exact Nat.le_add_right _ _
      · rw [z]; exact Nat.le_refl _
    exact I1.fpOk hle (I1.hok.fresh hle)
end L2
section 
namespace Bits
open PySem PyProof.Rows
end Bits
end 
section 
namespace TL
open PySem PySem.Builtin PySem.Builtin.Str PySem.StrLaws
end TL
end 
namespace L2
open PySem PySem.Spec PyProof.Rows
section
variable {X : Cx} {pins : List (Addr × Obj)} {σ : St} {H : Hp} {s : Shared} {Q : VK}
end
section
variable {X : Cx}
end
section
variable {X : Cx} {o e : Expr} {to te : TE}
end
end L2
namespace L2
open PySem PySem.Spec PyProof.Rows
section
variable {X : Cx}
end
end L2
namespace Att
open PySem PySem.W PySem.Calls PyProof.Rows
section
variable {prog : Program} {w : World} {A : Around} {E : Value → Shared → Prop} {s : Shared} {K : Frag}
end
end Att
namespace L2
open PySem PySem.Spec PyProof.Rows
end L2
namespace L2
open PySem PySem.Spec PyProof.Rows
end L2
namespace L2
open PySem PySem.Spec PyProof.Rows
def inClass (s : Stmt) (j : Nat) : Stmt := match s with
  | .ClassDef _ _ _ body _ _ _ _ _ _ _ => body.getD j (.Pass ⟨0, 0, 0, 0⟩)
  | _ => .Pass ⟨0, 0, 0, 0⟩
def defArgs (s : Stmt) : Arguments := match s with
  | .FunctionDef _ a _ _ _ _ _ _ _ _ => a
  | _ => { posonlyargs := [], args := [], vararg := none, kwonlyargs := [], kw_defaults := [], kwarg := none, defaults := [] }
def defBody (s : Stmt) : List Stmt := match s with
  | .FunctionDef _ _ b _ _ _ _ _ _ _ => b
  | _ => []
def defScope (s : Stmt) : Scope := match s with
  | .FunctionDef _ _ _ _ _ _ sc _ _ _ => sc
  | _ => { kind := .function, names := [], isGenerator := false, isCoroutine := false }
abbrev CX0 : CXT := fun _ _ _ _ _ _ => False
abbrev E0 : XK := fun _ _ _ => False
theorem pass0 {X : Cx} : Passes CX0 X E0 := fun _ _ _ _ _ _ _ h => h.elim
structure Fun (K : PySem.W.Frag) (x qual : Str) (st : Stmt) (f : Addr) (fd : FuncData) : Prop where
  ex : ∃ (oc : Value) (od : Option Addr) (kV doc pm : Value) (an : Option Addr) (cdv ct : Value) (osl : Array (Option Value)),
    fd = PySem.W.fnOf x qual (defArgs st) (defBody st) (defScope st) .none kV doc pm an cdv ct ∧ K.lookup f = some ⟨oc, od, .func fd, osl⟩ ∧ PySem.W.codeIn K cdv qual = true
  kp : PySem.W.keepIn K (.ref f) = true
section
variable {P : Program} {w : World} {K : PySem.W.Frag} {mg : Str → Option Value} {base : Heap}
theorem Fun.ok {x qual : Str} {st : Stmt} {f : Addr} {fd : FuncData} {N ps : List Str} {k : Nat} {sp : Sp} (F : Fun K x qual st f fd) (S : FnScope N ps (defScope st)) (len : ∀ vs H Q E, sp vs H Q E → vs.length = ps.length)
    (hbody : ∀ (cdv : Value) (A : Around) (outer : List Env) (s : Shared) (H : Hp) (vs : List V) (Q : VK) (E : XK), Room k (A.deeper (envOfC qual (defScope st) s.heap.objs.size f cdv)) → sp vs H Q E →
      ∃ t, PSs (cxOf CX0 P w K mg base N qual (defScope st) f cdv A outer s H E).nox (defBody st) t ∧ t { nx := fun _ H' => Q .non H', rt := Q } (start N vs) H) : FnOk P w K mg base CX0 (k + 1) f fd ps sp := by
  obtain ⟨oc, od, kV, doc, pm, an, cdv, ct, osl, rfl, lk, hcd⟩ := F.ex
  refine fn_of lk hcd S len fun A outer s H vs Q E hr hsp => ?_
  obtain ⟨t, h, q⟩ := hbody cdv A outer s H vs Q E hr hsp
  exact ⟨t, h.nox, q⟩
theorem Fun.binds {x qual : Str} {st : Stmt} {f : Addr} {fd : FuncData} {ps : List Str} (F : Fun K x qual st f fd)
    (h : ∀ (kV doc pm : Value) (an : Option Addr) (cdv ct : Value) (us : List Value), us.length = ps.length → bindArgs (PySem.W.fnOf x qual (defArgs st) (defBody st) (defScope st) .none kV doc pm an cdv ct) ⟨us, []⟩ = pure (ps.zip us)) : Binds K fd ps [] := by
  obtain ⟨oc, od, kV, doc, pm, an, cdv, ct, osl, rfl, lk, hcd⟩ := F.ex
  exact .all (h kV doc pm an cdv ct)
theorem fun_mk {x qual : Str} {st : Stmt} {f : Addr} {oc : Value} {od an : Option Addr} {osl : Array (Option Value)} {kV doc pm cdv ct : Value} (l : K.lookup f = some ⟨oc, od, .func (PySem.W.fnOf x qual (defArgs st) (defBody st) (defScope st) .none kV doc pm an cdv ct), osl⟩)
    (c : PySem.W.codeIn K cdv qual = true) (k : PySem.W.keepIn K (.ref f) = true) : Fun K x qual st f (PySem.W.fnOf x qual (defArgs st) (defBody st) (defScope st) .none kV doc pm an cdv ct) := ⟨⟨oc, od, kV, doc, pm, an, cdv, ct, osl, rfl, l, c⟩, k⟩
end
theorem hu_of {A : Around} {k : Nat} (hr : Room k A) : A.units + 1 < cLine := Nat.lt_of_le_of_lt (Nat.add_le_add_left (by decide : 1 ≤ 64) _) hr.units
theorem small1000 {n : Nat} (h : n ≤ 1000) : n < sizeLine := Nat.lt_of_le_of_lt h (by decide)
section
variable {X : Cx}
theorem pv (i : Nat) {x : Str} {pos : Pos} (hN : X.N[i]? = some x := by rfl) (hv : Vis X.env.scope x := by first | exact Or.inl rfl | exact Or.inr (Or.inl rfl) | exact Or.inr (Or.inr rfl)) (hd : (x == ("__debug__" : Str)) = false := by decide)
    (hcd : (x == ("__classdict__" : Str)) = false := by decide) : PE X (.Name x pos) (tVar i) := pe_var hN hv hd hcd
end
theorem iteF {A B : Prop} (h : B) : if false = true then A else B := by
  rw [if_neg Bool.false_ne_true]
  exact h
theorem iteT {A B : Prop} (h : A) : if true = true then A else B := by
  rw [if_pos rfl]
  exact h
theorem ite2 {c A B : Prop} [Decidable c] (h1 : c → A) (h2 : ¬ c → B) : if c then A else B := by
  by_cases h : c
  · rw [if_pos h]
    exact h1 h
  · rw [if_neg h]
    exact h2 h
def Same (H H' : Hp) : Prop := ∀ b o, H b = some o → H' b = some o
theorem Same.refl (H : Hp) : Same H H := fun _ _ h => h
theorem Same.trans {H H1 H2 : Hp} (a : Same H H1) (b : Same H1 H2) : Same H H2 := fun c o h => b c o (a c o h)
theorem Same.free {H H' : Hp} (e : Same H H') {l : Addr} (h : H' l = Option.none) : H l = Option.none := by
  cases q : H l with
  | none => rfl
  | some o =>
    rw [e l o q] at h
    cases h
section
variable {κ : Type} [DecidableEq κ]
theorem valV_not {kvs : List (κ × V)} {k : κ} (h : valV kvs k = none) : ¬ k ∈ kvs.map (·.1) := by
  intro m
  obtain ⟨p, hp, e⟩ := List.mem_map.mp m
  have q : (kvs.any fun kv => decide (kv.1 = k)) = true := List.any_eq_true.mpr ⟨p, hp, decide_eq_true e⟩
  rw [valV_any, h] at q
  exact absurd q (by simp)
theorem valV_in {kvs : List (κ × V)} {k : κ} {v : V} (h : valV kvs k = some v) : k ∈ kvs.map (·.1) := by
  have q : (kvs.any fun kv => decide (kv.1 = k)) = true := by
    rw [valV_any, h]
    all_goals rfl
  obtain ⟨p, hp, e⟩ := List.any_eq_true.mp q
  exact List.mem_map.mpr ⟨p, hp, of_decide_eq_true e⟩
theorem dropK_pos {p : κ × V} {r : List (κ × V)} {k : κ} (e : p.1 = k) : dropK (p :: r) k = dropK r k := by
  unfold dropK
  rw [List.filter_cons, if_neg (by simp [e])]
theorem dropK_neg {p : κ × V} {r : List (κ × V)} {k : κ} (e : ¬ p.1 = k) : dropK (p :: r) k = p :: dropK r k := by
  unfold dropK
  rw [List.filter_cons, if_pos (by simp [e])]
end
theorem Same.made {H H1 : Hp} {x dx C : Addr} (nx : H x = Option.none) (nd : H dx = Option.none) (k : ∀ b o, (upd (upd H dx (.own x)) x (.ins C dx [])) b = some o → b ≠ x → H1 b = some o) : Same H H1 := fun b o e =>
  k b o (by rw [upd_ne (ne_of_none e nx), upd_ne (ne_of_none e nd)]; exact e) (ne_of_none e nx)
end L2
end
section
set_option Elab.async false
set_option linter.all false
set_option maxRecDepth 100000
set_option maxHeartbeats 2000000
namespace L2
open PySem PySem.Spec PyProof.Rows
open PySem.W (WData Codec OpenSpec Well WellAll ReadsW ReadsAllW)
mutual
/-- x stands for the datum d, lists and tuples all the way -/
inductive Dw (K : PySem.W.Frag) (H : Hp) : V → WData → Prop
  | non : Dw K H .non .none
  | bl (b : Bool) : Dw K H (.bl b) (.bool b)
  | int (i : Int) : Dw K H (.int i) (.int i)
  | str (x : Str) : Dw K H (.str x) (.str x)
  | byt (b : Array UInt8) : Dw K H (.byt b) (.bytes b.toList)
  | lst {a : Addr} {xs : List V} {ds : List WData} : SqL K H a xs → DwAll K H xs ds → Dw K H (.ref a) (.list ds)
  | tup {a : Addr} {xs : List V} {ds : List WData} : SqT K H a xs → DwAll K H xs ds → Dw K H (.ref a) (.tuple ds)
inductive DwAll (K : PySem.W.Frag) (H : Hp) : List V → List WData → Prop
  | nil : DwAll K H [] []
  | cons {v : V} {vs : List V} {d : WData} {ds : List WData} : Dw K H v d → DwAll K H vs ds → DwAll K H (v :: vs) (d :: ds)
end
theorem dw_ints {K : PySem.W.Frag} {H : Hp} : ∀ ns : List Int, DwAll K H (ns.map V.int) (ns.map WData.int)
  | [] => .nil
  | n :: r => .cons (.int n) (dw_ints r)
theorem ints_dw {K : PySem.W.Frag} {H : Hp} : ∀ (ns : List Int) (xs : List V), DwAll K H xs (ns.map WData.int) → xs = ns.map V.int
  | [], xs, h => by
    cases h
    rfl
  | n :: r, xs, h => by
    cases h with
    | cons h1 h2 =>
      cases h1
      rw [ints_dw r _ h2] <;> rfl
section
variable {P : Program} {w : World} {K : PySem.W.Frag} {H : Hp} {h : Heap} {R : PySem.W.WRecords} {cl : Str → Option Addr}
theorem sqL_at {a : Addr} {xs : List V} (hok : HOk P w H h) (KX : K.In h) (q : SqL K H a xs) : ∃ (its : List Value) (o : Obj) (n : Nat), Vals xs its ∧ h.get? a = some o ∧ o.cls = .type "list" ∧ o.data = .seq its.toArray n := by
  rcases q with q | ⟨o, its, n, e, hc, _, hd, _, hv⟩
  · obtain ⟨_, its, n, hv, e⟩ := (show ObjOk P w H h a (.lst xs) from q.ok hok)
    exact ⟨its, _, n, hv, e, rfl, rfl⟩
  · exact ⟨its.toList, o, n, hv, KX _ _ e, hc, by simp [hd]⟩
theorem sqT_at {a : Addr} {xs : List V} (hok : HOk P w H h) (KX : K.In h) (q : SqT K H a xs) : ∃ (its : List Value) (o : Obj) (n : Nat), Vals xs its ∧ h.get? a = some o ∧ o.cls = .type "tuple" ∧ o.data = .seq its.toArray n := by
  rcases q with q | ⟨o, its, n, e, hc, hd, _, hv⟩
  · obtain ⟨_, its, hv, o, e, hc, n, hd⟩ := (show ObjOk P w H h a (.tup xs) from q.ok hok)
    exact ⟨its, o, n, hv, e, hc, hd⟩
  · exact ⟨its.toList, o, n, hv, KX _ _ e, hc, by simp [hd]⟩
mutual
theorem Dw.reads (hok : HOk P w H h) (KX : K.In h) : ∀ (d : WData) (v : V) (u : Value), Dw K H v d → RelV v u → ∃ as, ReadsW R cl h u d as
  | .none, _, _, x, r => by
    cases x
    cases r
    exact ⟨_, ReadsW.none⟩
  | .bool b, _, _, x, r => by
    cases x
    cases r
    exact ⟨_, ReadsW.bool b⟩
  | .int i, _, _, x, r => by
    cases x
    obtain ⟨t, rfl⟩ := r
    exact ⟨_, ReadsW.int i t⟩
  | .str s, _, _, x, r => by
    cases x
    obtain ⟨t, rfl⟩ := r
    exact ⟨_, ReadsW.str s t⟩
  | .bytes b, _, _, x, r => by
    cases x
    obtain ⟨t, rfl⟩ := r
    exact ⟨_, ReadsW.bytes _ t⟩
  | .list ds, _, _, x, r => by
    cases x with
    | lst hs ha =>
      cases r
      obtain ⟨its, o, n, rv, ho, hc, hd⟩ := sqL_at hok KX hs
      obtain ⟨as, hr⟩ := Dw.readsAll hok KX ds _ its ha rv
      exact ⟨_, ReadsW.list ho hc hd hr⟩
  | .tuple ds, _, _, x, r => by
    cases x with
    | tup hs ha =>
      cases r
      obtain ⟨its, o, n, rv, ho, hc, hd⟩ := sqT_at hok KX hs
      obtain ⟨as, hr⟩ := Dw.readsAll hok KX ds _ its ha rv
      exact ⟨_, ReadsW.tuple ho hc hd hr⟩
  | .float _, _, _, x, _ => by cases x
  | .dict _, _, _, x, _ => by cases x
  | .bytearray _, _, _, x, _ => by cases x
  | .set _, _, _, x, _ => by cases x
  | .frozenset _, _, _, x, _ => by cases x
  | .obj _ _, _, _, x, _ => by cases x
theorem Dw.readsAll (hok : HOk P w H h) (KX : K.In h) : ∀ (ds : List WData) (vs : List V) (us : List Value), DwAll K H vs ds → Vals vs us → ∃ as, ReadsAllW R cl h us ds as
  | [], _, _, x, r => by
    cases x
    cases r
    exact ⟨_, ReadsAllW.nil⟩
  | d :: ds, _, _, x, r => by
    cases x with
    | cons h1 h2 =>
      cases r with
      | cons r1 r2 =>
        obtain ⟨as, q1⟩ := Dw.reads hok KX d _ _ h1 r1
        obtain ⟨bs, q2⟩ := Dw.readsAll hok KX ds _ _ h2 r2
        exact ⟨_, ReadsAllW.cons q1 q2⟩
end
end
mutual
/-- data that a codec tells -/
def plW : WData → Bool
  | .none => true
  | .bool _ => true
  | .int _ => true
  | .str _ => true
  | .bytes _ => true
  | .list xs => plWs xs
  | .tuple xs => plWs xs
  | _ => false
def plWs : List WData → Bool
  | [] => true
  | x :: r => plW x && plWs r
end
theorem plWs_map {α : Type} {f : α → WData} (h : ∀ a, plW (f a) = true) : ∀ l : List α, plWs (l.map f) = true
  | [] => rfl
  | x :: r => by
    show (plW (f x) && plWs (r.map f)) = true
    rw [h x, plWs_map h r] <;> rfl
theorem pl_enc : ∀ (c : Codec) (a : c.denote), plW (c.enc a) = true
  | .unit, _ => rfl
  | .bool, _ => rfl
  | .int _ _, _ => rfl
  | .nat _ _, _ => rfl
  | .u8, _ => rfl
  | .bytes _ _, _ => rfl
  | .text _ _ _ _, _ => rfl
  | .list _ _ c, a => plWs_map (fun x => pl_enc c x) a
  | .pair c d, a => by
    show (plW (c.enc a.1) && (plW (d.enc a.2) && true)) = true
    rw [pl_enc c a.1, pl_enc d a.2] <;> rfl
  | .triple c d e, a => by
    show (plW (c.enc a.1) && (plW (d.enc a.2.1) && (plW (e.enc a.2.2) && true))) = true
    rw [pl_enc c a.1, pl_enc d a.2.1, pl_enc e a.2.2] <;> rfl
  | .option c, none => rfl
  | .option c, some x => pl_enc c x
theorem pl_encAll : ∀ (cs : List Codec) (a : Codec.denoteAll cs), plWs (Codec.encAll cs a) = true
  | [], _ => rfl
  | c :: cs, a => by
    show (plW (c.enc a.1) && plWs (Codec.encAll cs a.2)) = true
    rw [pl_enc c a.1, pl_encAll cs a.2] <;> rfl
theorem weight_mem : ∀ {xs : List WData} {d : WData}, d ∈ xs → d.weight ≤ WData.weightAll xs
  | [], d, h => absurd h (by simp)
  | x :: r, d, h => by
    show d.weight ≤ x.weight + 1 + WData.weightAll r
    rcases List.mem_cons.mp h with e | m
    · rw [e]
      omega
    · have z := weight_mem m
      omega
def toV : Value → V
  | .none => .non
  | .bool b => .bl b
  | .int i _ => .int i
  | .str x _ => .str x
  | .bytes b _ => .byt b
  | .ref a => .ref a
  | _ => .non
def OkU (A : List Addr) : Value → Prop
  | .none => True
  | .bool _ => True
  | .int _ _ => True
  | .str _ _ => True
  | .bytes _ _ => True
  | .ref a => a ∈ A
  | _ => False
theorem OkU.mono {A B : List Addr} (h : ∀ a ∈ A, a ∈ B) : ∀ {u : Value}, OkU A u → OkU B u := fun {u} x => by
  cases u with
  | ref a => exact h a x
  | none => trivial
  | bool b => trivial
  | int i t => trivial
  | str s t => trivial
  | bytes b t => trivial
  | _ => exact False.elim x
theorem relV_toV {A : List Addr} {u : Value} (x : OkU A u) : RelV (toV u) u := by
  cases u with
  | ref a => rfl
  | none => rfl
  | bool b => rfl
  | int i t => exact ⟨t, rfl⟩
  | str s t => exact ⟨t, rfl⟩
  | bytes b t => exact ⟨t, rfl⟩
  | _ => exact False.elim x
theorem vals_toV {A : List Addr} : ∀ {vs : List Value}, (∀ u ∈ vs, OkU A u) → Vals (vs.map toV) vs
  | [], _ => .nil
  | u :: r, h => .cons (relV_toV (h u (List.mem_cons_self ..))) (vals_toV fun x hx => h x (List.mem_cons_of_mem _ hx))
def ArgOb (h : Heap) (A : List Addr) (a : Addr) : Prop := ∃ vs : List Value, vs.length ≤ sizeLine ∧ (∀ u ∈ vs, OkU A u) ∧
  (h.get? a = some { cls := .type "list", data := .seq vs.toArray } ∨ h.get? a = some { cls := .type "tuple", data := .seq vs.toArray })
theorem ArgOb.mono {h : Heap} {A B : List Addr} {a : Addr} (k : ∀ a ∈ A, a ∈ B) (x : ArgOb h A a) : ArgOb h B a := by
  obtain ⟨vs, h1, h2, h3⟩ := x
  exact ⟨vs, h1, fun u hu => (h2 u hu).mono k, h3⟩
theorem wellAll_len {P : Params} {h : Heap} : ∀ {vs : List Value} {ds : List WData}, WellAll P h vs ds → vs.length = ds.length
  | _, _, .nil => rfl
  | _, _, .cons _ b => by
    show _ + 1 = _ + 1
    rw [wellAll_len b]
theorem well_list {P : Params} {h : Heap} {v : Value} {ds : List WData} (x : Well P h v (.list ds)) : ∃ (a : Addr) (vs : List Value), v = .ref a ∧ h.get? a = some { cls := .type "list", data := .seq vs.toArray } ∧ WellAll P h vs ds := by
  cases x with
  | list ho hall => exact ⟨_, _, rfl, ho, hall⟩
theorem well_tuple {P : Params} {h : Heap} {v : Value} {ds : List WData} (x : Well P h v (.tuple ds)) : ∃ (a : Addr) (vs : List Value), v = .ref a ∧ h.get? a = some { cls := .type "tuple", data := .seq vs.toArray } ∧ WellAll P h vs ds := by
  cases x with
  | tuple ho hall => exact ⟨_, _, rfl, ho, hall⟩
theorem well_cons {P : Params} {h : Heap} {us : List Value} {d : WData} {ds : List WData} (x : WellAll P h us (d :: ds)) : ∃ (v : Value) (vs : List Value), us = v :: vs ∧ Well P h v d ∧ WellAll P h vs ds := by
  cases x with
  | cons a b => exact ⟨_, _, rfl, a, b⟩
theorem line_of {n : Nat} (h : n ≤ 1048576) : n ≤ sizeLine := Nat.le_trans h (by decide)
section
variable {P : Params} {h : Heap}
mutual
theorem area_one : ∀ (d : WData) (v : Value), Well P h v d → plW d = true → d.weight ≤ 1048576 → ∃ A : List Addr, OkU A v ∧ ∀ a ∈ A, ArgOb h A a
  | .none, _, x, _, _ => by
    cases x
    exact ⟨[], trivial, fun a m => absurd m (by simp)⟩
  | .bool b, _, x, _, _ => by
    cases x
    exact ⟨[], trivial, fun a m => absurd m (by simp)⟩
  | .int i, _, x, _, _ => by
    cases x
    exact ⟨[], trivial, fun a m => absurd m (by simp)⟩
  | .str s, _, x, _, _ => by
    cases x
    exact ⟨[], trivial, fun a m => absurd m (by simp)⟩
  | .bytes b, _, x, _, _ => by
    cases x
    exact ⟨[], trivial, fun a m => absurd m (by simp)⟩
  | .list ds, _, x, p, z => by
    obtain ⟨a, vs, rfl, ho, hall⟩ := well_list x
    have z2 : WData.weightAll ds ≤ 1048576 := z
    obtain ⟨A, h1, h2⟩ := area_all ds _ hall p fun d hd => Nat.le_trans (weight_mem hd) z2
    have k : ∀ b ∈ A, b ∈ a :: A := fun b hb => List.mem_cons_of_mem _ hb
    refine ⟨a :: A, List.mem_cons_self .., fun b hb => ?_⟩
    rcases List.mem_cons.mp hb with e | m
    · rw [e]
      exact ⟨vs, line_of (by rw [wellAll_len hall]; exact Nat.le_trans (PySem.W.length_le_weightAllW ds) z2), fun u hu => (h1 u hu).mono k, .inl ho⟩
    · exact (h2 b m).mono k
  | .tuple ds, _, x, p, z => by
    obtain ⟨a, vs, rfl, ho, hall⟩ := well_tuple x
    have z2 : WData.weightAll ds ≤ 1048576 := z
    obtain ⟨A, h1, h2⟩ := area_all ds _ hall p fun d hd => Nat.le_trans (weight_mem hd) z2
    have k : ∀ b ∈ A, b ∈ a :: A := fun b hb => List.mem_cons_of_mem _ hb
    refine ⟨a :: A, List.mem_cons_self .., fun b hb => ?_⟩
    rcases List.mem_cons.mp hb with e | m
    · rw [e]
      exact ⟨vs, line_of (by rw [wellAll_len hall]; exact Nat.le_trans (PySem.W.length_le_weightAllW ds) z2), fun u hu => (h1 u hu).mono k, .inr ho⟩
    · exact (h2 b m).mono k
  | .float _, _, _, p, _ => Bool.noConfusion (show false = true from p)
  | .dict _, _, _, p, _ => Bool.noConfusion (show false = true from p)
  | .bytearray _, _, _, p, _ => Bool.noConfusion (show false = true from p)
  | .set _, _, _, p, _ => Bool.noConfusion (show false = true from p)
  | .frozenset _, _, _, p, _ => Bool.noConfusion (show false = true from p)
  | .obj _ _, _, _, p, _ => Bool.noConfusion (show false = true from p)
theorem area_all : ∀ (ds : List WData) (vs : List Value), WellAll P h vs ds → plWs ds = true → (∀ d ∈ ds, d.weight ≤ 1048576) → ∃ A : List Addr, (∀ u ∈ vs, OkU A u) ∧ ∀ a ∈ A, ArgOb h A a
  | [], _, x, _, _ => by
    cases x
    exact ⟨[], fun u m => absurd m (by simp), fun a m => absurd m (by simp)⟩
  | d :: ds, _, x, p, z => by
    obtain ⟨v, vs, rfl, x1, x2⟩ := well_cons x
    have q : plW d = true ∧ plWs ds = true := Bool.and_eq_true_iff.mp p
    obtain ⟨A, a1, a2⟩ := area_one d v x1 q.1 (z d (List.mem_cons_self ..))
    obtain ⟨B, b1, b2⟩ := area_all ds vs x2 q.2 fun e he => z e (List.mem_cons_of_mem _ he)
    have kA : ∀ b ∈ A, b ∈ A ++ B := fun b hb => List.mem_append.mpr (.inl hb)
    have kB : ∀ b ∈ B, b ∈ A ++ B := fun b hb => List.mem_append.mpr (.inr hb)
    refine ⟨A ++ B, fun u hu => ?_, fun b hb => ?_⟩
    · rcases List.mem_cons.mp hu with e | m
      · rw [e]
        exact a1.mono kA
      · exact (b1 u m).mono kB
    · rcases List.mem_append.mp hb with m | m
      · exact (a2 b m).mono kA
      · exact (b2 b m).mono kB
end
end
def hoOf (o : Obj) : Option HO := match o.data with
  | .seq vs _ => if (o.cls == Value.type "list") = true then some (.frz o (.lst (vs.toList.map toV))) else some (.frz o (.tup (vs.toList.map toV)))
  | _ => none
def argH (K : PySem.W.Frag) (h : Heap) (A : List Addr) : Hp := fun b => if b ∈ A then (if (K.lookup b).isNone = true then (h.get? b).bind hoOf else none) else none
def OnlyF (H : Hp) : Prop := ∀ b, H b = none ∨ ∃ o u, H b = some (.frz o u)
theorem hoOf_lst (vs : List Value) : hoOf { cls := .type "list", data := .seq vs.toArray } = some (.frz { cls := .type "list", data := .seq vs.toArray } (.lst (vs.map toV))) := by
  show (if (Value.type "list" == Value.type "list") = true then some (HO.frz { cls := .type "list", data := .seq vs.toArray } (.lst (vs.toArray.toList.map toV))) else some (HO.frz { cls := .type "list", data := .seq vs.toArray } (.tup (vs.toArray.toList.map toV)))) = _
  rw [if_pos (beq_self_eq_true _)]
theorem hoOf_tup (vs : List Value) : hoOf { cls := .type "tuple", data := .seq vs.toArray } = some (.frz { cls := .type "tuple", data := .seq vs.toArray } (.tup (vs.map toV))) := by
  show (if (Value.type "tuple" == Value.type "list") = true then some (HO.frz { cls := .type "tuple", data := .seq vs.toArray } (.lst (vs.toArray.toList.map toV))) else some (HO.frz { cls := .type "tuple", data := .seq vs.toArray } (.tup (vs.toArray.toList.map toV)))) = _
  rw [if_neg (by decide)]
section
variable {P : Program} {w : World} {K : PySem.W.Frag} {h : Heap} {A : List Addr}
theorem argH_at {b : Addr} {o : Obj} (hb : b ∈ A) (hk : K.lookup b = none) (e : h.get? b = some o) : argH K h A b = hoOf o := by
  unfold argH
  rw [if_pos hb, hk, if_pos (show (none : Option Obj).isNone = true from rfl), e] <;> rfl
theorem of_argH {b : Addr} {u : HO} (q : argH K h A b = some u) : b ∈ A ∧ K.lookup b = none := by
  unfold argH at q
  by_cases hb : b ∈ A
  · rw [if_pos hb] at q
    cases hk : K.lookup b with
    | none => exact ⟨hb, rfl⟩
    | some o =>
      rw [hk, if_neg (by simp)] at q
      cases q
  · rw [if_neg hb] at q
    cases q
theorem argH_is (ar : ∀ a ∈ A, ArgOb h A a) {b : Addr} {u : HO} (q : argH K h A b = some u) : K.lookup b = none ∧ ∃ vs : List Value, vs.length ≤ sizeLine ∧ (∀ u ∈ vs, OkU A u) ∧
    ((h.get? b = some { cls := .type "list", data := .seq vs.toArray } ∧ u = .frz { cls := .type "list", data := .seq vs.toArray } (.lst (vs.map toV))) ∨
     (h.get? b = some { cls := .type "tuple", data := .seq vs.toArray } ∧ u = .frz { cls := .type "tuple", data := .seq vs.toArray } (.tup (vs.map toV)))) := by
  obtain ⟨hb, hk⟩ := of_argH q
  obtain ⟨vs, h1, h2, h3⟩ := ar b hb
  refine ⟨hk, vs, h1, h2, ?_⟩
  rcases h3 with e | e
  · rw [argH_at hb hk e, hoOf_lst] at q
    exact .inl ⟨e, (Option.some.inj q).symm⟩
  · rw [argH_at hb hk e, hoOf_tup] at q
    exact .inr ⟨e, (Option.some.inj q).symm⟩
theorem argH_only (ar : ∀ a ∈ A, ArgOb h A a) : OnlyF (argH K h A) := fun b => by
  cases q : argH K h A b with
  | none => exact .inl rfl
  | some u =>
    obtain ⟨_, vs, _, _, ⟨_, e⟩ | ⟨_, e⟩⟩ := argH_is ar q
    · exact .inr ⟨_, _, by rw [e]⟩
    · exact .inr ⟨_, _, by rw [e]⟩
theorem argH_ok (ar : ∀ a ∈ A, ArgOb h A a) : HOk P w (argH K h A) h := fun b u q => by
  obtain ⟨_, vs, h1, h2, ⟨e, rfl⟩ | ⟨e, rfl⟩⟩ := argH_is ar q
  · exact ⟨e, by rw [List.length_map]; exact h1, vs, _, vals_toV h2, e⟩
  · exact ⟨e, by rw [List.length_map]; exact h1, vs, vals_toV h2, _, e, rfl, _, rfl⟩
theorem seq_inj {c c' : Value} {vs us : List Value} (e : (some { cls := c, data := .seq vs.toArray } : Option Obj) = some { cls := c', data := .seq us.toArray }) : c = c' ∧ vs = us := by
  have e1 := Option.some.inj e
  have e2 : c = c' := congrArg Obj.cls e1
  have e3 : Data.seq vs.toArray = Data.seq us.toArray := congrArg Obj.data e1
  injection e3 with e4
  refine ⟨e2, ?_⟩
  have e5 := congrArg Array.toList e4
  simpa using e5
theorem argL (KX : K.In h) (ar : ∀ a ∈ A, ArgOb h A a) {a : Addr} {vs : List Value} (ha : a ∈ A) (e : h.get? a = some { cls := .type "list", data := .seq vs.toArray }) : (∀ u ∈ vs, OkU A u) ∧ SqL K (argH K h A) a (vs.map toV) := by
  obtain ⟨us, h1, h2, h3⟩ := ar a ha
  have hu : us = vs := by
    rcases h3 with q | q
    · rw [e] at q
      exact (seq_inj q).2.symm
    · rw [e] at q
      exact absurd (Value.type.inj (seq_inj q).1) (by decide)
  subst hu
  refine ⟨h2, ?_⟩
  cases hk : K.lookup a with
  | none => exact .inl (.inr ⟨_, by rw [argH_at ha hk e, hoOf_lst]⟩)
  | some o =>
    have e2 := KX a o hk
    rw [e] at e2
    obtain rfl := Option.some.inj e2
    exact .inr ⟨_, us.toArray, _, hk, rfl, rfl, rfl, by rw [List.size_toArray]; exact h1, by simpa using vals_toV h2⟩
theorem argT (KX : K.In h) (ar : ∀ a ∈ A, ArgOb h A a) {a : Addr} {vs : List Value} (ha : a ∈ A) (e : h.get? a = some { cls := .type "tuple", data := .seq vs.toArray }) : (∀ u ∈ vs, OkU A u) ∧ SqT K (argH K h A) a (vs.map toV) := by
  obtain ⟨us, h1, h2, h3⟩ := ar a ha
  have hu : us = vs := by
    rcases h3 with q | q
    · rw [e] at q
      exact absurd (Value.type.inj (seq_inj q).1) (by decide)
    · rw [e] at q
      exact (seq_inj q).2.symm
  subst hu
  refine ⟨h2, ?_⟩
  cases hk : K.lookup a with
  | none => exact .inl (.inr ⟨_, by rw [argH_at ha hk e, hoOf_tup]⟩)
  | some o =>
    have e2 := KX a o hk
    rw [e] at e2
    obtain rfl := Option.some.inj e2
    exact .inr ⟨_, us.toArray, _, hk, rfl, rfl, by rw [List.size_toArray]; exact h1, by simpa using vals_toV h2⟩
mutual
theorem dw_one {Pm : Params} (KX : K.In h) (ar : ∀ a ∈ A, ArgOb h A a) : ∀ (d : WData) (v : Value), Well Pm h v d → plW d = true → OkU A v → Dw K (argH K h A) (toV v) d
  | .none, _, x, _, _ => by
    cases x
    exact .non
  | .bool b, _, x, _, _ => by
    cases x
    exact .bl b
  | .int i, _, x, _, _ => by
    cases x
    exact .int i
  | .str s, _, x, _, _ => by
    cases x
    exact .str s
  | .bytes b, _, x, _, _ => by
    cases x
    have z := Dw.byt (K := K) (H := argH K h A) b.toArray
    exact z
  | .list ds, _, x, p, hu => by
    obtain ⟨a, vs, rfl, ho, hall⟩ := well_list x
    obtain ⟨h2, hs⟩ := argL KX ar hu ho
    exact .lst hs (dw_all KX ar ds _ hall p h2)
  | .tuple ds, _, x, p, hu => by
    obtain ⟨a, vs, rfl, ho, hall⟩ := well_tuple x
    obtain ⟨h2, hs⟩ := argT KX ar hu ho
    exact .tup hs (dw_all KX ar ds _ hall p h2)
  | .float _, _, _, p, _ => Bool.noConfusion (show false = true from p)
  | .dict _, _, _, p, _ => Bool.noConfusion (show false = true from p)
  | .bytearray _, _, _, p, _ => Bool.noConfusion (show false = true from p)
  | .set _, _, _, p, _ => Bool.noConfusion (show false = true from p)
  | .frozenset _, _, _, p, _ => Bool.noConfusion (show false = true from p)
  | .obj _ _, _, _, p, _ => Bool.noConfusion (show false = true from p)
theorem dw_all {Pm : Params} (KX : K.In h) (ar : ∀ a ∈ A, ArgOb h A a) : ∀ (ds : List WData) (vs : List Value), WellAll Pm h vs ds → plWs ds = true → (∀ u ∈ vs, OkU A u) → DwAll K (argH K h A) (vs.map toV) ds
  | [], _, x, _, _ => by
    cases x
    exact .nil
  | d :: ds, _, x, p, hu => by
    obtain ⟨v, vs, rfl, x1, x2⟩ := well_cons x
    have q : plW d = true ∧ plWs ds = true := Bool.and_eq_true_iff.mp p
    exact .cons (dw_one KX ar d v x1 q.1 (hu _ (List.mem_cons_self ..))) (dw_all KX ar ds vs x2 q.2 fun u m => hu u (List.mem_cons_of_mem _ m))
end
end
theorem spec_call {P : Program} {w : World} {K : PySem.W.Frag} {mg mb : Str → Option Value} {CX : CXT} {k : Nat} {fa : Addr} {fd : FuncData} {ps : List Str} {sp : Sp} {s₁ : Shared} {vals : List Value} {ds : List WData} {R : PySem.W.WRecords} {cl : Str → Option Addr} {d0 : WData}
    (KX : K.In s₁.heap) (hns : s₁.heap.Ns mainGlobals mg) (hb : s₁.heap.Ns builtinsNs mb) (hbb : ∀ x : Str, x ≠ "__name__" → mb x = bootBuiltins x) (hlim : s₁.heap.NoLimit) (hg : s₁.gens = #[])
    (hwl : WellAll w.params s₁.heap vals ds) (hpl : plWs ds = true) (hwt : ∀ d ∈ ds, d.weight ≤ 1048576) (hr : Room k callerA)
    (F : ∀ base : Heap, K.In base → base.Ns mainGlobals mg → FnOk P w K mg base CX k fa fd ps sp) (hbind : ∀ (s : Shared) (us : List Value), us.length = ps.length → BindsTo s fd ⟨us, []⟩ (ps.zip us)) (hlen : ds.length = ps.length)
    (hsp : ∀ (H : Hp) (xs : List V), OnlyF H → DwAll K H xs ds → sp xs H (fun v H' => Dw K H' v d0) fun _ _ _ => False)
    (hCX : ∀ H e s', CX [] H s₁ (fun _ _ _ => False) e s' → False) :
    codeAny (model P w) callerA (.call (.ref fa) ⟨vals, []⟩) (fun r s' => ∃ u as, r = .ok (.ret u) ∧ ReadsW R cl s'.heap u d0 as ∧ OldK s₁.heap s'.heap ∧ s'.os = s₁.os ∧ AllBare s'.gens) s₁ := by
  obtain ⟨A, ho, ar⟩ := area_all ds vals hwl hpl hwt
  have hO : OnlyF (argH K s₁.heap A) := argH_only ar
  have hok : HOk P w (argH K s₁.heap A) s₁.heap := argH_ok ar
  have hS := dw_all KX ar ds vals hwl hpl ho
  have hV := vals_toV ho
  have hK : ∀ b u, argH K s₁.heap A b = some u → K.lookup b = none := fun b u q => (argH_is ar q).1
  have noA : ∀ {b : Addr} {o : Obj} {es : Array DictEntry} {ep : Nat}, s₁.heap.get? b = some o → o.data = .dict es ep → argH K s₁.heap A b = none := fun {b o es ep} e d => by
    cases q : argH K s₁.heap A b with
    | none => rfl
    | some u =>
      obtain ⟨_, vs, _, _, ⟨e2, _⟩ | ⟨e2, _⟩⟩ := argH_is ar q
      · rw [e2] at e
        cases e
        have d' : Data.seq vs.toArray _ = Data.dict es ep := d
        cases d'
      · rw [e2] at e
        cases e
        have d' : Data.seq vs.toArray _ = Data.dict es ep := d
        cases d'
  generalize argH K s₁.heap A = H at hO hok hS hK noA
  have base_of : ∀ {b : Addr} {o : Obj}, s₁.heap.get? b = some o → H b = none → (hidT s₁.heap H).get? b = some o := fun e n => hidT_get e n
  have nsK : ∀ {b : Addr} {m : Str → Option Value}, s₁.heap.Ns b m → (hidT s₁.heap H).Ns b m := fun {b m} ⟨o, es, ep, e, d, r⟩ => ⟨o, es, ep, base_of e (noA e d), d, r⟩
  have nK : ∀ b o, K.lookup b = some o → H b = none := fun b o e => by
    cases q : H b with
    | none => rfl
    | some u =>
      rw [hK b u q] at e
      cases e
  have hKb : K.In (hidT s₁.heap H) := fun b o e => base_of (KX b o e) (nK b o e)
  have hM : Mod K mg (hidT s₁.heap H) := ⟨hKb, nsK hns, ⟨mb, nsK hb, hbb⟩, let ⟨mc, h1, h2⟩ := hlim; ⟨mc, nsK h1, h2⟩⟩
  have e0 : Env0 P w K mg (hidT s₁.heap H) callerA [] s₁ H := ⟨rfl, hM, fun b o e => of_hidT e, Nat.le_of_eq (hidT_size _ _), trivial, fun b hb => absurd (show b ∈ ([] : List Addr) from hb) (by simp), hok, .of_eq hg⟩
  have hl : vals.length = ps.length := by rw [wellAll_len hwl]; exact hlen
  refine codeAny_mono ((F _ hKb (nsK hns)).run callerA [] s₁ H ⟨vals, []⟩ vals (vals.map toV) _ _ hr e0 (hbind s₁ vals hl) hV (hsp H _ hO hS)) fun r s' x => ?_
  cases r with
  | error e => exact (hCX H e s' x).elim
  | ok fl =>
    cases fl with
    | next => exact False.elim x
    | brk => exact False.elim x
    | cont => exact False.elim x
    | ret u =>
      obtain ⟨v, H', os, bare, un, hok', r', q⟩ := x
      have kept : ∀ b o, s₁.heap.get? b = some o → s'.heap.get? b = some o := fun b o e => by
        cases q2 : H b with
        | none => exact un.keep b o e q2 (by intro z; exact absurd (show b ∈ ([] : List Addr) from z) (by simp)) (by simp)
        | some u2 =>
          rcases hO b with z | ⟨ob, u3, z⟩
          · rw [q2] at z
            cases z
          · have z2 := un.frzs b ob _ z
            obtain ⟨e1, _⟩ := hok b _ z
            obtain ⟨e2, _⟩ := hok' b _ z2
            rw [e] at e1
            cases e1
            exact e2
      have KX' : K.In s'.heap := fun b o e => kept b o (KX b o e)
      obtain ⟨as, hrd⟩ := Dw.reads (R := R) (cl := cl) hok' KX' d0 v u q r'
      exact ⟨u, as, rfl, hrd, OldK.of_keep kept, os, bare⟩
theorem layable_weight {ds : List WData} (h : WData.layableAll ds = true) : ∀ d ∈ ds, d.weight ≤ 1048576 := fun d hd =>
  (PySem.W.layableW_iff.mp (List.all_eq_true.mp h d hd)).2.2
theorem encAll_len : ∀ (cs : List Codec) (a : Codec.denoteAll cs), (Codec.encAll cs a).length = cs.length
  | [], _ => rfl
  | c :: cs, a => by
    show (Codec.encAll cs a.2).length + 1 = cs.length + 1
    rw [encAll_len cs a.2]
theorem walk_spec {r : OpenSpec} {k : Nat} {q : Program} {loose : List Str} {XP : (Str → Option Value) → Heap → Prop} {YP : World → Heap → Prop} {d : DefRec} {K : Params → PySem.W.Frag} {CX : World → CXT} {ps : List Str} {sp : World → Sp}
    (hwell : r.wellSaid = true) (hdf : d.params.defaults = []) (hlen : r.args.length = ps.length) (hr : Room k callerA)
    (hY : ∀ (w : World) (h : Heap), YP w h → (K w.params).In h)
    (F : ∀ (w : World) (mg : Str → Option Value) (fa : Addr) (h : Heap), YP w h → (K w.params).In h → h.Ns mainGlobals mg → mg d.name = some (.ref fa) →
      ∃ fd : FuncData, (∀ (s : Shared) (us : List Value), us.length = ps.length → BindsTo s fd ⟨us, []⟩ (ps.zip us)) ∧
        ∀ base : Heap, (K w.params).In base → base.Ns mainGlobals mg → FnOk r.prog w (K w.params) mg base (CX w) k fa fd ps (sp w))
    (hsp : ∀ (w : World) (H : Hp) (xs : List V) (a : Codec.denoteAll r.args), OnlyF H → Codec.withinAll r.args a = true → Codec.app r.args r.asked a = true → DwAll (K w.params) H xs (Codec.encAll r.args a) →
      sp w xs H (fun v H' => Dw (K w.params) H' v (r.ret.enc (Codec.app r.args r.f a))) fun _ _ _ => False)
    (hCX : ∀ (w : World) (H : Hp) (s : Shared) (e : Value) (s' : Shared), CX w [] H s (fun _ _ _ => False) e s' → False) :
    PySem.W.WalkOS q loose XP YP r d [] (fun f vs => PySem.call f vs) := by
  intro w s_0 s₁ mg mb G Y fa o pm cd doc dV kV ho hd hcd hD hmg hg args vals as hpre hlay hrd hwl hlo
  obtain ⟨a, e1, e2⟩ := PySem.W.os_pre_some hpre
  obtain ⟨e3, hwi⟩ := Codec.encAll_of_decAll r.args args a e1
  subst e3
  have KX := hY w _ Y
  obtain ⟨fd, hb, hF⟩ := F w mg fa _ Y KX G.T.g hmg
  refine PySem.W.enter_call (codeAny_mono (spec_call (R := []) (cl := classAt s_0.heap) (d0 := r.ret.enc (Codec.app r.args r.f a)) KX G.T.g G.T.b G.T.builtins G.T.nolimit hg hwl (pl_encAll _ _) (layable_weight hlay) hr hF hb (by rw [encAll_len]; exact hlen)
    (fun H xs hO hS => hsp w H xs a hO hwi e2 hS) fun H e s' => hCX w H s₁ e s') fun r' s' hq => ?_)
  obtain ⟨u, as', rfl, h1, h2, h3, h4⟩ := hq
  exact ⟨.inl ⟨u, _, as', rfl, fun _ => rfl, h1, (OpenSpec.post_iff hwell hwi _ _).mpr rfl, fun z => Bool.noConfusion (show false = true from z)⟩, h2, h3, h4⟩
theorem walk_specK {r : OpenSpec} {k : Nat} {q : Program} {loose : List Str} {XP : (Str → Option Value) → Heap → Prop} {YP : World → Heap → Prop} {d : DefRec} {K : Params → PySem.W.Frag} {CX : CXT} {ps : List Str} {sp : PySem.W.Frag → Sp}
    (hwell : r.wellSaid = true) (hdf : d.params.defaults = []) (hlen : r.args.length = ps.length) (hr : Room k callerA)
    (hY : ∀ (w : World) (h : Heap), YP w h → (K w.params).In h)
    (F : ∀ (w : World) (mg : Str → Option Value) (fa : Addr) (h : Heap), YP w h → (K w.params).In h → h.Ns mainGlobals mg → mg d.name = some (.ref fa) →
      ∃ fd : FuncData, (∀ (s : Shared) (us : List Value), us.length = ps.length → BindsTo s fd ⟨us, []⟩ (ps.zip us)) ∧
        ∀ base : Heap, (K w.params).In base → base.Ns mainGlobals mg → FnOk r.prog w (K w.params) mg base CX k fa fd ps (sp (K w.params)))
    (hsp : ∀ (K : PySem.W.Frag) (H : Hp) (xs : List V) (a : Codec.denoteAll r.args), OnlyF H → Codec.withinAll r.args a = true → Codec.app r.args r.asked a = true → DwAll K H xs (Codec.encAll r.args a) →
      sp K xs H (fun v H' => Dw K H' v (r.ret.enc (Codec.app r.args r.f a))) fun _ _ _ => False)
    (hCX : ∀ (H : Hp) (s : Shared) (e : Value) (s' : Shared), CX [] H s (fun _ _ _ => False) e s' → False) :
    PySem.W.WalkOS q loose XP YP r d [] (fun f vs => PySem.call f vs) :=
  walk_spec (K := K) (CX := fun _ => CX) (sp := fun w => sp (K w.params)) hwell hdf hlen hr hY F (fun w H xs a h1 h2 h3 h4 => hsp (K w.params) H xs a h1 h2 h3 h4) fun _ H s e s' => hCX H s e s'
end L2
end
section
/-! The calls in one list of numbers, one by one; what is due, call by call. Plain Lean. -/
namespace Tu
open Sw75

def ofN (l : List Nat) : List Int := l.map fun (x : Nat) => (x : Int)
theorem ofN_len (l : List Nat) : (ofN l).length = l.length := by unfold ofN; exact List.length_map ..
theorem ofN_toNat (l : List Nat) : (ofN l).map Int.toNat = l := by
  unfold ofN
  rw [List.map_map]
  have : (Int.toNat ∘ fun x : Nat => (x : Int)) = id := by funext x; simp
  rw [this, List.map_id]

/-- a call stands at the head of a list; what stands behind it -/
inductive CallAt : List Int → Sw75.Call → List Int → Prop
  | begins (ts : List Nat) (rest : List Int) (hl : ts.length ≤ 20) (hb : ∀ z ∈ ts, z ≤ 4294967295) : CallAt (0 :: (ts.length : Int) :: (ofN ts ++ rest)) (.begins ts) rest
  | empty_ (a b n : Nat) (rest : List Int) (ha : a ≤ 4294967295) (hb : b ≤ 4294967295) (hn : n ≤ 4294967295) : CallAt (1 :: (a : Int) :: (b : Int) :: (n : Int) :: rest) (.empty_ a b (some n)) rest
  | remove (a b : Nat) (rest : List Int) (ha : a ≤ 4294967295) (hb : b ≤ 4294967295) : CallAt (2 :: (a : Int) :: (b : Int) :: rest) (.empty_ a b none) rest
  | trip (a b s t : Nat) (rest : List Int) (ha : a ≤ 4294967295) (hb : b ≤ 4294967295) (hs : s ≤ 4294967295) (ht : t ≤ 4294967295) : CallAt (3 :: (a : Int) :: (b : Int) :: (s : Int) :: (t : Int) :: rest) (.trip ⟨a, b, s, t⟩) rest
  | drop (k : Nat) (rest : List Int) (hk : k ≤ 4294967295) : CallAt (4 :: (k : Int) :: rest) (.drop k) rest
  | follow (i j : Nat) (rest : List Int) (hi : i ≤ 4294967295) (hj : j ≤ 4294967295) : CallAt (5 :: (i : Int) :: (j : Int) :: rest) (.follow i j) rest
  | units (rest : List Int) : CallAt (6 :: rest) .units rest
  | why (rest : List Int) : CallAt (7 :: rest) .why rest
  | daily (rest : List Int) : CallAt (8 :: rest) .daily rest
  | without (k : Nat) (rest : List Int) (hk : k ≤ 4294967295) : CallAt (9 :: (k : Int) :: rest) (.without k) rest

/-- a list of numbers is these calls -/
inductive Parsed : List Int → List Sw75.Call → Prop
  | nil : Parsed [] []
  | cons {l rest : List Int} {x : Sw75.Call} {xs : List Sw75.Call} (h : CallAt l x rest) (t : Parsed rest xs) : Parsed l (x :: xs)

/-- the answers to these calls, from a plan on -/
def plays : Sw75.Plan → List Sw75.Call → List (List Int)
  | _, [] => []
  | s, x :: xs => Sw75Neutral.out (Sw75.step s x).2 :: plays (Sw75.step s x).1 xs
/-- as one list -/
def due (s : Sw75.Plan) (xs : List Sw75.Call) : List Int := PyFlat.told (plays s xs)
theorem due_nil (s : Sw75.Plan) : due s [] = [] := rfl
theorem due_cons (s : Sw75.Plan) (x : Sw75.Call) (xs : List Sw75.Call) : due s (x :: xs) = ((Sw75Neutral.out (Sw75.step s x).2).length : Int) :: Sw75Neutral.out (Sw75.step s x).2 ++ due (Sw75.step s x).1 xs := by
  show PyFlat.told (Sw75Neutral.out (Sw75.step s x).2 :: plays (Sw75.step s x).1 xs) = _
  unfold due PyFlat.told
  rw [List.flatMap_cons]

theorem within_iff {lo hi z : Int} : PyInside.within lo hi z = true ↔ lo ≤ z ∧ z ≤ hi := by
  unfold PyInside.within; simp
theorem nat_ok {n : Nat} (h : n ≤ 4294967295) : Sw75Neutral.nat (n : Int) = true := by
  unfold Sw75Neutral.nat
  simp only [Bool.and_eq_true, decide_eq_true_eq]
  omega
theorem toN {z : Int} (h : PyInside.within 0 4294967295 z = true) : ∃ n : Nat, z = (n : Int) ∧ n ≤ 4294967295 := by
  obtain ⟨a, b⟩ := within_iff.mp h
  exact ⟨z.toNat, by omega, by omega⟩
theorem toNs : ∀ {l : List Int}, l.all (PyInside.within 0 4294967295) = true → ∃ ts : List Nat, l = ofN ts ∧ ∀ z ∈ ts, z ≤ 4294967295
  | [], _ => ⟨[], rfl, fun _ h => nomatch h⟩
  | z :: l, h => by
    rw [List.all_cons, Bool.and_eq_true] at h
    obtain ⟨n, rfl, hn⟩ := toN h.1
    obtain ⟨ts, rfl, ht⟩ := toNs h.2
    refine ⟨n :: ts, rfl, fun z hz => ?_⟩
    rcases List.mem_cons.mp hz with rfl | hz
    · exact hn
    · exact ht z hz
theorem ofN_nat {ts : List Nat} (h : ∀ z ∈ ts, z ≤ 4294967295) : (ofN ts).all Sw75Neutral.nat = true := by
  unfold ofN
  rw [List.all_eq_true]
  intro z hz
  obtain ⟨n, hn, rfl⟩ := List.mem_map.mp hz
  exact nat_ok (h n hn)

theorem call_plain {p : Int} {r t : List Int} {c : List (List Int)} {n : Nat} (hs : PySw75.shape p = some (n, 0)) (h : PyFlat.call PySw75.shape (p :: r) = some (c, t)) :
    ∃ u, u.length = n ∧ r = u ++ t ∧ c = [p :: u] := by
  unfold PyFlat.call at h
  simp only [hs, PyFlat.rows] at h
  by_cases hl : r.length < n
  · rw [if_pos hl] at h
    cases h
  · rw [if_neg hl] at h
    simp only [Option.some.injEq, Prod.mk.injEq] at h
    refine ⟨r.take n, by rw [List.length_take]; omega, ?_, h.1.symm⟩
    rw [← h.2, List.take_append_drop]
theorem len0 {u : List Int} (h : u.length = 0) : u = [] := List.eq_nil_of_length_eq_zero h
theorem len1 {u : List Int} (h : u.length = 1) : ∃ a, u = [a] := by
  match u, h with
  | [a], _ => exact ⟨a, rfl⟩
theorem len2 {u : List Int} (h : u.length = 2) : ∃ a b, u = [a, b] := by
  match u, h with
  | [a, b], _ => exact ⟨a, b, rfl⟩
theorem len3 {u : List Int} (h : u.length = 3) : ∃ a b c, u = [a, b, c] := by
  match u, h with
  | [a, b, c], _ => exact ⟨a, b, c, rfl⟩
theorem len4 {u : List Int} (h : u.length = 4) : ∃ a b c d, u = [a, b, c, d] := by
  match u, h with
  | [a, b, c, d], _ => exact ⟨a, b, c, d, rfl⟩
theorem each1 {p : Int} {a : Int} (hp : PySw75.bound p = ([(0, 4294967295)], [])) (h : PyInside.call PySw75.bound [[p, a]] = true) : ∃ n : Nat, a = (n : Int) ∧ n ≤ 4294967295 := by
  simp only [PyInside.call, hp, PyInside.each, PyInside.lists, Bool.and_true] at h
  exact toN h
theorem each2 {p : Int} {a b : Int} (hp : PySw75.bound p = ([(0, 4294967295), (0, 4294967295)], [])) (h : PyInside.call PySw75.bound [[p, a, b]] = true) :
    (∃ n : Nat, a = (n : Int) ∧ n ≤ 4294967295) ∧ ∃ n : Nat, b = (n : Int) ∧ n ≤ 4294967295 := by
  simp only [PyInside.call, hp, PyInside.each, PyInside.lists, Bool.and_true, Bool.and_eq_true] at h
  exact ⟨toN h.1, toN h.2⟩
theorem each3 {p : Int} {a b c : Int} (hp : PySw75.bound p = ([(0, 4294967295), (0, 4294967295), (0, 4294967295)], [])) (h : PyInside.call PySw75.bound [[p, a, b, c]] = true) :
    (∃ n : Nat, a = (n : Int) ∧ n ≤ 4294967295) ∧ (∃ n : Nat, b = (n : Int) ∧ n ≤ 4294967295) ∧ ∃ n : Nat, c = (n : Int) ∧ n ≤ 4294967295 := by
  simp only [PyInside.call, hp, PyInside.each, PyInside.lists, Bool.and_true, Bool.and_eq_true] at h
  exact ⟨toN h.1, toN h.2.1, toN h.2.2⟩
theorem each4 {p : Int} {a b c d : Int} (hp : PySw75.bound p = ([(0, 4294967295), (0, 4294967295), (0, 4294967295), (0, 4294967295)], [])) (h : PyInside.call PySw75.bound [[p, a, b, c, d]] = true) :
    (∃ n : Nat, a = (n : Int) ∧ n ≤ 4294967295) ∧ (∃ n : Nat, b = (n : Int) ∧ n ≤ 4294967295) ∧ (∃ n : Nat, c = (n : Int) ∧ n ≤ 4294967295) ∧ ∃ n : Nat, d = (n : Int) ∧ n ≤ 4294967295 := by
  simp only [PyInside.call, hp, PyInside.each, PyInside.lists, Bool.and_true, Bool.and_eq_true] at h
  exact ⟨toN h.1, toN h.2.1, toN h.2.2.1, toN h.2.2.2⟩
theorem all4 {p a b c d : Nat} (hp : p ≤ 4294967295) (ha : a ≤ 4294967295) (hb : b ≤ 4294967295) (hc : c ≤ 4294967295) (hd : d ≤ 4294967295) : [(p : Int), a, b, c, d].all Sw75Neutral.nat = true := by
  simp only [List.all_cons, nat_ok hp, nat_ok ha, nat_ok hb, nat_ok hc, nat_ok hd, List.all_nil, Bool.and_true]

theorem call_begins {r t : List Int} {c : List (List Int)} (h : PyFlat.call PySw75.shape (0 :: r) = some (c, t)) (hb : PyInside.call PySw75.bound c = true) :
    ∃ x, CallAt (0 :: r) x t ∧ Sw75Neutral.callOf ((PySw75.whole c).headD []) = some x := by
  unfold PyFlat.call at h
  simp only at h
  simp only [PySw75.shape, ↓reduceIte] at h
  simp only [Nat.not_lt_zero, ↓reduceIte, List.drop_zero, List.take_zero, PyFlat.rows, PyFlat.row] at h
  cases r with
  | nil => simp at h
  | cons n r =>
    simp only at h
    by_cases hn : 0 ≤ n ∧ n.toNat ≤ r.length
    · rw [if_pos hn] at h
      simp only [Option.some.injEq, Prod.mk.injEq] at h
      obtain ⟨hc, ht⟩ := h
      subst hc ht
      simp only [PyInside.call, PySw75.bound, ↓reduceIte, PyInside.each, PyInside.lists, Bool.true_and, Bool.and_true, Bool.and_eq_true, decide_eq_true_eq] at hb
      obtain ⟨⟨_, hl⟩, ha⟩ := hb
      obtain ⟨ts, e, hts⟩ := toNs ha
      have hlen : ts.length = n.toNat := by
        have := congrArg List.length e
        rw [ofN_len, List.length_take] at this
        omega
      have en : n = (ts.length : Int) := by omega
      have hl20 : ts.length ≤ 20 := by rw [e, ofN_len] at hl; exact hl
      have er : r = ofN ts ++ r.drop n.toNat := by rw [← e, List.take_append_drop]
      refine ⟨.begins ts, ?_, ?_⟩
      · have := CallAt.begins ts (r.drop n.toNat) hl20 hts
        rw [← er, ← en] at this
        exact this
      · rw [e]
        simp only [PySw75.whole, ofN_len, List.headD_cons, List.cons_append, List.nil_append]
        unfold Sw75Neutral.callOf
        have hall : List.all (0 :: (ts.length : Int) :: ofN ts) Sw75Neutral.nat = true := by
          rw [List.all_cons, List.all_cons, ofN_nat hts, nat_ok (by omega)]
          rfl
        rw [hall]
        simp only [Bool.true_eq_false, ↓reduceIte, Sw75Neutral.listIn, ofN_len]
        rw [if_pos ⟨by omega, by omega, trivial⟩]
        simp only [Option.map_some]
        rw [ofN_toNat]
    · rw [if_neg hn] at h
      simp at h
theorem shape_some {p : Int} {q : Nat × Nat} (h : PySw75.shape p = some q) : p = 0 ∨ p = 1 ∨ p = 2 ∨ p = 3 ∨ p = 4 ∨ p = 5 ∨ p = 6 ∨ p = 7 ∨ p = 8 ∨ p = 9 := by
  unfold PySw75.shape at h
  (repeat' split at h) <;> first | omega | cases h
theorem one_call {p : Int} {r t : List Int} {c : List (List Int)} (h : PyFlat.call PySw75.shape (p :: r) = some (c, t)) (hb : PyInside.call PySw75.bound c = true) :
    ∃ x, CallAt (p :: r) x t ∧ Sw75Neutral.callOf ((PySw75.whole c).headD []) = some x := by
  cases e : PySw75.shape p with
  | none =>
    unfold PyFlat.call at h
    simp only [e] at h
    cases h
  | some q =>
    rcases shape_some e with rfl | rfl | rfl | rfl | rfl | rfl | rfl | rfl | rfl | rfl
    · exact call_begins h hb
    · obtain ⟨u, hu, rfl, rfl⟩ := call_plain (n := 3) (by rfl) h
      obtain ⟨a, b, c, rfl⟩ := len3 hu
      obtain ⟨⟨a, rfl, ha⟩, ⟨b, rfl, hb'⟩, ⟨c, rfl, hc⟩⟩ := each3 (by rfl) hb
      refine ⟨_, .empty_ a b c t ha hb' hc, ?_⟩
      simp only [PySw75.whole, List.headD_cons, List.cons_append, List.nil_append]
      unfold Sw75Neutral.callOf
      have e1 : ([1, (a : Int), b, c] : List Int).all Sw75Neutral.nat = true := by
        simp only [List.all_cons, nat_ok ha, nat_ok hb', nat_ok hc, List.all_nil, Bool.and_true]; decide
      rw [e1]
      simp
    · obtain ⟨u, hu, rfl, rfl⟩ := call_plain (n := 2) (by rfl) h
      obtain ⟨a, b, rfl⟩ := len2 hu
      obtain ⟨⟨a, rfl, ha⟩, ⟨b, rfl, hb'⟩⟩ := each2 (by rfl) hb
      refine ⟨_, .remove a b t ha hb', ?_⟩
      simp only [PySw75.whole, List.headD_cons, List.cons_append, List.nil_append]
      unfold Sw75Neutral.callOf
      have e1 : ([2, (a : Int), b] : List Int).all Sw75Neutral.nat = true := by
        simp only [List.all_cons, nat_ok ha, nat_ok hb', List.all_nil, Bool.and_true]; decide
      rw [e1]
      simp
    · obtain ⟨u, hu, rfl, rfl⟩ := call_plain (n := 4) (by rfl) h
      obtain ⟨a, b, c, d, rfl⟩ := len4 hu
      obtain ⟨⟨a, rfl, ha⟩, ⟨b, rfl, hb'⟩, ⟨c, rfl, hc⟩, ⟨d, rfl, hd⟩⟩ := each4 (by rfl) hb
      refine ⟨_, .trip a b c d t ha hb' hc hd, ?_⟩
      simp only [PySw75.whole, List.headD_cons, List.cons_append, List.nil_append]
      unfold Sw75Neutral.callOf
      have e1 : ([3, (a : Int), b, c, d] : List Int).all Sw75Neutral.nat = true := by
        simp only [List.all_cons, nat_ok ha, nat_ok hb', nat_ok hc, nat_ok hd, List.all_nil, Bool.and_true]; decide
      rw [e1]
      simp
    · obtain ⟨u, hu, rfl, rfl⟩ := call_plain (n := 1) (by rfl) h
      obtain ⟨a, rfl⟩ := len1 hu
      obtain ⟨a, rfl, ha⟩ := each1 (by rfl) hb
      refine ⟨_, .drop a t ha, ?_⟩
      simp only [PySw75.whole, List.headD_cons, List.cons_append, List.nil_append]
      unfold Sw75Neutral.callOf
      have e1 : ([4, (a : Int)] : List Int).all Sw75Neutral.nat = true := by
        simp only [List.all_cons, nat_ok ha, List.all_nil, Bool.and_true]; decide
      rw [e1]
      simp
    · obtain ⟨u, hu, rfl, rfl⟩ := call_plain (n := 2) (by rfl) h
      obtain ⟨a, b, rfl⟩ := len2 hu
      obtain ⟨⟨a, rfl, ha⟩, ⟨b, rfl, hb'⟩⟩ := each2 (by rfl) hb
      refine ⟨_, .follow a b t ha hb', ?_⟩
      simp only [PySw75.whole, List.headD_cons, List.cons_append, List.nil_append]
      unfold Sw75Neutral.callOf
      have e1 : ([5, (a : Int), b] : List Int).all Sw75Neutral.nat = true := by
        simp only [List.all_cons, nat_ok ha, nat_ok hb', List.all_nil, Bool.and_true]; decide
      rw [e1]
      simp
    · obtain ⟨u, hu, rfl, rfl⟩ := call_plain (n := 0) (by rfl) h
      obtain rfl := len0 hu
      exact ⟨_, .units t, rfl⟩
    · obtain ⟨u, hu, rfl, rfl⟩ := call_plain (n := 0) (by rfl) h
      obtain rfl := len0 hu
      exact ⟨_, .why t, rfl⟩
    · obtain ⟨u, hu, rfl, rfl⟩ := call_plain (n := 0) (by rfl) h
      obtain rfl := len0 hu
      exact ⟨_, .daily t, rfl⟩
    · obtain ⟨u, hu, rfl, rfl⟩ := call_plain (n := 1) (by rfl) h
      obtain ⟨a, rfl⟩ := len1 hu
      obtain ⟨a, rfl, ha⟩ := each1 (by rfl) hb
      refine ⟨_, .without a t ha, ?_⟩
      simp only [PySw75.whole, List.headD_cons, List.cons_append, List.nil_append]
      unfold Sw75Neutral.callOf
      have e1 : ([9, (a : Int)] : List Int).all Sw75Neutral.nat = true := by
        simp only [List.all_cons, nat_ok ha, List.all_nil, Bool.and_true]; decide
      rw [e1]
      simp
theorem parsed_of : ∀ {f : Nat} {l : List Int} {cs : List (List (List Int))}, PyFlat.calls PySw75.shape f l = some cs → PyInside.calls PySw75.bound cs = true →
    ∃ xs, Parsed l xs ∧ xs.length = cs.length ∧ ∀ s, PyFlat.played (fun s c => Sw75Neutral.step s (c.headD [])) s (cs.map PySw75.whole) = plays s xs
  | f, [], cs, h, _ => by
    have e : cs = [] := by cases f <;> exact (Option.some.inj h).symm
    subst e
    exact ⟨[], .nil, rfl, fun _ => rfl⟩
  | 0, p :: r, cs, h, _ => by cases h
  | f + 1, p :: r, cs, h, hb => by
    unfold PyFlat.calls at h
    cases e : PyFlat.call PySw75.shape (p :: r) with
    | none => simp only [e] at h; cases h
    | some q =>
      obtain ⟨c, t⟩ := q
      simp only [e] at h
      cases e2 : PyFlat.calls PySw75.shape f t with
      | none => simp only [e2] at h; cases h
      | some cs' =>
        simp only [e2] at h
        have e3 := Option.some.inj h
        subst e3
        unfold PyInside.calls at hb
        rw [List.all_cons, Bool.and_eq_true] at hb
        obtain ⟨x, hx, hc⟩ := one_call e hb.1
        obtain ⟨xs, hxs, hlen, hp⟩ := parsed_of e2 (show PyInside.calls PySw75.bound cs' = true from hb.2)
        refine ⟨x :: xs, .cons hx hxs, by simp [hlen], fun s => ?_⟩
        rw [List.map_cons]
        show (Sw75Neutral.step s ((PySw75.whole c).headD [])).2 :: PyFlat.played _ (Sw75Neutral.step s ((PySw75.whole c).headD [])).1 _ = _
        have e4 : Sw75Neutral.step s ((PySw75.whole c).headD []) = ((Sw75.step s x).1, Sw75Neutral.out (Sw75.step s x).2) := by
          unfold Sw75Neutral.step
          rw [hc]
        rw [e4, hp]
        rfl
/-- **what is asked**: the list is some calls, forty at most, and what is due is their answers -/
theorem asked_parsed {l : List Int} (h : PySw75.answers_asked l = true) : ∃ xs, Parsed l xs ∧ xs ≠ [] ∧ xs.length ≤ 40 ∧ PySw75.answers l = due Sw75.init xs ∧ (PySw75.answers l).length ≤ 10000000 := by
  unfold PySw75.answers_asked at h
  cases e : PyFlat.calls PySw75.shape l.length l with
  | none => simp only [e] at h; cases h
  | some raw =>
    simp only [e, Bool.and_eq_true] at h
    obtain ⟨⟨⟨⟨h1, h2⟩, h3⟩, h4⟩, h5⟩ := h
    obtain ⟨xs, hp, hl, hd⟩ := parsed_of e h3
    refine ⟨xs, hp, ?_, ?_, ?_, ?_⟩
    · intro q
      subst q
      have : raw = [] := List.eq_nil_of_length_eq_zero hl.symm
      subst this
      simp at h1
    · rw [hl]
      exact of_decide_eq_true h2
    · unfold PySw75.answers PySw75.calls
      simp only [e]
      rw [hd]
      rfl
    · exact of_decide_eq_true h5
end Tu
end
section
/-! The best followers: the specification's table as a plain recursion, and as a summary of all rows in their order. Plain Lean. -/
namespace Tu
open Sw75

/-- one choice more ahead of a best -/
def ahead (c j : Nat) (b : Best) : Best := ⟨c + b.cost, b.many, j :: b.next⟩
/-- the best for what's left of the rows, m: what has been followed to -/
def best : List (List (Option Nat)) → Nat → Nat → Option Best
  | [], _, _ => some ⟨0, 1, []⟩
  | r :: l, n, m => ((List.range (n + 1)).map fun j => if j < n ∧ m.testBit j = true then none else (r.getD j none).bind fun c => (best l n (if j < n then m + 2 ^ j else m)).map (ahead c j)).foldl cheaper none

theorem add_bit_lt {n m j : Nat} (hm : m < 2 ^ n) (hj : j < n) (hb : m.testBit j = false) : m + 2 ^ j < 2 ^ n := by
  rw [Nat.testBit_eq_decide_div_mod_eq, decide_eq_false_iff_not] at hb
  have hB : 0 < 2 ^ j := Nat.two_pow_pos j
  have e : 2 ^ n = 2 ^ j * (2 * 2 ^ (n - j - 1)) := by
    rw [← Nat.pow_succ', ← Nat.pow_add]
    congr 1
    omega
  rw [e] at hm ⊢
  have hd := Nat.div_add_mod m (2 ^ j)
  have hr := Nat.mod_lt m hB
  have h1 : m / 2 ^ j < 2 * 2 ^ (n - j - 1) := Nat.div_lt_of_lt_mul hm
  have h2 : m / 2 ^ j + 2 ≤ 2 * 2 ^ (n - j - 1) := by omega
  have h3 : 2 ^ j * (m / 2 ^ j + 2) ≤ 2 ^ j * (2 * 2 ^ (n - j - 1)) := Nat.mul_le_mul_left _ h2
  rw [Nat.mul_add] at h3
  omega

theorem table_size : ∀ (rows : List (List (Option Nat))) (n : Nat), (table rows n).size = 2 ^ n
  | [], n => by simp [table]
  | r :: l, n => by simp [table]

theorem table_best : ∀ (rows : List (List (Option Nat))) (n m : Nat), m < 2 ^ n → (table rows n).getD m none = best rows n m
  | [], n, m, h => by
    simp [table, best, Array.getD, h]
  | r :: l, n, m, h => by
    have ha : ∀ (f : Nat → Option Best) (k : Nat), m < k → (((List.range k).map f).toArray).getD m none = f m := fun f k hk => by
      simp [Array.getD, hk]
    refine Eq.trans (ha _ _ h) ?_
    unfold best
    congr 1
    apply List.map_congr_left
    intro j hj
    split
    · rfl
    · rename_i hc
      congr 1
      funext c
      rw [table_best l n]
      · rfl
      · split
        · rename_i hjn
          refine add_bit_lt h hjn ?_
          cases e : m.testBit j with
          | false => rfl
          | true => exact absurd ⟨hjn, e⟩ hc
        · exact h
theorem assign_best (rows : List (List (Option Nat))) (n : Nat) : assign rows n = best rows n 0 := table_best rows n 0 (Nat.two_pow_pos n)

/-! ### all rows in their order, and their summary -/
theorem cheaper_none (b : Option Best) : cheaper none b = b := by cases b <;> rfl
theorem cheaper_none' (a : Option Best) : cheaper a none = a := by cases a <;> rfl
theorem cheaper_some (x y : Best) : cheaper (some x) (some y) = if y.cost < x.cost then some y else if x.cost < y.cost then some x else some ⟨x.cost, x.many + y.many, x.next⟩ := rfl
theorem cheaper_assoc (a b c : Option Best) : cheaper (cheaper a b) c = cheaper a (cheaper b c) := by
  cases a with
  | none => rw [cheaper_none, cheaper_none]
  | some x =>
    cases b with
    | none => rw [cheaper_none', cheaper_none]
    | some y =>
      cases c with
      | none => rw [cheaper_none', cheaper_none']
      | some z =>
        rw [cheaper_some x y, cheaper_some y z]
        by_cases h1 : y.cost < x.cost
        · rw [if_pos h1, cheaper_some]
          by_cases h2 : z.cost < y.cost
          · rw [if_pos h2, cheaper_some, if_pos (by omega)]
          · rw [if_neg h2]
            by_cases h3 : y.cost < z.cost
            · rw [if_pos h3, cheaper_some, if_pos h1]
            · rw [if_neg h3, cheaper_some, if_pos h1]
        · rw [if_neg h1]
          by_cases h2 : x.cost < y.cost
          · rw [if_pos h2, cheaper_some]
            by_cases h3 : z.cost < y.cost
            · rw [if_pos h3, cheaper_some]
            · rw [if_neg h3]
              by_cases h4 : y.cost < z.cost
              · rw [if_pos h4, cheaper_some, if_neg (by omega), if_pos (by omega), if_neg h1, if_pos h2]
              · rw [if_neg h4, cheaper_some, if_neg (by omega), if_pos (by omega), if_neg h1, if_pos h2]
          · rw [if_neg h2, cheaper_some]
            by_cases h3 : z.cost < y.cost
            · rw [if_pos h3, cheaper_some, if_pos (show z.cost < x.cost by omega), if_pos (by omega)]
            · rw [if_neg h3]
              by_cases h4 : y.cost < z.cost
              · rw [if_pos h4, cheaper_some, if_neg (show ¬ z.cost < x.cost by omega), if_pos (show x.cost < z.cost by omega), if_neg h1, if_neg h2]
              · rw [if_neg h4, cheaper_some, if_neg (show ¬ z.cost < x.cost by omega), if_neg (show ¬ x.cost < z.cost by omega), if_neg h1, if_neg h2, Nat.add_assoc]
theorem fold_cheaper : ∀ (l : List (Option Best)) (a : Option Best), l.foldl cheaper a = cheaper a (l.foldl cheaper none)
  | [], a => (cheaper_none' a).symm
  | x :: l, a => by
    rw [List.foldl_cons, List.foldl_cons, fold_cheaper l (cheaper a x), fold_cheaper l (cheaper none x), cheaper_none, cheaper_assoc]
def single (p : Nat × List Nat) : Option Best := some ⟨p.1, 1, p.2⟩
def summ (L : List (Nat × List Nat)) : Option Best := (L.map single).foldl cheaper none
theorem summ_nil : summ [] = none := rfl
theorem summ_cons (p : Nat × List Nat) (L : List (Nat × List Nat)) : summ (p :: L) = cheaper (single p) (summ L) := by
  unfold summ
  rw [List.map_cons, List.foldl_cons, fold_cheaper, cheaper_none]
theorem summ_append : ∀ (L M : List (Nat × List Nat)), summ (L ++ M) = cheaper (summ L) (summ M)
  | [], M => (cheaper_none _).symm
  | p :: L, M => by rw [List.cons_append, summ_cons, summ_cons, summ_append L M, cheaper_assoc]
def aheadP (c j : Nat) (p : Nat × List Nat) : Nat × List Nat := (c + p.1, j :: p.2)
theorem cheaper_ahead (c j : Nat) (a b : Option Best) : (cheaper a b).map (ahead c j) = cheaper (a.map (ahead c j)) (b.map (ahead c j)) := by
  cases a with
  | none => simp only [cheaper_none, Option.map_none]
  | some x =>
    cases b with
    | none => simp only [cheaper_none', Option.map_none]
    | some y =>
      simp only [Option.map_some, cheaper_some, ahead]
      rcases Nat.lt_trichotomy x.cost y.cost with h | h | h
      · rw [if_neg (by omega), if_pos h, if_neg (by omega), if_pos (by omega)]; rfl
      · rw [if_neg (by omega), if_neg (by omega), if_neg (by omega), if_neg (by omega)]; rfl
      · rw [if_pos h, if_pos (by omega)]; rfl
theorem summ_ahead (c j : Nat) : ∀ (L : List (Nat × List Nat)), summ (L.map (aheadP c j)) = (summ L).map (ahead c j)
  | [] => rfl
  | p :: L => by
    rw [List.map_cons, summ_cons, summ_cons, summ_ahead c j L, cheaper_ahead]
    rfl
/-- all rows of followers that are allowed, with what they cost, the lesser ones first -/
def enum : List (List (Option Nat)) → Nat → Nat → List (Nat × List Nat)
  | [], _, _ => [(0, [])]
  | r :: l, n, m => (List.range (n + 1)).flatMap fun j => if j < n ∧ m.testBit j = true then [] else match r.getD j none with
    | none => []
    | some c => (enum l n (if j < n then m + 2 ^ j else m)).map (aheadP c j)
theorem summ_flatMap {α : Type} (f : α → List (Nat × List Nat)) : ∀ (l : List α), summ (l.flatMap f) = (l.map fun a => summ (f a)).foldl cheaper none
  | [] => rfl
  | a :: l => by
    rw [List.flatMap_cons, summ_append, summ_flatMap f l, List.map_cons, List.foldl_cons, fold_cheaper _ (cheaper none _), cheaper_none]
theorem best_summ : ∀ (rows : List (List (Option Nat))) (n m : Nat), best rows n m = summ (enum rows n m)
  | [], _, _ => rfl
  | r :: l, n, m => by
    unfold best enum
    rw [summ_flatMap]
    congr 1
    apply List.map_congr_left
    intro j _
    split
    · rfl
    · cases r.getD j none with
      | none => rfl
      | some c =>
        simp only [Option.bind_some]
        rw [best_summ l n, summ_ahead]
/-- what a summary says -/
theorem summ_none : ∀ {L : List (Nat × List Nat)}, summ L = none → L = []
  | [], _ => rfl
  | p :: L, h => by
    rw [summ_cons] at h
    cases e : summ L with
    | none => rw [e, cheaper_none'] at h; cases h
    | some b =>
      rw [e] at h
      unfold single at h
      rw [cheaper_some] at h
      (repeat' split at h) <;> cases h
theorem summ_some : ∀ {L : List (Nat × List Nat)} {b : Best}, summ L = some b → (∀ p ∈ L, b.cost ≤ p.1) ∧ L.countP (fun p => p.1 == b.cost) = b.many ∧ L.find? (fun p => p.1 == b.cost) = some (b.cost, b.next)
  | [], b, h => by cases h
  | p :: L, b, h => by
    rw [summ_cons] at h
    cases e : summ L with
    | none =>
      rw [e, cheaper_none'] at h
      have hL := summ_none e
      subst hL
      cases h
      simp
    | some c =>
      rw [e] at h
      obtain ⟨h1, h2, h3⟩ := summ_some e
      unfold single at h
      rw [cheaper_some] at h
      simp only at h
      rcases Nat.lt_trichotomy p.1 c.cost with q | q | q
      · rw [if_neg (by omega), if_pos q] at h
        cases h
        refine ⟨fun r hr => ?_, ?_, ?_⟩
        · rcases List.mem_cons.mp hr with rfl | hr
          · exact Nat.le_refl _
          · have := h1 r hr
            simp only
            omega
        · rw [List.countP_cons, List.countP_eq_zero.mpr]
          · simp
          · intro r hr
            have := h1 r hr
            simp only [beq_iff_eq]
            omega
        · rw [List.find?_cons]
          simp
      · rw [if_neg (by omega), if_neg (by omega)] at h
        cases h
        refine ⟨fun r hr => ?_, ?_, ?_⟩
        · rcases List.mem_cons.mp hr with rfl | hr
          · exact Nat.le_refl _
          · have := h1 r hr
            simp only
            omega
        · rw [List.countP_cons]
          simp only [q, h2, beq_self_eq_true, ↓reduceIte]
          omega
        · rw [List.find?_cons]
          simp
      · rw [if_pos q] at h
        cases h
        refine ⟨fun r hr => ?_, ?_, ?_⟩
        · rcases List.mem_cons.mp hr with rfl | hr
          · omega
          · exact h1 r hr
        · rw [List.countP_cons, h2]
          have : (p.1 == b.cost) = false := by simp only [beq_eq_false_iff_ne, ne_eq]; omega
          simp [this]
        · rw [List.find?_cons]
          have : (p.1 == b.cost) = false := by simp only [beq_eq_false_iff_ne, ne_eq]; omega
          simp only [this]
          exact h3
end Tu
end
section
/-! The cheapest row of followers, forwards: sums of what is kept under each set of followers. Plain Lean. -/
namespace Tu
open Sw75

/-- the lesser of two rows -/
def lexN : List Nat → List Nat → Bool
  | [], [] => false
  | [], _ :: _ => true
  | _ :: _, [] => false
  | x :: xs, y :: ys => if x = y then lexN xs ys else decide (x < y)
def minL (a b : List Nat) : List Nat := if lexN b a = true then b else a
theorem lexN_irrefl : ∀ a, lexN a a = false
  | [] => rfl
  | x :: xs => by simp [lexN, lexN_irrefl xs]
theorem lexN_asymm : ∀ a b, lexN a b = true → lexN b a = false
  | [], [], h => by cases h
  | [], _ :: _, _ => rfl
  | _ :: _, [], h => by cases h
  | x :: xs, y :: ys, h => by
    unfold lexN at h ⊢
    by_cases e : x = y
    · rw [if_pos e] at h
      rw [if_pos e.symm]
      exact lexN_asymm xs ys h
    · rw [if_neg e] at h
      rw [if_neg (Ne.symm e)]
      have := of_decide_eq_true h
      exact decide_eq_false (by omega)
theorem lexN_total : ∀ a b, lexN a b = false → lexN b a = false → a = b
  | [], [], _, _ => rfl
  | [], _ :: _, h, _ => by cases h
  | _ :: _, [], _, h => by cases h
  | x :: xs, y :: ys, h, g => by
    unfold lexN at h g
    by_cases e : x = y
    · rw [if_pos e] at h
      rw [if_pos e.symm] at g
      rw [e, lexN_total xs ys h g]
    · rw [if_neg e] at h
      rw [if_neg (Ne.symm e)] at g
      have h1 := of_decide_eq_false h
      have h2 := of_decide_eq_false g
      omega
theorem lexN_trans : ∀ a b c, lexN a b = true → lexN b c = true → lexN a c = true
  | [], [], _, h, _ => by cases h
  | [], _ :: _, [], _, h => by cases h
  | [], _ :: _, _ :: _, _, _ => rfl
  | _ :: _, [], _, h, _ => by cases h
  | _ :: _, _ :: _, [], _, h => by cases h
  | x :: xs, y :: ys, z :: zs, h, g => by
    unfold lexN at h g ⊢
    by_cases e : x = y
    · subst e
      rw [if_pos rfl] at h
      by_cases e2 : x = z
      · subst e2
        rw [if_pos rfl] at g ⊢
        exact lexN_trans xs ys zs h g
      · rw [if_neg e2] at g ⊢
        exact g
    · rw [if_neg e] at h
      have h1 := of_decide_eq_true h
      by_cases e2 : y = z
      · subst e2
        rw [if_neg e]
        exact h
      · rw [if_neg e2] at g
        have h2 := of_decide_eq_true g
        rw [if_neg (by omega)]
        exact decide_eq_true (by omega)
theorem minL_comm (a b : List Nat) : minL a b = minL b a := by
  unfold minL
  by_cases h : lexN b a = true
  · rw [if_pos h, lexN_asymm b a h]
    simp
  · rw [if_neg h]
    by_cases g : lexN a b = true
    · rw [if_pos g]
    · rw [if_neg g]
      exact lexN_total a b (by simpa using g) (by simpa using h)
theorem minL_assoc (a b c : List Nat) : minL (minL a b) c = minL a (minL b c) := by
  have key : ∀ a b c, lexN c b = true → lexN a b = false → lexN a c = true ∨ lexN a c = false ∧ (lexN c a = true ∨ a = c) := fun a b c _ _ => by
    cases e : lexN a c with
    | true => exact .inl rfl
    | false =>
      refine .inr ⟨rfl, ?_⟩
      cases e2 : lexN c a with
      | true => exact .inl rfl
      | false => exact .inr (lexN_total a c e e2)
  unfold minL
  by_cases h1 : lexN b a = true
  · rw [if_pos h1]
    by_cases h2 : lexN c b = true
    · rw [if_pos h2, if_pos (lexN_trans _ _ _ h2 h1)]
    · rw [if_neg h2, if_pos h1]
  · rw [if_neg h1]
    by_cases h2 : lexN c b = true
    · rw [if_pos h2]
    · rw [if_neg h2, if_neg h1]
      by_cases h3 : lexN c a = true
      · exfalso
        have hba : lexN b a = false := by simpa using h1
        have hcb : lexN c b = false := by simpa using h2
        cases e : lexN b c with
        | true => rw [lexN_trans _ _ _ e h3] at hba; cases hba
        | false =>
          have := lexN_total c b hcb e
          subst this
          rw [h3] at hba; cases hba
      · rw [if_neg h3]
theorem lexN_pre (a : List Nat) : ∀ (p : List Nat), ∀ b, lexN (p ++ a) (p ++ b) = lexN a b
  | [], _ => rfl
  | x :: p, b => by
    show (if x = x then lexN (p ++ a) (p ++ b) else _) = _
    rw [if_pos rfl, lexN_pre a p b]
theorem minL_pre (p a b : List Nat) : minL (p ++ a) (p ++ b) = p ++ minL a b := by
  unfold minL
  rw [lexN_pre]
  split <;> rfl
theorem lexN_suf (x : List Nat) : ∀ (a b : List Nat), a.length = b.length → lexN (a ++ x) (b ++ x) = lexN a b
  | [], [], _ => lexN_irrefl x
  | [], _ :: _, h => by simp at h
  | _ :: _, [], h => by simp at h
  | p :: a, q :: b, h => by
    show (if p = q then lexN (a ++ x) (b ++ x) else _) = if p = q then lexN a b else _
    rw [lexN_suf x a b (by simpa using h)]
theorem minL_suf (a b x : List Nat) (h : a.length = b.length) : minL (a ++ x) (b ++ x) = minL a b ++ x := by
  unfold minL
  rw [lexN_suf x b a h.symm]
  split <;> rfl
theorem minL_len (a b : List Nat) (h : a.length = b.length) : (minL a b).length = a.length := by
  unfold minL
  split
  · exact h.symm
  · rfl

/-- two of what is kept, put together -/
def mrg (x y : Best) : Best := if y.cost < x.cost then y else if x.cost < y.cost then x else ⟨x.cost, x.many + y.many, minL x.next y.next⟩
def mO : Option Best → Option Best → Option Best
  | none, b => b
  | a, none => a
  | some x, some y => some (mrg x y)
theorem mO_none (b : Option Best) : mO none b = b := by cases b <;> rfl
theorem mO_none' (a : Option Best) : mO a none = a := by cases a <;> rfl
theorem mrg_comm (x y : Best) : mrg x y = mrg y x := by
  unfold mrg
  rcases Nat.lt_trichotomy x.cost y.cost with h | h | h
  · rw [if_neg (by omega), if_pos h, if_pos h]
  · rw [if_neg (by omega), if_neg (by omega), if_neg (by omega), if_neg (by omega), minL_comm, h, Nat.add_comm]
  · rw [if_pos h, if_neg (by omega), if_pos h]
theorem mrg_cost (x y : Best) : (mrg x y).cost = min x.cost y.cost := by
  unfold mrg
  rcases Nat.lt_trichotomy x.cost y.cost with h | h | h
  · rw [if_neg (by omega), if_pos h]; omega
  · rw [if_neg (by omega), if_neg (by omega)]; show x.cost = _; omega
  · rw [if_pos h]; omega
theorem mrg_lt {x y : Best} (h : x.cost < y.cost) : mrg x y = x := by unfold mrg; rw [if_neg (by omega), if_pos h]
theorem mrg_gt {x y : Best} (h : y.cost < x.cost) : mrg x y = y := by unfold mrg; rw [if_pos h]
theorem mrg_eq {x y : Best} (h : x.cost = y.cost) : mrg x y = ⟨x.cost, x.many + y.many, minL x.next y.next⟩ := by unfold mrg; rw [if_neg (by omega), if_neg (by omega)]
theorem mrg_assoc (x y z : Best) : mrg (mrg x y) z = mrg x (mrg y z) := by
  rcases Nat.lt_trichotomy x.cost y.cost with h | h | h
  · rw [mrg_lt h]
    rcases Nat.lt_trichotomy y.cost z.cost with g | g | g
    · rw [mrg_lt g, mrg_lt h, mrg_lt (by omega)]
    · rw [mrg_eq g, mrg_lt (show x.cost < z.cost by omega), mrg_lt (by exact h)]
    · rw [mrg_gt g]
  · rw [mrg_eq h]
    rcases Nat.lt_trichotomy y.cost z.cost with g | g | g
    · rw [mrg_lt g, mrg_lt (by show x.cost < z.cost; omega), mrg_eq h]
    · rw [mrg_eq g, mrg_eq (by show x.cost = z.cost; omega), mrg_eq (by exact h), minL_assoc, Nat.add_assoc]
    · rw [mrg_gt g, mrg_gt (by show z.cost < x.cost; omega), mrg_gt (by omega)]
  · rw [mrg_gt h]
    rcases Nat.lt_trichotomy y.cost z.cost with g | g | g
    · rw [mrg_lt g, mrg_gt h]
    · rw [mrg_eq g, mrg_gt (by exact h)]
    · rw [mrg_gt g, mrg_gt (by omega)]
theorem mO_comm (a b : Option Best) : mO a b = mO b a := by
  cases a with
  | none => rw [mO_none, mO_none']
  | some x =>
    cases b with
    | none => rw [mO_none, mO_none']
    | some y => exact congrArg some (mrg_comm x y)
theorem mO_assoc (a b c : Option Best) : mO (mO a b) c = mO a (mO b c) := by
  cases a with
  | none => rw [mO_none, mO_none]
  | some x =>
    cases b with
    | none => rw [mO_none', mO_none]
    | some y =>
      cases c with
      | none => rw [mO_none', mO_none']
      | some z => exact congrArg some (mrg_assoc x y z)
/-- all of a list, put together -/
def sumO (l : List (Option Best)) : Option Best := l.foldr mO none
theorem sumO_nil : sumO [] = none := rfl
theorem sumO_cons (a : Option Best) (l : List (Option Best)) : sumO (a :: l) = mO a (sumO l) := rfl
theorem sumO_append : ∀ (l m : List (Option Best)), sumO (l ++ m) = mO (sumO l) (sumO m)
  | [], m => (mO_none _).symm
  | a :: l, m => by rw [List.cons_append, sumO_cons, sumO_cons, sumO_append l m, mO_assoc]
theorem sumO_snoc (l : List (Option Best)) (a : Option Best) : sumO (l ++ [a]) = mO (sumO l) a := by
  rw [sumO_append, sumO_cons, sumO_nil, mO_none']

/-- a beginning, and what is best behind it -/
def comb (b x : Best) : Best := ⟨b.cost + x.cost, b.many * x.many, b.next ++ x.next⟩
theorem comb_mrg (b x y : Best) : comb b (mrg x y) = mrg (comb b x) (comb b y) := by
  rcases Nat.lt_trichotomy x.cost y.cost with h | h | h
  · rw [mrg_lt h, mrg_lt (by show b.cost + x.cost < b.cost + y.cost; omega)]
  · rw [mrg_eq h, mrg_eq (by show b.cost + x.cost = b.cost + y.cost; omega)]
    unfold comb
    simp only [Nat.mul_add, minL_pre]
  · rw [mrg_gt h, mrg_gt (by show b.cost + y.cost < b.cost + x.cost; omega)]
theorem mrg_comb (a b x : Best) (h : a.next.length = b.next.length) : comb (mrg a b) x = mrg (comb a x) (comb b x) := by
  rcases Nat.lt_trichotomy a.cost b.cost with g | g | g
  · rw [mrg_lt g, mrg_lt (by show a.cost + x.cost < b.cost + x.cost; omega)]
  · rw [mrg_eq g, mrg_eq (by show a.cost + x.cost = b.cost + x.cost; omega)]
    unfold comb
    simp only [Nat.add_mul, minL_suf _ _ _ h]
  · rw [mrg_gt g, mrg_gt (by show b.cost + x.cost < a.cost + x.cost; omega)]
def combO (b : Best) (x : Option Best) : Option Best := x.map (comb b)
theorem combO_mO (b : Best) (x y : Option Best) : combO b (mO x y) = mO (combO b x) (combO b y) := by
  cases x with
  | none => rw [mO_none]; exact (mO_none _).symm
  | some x =>
    cases y with
    | none => rw [mO_none']; exact (mO_none' _).symm
    | some y => exact congrArg some (comb_mrg b x y)
theorem mO_combO (a b : Best) (x : Option Best) (h : a.next.length = b.next.length) : combO (mrg a b) x = mO (combO a x) (combO b x) := by
  cases x with
  | none => rfl
  | some x => exact congrArg some (mrg_comb a b x h)
theorem combO_sumO (b : Best) : ∀ (l : List (Option Best)), combO b (sumO l) = sumO (l.map (combO b))
  | [] => rfl
  | a :: l => by rw [sumO_cons, combO_mO, combO_sumO b l]; rfl

/-! ### the specification's best, by sums -/
/-- the choices of one trip: (follower, cost), the lesser first -/
def pairsOf (r : List (Option Nat)) (n : Nat) : List (Nat × Nat) := (List.range (n + 1)).filterMap fun j => (r.getD j none).map fun c => (j, c)
/-- the set with a follower more, if it is one that may be taken -/
def taken (n m j : Nat) : Option Nat := if j < n then (if m.testBit j = true then none else some (m + 2 ^ j)) else some m
/-- what one choice brings -/
def viaO (rest : List (List (Option Nat))) (n m : Nat) (p : Nat × Nat) : Option Best := match taken n m p.1 with
  | none => none
  | some m' => (best rest n m').map (ahead p.2 p.1)
theorem fold_first {f : Nat → Option Best} (hf : ∀ j b, f j = some b → ∃ t, b.next = j :: t) : ∀ (l : List Nat) (a : Option Best), l.Pairwise (· < ·) → (∀ b, a = some b → ∃ i t, b.next = i :: t ∧ ∀ j ∈ l, i < j) →
    (l.map f).foldl cheaper a = mO a (sumO (l.map f))
  | [], a, _, _ => (mO_none' a).symm
  | j :: l, a, hp, ha => by
    rw [List.map_cons, List.foldl_cons, sumO_cons, ← mO_assoc]
    rw [List.pairwise_cons] at hp
    have e : cheaper a (f j) = mO a (f j) := by
      cases a with
      | none => rw [cheaper_none, mO_none]
      | some x =>
        cases ef : f j with
        | none => rw [cheaper_none', mO_none']
        | some y =>
          obtain ⟨i, t, e1, hi⟩ := ha x rfl
          obtain ⟨u, e2⟩ := hf j y ef
          have hlt := hi j (List.mem_cons_self ..)
          rw [cheaper_some]
          show _ = some (mrg x y)
          unfold mrg
          have : minL x.next y.next = x.next := by
            unfold minL
            rw [e1, e2]
            have : lexN (j :: u) (i :: t) = false := by
              unfold lexN
              rw [if_neg (by omega)]
              exact decide_eq_false (by omega)
            rw [this]
            rfl
          rw [this]
          (repeat' split) <;> rfl
    rw [e]
    refine fold_first hf l (mO a (f j)) hp.2 fun b hb => ?_
    -- the head of what is kept
    have keep : ∀ x, a = some x → ∃ i t, x.next = i :: t ∧ ∀ q ∈ l, i < q := fun x hx => by
      obtain ⟨i, t, e1, hi⟩ := ha x hx
      exact ⟨i, t, e1, fun q hq => hi q (List.mem_cons_of_mem _ hq)⟩
    have own : ∀ y, f j = some y → ∃ i t, y.next = i :: t ∧ ∀ q ∈ l, i < q := fun y hy => by
      obtain ⟨u, e2⟩ := hf j y hy
      exact ⟨j, u, e2, hp.1⟩
    cases ea : a with
    | none => rw [ea, mO_none] at hb; exact own b hb
    | some x =>
      cases ef : f j with
      | none => rw [ea, ef, mO_none'] at hb; exact keep b (by rw [ea, hb])
      | some y =>
        rw [ea, ef] at hb
        have hb : mrg x y = b := Option.some.inj hb
        rcases Nat.lt_trichotomy x.cost y.cost with h | h | h
        · rw [mrg_lt h] at hb; subst hb; exact keep _ ea
        · rw [mrg_eq h] at hb
          subst hb
          show ∃ i t, minL x.next y.next = i :: t ∧ _
          unfold minL
          split
          · exact own y ef
          · exact keep x ea
        · rw [mrg_gt h] at hb; subst hb; exact own _ ef
theorem range_lt : ∀ n, (List.range n).Pairwise (· < ·) := fun _ => List.pairwise_lt_range
theorem best_sum (r : List (Option Nat)) (rest : List (List (Option Nat))) (n m : Nat) : best (r :: rest) n m = sumO ((pairsOf r n).map (viaO rest n m)) := by
  show ((List.range (n + 1)).map _).foldl cheaper none = _
  rw [fold_first (fun j b hb => ?_) _ none (range_lt _) (fun b hb => by cases hb), mO_none]
  · unfold pairsOf
    generalize List.range (n + 1) = l
    induction l with
    | nil => rfl
    | cons j l ih =>
      rw [List.map_cons, sumO_cons, ih, List.filterMap_cons]
      cases er : r.getD j none with
      | none =>
        simp only [Option.map_none, Option.bind_none]
        split <;> exact mO_none _
      | some c =>
        simp only [Option.map_some, Option.bind_some, List.map_cons]
        rw [sumO_cons]
        congr 1
        unfold viaO taken
        by_cases hj : j < n
        · by_cases hb : m.testBit j = true
          · simp [hj, hb]
          · simp [hj, hb]
        · simp [hj]
  · split at hb
    · cases hb
    · cases er : r.getD j none with
      | none => rw [er] at hb; cases hb
      | some c =>
        rw [er] at hb
        simp only [Option.bind_some, Option.map_eq_some_iff] at hb
        obtain ⟨x, _, rfl⟩ := hb
        exact ⟨_, rfl⟩

/-! ### the dict of what is kept, step by step -/
/-- a beginning longer by one -/
def grown (b : Best) (p : Nat × Nat) : Best := ⟨b.cost + p.2, b.many, b.next ++ [p.1]⟩
theorem comb_grown (b x : Best) (p : Nat × Nat) : comb (grown b p) x = comb b (ahead p.2 p.1 x) := by
  unfold comb grown ahead
  simp [Nat.add_assoc]
def getN (d : List (Nat × Best)) (k : Nat) : Option Best := (d.find? fun p => p.1 == k).map (·.2)
def putN (d : List (Nat × Best)) (k : Nat) (b : Best) : List (Nat × Best) := match d with
  | [] => [(k, b)]
  | p :: r => if p.1 = k then (k, b) :: r else p :: putN r k b
/-- one choice of one that is kept -/
def put1 (n : Nat) (e : Nat × Best) (d : List (Nat × Best)) (p : Nat × Nat) : List (Nat × Best) := match taken n e.1 p.1 with
  | none => d
  | some m' => putN d m' (match getN d m' with
    | none => grown e.2 p
    | some x => mrg x (grown e.2 p))
def put2 (n : Nat) (ps : List (Nat × Nat)) (d : List (Nat × Best)) (e : Nat × Best) : List (Nat × Best) := ps.foldl (put1 n e) d
/-- one trip more -/
def turn (n : Nat) (d : List (Nat × Best)) (ps : List (Nat × Nat)) : List (Nat × Best) := d.foldl (put2 n ps) []
/-- all that is kept, with what is best behind it -/
def total (rest : List (List (Option Nat))) (n : Nat) (d : List (Nat × Best)) : Option Best := sumO (d.map fun e => combO e.2 (best rest n e.1))
def AllLen (i : Nat) (d : List (Nat × Best)) : Prop := ∀ e ∈ d, e.2.next.length = i
theorem putN_len {i : Nat} : ∀ {d : List (Nat × Best)} {k : Nat} {b : Best}, AllLen i d → b.next.length = i → AllLen i (putN d k b)
  | [], k, b, _, hb => fun e he => by
    rw [List.mem_singleton.mp he]; exact hb
  | p :: r, k, b, h, hb => fun e he => by
    unfold putN at he
    split at he
    · rcases List.mem_cons.mp he with rfl | he
      · exact hb
      · exact h e (List.mem_cons_of_mem _ he)
    · rcases List.mem_cons.mp he with rfl | he
      · exact h _ (List.mem_cons_self ..)
      · exact putN_len (fun e he => h e (List.mem_cons_of_mem _ he)) hb e he
theorem getN_mem {d : List (Nat × Best)} {k : Nat} {x : Best} (h : getN d k = some x) : (k, x) ∈ d := by
  unfold getN at h
  rw [Option.map_eq_some_iff] at h
  obtain ⟨p, hp, rfl⟩ := h
  have h1 := List.mem_of_find?_eq_some hp
  have h2 := List.find?_some hp
  have h2 : p.1 = k := by simpa using h2
  rw [← h2]
  exact h1
theorem total_put {rest : List (List (Option Nat))} {n i k : Nat} {g : Best} (hg : g.next.length = i) : ∀ {d : List (Nat × Best)}, AllLen i d →
    total rest n (putN d k (match getN d k with | none => g | some x => mrg x g)) = mO (total rest n d) (combO g (best rest n k))
  | [], _ => by
    show sumO [combO g (best rest n k)] = _
    rw [sumO_cons, sumO_nil, mO_none']
    exact (mO_none _).symm
  | p :: r, h => by
    have hr : AllLen i r := fun e he => h e (List.mem_cons_of_mem _ he)
    by_cases e : p.1 = k
    · have eg : getN (p :: r) k = some p.2 := by unfold getN; rw [List.find?_cons]; simp [e]
      rw [eg]
      show total rest n (if p.1 = k then _ else _) = _
      rw [if_pos e]
      show mO (combO (mrg p.2 g) (best rest n k)) (total rest n r) = mO (mO (combO p.2 (best rest n p.1)) (total rest n r)) _
      rw [mO_combO _ _ _ ((h p (List.mem_cons_self ..)).trans hg.symm), e, mO_assoc, mO_assoc, mO_comm (combO g _)]
    · have eg : getN (p :: r) k = getN r k := by
        unfold getN
        rw [List.find?_cons, beq_false_of_ne e]
      rw [eg]
      show total rest n (if p.1 = k then _ else _) = _
      rw [if_neg e]
      show mO (combO p.2 (best rest n p.1)) (total rest n (putN r k _)) = mO (mO (combO p.2 (best rest n p.1)) (total rest n r)) _
      rw [total_put hg hr, mO_assoc]
theorem grown_len {e : Nat × Best} {p : Nat × Nat} {i : Nat} (he : e.2.next.length = i) : (grown e.2 p).next.length = i + 1 := by
  show (e.2.next ++ [p.1]).length = i + 1
  rw [List.length_append, he]; rfl
theorem put1_len {n i : Nat} {e : Nat × Best} {d : List (Nat × Best)} {p : Nat × Nat} (he : e.2.next.length = i) (h : AllLen (i + 1) d) : AllLen (i + 1) (put1 n e d p) := by
  unfold put1
  have hg : (grown e.2 p).next.length = i + 1 := by unfold grown; simp [he]
  split
  · exact h
  · refine putN_len h ?_
    split
    · exact hg
    · rename_i x hx
      have hl := h _ (getN_mem hx)
      rcases Nat.lt_trichotomy x.cost (grown e.2 p).cost with q | q | q
      · rw [mrg_lt q]; exact hl
      · rw [mrg_eq q]
        show (minL _ _).length = _
        rw [minL_len _ _ (hl.trans hg.symm)]; exact hl
      · rw [mrg_gt q]; exact hg
theorem total_put1 {rest : List (List (Option Nat))} {n i : Nat} {e : Nat × Best} {d : List (Nat × Best)} {p : Nat × Nat} (he : e.2.next.length = i) (h : AllLen (i + 1) d) :
    total rest n (put1 n e d p) = mO (total rest n d) (combO e.2 (viaO rest n e.1 p)) := by
  unfold put1 viaO
  cases et : taken n e.1 p.1 with
  | none => exact (mO_none' _).symm
  | some m' =>
    simp only
    rw [total_put (i := i + 1) (grown_len he) h]
    congr 1
    cases best rest n m' with
    | none => rfl
    | some x => exact congrArg some (comb_grown e.2 x p)
theorem put2_ok {rest : List (List (Option Nat))} {n i : Nat} {e : Nat × Best} (he : e.2.next.length = i) : ∀ (ps : List (Nat × Nat)) {d : List (Nat × Best)}, AllLen (i + 1) d →
    AllLen (i + 1) (put2 n ps d e) ∧ total rest n (put2 n ps d e) = mO (total rest n d) (combO e.2 (sumO (ps.map (viaO rest n e.1))))
  | [], d, h => ⟨h, (mO_none' _).symm⟩
  | p :: ps, d, h => by
    obtain ⟨h1, h2⟩ := put2_ok (rest := rest) (n := n) he ps (put1_len (n := n) (p := p) he h)
    refine ⟨h1, ?_⟩
    show total rest n (put2 n ps (put1 n e d p) e) = _
    rw [h2, total_put1 he h, List.map_cons, sumO_cons, combO_mO, mO_assoc]
theorem turn_ok {r : List (Option Nat)} {rest : List (List (Option Nat))} {n i : Nat} {d : List (Nat × Best)} (h : AllLen i d) :
    AllLen (i + 1) (turn n d (pairsOf r n)) ∧ total rest n (turn n d (pairsOf r n)) = total (r :: rest) n d := by
  have key : ∀ (l : List (Nat × Best)) (acc : List (Nat × Best)), AllLen i l → AllLen (i + 1) acc → AllLen (i + 1) (l.foldl (put2 n (pairsOf r n)) acc) ∧ total rest n (l.foldl (put2 n (pairsOf r n)) acc) = mO (total rest n acc) (total (r :: rest) n l) := by
    intro l
    induction l with
    | nil => exact fun acc _ ha => ⟨ha, (mO_none' _).symm⟩
    | cons e l ih =>
      intro acc hl ha
      obtain ⟨h1, h2⟩ := put2_ok (rest := rest) (n := n) (hl e (List.mem_cons_self ..)) (pairsOf r n) ha
      obtain ⟨h3, h4⟩ := ih _ (fun e he => hl e (List.mem_cons_of_mem _ he)) h1
      refine ⟨h3, ?_⟩
      show total rest n (l.foldl _ _) = _
      rw [h4, h2, mO_assoc]
      show mO _ (mO _ _) = mO _ (mO (combO e.2 (best (r :: rest) n e.1)) (total (r :: rest) n l))
      rw [best_sum]
  obtain ⟨h1, h2⟩ := key d [] h (fun _ h => nomatch h)
  refine ⟨h1, ?_⟩
  show total rest n (d.foldl _ []) = _
  rw [h2]
  exact mO_none _
/-- the whole walk -/
def walkD (n : Nat) (cs : List (List (Nat × Nat))) : List (Nat × Best) := cs.foldl (turn n) [(0, ⟨0, 1, []⟩)]
theorem walk_ok (n : Nat) : ∀ (rows : List (List (Option Nat))) (i : Nat) (d : List (Nat × Best)) (_ : AllLen i d), total [] n ((rows.map fun r => pairsOf r n).foldl (turn n) d) = total rows n d
  | [], _, _, _ => rfl
  | r :: rest, i, d, h => by
    obtain ⟨h1, h2⟩ := turn_ok (r := r) (rest := rest) (n := n) h
    rw [List.map_cons, List.foldl_cons, walk_ok n rest (i + 1) _ h1, h2]
theorem comb_unit (b : Best) : comb b ⟨0, 1, []⟩ = b := by unfold comb; simp
theorem unit_comb (b : Best) : comb ⟨0, 1, []⟩ b = b := by unfold comb; simp
theorem total_end (n : Nat) : ∀ (d : List (Nat × Best)), total [] n d = sumO (d.map fun e => some e.2)
  | [] => rfl
  | e :: d => by
    show mO (combO e.2 (best [] n e.1)) (total [] n d) = mO (some e.2) _
    rw [total_end n d]
    congr 1
    exact congrArg some (comb_unit e.2)
/-- **the walk gives the best** -/
theorem walk_best (n : Nat) (rows : List (List (Option Nat))) : sumO ((walkD n (rows.map fun r => pairsOf r n)).map fun e => some e.2) = assign rows n := by
  rw [← total_end n]
  unfold walkD
  rw [walk_ok n rows 0 _ (fun e he => by rw [List.mem_singleton.mp he]; rfl), assign_best]
  show mO (combO ⟨0, 1, []⟩ (best rows n 0)) none = _
  rw [mO_none']
  cases best rows n 0 with
  | none => rfl
  | some b => exact congrArg some (unit_comb b)
end Tu
end
section
/-! A run along a row of followers: chains, rings. Plain Lean. -/
namespace Tu
open Sw75

/-- what follows, from a trip on, till none follows or the first comes again -/
def runF (row : List Nat) (n first : Nat) : Nat → Nat → List Nat
  | 0, _ => []
  | f + 1, a => if a < n ∧ a ≠ first then a :: runF row n first f (row.getD a n) else []
theorem runF_stop {row : List Nat} {n first f a : Nat} (h : ¬ (a < n ∧ a ≠ first)) : runF row n first f a = [] := by
  cases f with
  | zero => rfl
  | succ f => show (if _ then _ else _) = _; rw [if_neg h]
def runOff (row : List Nat) (n first : Nat) : List Nat := first :: runF row n first (n - 1) (row.getD first n)
/-- a row of followers: as long as there are trips, no trip given to two -/
structure Row (row : List Nat) (n : Nat) : Prop where
  len : row.length = n
  inj : ∀ i j, i < n → j < n → row.getD i n = row.getD j n → row.getD i n < n → i = j
/-- so far along the run -/
structure RunInv (row : List Nat) (n first : Nat) (run : List Nat) (after : Nat) : Prop where
  hd : run[0]? = some first
  nd : run.Nodup
  lt : ∀ x ∈ run, x < n
  st : ∀ k y, run[k + 1]? = some y → ∃ x, run[k]? = some x ∧ row.getD x n = y
  la : ∃ x, run[run.length - 1]? = some x ∧ row.getD x n = after
  eq : run ++ runF row n first (n - run.length) after = runOff row n first
theorem RunInv.start {row : List Nat} {n first : Nat} (h : first < n) : RunInv row n first [first] (row.getD first n) where
  hd := rfl
  nd := by simp
  lt := fun x hx => by rw [List.mem_singleton.mp hx]; exact h
  st := fun k y e => by simp at e
  la := ⟨first, rfl, rfl⟩
  eq := rfl
theorem len_lt : ∀ (n : Nat) {l : List Nat}, l.Nodup → (∀ x ∈ l, x < n) → l.length ≤ n
  | 0, [], _, _ => Nat.le_refl _
  | 0, x :: _, _, h => absurd (h x (List.mem_cons_self ..)) (Nat.not_lt_zero _)
  | n + 1, l, hn, hl => by
    by_cases hm : n ∈ l
    · have h1 := len_lt n (l := l.erase n) (hn.erase n) fun x hx => by
        have h2 := (List.Nodup.mem_erase_iff hn).mp hx
        have := hl x h2.2
        have := h2.1
        omega
      rw [List.length_erase_of_mem hm] at h1
      omega
    · have := len_lt n hn fun x hx => by
        have h2 := hl x hx
        have : x ≠ n := fun q => hm (q ▸ hx)
        omega
      omega
theorem nd_inj {l : List Nat} (h : l.Nodup) {i j : Nat} {x : Nat} (hi : l[i]? = some x) (hj : l[j]? = some x) : i = j := by
  obtain ⟨l1, g1⟩ := List.getElem?_eq_some_iff.mp hi
  obtain ⟨l2, g2⟩ := List.getElem?_eq_some_iff.mp hj
  have h := List.pairwise_iff_getElem.mp h
  rcases Nat.lt_trichotomy i j with q | q | q
  · exact absurd (g1.trans g2.symm) (h i j l1 l2 q)
  · exact q
  · exact absurd (g2.trans g1.symm) (h j i l2 l1 q)
theorem RunInv.new {row : List Nat} {n first : Nat} {run : List Nat} {after : Nat} (R : Row row n) (h : RunInv row n first run after) (ha : after < n) (hf : after ≠ first) : after ∉ run := by
  intro hm
  obtain ⟨k, hk, e⟩ := List.getElem_of_mem hm
  have e : run[k]? = some after := by rw [List.getElem?_eq_getElem hk, e]
  cases k with
  | zero => rw [h.hd] at e; exact hf (Option.some.inj e).symm
  | succ k =>
    obtain ⟨x, hx, ex⟩ := h.st k after e
    obtain ⟨z, hz, ez⟩ := h.la
    have hxn := h.lt x (List.mem_of_getElem? hx)
    have hzn := h.lt z (List.mem_of_getElem? hz)
    have := R.inj x z hxn hzn (ex.trans ez.symm) (by rw [ex]; exact ha)
    subst this
    have := nd_inj h.nd hx hz
    have := (List.getElem?_eq_some_iff.mp e).1
    omega
theorem RunInv.step {row : List Nat} {n first : Nat} {run : List Nat} {after : Nat} (R : Row row n) (h : RunInv row n first run after) (ha : after < n) (hf : after ≠ first) :
    run.length < n ∧ RunInv row n first (run ++ [after]) (row.getD after n) := by
  have hnew := h.new R ha hf
  have nd' : (run ++ [after]).Nodup := by
    rw [List.nodup_append]
    refine ⟨h.nd, by simp, fun a hA b hB => ?_⟩
    rw [List.mem_singleton.mp hB]
    intro q
    exact hnew (q ▸ hA)
  have lt' : ∀ x ∈ run ++ [after], x < n := fun x hx => by
    rcases List.mem_append.mp hx with hx | hx
    · exact h.lt x hx
    · rw [List.mem_singleton.mp hx]; exact ha
  have hl : run.length < n := by
    have := len_lt n nd' lt'
    rw [List.length_append, List.length_singleton] at this
    omega
  have hpos : 0 < run.length := by
    have := h.hd
    cases run with
    | nil => simp at this
    | cons _ _ => simp
  refine ⟨hl, ?_, nd', lt', fun k y e => ?_, ?_, ?_⟩
  · rw [List.getElem?_append_left hpos]; exact h.hd
  · by_cases hk : k + 1 < run.length
    · rw [List.getElem?_append_left hk] at e
      rw [List.getElem?_append_left (by omega)]
      exact h.st k y e
    · have hk' : k + 1 = run.length := by
        have := (List.getElem?_eq_some_iff.mp e).1
        rw [List.length_append] at this
        simp at this
        omega
      rw [List.getElem?_append_right (by omega)] at e
      have e0 : k + 1 - run.length = 0 := by omega
      rw [e0] at e
      have e : after = y := Option.some.inj e
      subst e
      rw [List.getElem?_append_left (by omega)]
      obtain ⟨x, hx, ex⟩ := h.la
      refine ⟨x, ?_, ex⟩
      have : k = run.length - 1 := by omega
      rw [this]; exact hx
  · refine ⟨after, ?_, rfl⟩
    rw [List.length_append]
    simp
  · rw [← h.eq]
    have : n - run.length = (n - (run ++ [after]).length) + 1 := by rw [List.length_append]; simp; omega
    rw [this]
    show _ = run ++ (if after < n ∧ after ≠ first then after :: runF row n first _ (row.getD after n) else [])
    rw [if_pos ⟨ha, hf⟩]
    simp
theorem RunInv.fin {row : List Nat} {n first : Nat} {run : List Nat} {after : Nat} (h : RunInv row n first run after) (hs : ¬ (after < n ∧ after ≠ first)) : run = runOff row n first := by
  rw [← h.eq, runF_stop hs, List.append_nil]
/-- the run as a whole -/
theorem run_whole {row : List Nat} {n first : Nat} (R : Row row n) (h : first < n) : ∃ after, ¬ (after < n ∧ after ≠ first) ∧ RunInv row n first (runOff row n first) after := by
  have key : ∀ (k : Nat) (run : List Nat) (after : Nat), n - run.length = k → RunInv row n first run after → ∃ after, ¬ (after < n ∧ after ≠ first) ∧ RunInv row n first (runOff row n first) after := by
    intro k
    induction k with
    | zero =>
      intro run after hk hi
      by_cases hs : after < n ∧ after ≠ first
      · have := (hi.step R hs.1 hs.2).1
        omega
      · exact ⟨after, hs, by rw [← hi.fin hs]; exact hi⟩
    | succ k ih =>
      intro run after hk hi
      by_cases hs : after < n ∧ after ≠ first
      · obtain ⟨h1, h2⟩ := hi.step R hs.1 hs.2
        exact ih _ _ (by rw [List.length_append]; simp; omega) h2
      · exact ⟨after, hs, by rw [← hi.fin hs]; exact hi⟩
  exact key _ _ _ rfl (RunInv.start h)
/-! ### chains -/
theorem chain_run {row : List Nat} {n first : Nat} (R : Row row n) (hf : first ∉ row) (h : first < n) : chainFrom row n n first = runOff row n first := by
  have ne : ∀ a, a < n → row.getD a n ≠ first := fun a ha q => by
    have : a < row.length := by rw [R.len]; exact ha
    rw [List.getD_eq_getElem?_getD, List.getElem?_eq_getElem this, Option.getD_some] at q
    exact hf (q ▸ List.getElem_mem this)
  have key : ∀ (f a : Nat), a ≠ first → (if a < n then chainFrom row n f a else []) = runF row n first f a := by
    intro f
    induction f with
    | zero => intro a _; split <;> rfl
    | succ f ih =>
      intro a ha
      by_cases hlt : a < n
      · rw [if_pos hlt]
        unfold chainFrom runF
        rw [if_pos (show a < n ∧ a ≠ first from ⟨hlt, ha⟩), ih _ (ne a hlt)]
      · rw [if_neg hlt, runF_stop (fun q => hlt q.1)]
  obtain ⟨m, rfl⟩ : ∃ m, n = m + 1 := ⟨n - 1, by omega⟩
  unfold chainFrom
  rw [key m _ (ne first h)]
  rfl
theorem chains_run {row : List Nat} {n : Nat} (R : Row row n) : chains row n = ((List.range n).filter fun i => !row.contains i).map (runOff row n) := by
  unfold chains
  refine List.map_congr_left fun i hi => ?_
  rw [List.mem_filter, List.mem_range] at hi
  exact chain_run R (by have := hi.2; simpa using this) hi.1
/-! ### rings -/
theorem ring_run {row : List Nat} {n first : Nat} (hlt : ∀ a, a < n → row.getD a n < n) (hl : row.length = n) (h : first < n) : ringFrom row first n first = runOff row n first := by
  have gd : ∀ a, a < n → row.getD a first = row.getD a n := fun a ha => by
    have : a < row.length := by rw [hl]; exact ha
    rw [List.getD_eq_getElem?_getD, List.getD_eq_getElem?_getD, List.getElem?_eq_getElem this, Option.getD_some, Option.getD_some]
  have key : ∀ (f a : Nat), a < n → (if a = first then [] else ringFrom row first f a) = runF row n first f a := by
    intro f
    induction f with
    | zero => intro a _; split <;> rfl
    | succ f ih =>
      intro a ha
      by_cases e : a = first
      · rw [if_pos e, runF_stop (fun q => q.2 e)]
      · rw [if_neg e]
        unfold ringFrom runF
        rw [if_pos (show a < n ∧ a ≠ first from ⟨ha, e⟩), gd a ha, ih _ (hlt a ha)]
  obtain ⟨m, rfl⟩ : ∃ m, n = m + 1 := ⟨n - 1, by omega⟩
  unfold ringFrom
  rw [gd first h, key m _ (hlt first h)]
  rfl
/-- it comes there in some steps -/
inductive Reach (row : List Nat) (n : Nat) : Nat → Nat → Prop
  | refl (i : Nat) : Reach row n i i
  | step {i j : Nat} (h : Reach row n i j) : Reach row n i (row.getD j n)
theorem Reach.trans {row : List Nat} {n i j k : Nat} (h : Reach row n i j) (g : Reach row n j k) : Reach row n i k := by
  induction g with
  | refl => exact h
  | step _ ih => exact ih.step
section
variable {row : List Nat} {n : Nat} (R : Row row n) (hlt : ∀ a, a < n → row.getD a n < n)
include R hlt
theorem ring_facts {i : Nat} (h : i < n) : i ∈ runOff row n i ∧ (∀ x ∈ runOff row n i, x < n ∧ row.getD x n ∈ runOff row n i ∧ Reach row n i x ∧ Reach row n x i) := by
  obtain ⟨after, hs, I⟩ := run_whole R h
  obtain ⟨z, hz, ez⟩ := I.la
  have hzn := I.lt z (List.mem_of_getElem? hz)
  have hai : after = i := by
    have : after < n := by rw [← ez]; exact hlt z hzn
    exact Classical.byContradiction fun q => hs ⟨this, q⟩
  have himem : i ∈ runOff row n i := List.mem_of_getElem? I.hd
  refine ⟨himem, fun x hx => ⟨I.lt x hx, ?_, ?_, ?_⟩⟩
  · obtain ⟨k, hk, e⟩ := List.getElem_of_mem hx
    by_cases hl : k + 1 < (runOff row n i).length
    · obtain ⟨x', hx', ex'⟩ := I.st k _ (List.getElem?_eq_getElem hl)
      rw [List.getElem?_eq_getElem hk, e] at hx'
      cases hx'
      rw [ex']
      exact List.getElem_mem hl
    · have ek : k = (runOff row n i).length - 1 := by omega
      have e2 : (runOff row n i)[k]? = some x := by rw [List.getElem?_eq_getElem hk, e]
      rw [ek, hz] at e2
      have e2 : z = x := Option.some.inj e2
      subst e2
      rw [ez, hai]
      exact himem
  · obtain ⟨k, hk, e⟩ := List.getElem_of_mem hx
    have key : ∀ (k : Nat) (x : Nat), (runOff row n i)[k]? = some x → Reach row n i x := by
      intro k
      induction k with
      | zero => intro x hx; rw [I.hd] at hx; cases hx; exact .refl _
      | succ k ih =>
        intro x hx
        obtain ⟨y, hy, ey⟩ := I.st k x hx
        rw [← ey]
        exact (ih y hy).step
    exact key k x (by rw [List.getElem?_eq_getElem hk, e])
  · have key : ∀ (d k : Nat) (x : Nat), (runOff row n i).length - 1 - k = d → (runOff row n i)[k]? = some x → Reach row n x i := by
      intro d
      induction d with
      | zero =>
        intro k x hd hx
        have hk := (List.getElem?_eq_some_iff.mp hx).1
        have : k = (runOff row n i).length - 1 := by omega
        rw [this, hz] at hx
        cases hx
        rw [← hai, ← ez]
        exact (Reach.refl _).step
      | succ d ih =>
        intro k x hd hx
        have hl : k + 1 < (runOff row n i).length := by omega
        have e1 := List.getElem?_eq_getElem hl
        obtain ⟨x', hx', ex'⟩ := I.st k _ e1
        rw [hx] at hx'
        cases hx'
        have := ih (k + 1) _ (by omega) e1
        rw [← ex'] at this
        exact (Reach.refl x).step.trans this
    obtain ⟨k, hk, e⟩ := List.getElem_of_mem hx
    exact key _ k x rfl (by rw [List.getElem?_eq_getElem hk, e])
theorem ring_iff {i x : Nat} (h : i < n) : x ∈ runOff row n i ↔ Reach row n i x := by
  obtain ⟨h1, h2⟩ := ring_facts R hlt h
  constructor
  · exact fun hx => (h2 x hx).2.2.1
  · intro hr
    induction hr with
    | refl => exact h1
    | step _ ih => exact (h2 _ ih).2.1
theorem ring_symm {i x : Nat} (h : i < n) (hx : x ∈ runOff row n i) : i ∈ runOff row n x :=
  let f := (ring_facts R hlt h).2 x hx
  (ring_iff R hlt f.1).mpr f.2.2.2
theorem ring_trans {i j x : Nat} (h : i < n) (hj : j ∈ runOff row n i) (hx : x ∈ runOff row n j) : x ∈ runOff row n i :=
  let f := (ring_facts R hlt h).2 j hj
  (ring_iff R hlt h).mpr (((ring_iff R hlt h).mp hj).trans ((ring_iff R hlt f.1).mp hx))
end
/-- the rings, one by one: those not seen yet -/
def ringsTo (row : List Nat) (n k : Nat) : List (List Nat) := (List.range k).filterMap fun i => if ((runOff row n i).all fun j => decide (i ≤ j)) = true then some (runOff row n i) else none
def SeenTo (row : List Nat) (n k x : Nat) : Prop := ∃ i, i < k ∧ x ∈ runOff row n i
theorem ringsTo_rings {row : List Nat} {n : Nat} (hlt : ∀ a, a < n → row.getD a n < n) (hl : row.length = n) : rings row n = ringsTo row n n := by
  unfold rings ringsTo
  have key : ∀ (l : List Nat), (∀ i ∈ l, i < n) → (l.filterMap fun i => let r := ringFrom row i n i; if (r.all fun j => decide (i ≤ j)) = true then some r else none) = l.filterMap fun i => if ((runOff row n i).all fun j => decide (i ≤ j)) = true then some (runOff row n i) else none := by
    intro l
    induction l with
    | nil => intro _; rfl
    | cons i l ih =>
      intro h
      rw [List.filterMap_cons, List.filterMap_cons, ih (fun j hj => h j (List.mem_cons_of_mem _ hj))]
      simp only [ring_run hlt hl (h i (List.mem_cons_self ..))]
  exact key _ fun i hi => List.mem_range.mp hi
theorem rings_seen {row : List Nat} {n k : Nat} (R : Row row n) (hlt : ∀ a, a < n → row.getD a n < n) (hk : k < n) (h : SeenTo row n k k) : ringsTo row n (k + 1) = ringsTo row n k ∧ ∀ x, SeenTo row n (k + 1) x ↔ SeenTo row n k x := by
  obtain ⟨i, hi, hm⟩ := h
  constructor
  · unfold ringsTo
    rw [List.range_succ, List.filterMap_append]
    have : ((runOff row n k).all fun j => decide (k ≤ j)) = false := by
      rw [Bool.eq_false_iff]
      intro q
      have := List.all_eq_true.mp q i (ring_symm R hlt (by omega) hm)
      have := of_decide_eq_true this
      omega
    rw [List.filterMap_cons, this]
    simp
  · intro x
    constructor
    · rintro ⟨j, hj, hx⟩
      by_cases e : j = k
      · subst e
        exact ⟨i, hi, ring_trans R hlt (by omega) hm hx⟩
      · exact ⟨j, by omega, hx⟩
    · rintro ⟨j, hj, hx⟩
      exact ⟨j, by omega, hx⟩
theorem rings_new {row : List Nat} {n k : Nat} (R : Row row n) (hlt : ∀ a, a < n → row.getD a n < n) (hk : k < n) (h : ¬ SeenTo row n k k) : ringsTo row n (k + 1) = ringsTo row n k ++ [runOff row n k] ∧ ∀ x, SeenTo row n (k + 1) x ↔ SeenTo row n k x ∨ x ∈ runOff row n k := by
  constructor
  · unfold ringsTo
    rw [List.range_succ, List.filterMap_append]
    have : ((runOff row n k).all fun j => decide (k ≤ j)) = true := by
      rw [List.all_eq_true]
      intro j hj
      refine decide_eq_true (Classical.byContradiction fun q => h ⟨j, by omega, ring_symm R hlt hk hj⟩)
    rw [List.filterMap_cons, this]
    simp
  · intro x
    constructor
    · rintro ⟨j, hj, hx⟩
      by_cases e : j = k
      · subst e; exact .inr hx
      · exact .inl ⟨j, by omega, hx⟩
    · rintro (⟨j, hj, hx⟩ | hx)
      · exact ⟨j, by omega, hx⟩
      · exact ⟨k, by omega, hx⟩
/-! ### what rows the best ones are -/
theorem tb_add {m j : Nat} (hb : m.testBit j = false) (y : Nat) : (m + 2 ^ j).testBit y = (m ||| 2 ^ j).testBit y := by
  rw [Nat.testBit_or]
  rcases Nat.lt_trichotomy y j with h | h | h
  · rw [Nat.add_comm, Nat.testBit_two_pow_add_gt h]
    have : (2 ^ j).testBit y = false := by rw [Nat.testBit_two_pow]; exact decide_eq_false (by omega)
    rw [this, Bool.or_false]
  · subst h
    rw [Nat.add_comm, Nat.testBit_two_pow_add_eq, hb, Nat.testBit_two_pow_self]
    rfl
  · have e0 : (2 ^ j).testBit y = false := by rw [Nat.testBit_two_pow]; exact decide_eq_false (by omega)
    rw [e0, Bool.or_false]
    rw [Nat.testBit_eq_decide_div_mod_eq, Nat.testBit_eq_decide_div_mod_eq]
    have e : (m + 2 ^ j) / 2 ^ y = m / 2 ^ y := by
      rw [Nat.testBit_eq_decide_div_mod_eq, decide_eq_false_iff_not] at hb
      have hB : 0 < 2 ^ j := Nat.two_pow_pos j
      obtain ⟨d, hd⟩ : ∃ d, y = j + 1 + d := ⟨y - j - 1, by omega⟩
      have e2 : 2 ^ y = 2 ^ j * (2 * 2 ^ d) := by rw [hd, Nat.pow_add, Nat.pow_succ, Nat.mul_assoc]
      rw [e2, ← Nat.div_div_eq_div_mul, ← Nat.div_div_eq_div_mul, ← Nat.div_div_eq_div_mul, ← Nat.div_div_eq_div_mul, Nat.add_div_right _ hB]
      have : (m / 2 ^ j + 1) / 2 = m / 2 ^ j / 2 := by omega
      rw [this]
    rw [e]
theorem enum_row : ∀ (rows : List (List (Option Nat))) (n m : Nat) (p : Nat × List Nat), p ∈ enum rows n m → p.2.length = rows.length ∧ (∀ (i x : Nat), p.2[i]? = some x → x ≤ n ∧ ∃ r : List (Option Nat), rows[i]? = some r ∧ (r.getD x none).isSome = true) ∧
    (∀ (i x : Nat), p.2[i]? = some x → x < n → m.testBit x = false) ∧ (∀ (i j x : Nat), p.2[i]? = some x → p.2[j]? = some x → x < n → i = j)
  | [], n, m, p, h => by
    have : p = (0, []) := List.mem_singleton.mp h
    subst this
    exact ⟨rfl, fun i x e => by simp at e, fun i x e => by simp at e, fun i j x e => by simp at e⟩
  | r :: l, n, m, p, h => by
    unfold enum at h
    rw [List.mem_flatMap] at h
    obtain ⟨j, hj, hp⟩ := h
    rw [List.mem_range] at hj
    split at hp
    · cases hp
    · rename_i hc
      split at hp
      · cases hp
      · rename_i c hr
        obtain ⟨q, hq, rfl⟩ := List.mem_map.mp hp
        obtain ⟨h1, h2, h3, h4⟩ := enum_row l n _ q hq
        have tb : ∀ x, j < n → m.testBit j = false → (m + 2 ^ j).testBit x = false → m.testBit x = false ∧ x ≠ j := fun x hjn hb hx => by
          have e : m + 2 ^ j = m ||| 2 ^ j := by
            apply Nat.eq_of_testBit_eq
            intro y
            exact tb_add hb y
          rw [e, Nat.testBit_or, Bool.or_eq_false_iff] at hx
          refine ⟨hx.1, fun q => ?_⟩
          rw [q, Nat.testBit_two_pow_self] at hx
          cases hx.2
        have nb : j < n → m.testBit j = false := fun hjn => by
          cases e : m.testBit j with
          | false => rfl
          | true => exact absurd ⟨hjn, e⟩ hc
        have own : ∀ i x, q.2[i]? = some x → x < n → m.testBit x = false ∧ x ≠ j := fun i x e hx => by
          by_cases hjn : j < n
          · rw [if_pos hjn] at h3
            exact tb x hjn (nb hjn) (h3 i x e hx)
          · rw [if_neg hjn] at h3
            exact ⟨h3 i x e hx, by omega⟩
        refine ⟨by show (j :: q.2).length = _; rw [List.length_cons, h1]; rfl, fun i x e => ?_, fun i x e hx => ?_, fun i i' x e e' hx => ?_⟩
        · cases i with
          | zero =>
            cases e
            exact ⟨by omega, r, rfl, by rw [hr]; rfl⟩
          | succ i => exact h2 i x e
        · cases i with
          | zero => cases e; exact nb hx
          | succ i => exact (own i x e hx).1
        · cases i with
          | zero =>
            cases e
            cases i' with
            | zero => rfl
            | succ i' => exact absurd rfl (own i' j e' hx).2
          | succ i =>
            cases i' with
            | zero => cases e'; exact absurd rfl (own i j e hx).2
            | succ i' => exact congrArg (· + 1) (h4 i i' x e e' hx)
theorem assign_row {rows : List (List (Option Nat))} {n : Nat} {b : Best} (hl : rows.length = n) (h : assign rows n = some b) : Row b.next n ∧ (∀ (i x : Nat), b.next[i]? = some x → x ≤ n ∧ ∃ r : List (Option Nat), rows[i]? = some r ∧ (r.getD x none).isSome = true) := by
  rw [assign_best, best_summ] at h
  obtain ⟨_, _, h3⟩ := summ_some h
  have hm := List.mem_of_find?_eq_some h3
  obtain ⟨h1, h2, _, h4⟩ := enum_row rows n 0 _ hm
  have hlen : b.next.length = n := h1.trans hl
  refine ⟨⟨hlen, fun i j hi hj e hlt => ?_⟩, h2⟩
  have gi : b.next[i]? = some (b.next.getD i n) := by
    rw [List.getD_eq_getElem?_getD, List.getElem?_eq_getElem (by omega), Option.getD_some]
  have gj : b.next[j]? = some (b.next.getD j n) := by
    rw [List.getD_eq_getElem?_getD, List.getElem?_eq_getElem (by omega), Option.getD_some]
  rw [← e] at gj
  exact h4 i j _ gi gj hlt
end Tu
end
section
/-! The choices of each trip as the program lists them; the two sets. Plain Lean. -/
namespace Tu
open Sw75

/-! ### the choices -/
/-- every day: which trips may follow, and how many days later -/
def behind (s : Plan) (ts : List Trip) (x : Trip) : List (Nat × Nat) := ts.zipIdx.filterMap fun q => (s.days x q.1).map fun d => (q.2, d)
def dailyC (s : Plan) (ts : List Trip) : List (List (Nat × Nat)) := ts.map (behind s ts)
def only0 (ps : List (Nat × Nat)) : List Nat := (ps.filter fun p => decide (p.2 = 0)).map (·.1)
def mayF (s : Plan) (ts : List Trip) : List (List Nat) := (dailyC s ts).map only0
def day1 (n : Nat) (js : List Nat) : List (Nat × Nat) := (js.map fun j => (j, 0)) ++ [(n, 1)]
def dayC (s : Plan) (ts : List Trip) : List (List (Nat × Nat)) := (mayF s ts).map (day1 ts.length)
theorem pairs_zip (f : Trip → Option Nat) (t : List (Option Nat)) : ∀ (l pre : List Trip), ((List.range' pre.length l.length).filterMap fun j => ((((pre ++ l).map f) ++ t).getD j none).map fun c => (j, c)) = (l.zipIdx pre.length).filterMap fun q => (f q.1).map fun c => (q.2, c)
  | [], _ => rfl
  | x :: l, pre => by
    have ih := pairs_zip f t l (pre ++ [x])
    rw [List.length_append, List.length_singleton] at ih
    have e : pre ++ [x] ++ l = pre ++ x :: l := by simp
    rw [e] at ih
    rw [List.length_cons, List.range'_succ, List.filterMap_cons, List.zipIdx_cons, List.filterMap_cons, ih]
    have g : ((pre ++ x :: l).map f ++ t).getD pre.length none = f x := by
      rw [List.map_append, List.append_assoc, List.getD_eq_getElem?_getD, List.getElem?_append_right (by simp)]
      simp
    rw [g]
theorem pairs_row (f : Trip → Option Nat) (l : List Trip) (z : Option Nat) : pairsOf (l.map f ++ [z]) l.length = (l.zipIdx.filterMap fun q => (f q.1).map fun c => (q.2, c)) ++ (match z with | none => [] | some c => [(l.length, c)]) := by
  unfold pairsOf
  rw [List.range_succ, List.filterMap_append]
  have h := pairs_zip f [z] l []
  rw [List.nil_append, List.length_nil, ← List.range_eq_range'] at h
  rw [h]
  congr 1
  have g : (l.map f ++ [z]).getD l.length none = z := by
    rw [List.getD_eq_getElem?_getD, List.getElem?_append_right (by simp)]
    simp
  rw [List.filterMap_cons, g]
  cases z <;> rfl
theorem daily_rows (s : Plan) : s.cycleRows.map (fun r => pairsOf r s.trips.length) = dailyC s s.trips := by
  unfold Plan.cycleRows dailyC
  rw [List.map_map]
  refine List.map_congr_left fun x _ => ?_
  show pairsOf ((s.trips.map fun y => s.days x y) ++ [none]) s.trips.length = _
  rw [pairs_row]
  exact List.append_nil _
theorem follows_days (s : Plan) (x y : Trip) : s.follows x y = true ↔ s.days x y = some 0 := by
  unfold Plan.follows Plan.days
  cases s.ready x y with
  | none => simp
  | some t =>
    simp only [Option.any_some, Option.map_some, Option.some.injEq, decide_eq_true_eq]
    constructor
    · intro h; rw [if_pos h]
    · intro h
      by_cases q : t ≤ y.start
      · exact q
      · rw [if_neg q] at h
        unfold DAY at h
        omega
theorem only0_behind (s : Plan) (ts : List Trip) (x : Trip) : only0 (behind s ts x) = ts.zipIdx.filterMap fun q => if s.follows x q.1 = true then some q.2 else none := by
  unfold only0 behind
  generalize ts.zipIdx = l
  induction l with
  | nil => rfl
  | cons q l ih =>
    rw [List.filterMap_cons, List.filterMap_cons]
    cases e : s.days x q.1 with
    | none =>
      have : ¬ s.follows x q.1 = true := fun h => by rw [follows_days, e] at h; cases h
      rw [if_neg this]
      exact ih
    | some d =>
      simp only [Option.map_some, List.filter_cons]
      by_cases h0 : d = 0
      · have : s.follows x q.1 = true := by rw [follows_days, e, h0]
        rw [if_pos this]
        simp only [h0, decide_true, ↓reduceIte, List.map_cons]
        rw [ih]
      · have : ¬ s.follows x q.1 = true := fun h => by rw [follows_days, e] at h; exact h0 (Option.some.inj h)
        rw [if_neg this]
        simp only [h0, decide_false, Bool.false_eq_true, ↓reduceIte]
        exact ih
theorem day_rows (s : Plan) : s.dayRows.map (fun r => pairsOf r s.trips.length) = dayC s s.trips := by
  unfold Plan.dayRows dayC mayF dailyC
  rw [List.map_map, List.map_map, List.map_map]
  refine List.map_congr_left fun x _ => ?_
  show pairsOf ((s.trips.map fun y => if s.follows x y = true then some 0 else none) ++ [some 1]) s.trips.length = day1 s.trips.length (only0 (behind s s.trips x))
  rw [pairs_row, only0_behind]
  unfold day1
  congr 1
  generalize s.trips.zipIdx = l
  induction l with
  | nil => rfl
  | cons q l ih =>
    rw [List.filterMap_cons, List.filterMap_cons]
    by_cases h : s.follows x q.1 = true
    · rw [if_pos h, if_pos h]
      simp only [Option.map_some, List.map_cons]
      rw [ih]
    · rw [if_neg h, if_neg h]
      exact ih
theorem mem_mayF {s : Plan} {ts : List Trip} {i j : Nat} {js : List Nat} (h : (mayF s ts)[i]? = some js) : j ∈ js ↔ ∃ x y, ts[i]? = some x ∧ ts[j]? = some y ∧ s.follows x y = true := by
  unfold mayF dailyC at h
  rw [List.map_map, List.getElem?_map, Option.map_eq_some_iff] at h
  obtain ⟨x, hx, rfl⟩ := h
  show j ∈ only0 (behind s ts x) ↔ _
  rw [only0_behind, List.mem_filterMap]
  constructor
  · rintro ⟨⟨y, k⟩, hq, e⟩
    rw [List.mem_zipIdx_iff_getElem?] at hq
    simp only at e hq
    split at e
    · rename_i hf
      have e : k = j := Option.some.inj e
      subst e
      exact ⟨x, y, hx, hq, hf⟩
    · cases e
  · rintro ⟨x', y, hx', hy, hf⟩
    rw [hx] at hx'
    cases hx'
    exact ⟨(y, j), by rw [List.mem_zipIdx_iff_getElem?]; exact hy, by simp only; rw [if_pos hf]⟩

/-! ### the two sets -/
theorem incr_eq : ∀ {l m : List Nat}, l.Pairwise (· < ·) → m.Pairwise (· < ·) → (∀ x, x ∈ l ↔ x ∈ m) → l = m
  | [], [], _, _, _ => rfl
  | [], y :: _, _, _, h => absurd ((h y).mpr (List.mem_cons_self ..)) (by simp)
  | x :: _, [], _, _, h => absurd ((h x).mp (List.mem_cons_self ..)) (by simp)
  | x :: l, y :: m, hl, hm, h => by
    rw [List.pairwise_cons] at hl hm
    have e : x = y := by
      have h1 := (h x).mp (List.mem_cons_self ..)
      have h2 := (h y).mpr (List.mem_cons_self ..)
      rcases List.mem_cons.mp h1 with q | q
      · exact q
      · rcases List.mem_cons.mp h2 with p | p
        · exact p.symm
        · have := hm.1 x q
          have := hl.1 y p
          omega
    subst e
    congr 1
    refine incr_eq hl.2 hm.2 fun z => ?_
    constructor
    · intro hz
      rcases List.mem_cons.mp ((h z).mp (List.mem_cons_of_mem _ hz)) with q | q
      · have := hl.1 z hz; omega
      · exact q
    · intro hz
      rcases List.mem_cons.mp ((h z).mpr (List.mem_cons_of_mem _ hz)) with q | q
      · have := hm.1 z hz; omega
      · exact q
theorem mem_later {s : Plan} {a j : Nat} : j ∈ s.later a ↔ ∃ i js, (mayF s s.trips)[i]? = some js ∧ a.testBit i = false ∧ j ∈ js := by
  unfold Plan.later
  rw [List.mem_filter, List.mem_range, List.any_eq_true]
  constructor
  · rintro ⟨hj, ⟨x, i⟩, hq, e⟩
    rw [List.mem_zipIdx_iff_getElem?] at hq
    simp only [Bool.and_eq_true, Bool.not_eq_true'] at e hq
    obtain ⟨e1, e2⟩ := e
    cases ey : s.trips[j]? with
    | none => rw [ey] at e2; cases e2
    | some y =>
      rw [ey] at e2
      have e3 : (mayF s s.trips)[i]? = some (only0 (behind s s.trips x)) := by
        unfold mayF dailyC
        rw [List.map_map, List.getElem?_map, hq]
        rfl
      exact ⟨i, _, e3, e1, (mem_mayF e3).mpr ⟨x, y, hq, ey, e2⟩⟩
  · rintro ⟨i, js, hi, ha, hj⟩
    obtain ⟨x, y, hx, hy, hf⟩ := (mem_mayF hi).mp hj
    refine ⟨(List.getElem?_eq_some_iff.mp hy).1, (x, i), by rw [List.mem_zipIdx_iff_getElem?]; exact hx, ?_⟩
    simp only [ha, hy, hf, Bool.not_false, Bool.and_self]
theorem later_lt (s : Plan) (a : Nat) : (s.later a).Pairwise (· < ·) := List.Pairwise.filter _ (range_lt _)
theorem mayF_len (s : Plan) (ts : List Trip) : (mayF s ts).length = ts.length := by unfold mayF dailyC; rw [List.length_map, List.length_map]
theorem onesOf_succ (n a : Nat) : onesOf (n + 1) a = onesOf n a ++ (if a.testBit n = true then [n] else []) := by
  unfold onesOf
  rw [List.range_succ, List.filter_append, List.filter_cons, List.filter_nil]
/-- the least cover among the first k -/
def covTo (s : Plan) (k : Nat) : Nat := (List.range k).foldl (fun a b => if s.coverSize b < s.coverSize a then b else a) 0
theorem covTo_one (s : Plan) : covTo s 1 = 0 := by
  unfold covTo
  show (if _ then 0 else 0) = 0
  split <;> rfl
theorem covTo_succ (s : Plan) (k : Nat) : covTo s (k + 1) = if s.coverSize k < s.coverSize (covTo s k) then k else covTo s k := by
  unfold covTo
  rw [List.range_succ, List.foldl_append]
  rfl
theorem cover_to (s : Plan) : s.cover = covTo s (2 ^ s.trips.length) := rfl
/-- ready, by the plan's turns and runs alone -/
theorem ready_trips (s : Plan) (ts : List Trip) (x y : Trip) : ({ s with trips := ts } : Plan).ready x y = s.ready x y := rfl
theorem days_trips (s : Plan) (ts : List Trip) (x y : Trip) : ({ s with trips := ts } : Plan).days x y = s.days x y := rfl
theorem units_day (s : Plan) (ts : List Trip) : ({ s with trips := ts } : Plan).units = sumO ((walkD ts.length (dayC s ts)).map fun e => some e.2) := by
  have := walk_best ts.length ({ s with trips := ts } : Plan).dayRows
  rw [day_rows ({ s with trips := ts } : Plan)] at this
  exact this.symm
theorem daily_day (s : Plan) : s.daily = sumO ((walkD s.trips.length (dailyC s s.trips)).map fun e => some e.2) := by
  have := walk_best s.trips.length s.cycleRows
  rw [daily_rows s] at this
  exact this.symm
theorem units_row {s : Plan} {b : Best} (h : s.units = some b) : Row b.next s.trips.length ∧ ∀ x ∈ b.next, x ≤ s.trips.length := by
  obtain ⟨h1, h2⟩ := assign_row (by unfold Plan.dayRows; exact List.length_map ..) h
  refine ⟨h1, fun x hx => ?_⟩
  obtain ⟨i, hi, e⟩ := List.getElem_of_mem hx
  exact (h2 i x (by rw [List.getElem?_eq_getElem hi, e])).1
theorem daily_row {s : Plan} {b : Best} (h : s.daily = some b) : Row b.next s.trips.length ∧ ∀ a, a < s.trips.length → b.next.getD a s.trips.length < s.trips.length := by
  obtain ⟨h1, h2⟩ := assign_row (by unfold Plan.cycleRows; exact List.length_map ..) h
  refine ⟨h1, fun a ha => ?_⟩
  have e : b.next[a]? = some (b.next.getD a s.trips.length) := by
    rw [List.getD_eq_getElem?_getD, List.getElem?_eq_getElem (by rw [h1.len]; exact ha), Option.getD_some]
  obtain ⟨h3, r, h4, h5⟩ := h2 a _ e
  rcases Nat.lt_or_ge (b.next.getD a s.trips.length) s.trips.length with q | q
  · exact q
  · have q : b.next.getD a s.trips.length = s.trips.length := by omega
    rw [q] at h5
    unfold Plan.cycleRows at h4
    rw [List.getElem?_map, Option.map_eq_some_iff] at h4
    obtain ⟨x, _, rfl⟩ := h4
    rw [List.getD_eq_getElem?_getD, List.getElem?_append_right (by simp)] at h5
    simp at h5
/-- without trips there's a row; with trips each may be without a follower -/
theorem units_some (s : Plan) : ∃ b, s.units = some b := by
  have key : ∀ (rows : List (List (Option Nat))) (n m : Nat), (∀ r ∈ rows, (r.getD n none).isSome = true) → ∃ b, best rows n m = some b := by
    intro rows
    induction rows with
    | nil => exact fun n m _ => ⟨_, rfl⟩
    | cons r rest ih =>
      intro n m h
      obtain ⟨c, hc⟩ := Option.isSome_iff_exists.mp (h r (List.mem_cons_self ..))
      obtain ⟨b, hb⟩ := ih n m fun q hq => h q (List.mem_cons_of_mem _ hq)
      rw [best_summ]
      cases e : summ (enum (r :: rest) n m) with
      | some b => exact ⟨b, rfl⟩
      | none =>
        exfalso
        have h0 := summ_none e
        have hb' : best rest n m = summ (enum rest n m) := best_summ rest n m
        have hne : enum rest n m ≠ [] := fun q => by rw [hb', q, summ_nil] at hb; cases hb
        obtain ⟨p, hp⟩ := List.exists_mem_of_ne_nil _ hne
        have : aheadP c n p ∈ enum (r :: rest) n m := by
          unfold enum
          rw [List.mem_flatMap]
          refine ⟨n, List.mem_range.mpr (by omega), ?_⟩
          rw [if_neg (by omega), hc]
          simp only [Nat.lt_irrefl, ↓reduceIte]
          exact List.mem_map.mpr ⟨p, hp, rfl⟩
        rw [h0] at this
        cases this
  unfold Plan.units
  rw [assign_best]
  refine key _ _ _ fun r hr => ?_
  unfold Plan.dayRows at hr
  obtain ⟨x, _, rfl⟩ := List.mem_map.mp hr
  rw [List.getD_eq_getElem?_getD, List.getElem?_append_right (by simp)]
  simp
end Tu
end
section
/-! The keys of what is kept are sets of trips, each once. Plain Lean. -/
namespace Tu
open Sw75
structure KeysOk (n : Nat) (d : List (Nat × Best)) : Prop where
  nd : (d.map (·.1)).Nodup
  lt : ∀ e ∈ d, e.1 < 2 ^ n
theorem putN_keys {d : List (Nat × Best)} {k : Nat} {b : Best} : ∀ x, x ∈ (putN d k b).map (·.1) ↔ x ∈ d.map (·.1) ∨ x = k := by
  induction d with
  | nil => intro x; simp [putN]
  | cons p r ih =>
    intro x
    unfold putN
    by_cases e : p.1 = k
    · rw [if_pos e]
      simp only [List.map_cons, List.mem_cons, e]
      constructor
      · rintro (h | h)
        · exact .inr h
        · exact .inl (.inr h)
      · rintro ((h | h) | h)
        · exact .inl h
        · exact .inr h
        · exact .inl h
    · rw [if_neg e]
      simp only [List.map_cons, List.mem_cons, ih]
      constructor
      · rintro (h | h | h)
        · exact .inl (.inl h)
        · exact .inl (.inr h)
        · exact .inr h
      · rintro ((h | h) | h)
        · exact .inl h
        · exact .inr (.inl h)
        · exact .inr (.inr h)
theorem putN_nd {k : Nat} {b : Best} : ∀ {d : List (Nat × Best)}, (d.map (·.1)).Nodup → ((putN d k b).map (·.1)).Nodup
  | [], _ => by simp [putN]
  | p :: r, h => by
    rw [List.map_cons, List.nodup_cons] at h
    unfold putN
    by_cases e : p.1 = k
    · rw [if_pos e, List.map_cons, List.nodup_cons]
      exact ⟨by show k ∉ _; rw [← e]; exact h.1, h.2⟩
    · rw [if_neg e, List.map_cons, List.nodup_cons]
      refine ⟨fun hm => ?_, putN_nd h.2⟩
      rcases (putN_keys p.1).mp hm with q | q
      · exact h.1 q
      · exact e q
theorem KeysOk.put {n : Nat} {d : List (Nat × Best)} {k : Nat} {b : Best} (h : KeysOk n d) (hk : k < 2 ^ n) : KeysOk n (putN d k b) where
  nd := putN_nd h.nd
  lt := fun e he => by
    have : e.1 ∈ (putN d k b).map (·.1) := List.mem_map.mpr ⟨e, he, rfl⟩
    rcases (putN_keys e.1).mp this with q | q
    · obtain ⟨e', he', eq⟩ := List.mem_map.mp q
      rw [← eq]
      exact h.lt e' he'
    · rw [q]; exact hk
theorem KeysOk.len {n : Nat} {d : List (Nat × Best)} (h : KeysOk n d) : d.length ≤ 2 ^ n := by
  have := len_lt (2 ^ n) h.nd fun x hx => by
    obtain ⟨e, he, rfl⟩ := List.mem_map.mp hx
    exact h.lt e he
  rwa [List.length_map] at this
theorem taken_lt {n m j m' : Nat} (hm : m < 2 ^ n) (h : taken n m j = some m') : m' < 2 ^ n := by
  unfold taken at h
  by_cases hj : j < n
  · rw [if_pos hj] at h
    by_cases hb : m.testBit j = true
    · rw [if_pos hb] at h; cases h
    · rw [if_neg hb] at h
      have h := Option.some.inj h
      rw [← h]
      exact add_bit_lt hm hj (by simpa using hb)
  · rw [if_neg hj] at h
    have h := Option.some.inj h
    rw [← h]; exact hm
theorem put1_keys {n : Nat} {e : Nat × Best} {d : List (Nat × Best)} {p : Nat × Nat} (he : e.1 < 2 ^ n) (h : KeysOk n d) : KeysOk n (put1 n e d p) := by
  unfold put1
  split
  · exact h
  · rename_i m' hm
    exact h.put (taken_lt he hm)
theorem put2_keys {n : Nat} {e : Nat × Best} (he : e.1 < 2 ^ n) : ∀ (ps : List (Nat × Nat)) {d : List (Nat × Best)}, KeysOk n d → KeysOk n (put2 n ps d e)
  | [], _, h => h
  | _ :: ps, _, h => put2_keys he ps (put1_keys he h)
theorem turn_keys {n : Nat} {d : List (Nat × Best)} {ps : List (Nat × Nat)} (h : KeysOk n d) : KeysOk n (turn n d ps) := by
  have key : ∀ (l acc : List (Nat × Best)), (∀ e ∈ l, e.1 < 2 ^ n) → KeysOk n acc → KeysOk n (l.foldl (put2 n ps) acc) := by
    intro l
    induction l with
    | nil => exact fun acc _ ha => ha
    | cons e l ih => exact fun acc hl ha => ih _ (fun e he => hl e (List.mem_cons_of_mem _ he)) (put2_keys (hl e (List.mem_cons_self ..)) ps ha)
  exact key d [] h.lt ⟨List.nodup_nil, fun _ h => nomatch h⟩
theorem foldl_take {α β : Type} (f : β → α → β) (l : List α) (b : β) {i : Nat} {x : α} (h : l[i]? = some x) : (l.take (i + 1)).foldl f b = f ((l.take i).foldl f b) x := by
  rw [List.take_add_one, h, List.foldl_append]
  rfl
theorem put2_len {n i : Nat} {e : Nat × Best} (he : e.2.next.length = i) : ∀ (ps : List (Nat × Nat)) {d : List (Nat × Best)}, AllLen (i + 1) d → AllLen (i + 1) (put2 n ps d e)
  | [], _, h => h
  | _ :: ps, _, h => put2_len he ps (put1_len he h)
theorem turn_len {n i : Nat} {d : List (Nat × Best)} {ps : List (Nat × Nat)} (h : AllLen i d) : AllLen (i + 1) (turn n d ps) := by
  have key : ∀ (l acc : List (Nat × Best)), AllLen i l → AllLen (i + 1) acc → AllLen (i + 1) (l.foldl (put2 n ps) acc) := by
    intro l
    induction l with
    | nil => exact fun acc _ ha => ha
    | cons e l ih => exact fun acc hl ha => ih _ (fun e he => hl e (List.mem_cons_of_mem _ he)) (put2_len (hl e (List.mem_cons_self ..)) ps ha)
  exact key d [] h fun _ h => nomatch h
theorem walk_len (n : Nat) (cs : List (List (Nat × Nat))) : AllLen cs.length (walkD n cs) := by
  have key : ∀ (l : List (List (Nat × Nat))) (i : Nat) (d : List (Nat × Best)), AllLen i d → AllLen (i + l.length) (l.foldl (turn n) d) := by
    intro l
    induction l with
    | nil => exact fun i d h => h
    | cons p l ih =>
      intro i d h
      have := ih (i + 1) _ (turn_len (n := n) (ps := p) h)
      rw [List.length_cons, Nat.add_comm l.length 1, ← Nat.add_assoc]
      exact this
  have := key cs 0 [(0, ⟨0, 1, []⟩)] fun e he => by rw [List.mem_singleton.mp he]; rfl
  rw [Nat.zero_add] at this
  exact this
theorem and_bit (m j : Nat) : m &&& 2 ^ j = if m.testBit j = true then 2 ^ j else 0 := by
  apply Nat.eq_of_testBit_eq
  intro y
  rw [Nat.testBit_and, Nat.testBit_two_pow]
  by_cases e : j = y
  · subst e
    cases h : m.testBit j with
    | true => simp
    | false => simp
  · rw [decide_eq_false e, Bool.and_false]
    cases h : m.testBit j with
    | true => rw [if_pos rfl, Nat.testBit_two_pow, decide_eq_false e]
    | false => simp
/-- the bit of a follower, as the program makes it -/
def bitN (n j : Nat) : Nat := if j < n then 2 ^ j else 0
theorem bits_none {n m j : Nat} (h : taken n m j = none) : m &&& bitN n j ≠ 0 := by
  unfold taken at h
  unfold bitN
  by_cases hj : j < n
  · rw [if_pos hj] at h ⊢
    by_cases hb : m.testBit j = true
    · rw [and_bit, if_pos hb]
      exact Nat.ne_of_gt (Nat.two_pow_pos j)
    · rw [if_neg hb] at h; cases h
  · rw [if_neg hj] at h; cases h
theorem bits_some {n m j m' : Nat} (h : taken n m j = some m') : m &&& bitN n j = 0 ∧ m + bitN n j = m' := by
  unfold taken at h
  unfold bitN
  by_cases hj : j < n
  · rw [if_pos hj] at h ⊢
    by_cases hb : m.testBit j = true
    · rw [if_pos hb] at h; cases h
    · rw [if_neg hb] at h
      rw [and_bit, if_neg hb]
      exact ⟨rfl, Option.some.inj h⟩
  · rw [if_neg hj] at h ⊢
    exact ⟨Nat.and_zero m, Option.some.inj h⟩
theorem walk_keys (n : Nat) (cs : List (List (Nat × Nat))) : KeysOk n (walkD n cs) := by
  have key : ∀ (l : List (List (Nat × Nat))) (d : List (Nat × Best)), KeysOk n d → KeysOk n (l.foldl (turn n) d) := by
    intro l
    induction l with
    | nil => exact fun d h => h
    | cons p l ih => exact fun d h => ih _ (turn_keys h)
  exact key cs _ ⟨by simp, fun e he => by rw [List.mem_singleton.mp he]; exact Nat.two_pow_pos n⟩
end Tu
end
section
/-! max(xs, default=d) of a list of whole numbers. -/
namespace TuMax
open PySem
set_option maxRecDepth 100000
theorem args_default (x d : Value) : argsOk "max" ⟨[x], [("default", d)]⟩ := by unfold argsOk; kernel_rfl
section
variable {prog : Program} {w : World} {A : Around} {E : Value → Shared → Prop} {s : Shared}
/-- a builtin's call with keywords -/
theorem call_tree_kw {id : String} {b : Builtin} {us : List Value} {kw : List (Str × Value)} {Q : Value → Shared → Prop} (kn : builtinKind id = none) (pl : plainId id = true) (en : entryFor table id = some b) (ok : argsOk id ⟨us, kw⟩)
    (body : wpAny (model prog w) A.in1 (b ⟨us, kw⟩) (fun fin s' => match fin with
      | .done f => (match (Except.ok f : Result) with | .ok (.ret v) => Q v s' | .ok _ => False | .error e => E e s')
      | .again c' => c'.quiet = true ∧ codeAny (model prog w) A c' (fun r s' => match r with | .ok (.ret v) => Q v s' | .ok _ => False | .error e => E e s') s') E s) :
    wpAny (model prog w) A (call (.builtin id) us kw) Q E s := by
  refine wpAny_call (codeAny_call_builtin pl en ?_)
  simp only [checkBuiltinCall, kn]
  cases sg : Manifest.signature? id with
  | none => exact wpAny_pure body
  | some sig =>
    simp only [argsOk, sg] at ok
    have ck : Bind.checkArgs id sig ⟨us, kw⟩ = pure () := ok
    show wpAny _ A.in1 (Bind.checkArgs id sig ⟨us, kw⟩) _ _ s
    rw [ck]; exact wpAny_pure body
end
section
variable {prog : Program} {w : World} {A : Around} {R : Result → Shared → Prop} {I : Addr} {fp wr : List Addr} {n : Nat} {P : Nat → Value → Prop} {St : Nat → Heap → Prop} {dv : Value}
theorem loopName : (toString "max" ++ toString ".loop" : String) = "max.loop" := by decide
/-- the turns behind the first -/
theorem loop_rest (W : Walks prog w A.in1 I fp wr n P St) (bt : Nat → Nat → Bool) (cmp : CmpOf prog w A.in1 .Gt P bt) (B : Addr) (nB : B ∉ fp) :
    ∀ (k j : Nat) (s : Shared) (vb : Value) (c : Nat), n - (j + 1) = k → j + 1 ≤ n → St (j + 1) s.heap → P (argBest bt j) vb →
    s.heap.get? B = some { cls := .type "list", dict := none, data := .seq #[vb, vb] c, slots := #[] } →
    (∀ v h' tk, P (argBest bt (n - 1)) v → (∀ b o, b ∉ wr → b ≠ B → s.heap.get? b = some o → h'.get? b = some o) → R (.ok (.ret v)) { s with heap := h', toks := tk }) →
    codeAny (model prog w) A (.builtin "max.loop" ⟨[.ref I, .none, .ref B], [("default", dv)]⟩) R s := by
  have nBw : B ∉ wr := fun h => nB (W.sub _ h)
  intro k
  induction k with
  | zero =>
    intro j s vb c hk hj hst pb hB fin
    have last : j + 1 = n := by omega
    refine codeAny_builtin F.entry_max_loop ?_
    rw [Around.under_plainId F.plain_max_loop _]
    show wpAny _ A.in1 (seqItems? (.ref B) >>= _) _ _ s
    refine wpAny_bind (wpAny_seqItems hB rfl ?_)
    show wpAny _ A.in1 (tryCatch (pyNext (.ref I)) _ >>= _) _ _ s
    refine wpAny_bind (wpAny_tryCatch (W.done s _ _ (last ▸ hst) fun h' tk kp => ?_))
    have hB' := kp B _ nBw hB
    show wpAny _ A.in1 (updateSeq B (fun _ => #[]) >>= _) _ _ _
    refine wpAny_bind ?_
    refine wpAny_updateSeq hB' rfl (wpAny_bind (wpAny_letGo (wpAny_pure ?_)))
    refine fin vb _ tk (by rw [← last]; exact pb) fun b o h1 h2 e => (Heap.get?_update_other _ _ (Ne.symm h2)).trans (kp b o h1 e)
  | succ k ih =>
    intro j s vb c hk hj hst pb hB fin
    have more : j + 1 < n := by omega
    refine codeAny_builtin F.entry_max_loop ?_
    rw [Around.under_plainId F.plain_max_loop _]
    show wpAny _ A.in1 (seqItems? (.ref B) >>= _) _ _ s
    refine wpAny_bind (wpAny_seqItems hB rfl ?_)
    show wpAny _ A.in1 (tryCatch (pyNext (.ref I)) _ >>= _) _ _ s
    refine wpAny_bind (wpAny_tryCatch (W.item (j + 1) s _ _ more hst fun v h' tk pv st' kp => ?_))
    have hB' := kp B _ nBw hB
    show wpAny _ A.in1 (tryCatch (holding [v, v] (richCompare .Gt v vb >>= _)) _ >>= _) _ _ _
    refine wpAny_bind (wpAny_tryCatch (wpAny_holding (wpAny_bind (cmp (j + 1) (argBest bt j) v vb _ _ _ pv pb ?_))))
    refine wpAny_bind (wpAny_holding (wpAny_truthy_bool ?_))
    refine wpAny_bind (wpAny_letGo (wpAny_pure ?_))
    cases q : bt (j + 1) (argBest bt j) with
    | true =>
      simp only [if_true]
      refine wpAny_bind ?_
      refine wpAny_updateSeq hB' rfl (wpAny_bind (wpAny_letGo ?_))
      rw [loopName]
      refine wpAny_pure ⟨plainId_quiet F.plain_max_loop _, ih (j + 1) _ v _ (by omega) more (W.frame _ _ _ st' fun b hf o e => ?_) (by simp only [argBest, q, if_true]; exact pv) (Heap.get?_update_self _ hB' rfl)
        fun v' h2 tk2 pv' kp2 => ?_⟩
      · exact (Heap.get?_update_other _ _ (fun h : B = b => nB (by rw [h]; exact hf))).trans e
      · exact fin v' h2 tk2 pv' fun b o h1 hb e => kp2 b o h1 hb ((Heap.get?_update_other _ _ (Ne.symm hb)).trans (kp b o h1 e))
    | false =>
      simp only [Bool.false_eq_true, if_false]
      refine wpAny_bind (wpAny_letGo ?_)
      rw [loopName]
      refine wpAny_pure ⟨plainId_quiet F.plain_max_loop _, ih (j + 1) _ vb c (by omega) more st' (by simp only [argBest, q, Bool.false_eq_true, if_false]; exact pb) hB' fun v' h2 tk2 pv' kp2 => ?_⟩
      exact fin v' h2 tk2 pv' fun b o h1 hb e => kp2 b o h1 hb (kp b o h1 e)
/-- the loop whole: an item, or what is given for none -/
theorem loop_all (W : Walks prog w A.in1 I fp wr n P St) (bt : Nat → Nat → Bool) (cmp : CmpOf prog w A.in1 .Gt P bt) (B : Addr) (nB : B ∉ fp) {s : Shared} {c : Nat} (hst : St 0 s.heap)
    (hB : s.heap.get? B = some { cls := .type "list", dict := none, data := .seq #[] c, slots := #[] })
    (non : n = 0 → ∀ h' tk, (∀ b o, b ∉ wr → b ≠ B → s.heap.get? b = some o → h'.get? b = some o) → R (.ok (.ret dv)) { s with heap := h', toks := tk })
    (fin : 0 < n → ∀ v h' tk, P (argBest bt (n - 1)) v → (∀ b o, b ∉ wr → b ≠ B → s.heap.get? b = some o → h'.get? b = some o) → R (.ok (.ret v)) { s with heap := h', toks := tk }) :
    codeAny (model prog w) A (.builtin "max.loop" ⟨[.ref I, .none, .ref B], [("default", dv)]⟩) R s := by
  have nBw : B ∉ wr := fun h => nB (W.sub _ h)
  refine codeAny_builtin F.entry_max_loop ?_
  rw [Around.under_plainId F.plain_max_loop _]
  show wpAny _ A.in1 (seqItems? (.ref B) >>= _) _ _ s
  refine wpAny_bind (wpAny_seqItems hB rfl ?_)
  show wpAny _ A.in1 (tryCatch (pyNext (.ref I)) _ >>= _) _ _ s
  rcases Nat.eq_zero_or_pos n with z | z
  · refine wpAny_bind (wpAny_tryCatch (W.done s _ _ (z ▸ hst) fun h' tk kp => ?_))
    refine wpAny_bind (wpAny_rule ?_)
    exact wpAny_pure (non z h' tk fun b o h1 _ e => kp b o h1 e)
  · refine wpAny_bind (wpAny_tryCatch (W.item 0 s _ _ z hst fun v h' tk pv st' kp => ?_))
    have hB' := kp B _ nBw hB
    show wpAny _ A.in1 (updateSeq B (fun _ => #[v, v]) >>= _) _ _ _
    refine wpAny_bind ?_
    refine wpAny_updateSeq hB' rfl ?_
    rw [loopName]
    refine wpAny_pure ⟨plainId_quiet F.plain_max_loop _, loop_rest W bt cmp B nB _ 0 _ v _ rfl z (W.frame _ _ _ st' fun b hf o e => ?_) pv (Heap.get?_update_self _ hB' rfl) fun v' h2 tk2 pv' kp2 => ?_⟩
    · exact (Heap.get?_update_other _ _ (fun h : B = b => nB (by rw [h]; exact hf))).trans e
    · exact fin z v' h2 tk2 pv' fun b o h1 hb e => kp2 b o h1 hb ((Heap.get?_update_other _ _ (Ne.symm hb)).trans (kp b o h1 e))
end
section
variable {prog : Program} {w : World} {A : Around} {E : Value → Shared → Prop} {s : Shared}
theorem max_default {l : Addr} {xs : Array (Int × Tok)} {dv : Value} {Q : Value → Shared → Prop} (hh : A.handled = none) (hl : s.heap.IsList l (intItems xs))
    (non : xs.size = 0 → ∀ h' tk, (∀ b o, s.heap.get? b = some o → h'.get? b = some o) → Q dv { s with heap := h', toks := tk })
    (fin : 0 < xs.size → ∀ v h' tk, (intItems xs)[argBest (fun i j => decide (numAt xs i > numAt xs j)) (xs.size - 1)]? = some v → (∀ b o, s.heap.get? b = some o → h'.get? b = some o) → Q v { s with heap := h', toks := tk }) :
    wpAny (model prog w) A (call (.builtin "max") [.ref l] [("default", dv)]) Q E s := by
  refine call_tree_kw F.kind_max F.plain_max F.entry_max (args_default _ _) ?_
  show wpAny _ A.in1 (Builtin.Builtins.bindParams "max" ["key", "default"] 0 ⟨[], [("default", dv)]⟩ >>= _) _ _ s
  refine wpAny_bind (wpAny_of_eq (show Builtin.Builtins.bindParams "max" ["key", "default"] 0 ⟨[], [("default", dv)]⟩ = pure [none, some dv] from rfl) ?_)
  refine wpAny_bind (wpAny_pure ?_)
  refine wpAny_bind (iter_intList hl fun s2 e st hfp hlI => ?_)
  subst e
  refine wpAny_bind (wpAny_newObj_type ?_)
  rw [loopName]
  have W := Walks.list (prog := prog) (w := w) (A := A.in1) hh _ l hlI (intItems xs)
  refine wpAny_pure ⟨plainId_quiet F.plain_max_loop _, loop_all W (fun i j => decide (numAt xs i > numAt xs j)) (CmpOf.ints_gt (numAt xs) (fun _ _ => intItems_at)) _ (fun hm => Nat.lt_irrefl _ (hfp _ hm))
    (W.frame _ _ _ st fun b _ o e => Heap.get?_push_of_some _ e) (Heap.get?_push_size _ rfl) (fun z h' tk kp => ?_) fun z v h' tk pv kp => ?_⟩
  · exact non (by simpa [intItems] using z) h' tk (old_kept fun b o hb e => kp b o hb (Nat.ne_of_lt (Heap.lt_size e)) (Heap.get?_push_of_some _ e))
  · exact fin (by simpa [intItems] using z) v h' tk (by simpa [intItems] using pv) (old_kept fun b o hb e => kp b o hb (Nat.ne_of_lt (Heap.lt_size e)) (Heap.get?_push_of_some _ e))
end
end TuMax
end
section
/-! d.pop(key), the key a tuple that is there. -/
namespace TuPop
open PySem
set_option maxRecDepth 100000
section
variable {K : Type} [DecidableEq K]
def without (xs : List (K × Addr × Value)) (k : K) : List (K × Addr × Value) := xs.filter fun x => decide (x.1 ≠ k)
theorem without_all {k : K} : ∀ {xs : List (K × Addr × Value)}, k ∉ xs.map (·.1) → without xs k = xs
  | [], _ => rfl
  | x :: r, h => by
    rw [List.map_cons, List.mem_cons, not_or] at h
    unfold without
    rw [List.filter_cons, if_pos (by simp only [decide_eq_true_eq, ne_eq]; exact fun e => h.1 e.symm)]
    exact congrArg _ (without_all h.2)
theorem erase_eq {k : K} : ∀ {xs : List (K × Addr × Value)} {j : Nat} {p : Addr × Value}, (xs.map (·.1)).Nodup → xs[j]? = some (k, p) → xs.eraseIdx j = without xs k
  | [], _, _, _, h => by simp at h
  | x :: r, 0, p, hn, h => by
    rw [List.map_cons, List.nodup_cons] at hn
    have e : x = (k, p) := Option.some.inj h
    subst e
    show r = without ((k, p) :: r) k
    unfold without
    rw [List.filter_cons, if_neg (by simp)]
    exact (without_all hn.1).symm
  | x :: r, j + 1, p, hn, h => by
    rw [List.map_cons, List.nodup_cons] at hn
    have m : k ∈ r.map (·.1) := List.mem_map.mpr ⟨(k, p), List.mem_of_getElem? h, rfl⟩
    show x :: r.eraseIdx j = without (x :: r) k
    unfold without
    rw [List.filter_cons, if_pos (by simp only [decide_eq_true_eq, ne_eq]; exact fun e => hn.1 (by rw [e]; exact m))]
    exact congrArg _ (erase_eq hn.2 h)
theorem map_erase {α β : Type} (f : α → β) : ∀ (l : List α) (i : Nat), (l.map f).eraseIdx i = (l.eraseIdx i).map f
  | [], _ => rfl
  | _ :: _, 0 => rfl
  | a :: l, i + 1 => congrArg (f a :: ·) (map_erase f l i)
theorem without_nodup {k : K} {xs : List (K × Addr × Value)} (hn : (xs.map (·.1)).Nodup) : ((without xs k).map (·.1)).Nodup :=
  List.Nodup.sublist (List.Sublist.map _ List.filter_sublist) hn
end
section
variable {prog : Program} {w : World} {K : Type} [DecidableEq K] {knd : HeapKind prog w K} {A : Around} {E : Value → Shared → Prop} {s : Shared}
theorem takeOut_there {d a : Addr} {xs : List (K × Addr × Value)} {k : K} {p : Addr × Value} {Q : Option DictEntry → Shared → Prop} (hu : knd.room A) (hkey : knd.is s.heap k a) (hm : s.heap.DictOfH knd d xs)
    (hp : atKey xs k = some p) (hz : xs.length ≤ sizeLine)
    (h : ∀ h', h'.DictOfH knd d (without xs k) → Heap.SameBut d s.heap h' → Q (some (entryOfKey knd (k, p))) { s with heap := h', toks := s.toks + knd.draws k }) :
    wpAny (model prog w) A (Builtin.Dict.takeOut d (.ref a)) Q E s := by
  obtain ⟨o, es, ep, ho, hc, hd, he, his, hn⟩ := hm
  have sz : es.size ≤ sizeLine := by rw [size_of_entries he]; exact hz
  unfold Builtin.Dict.takeOut
  refine wpAny_holding ?_
  refine wpAny_bind (knd.pyHash hu hkey (wpAny_bind (wpAny_dictFind_heap (s := { s with toks := s.toks + knd.draws k }) hu hkey ho hd he his hn ?_ ?_)))
  · intro hno
    rw [atKey_none_of_get hno] at hp
    cases hp
  · intro j q hj
    have eq : q = p := Option.some.inj ((atKey_of_get hn hj).symm.trans hp)
    subst eq
    refine wpAny_bind (wpAny_dictEntries (s := { s with toks := s.toks + knd.draws k }) ho hd ?_)
    have ej : es[j]? = some (entryOfKey knd (k, q)) := by rw [entry_at he j, hj]; rfl
    rw [ej]
    refine wpAny_bind (wpAny_updateDictKeys (hz := sz) (s := { s with toks := s.toks + knd.draws k }) ho hd (wpAny_pure (h _ ⟨_, _, ep + 1, Heap.get?_update_self _ ho (Obj.isFreed_of_dict (Obj.data_mapDictKeys hd _)),
      hc.mapDictKeys _, Obj.data_mapDictKeys hd _, ?_, ?_, without_nodup hn⟩ (Heap.SameBut.update ..))))
    · have e1 : (es.eraseIdxIfInBounds j).toList = es.toList.eraseIdx j := by obtain ⟨l⟩ := es; simp
      rw [e1, he, map_erase, erase_eq hn hj]
    · intro x hx
      exact knd.keeps (his x (List.mem_filter.mp hx).1) ho hd (Heap.SameBut.update ..)
theorem meets_pop {d a : Addr} {k : K} :
    MeetsIn prog w (Builtin.«dict.pop» ⟨[.ref d, .ref a], []⟩) (fun A R s => ∃ xs p, knd.room A.in1 ∧ knd.is s.heap k a ∧ s.heap.DictOfH knd d xs ∧ xs.length ≤ sizeLine ∧ atKey xs k = some p ∧
      ∀ h', h'.DictOfH knd d (without xs k) → Heap.SameBut d s.heap h' → R (.ok (.ret p.2)) { s with heap := h', toks := s.toks + knd.draws k }) :=
  .of_wp fun A R s ⟨xs, p, hu, hkey, hm, hz, hp, h⟩ => by
    obtain ⟨o, es, ep, ho, hc, hd, he, his, hn⟩ := id hm
    unfold Builtin.«dict.pop»
    refine wpAny_bind ?_
    unfold Builtin.Dict.keyAndDefault
    refine wpAny_bind (wpAny_notOrdered_dict hm.typeIs ?_)
    show wpAny _ _ (pure (d, Value.ref a, none)) _ _ s
    refine wpAny_pure ?_
    have hk0 : (keyPart (Value.ref a)).isSome = false := rfl
    have hes : es.isEmpty = false := by
      have : es.toList ≠ [] := by
        rw [he]
        intro q
        have : xs = [] := List.map_eq_nil_iff.mp q
        subst this
        cases hp
      obtain ⟨l⟩ := es
      cases l with
      | nil => exact absurd rfl this
      | cons => rfl
    simp only [hk0, Bool.false_eq_true, if_false]
    refine wpAny_bind (wpAny_dictEntries ho hd (wpAny_bind (wpAny_pure ?_)))
    rw [hes]
    simp only [Bool.false_eq_true, if_false]
    refine wpAny_bind (takeOut_there hu hkey hm hp hz fun h' hm' hs' => ?_)
    simp only [Option.isNone_some, Bool.false_eq_true, if_false]
    exact wpAny_bind (wpAny_letGo (wpAny_pure ⟨p.2, rfl, h h' hm' hs'⟩))
end
end TuPop
end
section
/-! min(a, b), the two compared by what the heap says of them. -/
namespace TuMin
open PySem
set_option maxRecDepth 100000
section
variable {prog : Program} {w : World} {A : Around} {R : Result → Shared → Prop} {I : Addr} {fp wr : List Addr} {n : Nat} {P : Nat → Value → Prop} {St : Nat → Heap → Prop}
theorem loopName : (toString "min" ++ toString ".loop" : String) = "min.loop" := by decide
theorem argBest_le (bt : Nat → Nat → Bool) : ∀ k, argBest bt k ≤ k
  | 0 => Nat.le_refl _
  | k + 1 => by
    show (if bt (k + 1) (argBest bt k) then k + 1 else argBest bt k) ≤ k + 1
    split
    · exact Nat.le_refl _
    · exact Nat.le_succ_of_le (argBest_le bt k)
/-- an item and one ahead of it are compared so, in every heap that G holds of -/
def CmpG (prog : Program) (w : World) (A : Around) (n : Nat) (P : Nat → Value → Prop) (G : Heap → Prop) (bt : Nat → Nat → Bool) : Prop :=
  ∀ i j vi vj (s : Shared) (Q : Value → Shared → Prop) (E : Value → Shared → Prop), i < n → j < i → P i vi → P j vj → G s.heap → Q (.bool (bt i j)) s → wpAny (model prog w) A (richCompare .Lt vi vj) Q E s
variable {G : Heap → Prop}
/-- the turns behind the first -/
theorem loop_rest (W : Walks prog w A.in1 I fp wr n P St) (bt : Nat → Nat → Bool) (cmp : CmpG prog w A.in1 n P G bt) (B : Addr) (nB : B ∉ fp) (gk : ∀ h h', G h → (∀ b o, b ∉ wr → b ≠ B → h.get? b = some o → h'.get? b = some o) → G h') :
    ∀ (k j : Nat) (s : Shared) (vb : Value) (c : Nat), n - (j + 1) = k → j + 1 ≤ n → St (j + 1) s.heap → G s.heap → P (argBest bt j) vb →
    s.heap.get? B = some { cls := .type "list", dict := none, data := .seq #[vb, vb] c, slots := #[] } →
    (∀ v h' tk, P (argBest bt (n - 1)) v → (∀ b o, b ∉ wr → b ≠ B → s.heap.get? b = some o → h'.get? b = some o) → R (.ok (.ret v)) { s with heap := h', toks := tk }) →
    codeAny (model prog w) A (.builtin "min.loop" ⟨[.ref I, .none, .ref B], []⟩) R s := by
  have nBw : B ∉ wr := fun h => nB (W.sub _ h)
  intro k
  induction k with
  | zero =>
    intro j s vb c hk hj hst g pb hB fin
    have last : j + 1 = n := by omega
    refine codeAny_builtin F.entry_min_loop ?_; rw [Around.under_plainId F.plain_min_loop _]
    show wpAny _ A.in1 (seqItems? (.ref B) >>= _) _ _ s; refine wpAny_bind (wpAny_seqItems hB rfl ?_)
    show wpAny _ A.in1 (tryCatch (pyNext (.ref I)) _ >>= _) _ _ s; refine wpAny_bind (wpAny_tryCatch (W.done s _ _ (last ▸ hst) fun h' tk kp => ?_))
    have hB' := kp B _ nBw hB
    show wpAny _ A.in1 (updateSeq B (fun _ => #[]) >>= _) _ _ _
    refine wpAny_bind ?_
    refine wpAny_updateSeq hB' rfl (wpAny_bind (wpAny_letGo (wpAny_pure (fin vb _ tk (by rw [← last]; exact pb) fun b o h1 h2 e => (Heap.get?_update_other _ _ (Ne.symm h2)).trans (kp b o h1 e)))))
  | succ k ih =>
    intro j s vb c hk hj hst g pb hB fin
    have more : j + 1 < n := by omega
    refine codeAny_builtin F.entry_min_loop ?_; rw [Around.under_plainId F.plain_min_loop _]
    show wpAny _ A.in1 (seqItems? (.ref B) >>= _) _ _ s; refine wpAny_bind (wpAny_seqItems hB rfl ?_)
    show wpAny _ A.in1 (tryCatch (pyNext (.ref I)) _ >>= _) _ _ s; refine wpAny_bind (wpAny_tryCatch (W.item (j + 1) s _ _ more hst fun v h' tk pv st' kp => ?_))
    have hB' := kp B _ nBw hB
    have g' : G h' := gk _ _ g fun b o h1 _ e => kp b o h1 e
    show wpAny _ A.in1 (tryCatch (holding [v, v] (richCompare .Lt v vb >>= _)) _ >>= _) _ _ _
    refine wpAny_bind (wpAny_tryCatch (wpAny_holding (wpAny_bind (cmp (j + 1) (argBest bt j) v vb _ _ _ more (Nat.lt_succ_of_le (argBest_le bt j)) pv pb g' ?_))))
    refine wpAny_bind (wpAny_holding (wpAny_truthy_bool (wpAny_bind (wpAny_letGo (wpAny_pure ?_)))))
    cases q : bt (j + 1) (argBest bt j) with
    | true =>
      simp only [if_true]
      refine wpAny_bind ?_
      refine wpAny_updateSeq hB' rfl (wpAny_bind (wpAny_letGo ?_))
      rw [loopName]
      have kk : ∀ b o, b ∉ wr → b ≠ B → h'.get? b = some o → (h'.update B (Obj.mapSeq fun _ => #[v, v])).get? b = some o := fun b o _ h2 e => (Heap.get?_update_other _ _ (Ne.symm h2)).trans e
      refine wpAny_pure ⟨plainId_quiet F.plain_min_loop _, ih (j + 1) _ v _ (by omega) more (W.frame _ _ _ st' fun b hf o e => ?_) (gk _ _ g' kk) (by simp only [argBest, q, if_true]; exact pv) (Heap.get?_update_self _ hB' rfl)
        fun v' h2 tk2 pv' kp2 => ?_⟩
      · exact (Heap.get?_update_other _ _ (fun h : B = b => nB (by rw [h]; exact hf))).trans e
      · exact fin v' h2 tk2 pv' fun b o h1 hb e => kp2 b o h1 hb ((Heap.get?_update_other _ _ (Ne.symm hb)).trans (kp b o h1 e))
    | false =>
      simp only [Bool.false_eq_true, if_false]
      refine wpAny_bind (wpAny_letGo ?_)
      rw [loopName]
      refine wpAny_pure ⟨plainId_quiet F.plain_min_loop _, ih (j + 1) _ vb c (by omega) more st' g' (by simp only [argBest, q, Bool.false_eq_true, if_false]; exact pb) hB' fun v' h2 tk2 pv' kp2 => ?_⟩
      exact fin v' h2 tk2 pv' fun b o h1 hb e => kp2 b o h1 hb (kp b o h1 e)
theorem loop_all (W : Walks prog w A.in1 I fp wr n P St) (bt : Nat → Nat → Bool) (cmp : CmpG prog w A.in1 n P G bt) (B : Addr) (nB : B ∉ fp) (gk : ∀ h h', G h → (∀ b o, b ∉ wr → b ≠ B → h.get? b = some o → h'.get? b = some o) → G h') (z : 0 < n) {s : Shared} {c : Nat} (hst : St 0 s.heap) (g : G s.heap)
    (hB : s.heap.get? B = some { cls := .type "list", dict := none, data := .seq #[] c, slots := #[] })
    (fin : ∀ v h' tk, P (argBest bt (n - 1)) v → (∀ b o, b ∉ wr → b ≠ B → s.heap.get? b = some o → h'.get? b = some o) → R (.ok (.ret v)) { s with heap := h', toks := tk }) :
    codeAny (model prog w) A (.builtin "min.loop" ⟨[.ref I, .none, .ref B], []⟩) R s := by
  have nBw : B ∉ wr := fun h => nB (W.sub _ h)
  refine codeAny_builtin F.entry_min_loop ?_; rw [Around.under_plainId F.plain_min_loop _]
  show wpAny _ A.in1 (seqItems? (.ref B) >>= _) _ _ s; refine wpAny_bind (wpAny_seqItems hB rfl ?_)
  show wpAny _ A.in1 (tryCatch (pyNext (.ref I)) _ >>= _) _ _ s; refine wpAny_bind (wpAny_tryCatch (W.item 0 s _ _ z hst fun v h' tk pv st' kp => ?_))
  have hB' := kp B _ nBw hB
  have g' : G h' := gk _ _ g fun b o h1 _ e => kp b o h1 e
  show wpAny _ A.in1 (updateSeq B (fun _ => #[v, v]) >>= _) _ _ _
  refine wpAny_bind ?_
  refine wpAny_updateSeq hB' rfl ?_
  rw [loopName]
  have kk : ∀ b o, b ∉ wr → b ≠ B → h'.get? b = some o → (h'.update B (Obj.mapSeq fun _ => #[v, v])).get? b = some o := fun b o _ h2 e => (Heap.get?_update_other _ _ (Ne.symm h2)).trans e
  refine wpAny_pure ⟨plainId_quiet F.plain_min_loop _, loop_rest W bt cmp B nB gk _ 0 _ v _ rfl z (W.frame _ _ _ st' fun b hf o e => ?_) (gk _ _ g' kk) pv (Heap.get?_update_self _ hB' rfl) fun v' h2 tk2 pv' kp2 => ?_⟩
  · exact (Heap.get?_update_other _ _ (fun h : B = b => nB (by rw [h]; exact hf))).trans e
  · exact fin v' h2 tk2 pv' fun b o h1 hb e => kp2 b o h1 hb ((Heap.get?_update_other _ _ (Ne.symm hb)).trans (kp b o h1 e))
end
section
variable {prog : Program} {w : World} {A : Around} {E : Value → Shared → Prop} {s : Shared}
/-- min(x, y): y if it is less, else x; lt in every heap that keeps what stands now -/
theorem min_two {x y : Value} {lt : Bool} {Q : Value → Shared → Prop} (hh : A.handled = none)
    (cmp : ∀ (s' : Shared) (Q' : Value → Shared → Prop) (E' : Value → Shared → Prop), (∀ b o, s.heap.get? b = some o → s'.heap.get? b = some o) → Q' (.bool lt) s' → wpAny (model prog w) A.in1 (richCompare .Lt y x) Q' E' s')
    (h : ∀ h' tk, (∀ c o, s.heap.get? c = some o → h'.get? c = some o) → Q (if lt = true then y else x) { s with heap := h', toks := tk }) :
    wpAny (model prog w) A (call (.builtin "min") [x, y]) Q E s := by
  have hT : (s.heap.push { cls := .type "tuple", data := .seq #[x, y] }).IsTuple s.heap.objs.size #[x, y] := ⟨_, Heap.get?_push_size _ rfl, rfl, 0, rfl⟩
  have hsz : (s.heap.push { cls := .type "tuple", data := .seq #[x, y] }).objs.size = s.heap.objs.size + 1 := Heap.size_push ..
  have hsz2 : ((s.heap.push { cls := .type "tuple", data := .seq #[x, y] }).push { cls := .type "tuple_iterator", data := .fields #[.ref s.heap.objs.size, .int 0 0] }).objs.size = s.heap.objs.size + 2 := by rw [Heap.size_push, hsz]
  refine call_function_tree F.kind_min F.plain_min F.entry_min (F.args_min2 _ _) ?_
  show wpAny _ A.in1 (Builtin.Builtins.bindParams "min" ["key", "default"] 0 ⟨[], []⟩ >>= _) _ _ s
  refine wpAny_bind (wpAny_of_eq (show Builtin.Builtins.bindParams "min" ["key", "default"] 0 ⟨[], []⟩ = pure [none, none] from rfl) ?_)
  show wpAny _ A.in1 (newTuple [x, y] >>= _) _ _ s
  refine wpAny_bind (wpAny_newObj_type ?_)
  refine wpAny_bind (wpAny_pyIter_tuple hT ?_)
  refine wpAny_bind (wpAny_newObj_type ?_)
  rw [loopName]
  have W := Walks.tuple (prog := prog) (w := w) (A := A.in1) hh (s.heap.push { cls := .type "tuple", data := .seq #[x, y] }).objs.size s.heap.objs.size (by rw [hsz]; exact Nat.ne_of_lt (Nat.lt_succ_self _)) #[x, y]
  refine wpAny_pure ⟨plainId_quiet F.plain_min_loop _, loop_all (G := fun h => ∀ b o, s.heap.get? b = some o → h.get? b = some o) W (fun i j => decide (i = 1 ∧ j = 0) && lt) ?_ _ (fun hm => ?_) (fun h1 h2 g kp b o e => ?_) (show 0 < 2 by decide) ?_ ?_ (Heap.get?_push_size _ rfl) fun v h' tk pv kp => ?_⟩
  · intro i j vi vj s' Q' E' hi hj pi pj g q
    have hi2 : i < 2 := hi
    obtain rfl : i = 1 := by omega
    obtain rfl : j = 0 := by omega
    have e1 : y = vi := Option.some.inj pi
    have e2 : x = vj := Option.some.inj pj
    subst e1 e2
    exact cmp s' Q' E' g (by simpa using q)
  · have hm : (((s.heap.push { cls := .type "tuple", data := .seq #[x, y] }).push { cls := .type "tuple_iterator", data := .fields #[.ref s.heap.objs.size, .int 0 0] }).objs.size) ∈ [(s.heap.push { cls := .type "tuple", data := .seq #[x, y] }).objs.size, s.heap.objs.size] := hm
    rw [hsz2, hsz] at hm
    simp only [List.mem_cons, List.not_mem_nil, or_false] at hm
    omega
  · refine kp b o (fun hm => ?_) ?_ (g b o e)
    · rw [List.mem_singleton, hsz] at hm
      exact Nat.ne_of_lt (Nat.lt_succ_of_lt (Heap.lt_size e)) hm
    · have := Heap.lt_size e
      show b ≠ ((s.heap.push { cls := .type "tuple", data := .seq #[x, y] }).push { cls := .type "tuple_iterator", data := .fields #[.ref s.heap.objs.size, .int 0 0] }).objs.size
      rw [hsz2]
      exact Nat.ne_of_lt (Nat.lt_succ_of_lt (Nat.lt_succ_of_lt this))
  · exact ⟨⟨_, Heap.get?_push_of_some _ (Heap.get?_push_size _ rfl), rfl, rfl⟩, (hT.push _).push _⟩
  · exact fun b o e => Heap.get?_push_of_some _ (Heap.get?_push_of_some _ (Heap.get?_push_of_some _ e))
  · have ev : v = if lt = true then y else x := by
      have pv : (#[x, y] : Array Value)[argBest (fun i j => decide (i = 1 ∧ j = 0) && lt) 1]? = some v := pv
      cases lt with
      | true => exact (Option.some.inj pv).symm
      | false => exact (Option.some.inj pv).symm
    rw [ev]
    refine h h' tk fun c o e => kp c o (fun hm => ?_) ?_ (Heap.get?_push_of_some _ (Heap.get?_push_of_some _ (Heap.get?_push_of_some _ e)))
    · rw [List.mem_singleton, hsz] at hm
      exact Nat.ne_of_lt (Nat.lt_succ_of_lt (Heap.lt_size e)) hm
    · have := Heap.lt_size e
      show c ≠ ((s.heap.push { cls := .type "tuple", data := .seq #[x, y] }).push { cls := .type "tuple_iterator", data := .fields #[.ref s.heap.objs.size, .int 0 0] }).objs.size
      rw [hsz2]
      exact Nat.ne_of_lt (Nat.lt_succ_of_lt (Nat.lt_succ_of_lt this))
end
end TuMin
end
section
/-! Rules over the hand layer that this program wants besides; what a def or a method promises, in one word. -/
set_option Elab.async false
set_option linter.all false
set_option maxRecDepth 100000
namespace Tu
open PySem PySem.Spec PyProof.Rows L2

section
variable {X : Cx} {e o : Expr} {es : List Expr} {kws : List Keyword} {ta : TE} {t tk : TA} {p pos apos kp : Pos} {x m : Str} {C : Addr} {k k' : Nat} {ps ks : List Str} {sp : Sp} {id : String}
/-- a whole number of the file's top -/
theorem pg_int {i : Int} (hm : ∃ t, X.mg x = some (.int i t)) (hg : Gl X x := by rfl) (hd : (x == ("__debug__" : Str)) = false := by decide) : PE X (.Name x pos) (tC (.int i)) := by
  obtain ⟨t, ht⟩ := hm
  exact pe_glob hg ht ⟨t, rfl⟩ hd
theorem b_list : bootBuiltins "list" = some (.type "list") := by decide +kernel
/-- a built-in function called with keywords -/
def CallKR (X : Cx) (f : Value) (ks : List Str) (r : List V → List V → Hp → VK → Prop) : Prop :=
  ∀ (pins : List (Addr × Obj)) (s : Shared) (σ : L2.St) (H : Hp) (vs zs : List V) (us ws : List Value) (Q : VK), Inv X pins σ H s → Vals vs us → Vals zs ws → r vs zs H Q → wpAny (model X.prog X.w) X.A (call f us (ks.zip ws)) (EP X pins σ Q) X.xe s
def tCBK (r : List V → List V → Hp → VK → Prop) (t tk : TA) : TE := fun σ H Q => t σ H fun vs H1 => tk σ H1 fun zs H2 => r vs zs H2 Q
theorem pe_callBK {r : List V → List V → Hp → VK → Prop} (hc : CallKR X (.builtin id) ks r) (hg : Gl X x) (hm : X.mg x = none) (hv : bootBuiltins x = some (.builtin id)) (ha : PA X (e :: es) t) (hk : PK X kws tk)
    (hks : (backToKw pos (keywordEach kws X.env)).filterMap (·.1) = ks := by rfl) (hn : x ≠ "__name__" := by decide) (hdb : (x == ("__debug__" : Str)) = false := by decide)
    (he : backTo pos (starEach (e :: es) X.env) = (false, eval e X.env) :: backTo pos (starEach es X.env) := by rfl)
    (hpl : (backTo pos (starEach (e :: es) X.env)).any (·.1) = false := by rfl)
    (hall : (backToKw pos (keywordEach kws X.env)).all (·.1.isSome) = true := by rfl)
    (hkw : (backToKw pos (keywordEach kws X.env)).any (·.1.isNone) = false := by rfl) : PE X (.Call (.Name x p) (e :: es) kws pos) (tCBK r t tk) := by
  intro pins s σ H Q I h
  refine wpAny_Call_Name_kw (ld_blt I hg hm hv ?_ hn hdb)
  refine callWith_kw (thn (ha pos pins s σ H _ I h) fun us s1 ⟨vs, H1, I1, r1, q1⟩ => ?_) he hpl hall hkw
  refine thn (hk pos pins s1 σ H1 _ I1 q1) fun ws s2 ⟨zs, H2, I2, r2, q2⟩ => ?_
  rw [hks]
  exact hc pins s2 σ H2 vs zs us ws Q I2 r1 r2 q2
/-- max(xs, default=d), xs a list of whole numbers -/
def rMaxD (K : PySem.W.Frag) : List V → List V → Hp → VK → Prop := fun vs zs H Q => ∃ (a : Addr) (ns : List Int) (y : V), vs = [.ref a] ∧ zs = [y] ∧ SqL K H a (ns.map V.int) ∧
  (ns = [] → Q y H) ∧ ∀ m, m ∈ ns → (∀ z, z ∈ ns → z ≤ m) → Q (.int m) H
theorem cr_maxD (hc : X.calm = true := by rfl) : CallKR X (.builtin "max") ["default"] (rMaxD X.K) := by
  intro pins s σ H vs zs us ws Q I r rz h
  obtain ⟨a, ns, y, rfl, rfl, hs, q0, q1⟩ := h
  obtain ⟨its, rv, hl, _⟩ := I.list hs
  obtain ⟨u, rfl, ru⟩ := vals1 rz
  rw [Vals.ref1 r]
  obtain ⟨xs, e⟩ := rv.ints.allInts.items
  have hn : numsOf (intItems xs).toList = ns := by rw [← e]; exact rv.ints.numsOf
  rw [nums_intItems] at hn
  subst hn
  have hl' := hl.isList
  rw [e] at hl'
  refine TuMax.max_default (I.ok.hd hc) hl' (fun z h' tk kp => ?_) fun z v h' tk hv kp => ?_
  · refine ⟨y, H, I.kept kp, ru, q0 ?_⟩
    have : xs.toList = [] := List.eq_nil_of_length_eq_zero (by rw [Array.length_toList]; exact z)
    rw [this]; rfl
  · obtain ⟨t, rfl⟩ := intItems_at hv
    obtain ⟨h1, h2⟩ := argBest_gt (numAt xs) (xs.size - 1)
    refine ⟨.int _, H, I.kept kp, ⟨_, rfl⟩, q1 _ ?_ fun b hb => ?_⟩
    · rw [numAt_eq]; exact PySem.getD_mem (by rw [List.length_map, Array.length_toList]; omega)
    · obtain ⟨j, hj, rfl⟩ := mem_getD hb
      rw [List.length_map, Array.length_toList] at hj
      rw [← numAt_eq]; exact h2 j (by omega)
/-- a method of a class, and what it promises -/
structure MethAt (P : Program) (w : World) (K : PySem.W.Frag) (mg : Str → Option Value) (base : Heap) (C : Addr) (m : Str) (k : Nat) (ps : List Str) (sp : Sp) : Prop where
  ex : ∃ (f : Addr) (fd : FuncData), FnOk P w K mg base CX0 k f fd ps sp ∧ Binds K fd ps [] ∧ Meth K C m f
theorem pmeth {pl : Sem Bool} (he : PE X o ta) (c : Cls X.K C) (F : MethAt X.prog X.w X.K X.mg X.base C m k ps sp) (hr : Room k' X.A) (ha : PA X (e :: es) t) (hk : k ≤ k' := by decide)
    (hst : starEach (e :: es) X.env = (false, eval e X.env) :: starEach es X.env := by rfl) (hpl : (backTo pos (starEach es X.env)).any (·.1) = false := by rfl)
    (ht : eval (.Call (.Attribute o m apos) (e :: es) [] pos) X.env = (do
      let ov ← eval o X.env
      standAt apos.atName
      let (f, first) ← holding [ov] (getMethod ov m pl)
      callWith pos f first (backTo pos (starEach (e :: es) X.env)) (backToKw pos (keywordEach [] X.env))) := by rfl) :
    PE X (.Call (.Attribute o m apos) (e :: es) [] pos) (tMeth C m sp [] E0 ta t) := by
  obtain ⟨f, fd, G, b, M⟩ := F.ex
  exact pe_meth he c M G (hr.mono hk) b .nil pass0 ha hst hpl ht
/-- a def of the top, and what it promises -/
structure FnAt (P : Program) (w : World) (K : PySem.W.Frag) (mg : Str → Option Value) (base : Heap) (x : Str) (k : Nat) (ps : List Str) (sp : Sp) : Prop where
  ex : ∃ (f : Addr) (fd : FuncData), FnOk P w K mg base CX0 k f fd ps sp ∧ Binds K fd ps [] ∧ mg x = some (.ref f) ∧ PySem.W.keepIn K (.ref f) = true
theorem pcall (F : FnAt X.prog X.w X.K X.mg X.base x k ps sp) (hr : Room k' X.A) (ha : PA X (e :: es) t) (hg : Gl X x := by rfl) (hk : k ≤ k' := by decide) (hdb : (x == ("__debug__" : Str)) = false := by decide)
    (he : starEach (e :: es) X.env = (false, eval e X.env) :: starEach es X.env := by rfl) (hpl : (backTo pos (starEach es X.env)).any (·.1) = false := by rfl) :
    PE X (.Call (.Name x p) (e :: es) [] pos) (tCall sp [] E0 t) := by
  obtain ⟨f, fd, G, b, hm, kp⟩ := F.ex
  exact pe_call G (hr.mono hk) hg hm kp b .nil pass0 ha hdb he hpl
/-- a class of the top, made without arguments -/
structure MakeAt (P : Program) (w : World) (K : PySem.W.Frag) (mg : Str → Option Value) (base : Heap) (x : Str) (C : Addr) (k : Nat) (sp : Sp) : Prop where
  ex : ∃ (f : Addr) (fd : FuncData), Mk K C f ∧ FnOk P w K mg base CX0 k f fd ["self"] sp ∧ Binds K fd ["self"] [] ∧ mg x = some (.ref C)
theorem pmake (F : MakeAt X.prog X.w X.K X.mg X.base x C k sp) (hr : Room k' X.A) (hg : Gl X x := by rfl) (hk : k + 1 ≤ k' := by decide) (hdb : (x == ("__debug__" : Str)) = false := by decide) :
    PE X (.Call (.Name x p) [] [] pos) (tMake C sp [] E0 tNil) := by
  obtain ⟨f, fd, M, G, b, hm⟩ := F.ex
  exact pe_make0 M G (hr.mono hk) hg hm b .nil pass0 hdb
end

/-! ### d.pop(t), d a dict whose keys are tuples -/
theorem valV_drop {kvs : List (List Key × V)} {k j : List Key} : valV (dropK kvs k) j = if j = k then none else valV kvs j := by
  induction kvs with
  | nil => by_cases e : j = k <;> simp [dropK, valV, e]
  | cons p r ih =>
    by_cases e : p.1 = k
    · rw [dropK_pos e, ih]
      by_cases ej : j = k
      · rw [if_pos ej, if_pos ej]
      · rw [if_neg ej, if_neg ej, valV_neg (fun q => ej (q.symm.trans e))]
    · rw [dropK_neg e]
      by_cases ep : p.1 = j
      · rw [valV_pos ep, if_neg (fun q => e (ep.trans q)), valV_pos ep]
      · rw [valV_neg ep, valV_neg ep, ih]
theorem KT_drop {H : Hp} {k : List Key} : ∀ {kvs : List (List Key × V)} {xs : List (List Key × Addr × Value)}, KT H kvs xs → KT H (dropK kvs k) (TuPop.without xs k)
  | _, _, .nil => .nil
  | p :: kvs, q :: xs, .cons h t => by
    have ih := KT_drop (k := k) t
    by_cases e : p.1 = k
    · rw [dropK_pos e]
      have e2 : TuPop.without (q :: xs) k = TuPop.without xs k := by
        unfold TuPop.without
        rw [List.filter_cons, if_neg (by rw [← h.1]; simp [e])]
      rw [e2]
      exact ih
    · rw [dropK_neg e]
      have e2 : TuPop.without (q :: xs) k = q :: TuPop.without xs k := by
        unfold TuPop.without
        rw [List.filter_cons, if_pos (by rw [← h.1]; simp [e])]
      rw [e2]
      exact .cons h ih
section
variable {X : Cx} {pins : List (Addr × Obj)} {σ : L2.St} {H : Hp} {s : Shared} {a b : Addr} {A : Around} {E : Value → Shared → Prop}
theorem d_popT {kvs : List (List Key × V)} {k : List Key} {v : V} {Q : Value → Shared → Prop} (hu : A.units + 1 < cLine) (I : Inv X pins σ H s) (e : H a = some (.dT kvs)) (eb : H b = some (.tup (k.map kV))) (l : valV kvs k = some v)
    (h : ∀ w' s', Inv X pins σ (upd H a (.dT (dropK kvs k))) s' → RelV v w' → Q w' s') : wpAny (model X.prog X.w) A (call (.builtin "dict.pop") [.ref a, .ref b]) Q E s := by
  obtain ⟨z, hd, xs, rel, dd⟩ := dt_of I.hok e
  obtain ⟨w', hw, rw'⟩ := RelO.some_of (v := v) (o := (atKey xs k).map (·.2)) (by rw [← l]; exact rel.val k)
  obtain ⟨p, hp, hp2⟩ := Option.map_eq_some_iff.mp hw
  subst hp2
  refine call_meetsIn PySem.F.slot_dict_pop dd.typeIs PySem.F.entry_dict_pop (PySem.F.args_dict_pop_2 _ _) (TuPop.meets_pop (knd := tupleKind (mixKind X.prog X.w)) (k := k))
    ⟨xs, p, tupleKind_room_in1 hu, key_of I.hok eb, dd, by rw [← Paired.length rel]; exact z, hp, fun h' dd' hs => h p.2 _ ?_ rw'⟩
  obtain ⟨q, es, ep, hq, h2, h3, h4, _, h5⟩ := dd'
  refine d_write I (by rw [e]; exact True.intro) hs ⟨q, hq⟩ ⟨Nat.le_trans (dropK_le kvs k) z, hd, _, (KT_drop rel).keeps fun c ys ec => ?_, q, es, ep, hq, h2, h3, h4, h5⟩
  rw [upd_ne (ne_of ec e (fun z => nomatch z))]
  exact ec
end
def tDPopT (td ty : TE) : TE := fun σ H Q => td σ H fun x H1 => ∃ a, x = .ref a ∧ IsD H1 a ∧ ty σ H1 fun y H2 => ∃ b kvs k v, y = .ref b ∧ H2 a = some (.dT kvs) ∧ H2 b = some (.tup (k.map kV)) ∧ valV kvs k = some v ∧ Q v (upd H2 a (.dT (dropK kvs k)))
theorem pe_dpopT {X : Cx} {o e : Expr} {apos cpos : Pos} {td ty : TE} (hu : X.A.units + 1 < cLine) (ho : PE X o td) (he : PE X e ty) (m : M1 X o "pop" apos e cpos := by exact ⟨rfl, rfl, rfl, rfl⟩) : PE X (.Call (.Attribute o "pop" apos) [e] [] cpos) (tDPopT td ty) := by
  intro pins s σ H Q I h
  refine wpAny_Call_method m.base m.few m.line PySem.F.plainAttrs_dict PySem.F.slot_dict_pop PySem.F.type_dict_pop (thn (ho pins s σ H _ I h) fun u s1 ⟨x, H1, I1, rx, a, ex, d, q1⟩ => ?_)
  subst ex
  obtain rfl : u = Value.ref a := rx
  obtain ⟨t1, t2, _⟩ := isD_at I1 d
  refine ⟨t1, t2, ?_⟩
  rw [m.trees]
  refine Calls.callWith_builtin rfl (Calls.evalArgs_plain (Calls.spliced_cons (thn (he pins s1 σ H1 _ I1 q1) fun iv s2 ⟨y, H2, I2, ry, b, kvs, k, v, ey, ea, eb, l, q2⟩ => Calls.spliced_nil ?_)))
  subst ey
  obtain rfl : iv = Value.ref b := ry
  exact d_popT hu I2 ea eb l fun w' s3 I3 rw' => ⟨v, _, I3, rw', q2⟩

/-! ### a dict of the file's top: whole numbers under whole numbers -/
abbrev EntI : List DictEntry → List (Int × Int) → Prop := Paired fun e p => e.hash = hashInt p.1 ∧ (∃ t, e.key = Value.int p.1 t) ∧ ∃ t, e.val = Value.int p.2 t
def KDict (K : PySem.W.Frag) (a : Addr) (kvs : List (Int × Int)) : Prop := ∃ (o : Obj) (es : Array DictEntry) (ep : Nat), K.lookup a = some o ∧ o.ExactDict ∧ o.data = .dict es ep ∧ EntI es.toList kvs ∧ (kvs.map (·.1)).Nodup
theorem EntI.vals {P : Program} {w : World} : ∀ {es : List DictEntry} {kvs : List (Int × Int)}, EntI es kvs → ∃ vs : List (Key × Value), (∀ e ∈ es, ∃ k, (mixKind P w).is k e.key = true ∧ e.hash = (mixKind P w).hash k) ∧ Pairs (mixKind P w) es vs ∧
    vs.map (·.1) = kvs.map (fun p => Sum.inl p.1) ∧ ∀ i v, kvs.lookup i = some v → ∃ t, valueAt vs (Sum.inl i) = some (Value.int v t)
  | _, _, .nil => ⟨[], (fun _ h => nomatch h), .nil, rfl, fun i v h => by simp at h⟩
  | e :: es, p :: kvs, .cons ⟨h1, ⟨t, h2⟩, ⟨u, h3⟩⟩ r => by
    obtain ⟨vs, a, b, c, d⟩ := EntI.vals (P := P) (w := w) r
    have hk : (mixKind P w).is (Sum.inl p.1) e.key = true := by rw [h2]; exact kV_is (P := P) (w := w) (k := Sum.inl p.1) ⟨t, rfl⟩
    refine ⟨(Sum.inl p.1, e.val) :: vs, fun x hx => ?_, .cons hk rfl b, by rw [List.map_cons, List.map_cons, c], fun i v hv => ?_⟩
    · rcases List.mem_cons.mp hx with rfl | hx
      · exact ⟨Sum.inl p.1, hk, h1⟩
      · exact a x hx
    · rw [List.lookup_cons] at hv
      by_cases ei : i = p.1
      · subst ei
        simp only [beq_self_eq_true] at hv
        cases hv
        exact ⟨u, by simp [valueAt, h3]⟩
      · have : (i == p.1) = false := by simpa using ei
        rw [this] at hv
        obtain ⟨t', ht'⟩ := d i v hv
        refine ⟨t', ?_⟩
        have ne : ¬ (Sum.inl p.1 : Key) = Sum.inl i := fun q => ei (Sum.inl.inj q).symm
        unfold valueAt at ht' ⊢
        rw [List.find?_cons, decide_eq_false ne]
        exact ht'
theorem KDict.of {P : Program} {w : World} {K : PySem.W.Frag} {h : Heap} {a : Addr} {kvs : List (Int × Int)} (KX : K.In h) (d : KDict K a kvs) : ∃ vs : List (Key × Value), h.DictOf (mixKind P w) a vs ∧ ∀ i v, kvs.lookup i = some v → ∃ t, valueAt vs (Sum.inl i) = some (Value.int v t) := by
  obtain ⟨o, es, ep, hk, hx, hd, he, nd⟩ := d
  obtain ⟨vs, h1, h2, h3, h4⟩ := EntI.vals (P := P) (w := w) he
  refine ⟨vs, ⟨o, es, ep, KX a o hk, hx, hd, fun e m => h1 e (Array.mem_toList_iff.mpr m), h2, ?_⟩, h4⟩
  rw [h3]
  have : (kvs.map fun p => (Sum.inl p.1 : Key)) = (kvs.map (·.1)).map Sum.inl := by rw [List.map_map]; rfl
  rw [this]
  exact List.Pairwise.map _ (fun a b hab q => hab (Sum.inl.inj q)) nd
def tKD (kvs : List (Int × Int)) (ti : TE) : TE := fun σ H Q => ti σ H fun y H1 => ∃ i v, y = .int i ∧ kvs.lookup i = some v ∧ Q (.int v) H1
theorem pe_kd {X : Cx} {x : Str} {i : Expr} {ti : TE} {p pos : Pos} {kvs : List (Int × Int)} (hg : Gl X x) (hm : ∃ a, X.mg x = some (.ref a) ∧ KDict X.K a kvs) (hi : PE X i ti) (hs : NoSl i) (hd : (x == ("__debug__" : Str)) = false := by decide) : PE X (.Subscript (.Name x p) i pos) (tKD kvs ti) := by
  intro pins s σ H Q I h
  obtain ⟨a, hm, d⟩ := hm
  refine subD_of PySem.F.slot_dict_getitem.lookup hs (ld_glob I hg hm (thn (hi pins s σ H _ I h) fun iv s2 ⟨y, H2, I2, ry, n, v, ey, hl, q2⟩ => ?_) hd)
  subst ey
  obtain ⟨vs, dd, hv⟩ := d.of (P := X.prog) (w := X.w) I2.kIn
  obtain ⟨t, ht⟩ := hv n v hl
  exact ⟨dd.typeIs, wpAny_getItem_of (kV_is (k := Sum.inl n) ry) dd.mapOf ht ⟨.int v, H2, I2.tok _, ⟨t, rfl⟩, q2⟩⟩
end Tu
end
section
/-! More rules over the hand layer: loops over pairs, dicts; tuples put together, the lesser of two; a dict's keys sorted; data as trees. -/
set_option Elab.async false
set_option linter.all false
set_option maxRecDepth 100000
namespace Tu
open PySem PySem.Spec PyProof.Rows L2

/-! ### loops -/
/-- for i, x in enumerate(xs), xs left as it is -/
theorem for_enum {K : PySem.W.Frag} {a : Addr} {xs : List V} {g : TG} {tb : TS} {D : Ends} {σ : L2.St} {H : Hp} (Pv : Nat → L2.St → Hp → Prop) (h0 : Pv 0 σ H) (hl : ∀ i σ H, i ≤ xs.length → Pv i σ H → SqL K H a xs)
    (hs : ∀ i x σ H T, xs[i]? = some x → Pv i σ H → H T = none → g (.ref T) σ (upd H T (.tup [.int (i : Nat), x])) fun σ2 H2 => tb { D with nx := Pv (i + 1), ct := Pv (i + 1), bk := D.nx } σ2 H2) (hd : ∀ σ H, Pv xs.length σ H → D.nx σ H) :
    ∃ W : Nat → Nat → L2.St → Hp → Prop, (∃ m, W 0 m σ H) ∧ ∀ i m σ H, W i m σ H →
      ((Ite K a).stop i H ∧ D.nx σ H) ∨ ((Ite K a).go i H ∧ ∃ N : L2.St → Hp → Prop, (∀ σ' H', N σ' H' → ∃ m', m' < m ∧ W (i + 1) m' σ' H') ∧ ∀ x H', (Ite K a).yld i H x H' → g x σ H' fun σ2 H2 => tb { D with nx := N, ct := N, bk := D.nx } σ2 H2) := by
  refine ⟨fun i m σ H => m = xs.length - i ∧ i ≤ xs.length ∧ Pv i σ H, ⟨xs.length, by simp, Nat.zero_le _, h0⟩, ?_⟩
  rintro i m σ H ⟨rfl, hi, p⟩
  have q := hl i σ H hi p
  by_cases hlt : i < xs.length
  · refine .inr ⟨⟨xs, xs[i], q, by simp [hlt]⟩, Pv (i + 1), fun σ' H' p' => ⟨xs.length - (i + 1), by omega, rfl, hlt, p'⟩, fun x H' y => ?_⟩
    obtain ⟨T, z, ex, hT, eH, y⟩ := y
    subst ex eH
    exact hs i z σ H T (y xs q) p hT
  · have e : i = xs.length := by omega
    subst e
    exact .inl ⟨⟨xs, q, Nat.le_refl _⟩, hd σ H p⟩
/-- for k, v in d.items(), d locked -/
theorem for_items {d : Addr} {o : Obj} {kvs : List (Key × V)} {g : TG} {tb : TS} {D : Ends} {σ : L2.St} {H : Hp} (Pv : Nat → L2.St → Hp → Prop) (h0 : Pv 0 σ H) (hl : ∀ i σ H, Pv i σ H → H d = some (.frz o (.dK kvs)))
    (hs : ∀ i k v σ H T, kvs[i]? = some (k, v) → Pv i σ H → H T = none → g (.ref T) σ (upd H T (.tup [kV k, v])) fun σ2 H2 => tb { D with nx := Pv (i + 1), ct := Pv (i + 1), bk := D.nx } σ2 H2) (hd : ∀ σ H, Pv kvs.length σ H → D.nx σ H) :
    ∃ W : Nat → Nat → L2.St → Hp → Prop, (∃ m, W 0 m σ H) ∧ ∀ i m σ H, W i m σ H →
      ((Iti d o kvs).stop i H ∧ D.nx σ H) ∨ ((Iti d o kvs).go i H ∧ ∃ N : L2.St → Hp → Prop, (∀ σ' H', N σ' H' → ∃ m', m' < m ∧ W (i + 1) m' σ' H') ∧ ∀ x H', (Iti d o kvs).yld i H x H' → g x σ H' fun σ2 H2 => tb { D with nx := N, ct := N, bk := D.nx } σ2 H2) := by
  refine ⟨fun i m σ H => m = kvs.length - i ∧ i ≤ kvs.length ∧ Pv i σ H, ⟨kvs.length, by simp, Nat.zero_le _, h0⟩, ?_⟩
  rintro i m σ H ⟨rfl, hi, p⟩
  have q := hl i σ H p
  by_cases hlt : i < kvs.length
  · refine .inr ⟨⟨q, hlt⟩, Pv (i + 1), fun σ' H' p' => ⟨kvs.length - (i + 1), by omega, rfl, hlt, p'⟩, fun x H' y => ?_⟩
    obtain ⟨T, k, v, e, ex, hT, eH⟩ := y
    subst ex eH
    exact hs i k v σ H T e p hT
  · have e : i = kvs.length := by omega
    subst e
    exact .inl ⟨⟨q, Nat.le_refl _⟩, hd σ H p⟩
/-- for v in d.values(), d locked -/
theorem for_vals {d : Addr} {o : Obj} {kvs : List (Key × V)} {g : TG} {tb : TS} {D : Ends} {σ : L2.St} {H : Hp} (Pv : Nat → L2.St → Hp → Prop) (h0 : Pv 0 σ H) (hl : ∀ i σ H, Pv i σ H → H d = some (.frz o (.dK kvs)))
    (hs : ∀ i k v σ H, kvs[i]? = some (k, v) → Pv i σ H → g v σ H fun σ2 H2 => tb { D with nx := Pv (i + 1), ct := Pv (i + 1), bk := D.nx } σ2 H2) (hd : ∀ σ H, Pv kvs.length σ H → D.nx σ H) :
    ∃ W : Nat → Nat → L2.St → Hp → Prop, (∃ m, W 0 m σ H) ∧ ∀ i m σ H, W i m σ H →
      ((Itd d o kvs).stop i H ∧ D.nx σ H) ∨ ((Itd d o kvs).go i H ∧ ∃ N : L2.St → Hp → Prop, (∀ σ' H', N σ' H' → ∃ m', m' < m ∧ W (i + 1) m' σ' H') ∧ ∀ x H', (Itd d o kvs).yld i H x H' → g x σ H' fun σ2 H2 => tb { D with nx := N, ct := N, bk := D.nx } σ2 H2) := by
  refine ⟨fun i m σ H => m = kvs.length - i ∧ i ≤ kvs.length ∧ Pv i σ H, ⟨kvs.length, by simp, Nat.zero_le _, h0⟩, ?_⟩
  rintro i m σ H ⟨rfl, hi, p⟩
  have q := hl i σ H p
  by_cases hlt : i < kvs.length
  · refine .inr ⟨⟨q, hlt⟩, Pv (i + 1), fun σ' H' p' => ⟨kvs.length - (i + 1), by omega, rfl, hlt, p'⟩, fun x H' y => ?_⟩
    obtain ⟨eH, k, e⟩ := y
    subst eH
    exact hs i k x σ _ e p
  · have e : i = kvs.length := by omega
    subst e
    exact .inl ⟨⟨q, Nat.le_refl _⟩, hd σ H p⟩
/-- over a list or a tuple -/
def SqB (K : PySem.W.Frag) (H : Hp) (a : Addr) (xs : List V) : Bool → Prop
  | true => SqL K H a xs
  | false => SqT K H a xs
def ItB (K : PySem.W.Frag) (a : Addr) : Bool → It
  | true => Itl K a
  | false => Itt K a
def iSeq (K : PySem.W.Frag) (tl : TE) : TI := fun σ H R => tl σ H fun x H1 => ∃ a b, x = .ref a ∧ (∃ xs, SqB K H1 a xs b) ∧ R (ItB K a b) H1
theorem pi_seq {X : Cx} {tg l : Expr} {tl : TE} (hl : PE X l tl) : PI X tg l (iSeq X.K tl) := by
  intro pins s σ H R I h
  refine thn (hl pins s σ H _ I h) fun v s1 ⟨x, H1, I1, r1, a, b, e, ⟨xs, hq⟩, q⟩ => ?_
  subst e
  obtain rfl : v = Value.ref a := r1
  have fpo : ∀ b ∈ [s1.heap.objs.size], FpOk X pins H1 b := fun b hb => by
    rw [List.mem_singleton.mp hb]; exact I1.fpOk (Nat.le_refl _) (I1.hok.fresh (Nat.le_refl _))
  cases b with
  | true =>
    obtain ⟨its, rv, p, hz⟩ := I1.list (show SqL X.K H1 a xs from hq)
    exact wpAny_pyIter_list p.isList ⟨s1.heap.objs.size, [s1.heap.objs.size], _, _, H1, rfl, I1.kept (t' := s1.toks) fun b o e => Heap.get?_push_of_some _ e, turn_list a _, ⟨_, Heap.get?_push_size _ rfl, rfl, rfl⟩, fpo, q⟩
  | false =>
    obtain ⟨its, rv, p, hz⟩ := I1.tuple (show SqT X.K H1 a xs from hq)
    exact wpAny_pyIter_tuple (show s1.heap.IsTuple a its.toArray from p) ⟨s1.heap.objs.size, [s1.heap.objs.size], _, _, H1, rfl, I1.kept (t' := s1.toks) fun b o e => Heap.get?_push_of_some _ e, turn_tuple a _, ⟨_, Heap.get?_push_size _ rfl, rfl, rfl⟩, fpo, q⟩
theorem for_seq {K : PySem.W.Frag} {a : Addr} {xs : List V} {b : Bool} {g : TG} {tb : TS} {D : Ends} {σ : L2.St} {H : Hp} (Pv : Nat → L2.St → Hp → Prop) (h0 : Pv 0 σ H) (hl : ∀ i σ H, i ≤ xs.length → Pv i σ H → SqB K H a xs b)
    (hs : ∀ i x σ H, xs[i]? = some x → Pv i σ H → g x σ H fun σ2 H2 => tb { D with nx := Pv (i + 1), ct := Pv (i + 1), bk := D.nx } σ2 H2) (hd : ∀ σ H, Pv xs.length σ H → D.nx σ H) :
    ∃ W : Nat → Nat → L2.St → Hp → Prop, (∃ m, W 0 m σ H) ∧ ∀ i m σ H, W i m σ H →
      ((ItB K a b).stop i H ∧ D.nx σ H) ∨ ((ItB K a b).go i H ∧ ∃ N : L2.St → Hp → Prop, (∀ σ' H', N σ' H' → ∃ m', m' < m ∧ W (i + 1) m' σ' H') ∧ ∀ x H', (ItB K a b).yld i H x H' → g x σ H' fun σ2 H2 => tb { D with nx := N, ct := N, bk := D.nx } σ2 H2) := by
  cases b with
  | true => exact for_list Pv h0 hl hs hd
  | false => exact for_tup Pv h0 hl hs hd

/-! ### tuples -/
/-- t + u, u not empty: t empty gives u itself -/
def rCatN (K : PySem.W.Frag) : R2 := fun x y H Q => ∃ a b xs ys, x = .ref a ∧ y = .ref b ∧ SqT K H a xs ∧ SqT K H b ys ∧ ys ≠ [] ∧ xs.length + ys.length ≤ sizeLine ∧
  (xs = [] → Q (.ref b) H) ∧ (xs ≠ [] → ∀ p, H p = none → Q (.ref p) (upd H p (.tup (xs ++ ys))))
theorem op_catN {X : Cx} : OpR X (binaryOp .Add) (rCatN X.K) := by
  intro pins s σ H x y v u Q I rx ry h
  obtain ⟨a, b, xs, ys, rfl, rfl, ha, hb, hy, hz, q1, q2⟩ := h
  by_cases hx : xs = []
  · obtain rfl : v = Value.ref a := rx
    obtain rfl : u = Value.ref b := ry
    obtain ⟨its, r1, p1, _⟩ := I.tuple ha
    obtain ⟨its2, r2, p2, _⟩ := I.tuple hb
    obtain ⟨⟨cls, dd, data, sl⟩, ho, hc, n, hd⟩ := id p1
    obtain ⟨⟨cls2, dd2, data2, sl2⟩, ho2, hc2, n2, hd2⟩ := id p2
    simp only at hc hd hc2 hd2
    subst hc hd hc2 hd2
    have hv : its = [] := r1.nil_iff.mpr hx
    exact concat_meets ⟨_, ho, rfl⟩ ⟨_, ho2, rfl⟩ noFill_tuple_add seq_tuple_add PySem.F.slot_tuple_add PySem.F.entry_tuple_add (PySem.F.args_tuple_add_2 _ _) (tuple_addW0 a b its.toArray its2.toArray n n2 dd dd2 sl sl2 (by simp [hv])) ⟨ho, ho2, ⟨.ref b, H, I, rfl, q1 hx⟩⟩
  · exact op_catT pins s σ H (.ref a) (.ref b) v u Q I rx ry ⟨a, b, xs, ys, rfl, rfl, ha, hb, hx, hz, fun e => absurd e hy, fun _ => q2 hx⟩
/-- the same, whichever comes -/
def rCatU : R2 := fun x y H Q => ∃ a b xs ys, x = .ref a ∧ y = .ref b ∧ H a = some (.tup xs) ∧ H b = some (.tup ys) ∧ ys ≠ [] ∧ xs.length + ys.length ≤ sizeLine ∧ ∀ H' q, Same H H' → H' q = some (.tup (xs ++ ys)) → Q (.ref q) H'
theorem op_catU {X : Cx} : OpR X (binaryOp .Add) rCatU := by
  intro pins s σ H x y v u Q I rx ry h
  obtain ⟨a, b, xs, ys, rfl, rfl, ha, hb, hy, hz, q⟩ := h
  refine op_catN pins s σ H (.ref a) (.ref b) v u Q I rx ry ⟨a, b, xs, ys, rfl, rfl, SqT.of ha, SqT.of hb, hy, hz, fun e => q H b (Same.refl H) (by rw [e]; exact hb), fun _ p hp => q _ p (fun c o e => by rw [upd_ne (ne_of_none e hp)]; exact e) upd_same⟩
/-- min(t, u), tuples of ints -/
theorem cr_minT {X : Cx} (hu : X.A.units + 1 < cLine) (hc : X.calm = true := by rfl) : CallR X (.builtin "min") (fun xs H Q => ∃ a b ns ms, xs = [.ref a, .ref b] ∧ SqT X.K H a (ns.map V.int) ∧ SqT X.K H b (ms.map V.int) ∧ Q (.ref (if HT.lexLt ms ns = true then b else a)) H) := by
  intro pins s σ H xs us Q I r h
  obtain ⟨a, b, ns, ms, rfl, ha, hb, q⟩ := h
  obtain ⟨u, u2, rfl, e1, e2⟩ := vals2 r
  obtain rfl : u = Value.ref a := e1
  obtain rfl : u2 = Value.ref b := e2
  obtain ⟨its, r1, p1, _⟩ := I.tuple ha
  obtain ⟨its2, r2, p2, _⟩ := I.tuple hb
  have i1 : IntsAre its.toArray.toList ns := intsAre_of r1
  have i2 : IntsAre its2.toArray.toList ms := intsAre_of r2
  refine TuMin.min_two (lt := HT.lexLt ms ns) (I.ok.hd hc) (fun s' Q' E' kp q' => ?_) fun h' tk kp => ⟨.ref (if HT.lexLt ms ns = true then b else a), H, I.kept kp, ?_, q⟩
  · exact (HT.lt_tupInts (p2.keeps kp) (p1.keeps kp) i2 i1 hu q' : wpAny (model X.prog X.w) X.A.in1 (compareOp .Lt (.ref b) (.ref a)) Q' E' s')
  · show _ = Value.ref _
    split <;> rfl

/-! ### sorted(d), d's keys ints -/
def rSortedD : List V → Hp → VK → Prop := fun vs H Q => ∃ (a : Addr) (kvs : List (Key × V)) (ns : List Int), vs = [V.ref a] ∧ H a = some (.dK kvs) ∧ kvs.map (·.1) = ns.map Sum.inl ∧ ns.length < 64 ∧
  ∀ (ns' : List Int) (p : Addr), ns'.Perm ns → ns'.Pairwise (· ≤ ·) → H p = none → Q (.ref p) (upd H p (.lst (ns'.map V.int)))
theorem ints_at : ∀ {vs : List Value} {ns : List Int}, vs.length = ns.length → (∀ (j : Nat) (v : Value), vs[j]? = some v → ∃ i t, ns[j]? = some i ∧ v = Value.int i t) → IntsAre vs ns
  | [], [], _, _ => .nil
  | [], _ :: _, h, _ => by simp at h
  | _ :: _, [], h, _ => by simp at h
  | v :: vs, n :: ns, h, g => by
    obtain ⟨i, t, e1, e2⟩ := g 0 v rfl
    cases e1
    subst e2
    exact .cons _ t (ints_at (by simpa using h) fun j w hw => g (j + 1) w hw)
theorem cr_sortedD {X : Cx} (hc : X.calm = true := by rfl) : CallR X (.builtin "sorted") rSortedD := by
  intro pins s σ H vs us Q I r h
  obtain ⟨a, kvs, ns, rfl, hd, hk, h64, q⟩ := h
  rw [Vals.ref1 r]
  obtain ⟨z, lo, xs, rel, dd⟩ := dk_of I.hok hd
  obtain ⟨ep, hat⟩ := dd.dictAt
  have hlen : kvs.length = ns.length := by have := congrArg List.length hk; simpa using this
  have hxl : kvs.length = xs.length := Paired.length rel
  refine Calls.call_function_entry kind_sorted plain_sorted entry_sorted (args_sorted1 _) ?_; unfold Builtin.«sorted»
  refine wpAny_bind (m := checkCount "sorted" 1 1 _) (wpAny_pure (wpAny_bind (PySem.W.kdu_collect (A := X.A.in1) (PySem.W.kdl_dict (knd := mixKind X.prog X.w) (kvs := xs) (ep := ep) lo) (I.ok.hd hc) hat (by rw [← hxl]; exact z) fun h' tk acc kp hacc => ?_)))
  have hl : acc.toList.length = ns.length := by rw [Array.length_toList, hacc.1, ← hxl, hlen]
  have hI : IntsAre acc.toList ns := by
    refine ints_at hl fun j v e => ?_
    obtain ⟨k, x, ex, hk1⟩ := hacc.2 j v (by rw [← Array.getElem?_toList]; exact e)
    have hj : j < kvs.length := by rw [hxl]; exact (List.getElem?_eq_some_iff.mp ex).1
    obtain ⟨pk, hpk⟩ : ∃ p, kvs[j]? = some p := ⟨kvs[j], List.getElem?_eq_getElem hj⟩
    obtain ⟨b, hb, e1, e2⟩ := paired_get rel hpk
    rw [ex] at hb
    cases hb
    have e3 : (kvs.map (·.1))[j]? = some pk.1 := by rw [List.getElem?_map, hpk]; rfl
    rw [hk, List.getElem?_map, Option.map_eq_some_iff] at e3
    obtain ⟨i, hi, e4⟩ := e3
    have e5 : k = Sum.inl i := by rw [e4]; exact e1.symm
    subst e5
    obtain ⟨t, et⟩ := relV_key (show keyIs (Sum.inl i) v = true from hk1)
    exact ⟨i, t, hi, et⟩
  have hs64 : acc.toList.length < 64 := by rw [hl]; exact h64
  refine wpAny_bind (wpAny_newList ?_ (by rw [hl]; exact small64 h64))
  have hoL : (h'.push (seqObj "list" acc.toList.toArray 0)).get? h'.objs.size = some (seqObj "list" acc.toList.toArray 0) := Heap.get?_push_size _ rfl
  refine wpAny_bind (wpAny_holding (wpAny_call_entry slot_list_sort ⟨_, hoL, rfl⟩ entry_list_sort (list_sort_tree hoL hI hs64 fun out ns' a1 a2 a3 => ⟨_, rfl, ?_⟩) (args_list_sort _)))
  have I1 := I.kept (t' := tk) kp
  obtain ⟨ep2, he⟩ := sortedHeap_at (out := out) hoL
  refine wpAny_pure ⟨_, rfl, ⟨.ref h'.objs.size, upd H h'.objs.size (.lst (ns'.map V.int)), I1.laid (t' := tk) (fun b o e => ?_) (Nat.le_refl _) ⟨by rw [List.length_map, a2.length_eq]; exact small64 h64, out.toList, ep2, vals_of_ints a1, he⟩, rfl, q ns' _ a2 a3 (I1.hok.fresh (Nat.le_refl _))⟩⟩
  rw [sortedHeap_old (Nat.ne_of_lt (Heap.lt_size e)) (by rw [Heap.size_push]; exact Nat.lt_succ_of_lt (Heap.lt_size e))]
  exact Heap.get?_push_of_some _ e
end Tu
end
section
/-! The plan: what an object of it looks like, and what each method promises. -/
set_option Elab.async false
set_option linter.all false
set_option maxRecDepth 100000
namespace Tu
open PySem PySem.Spec PyProof.Rows L2

/-! ### the text by places -/
def top (i : Nat) : Stmt := PySem.Challenge.pw_tripunits_s01_answers.main.body.getD i (.Pass ⟨0, 0, 0, 0⟩)
abbrev s_init : Stmt := inClass (top 21) 0
abbrev s_begin : Stmt := inClass (top 21) 1
abbrev s_set_run : Stmt := inClass (top 21) 2
abbrev s_remove_run : Stmt := inClass (top 21) 3
abbrev s_add_trip : Stmt := inClass (top 21) 4
abbrev s_drop_trip : Stmt := inClass (top 21) 5
abbrev s_run_refusal : Stmt := inClass (top 21) 6
abbrev s_has_stops : Stmt := inClass (top 21) 7
abbrev s_has_trip : Stmt := inClass (top 21) 8
abbrev s_ready : Stmt := inClass (top 21) 9

/-! ### the data -/
theorem n_tr : ¬ (("turns" : Str) = "runs") := by decide +kernel
theorem n_tt : ¬ (("turns" : Str) = "trips") := by decide +kernel
theorem n_rt : ¬ (("runs" : Str) = "trips") := by decide +kernel
/-- the attributes, in the order in which they are stored at first -/
def flds (tl rd tr : Addr) : List (Str × V) := [("turns", .ref tl), ("runs", .ref rd), ("trips", .ref tr)]
theorem f_turns (tl rd tr : Addr) : (flds tl rd tr).lookup ("turns" : Str) = some (.ref tl) := by
  unfold flds; rw [List.lookup_cons, beq_self_eq_true]
theorem f_runs (tl rd tr : Addr) : (flds tl rd tr).lookup ("runs" : Str) = some (.ref rd) := by
  unfold flds; rw [List.lookup_cons, beq_false_of_ne (Ne.symm n_tr)]; show List.lookup _ _ = _; rw [List.lookup_cons, beq_self_eq_true]
theorem f_trips (tl rd tr : Addr) : (flds tl rd tr).lookup ("trips" : Str) = some (.ref tr) := by
  unfold flds; rw [List.lookup_cons, beq_false_of_ne (Ne.symm n_tt)]; show List.lookup _ _ = _; rw [List.lookup_cons, beq_false_of_ne (Ne.symm n_rt)]; show List.lookup _ _ = _; rw [List.lookup_cons, beq_self_eq_true]
theorem f_none (tl rd tr : Addr) {m : Str} (h1 : ¬ m = "turns") (h2 : ¬ m = "runs") (h3 : ¬ m = "trips") : (flds tl rd tr).lookup m = none := by
  unfold flds; rw [List.lookup_cons, beq_false_of_ne h1]; show List.lookup _ _ = _; rw [List.lookup_cons, beq_false_of_ne h2]; show List.lookup _ _ = _; rw [List.lookup_cons, beq_false_of_ne h3]; rfl
theorem f_len (tl rd tr : Addr) : (flds tl rd tr).length < 1000 := by show 3 < 1000; decide
theorem putF_ne {f g : Str} {v x : V} {r : List (Str × V)} (h : ¬ g = f) : putF f v ((g, x) :: r) = (g, x) :: putF f v r := by
  show (if g = f then _ else _) = _
  rw [if_neg h]
theorem putF_eq {f : Str} {v x : V} {r : List (Str × V)} : putF f v ((f, x) :: r) = (f, v) :: r := by
  show (if f = f then _ else _) = _
  rw [if_pos rfl]
theorem p_turns (tl rd tr x : Addr) : putF "turns" (.ref x) (flds tl rd tr) = flds x rd tr := putF_eq
theorem p_runs (tl rd tr x : Addr) : putF "runs" (.ref x) (flds tl rd tr) = flds tl x tr := by
  unfold flds; rw [putF_ne n_tr, putF_eq]
theorem p_trips (tl rd tr x : Addr) : putF "trips" (.ref x) (flds tl rd tr) = flds tl rd x := by
  unfold flds; rw [putF_ne n_tt, putF_ne n_rt, putF_eq]
theorem p_first (q1 q2 q3 : Addr) : putF "trips" (V.ref q3) (putF "runs" (V.ref q2) (putF "turns" (V.ref q1) [])) = flds q1 q2 q3 := by
  show putF "trips" (V.ref q3) (putF "runs" (V.ref q2) [(("turns" : Str), V.ref q1)]) = _
  rw [putF_ne n_tr, putF_ne n_tt]
  show _ :: putF "trips" (V.ref q3) [(("runs" : Str), V.ref q2)] = _
  rw [putF_ne n_rt]
  rfl
theorem p_second (q1 q2 : Addr) : (putF "runs" (V.ref q2) (putF "turns" (V.ref q1) [])).length < 1000 := by
  show (putF "runs" (V.ref q2) [(("turns" : Str), V.ref q1)]).length < 1000
  rw [putF_ne n_tr]
  show 2 < 1000
  decide
def nV (n : Nat) : V := .int (n : Int)
def nVs (l : List Nat) : List V := l.map nV
theorem nVs_len (l : List Nat) : (nVs l).length = l.length := List.length_map ..
/-- a trip as it is kept -/
def tripV (x : Sw75.Trip) : List V := [nV x.from_, nV x.to, nV x.start, nV x.halt_]
/-- the trips stand at these places -/
def TripsAt (H : Hp) : List Addr → List Sw75.Trip → Prop
  | [], [] => True
  | a :: as, x :: xs => H a = some (.tup (tripV x)) ∧ TripsAt H as xs
  | _, _ => False
theorem TripsAt.len {H : Hp} : ∀ {as : List Addr} {xs : List Sw75.Trip}, TripsAt H as xs → as.length = xs.length
  | [], [], _ => rfl
  | _ :: _, _ :: _, h => congrArg (· + 1) h.2.len
  | [], _ :: _, h => h.elim
  | _ :: _, [], h => h.elim
theorem TripsAt.keep {H H' : Hp} (k : ∀ b ys, H b = some (.tup ys) → H' b = some (.tup ys)) : ∀ {as : List Addr} {xs : List Sw75.Trip}, TripsAt H as xs → TripsAt H' as xs
  | [], [], _ => trivial
  | _ :: _, _ :: _, h => ⟨k _ _ h.1, h.2.keep k⟩
  | [], _ :: _, h => h.elim
  | _ :: _, [], h => h.elim
theorem TripsAt.snoc {H : Hp} {b : Addr} {y : Sw75.Trip} (hb : H b = some (.tup (tripV y))) : ∀ {as : List Addr} {xs : List Sw75.Trip}, TripsAt H as xs → TripsAt H (as ++ [b]) (xs ++ [y])
  | [], [], _ => ⟨hb, trivial⟩
  | _ :: _, _ :: _, h => ⟨h.1, h.2.snoc hb⟩
  | [], _ :: _, h => h.elim
  | _ :: _, [], h => h.elim
theorem TripsAt.erase {H : Hp} : ∀ {as : List Addr} {xs : List Sw75.Trip} (k : Nat), TripsAt H as xs → TripsAt H (as.eraseIdx k) (xs.eraseIdx k)
  | [], [], _, _ => trivial
  | _ :: _, _ :: _, 0, h => h.2
  | _ :: _, _ :: _, k + 1, h => ⟨h.1, h.2.erase k⟩
  | [], _ :: _, _, h => h.elim
  | _ :: _, [], _, h => h.elim
theorem TripsAt.get {H : Hp} : ∀ {as : List Addr} {xs : List Sw75.Trip} {i : Nat} {x : Sw75.Trip}, TripsAt H as xs → xs[i]? = some x → ∃ a, as[i]? = some a ∧ H a = some (.tup (tripV x))
  | [], [], _, _, _, e => by simp at e
  | a :: _, y :: _, 0, x, h, e => by
    have e : y = x := Option.some.inj e
    subst e
    exact ⟨a, rfl, h.1⟩
  | _ :: _, _ :: _, i + 1, x, h, e => h.2.get (i := i) e
  | [], _ :: _, _, _, h, _ => h.elim
  | _ :: _, [], _, _, h, _ => h.elim
/-- the empty runs, as the dict keeps them -/
def key2 (a b : Nat) : List Key := [Sum.inl (a : Int), Sum.inl (b : Int)]
def runOf (s : Sw75.Plan) (a b : Nat) : Option Nat := (s.empty_.getD a []).getD b none
def RunsAt (s : Sw75.Plan) (kvs : List (List Key × V)) : Prop := ∀ a b : Nat, valV kvs (key2 a b) = (runOf s a b).map nV
/-- the shape of a plan -/
structure Shape (s : Sw75.Plan) : Prop where
  st : s.turns.length ≤ 10
  tu : ∀ n ∈ s.turns, n ≤ 1440
  rl : s.empty_.length = s.turns.length
  rr : ∀ r ∈ s.empty_, r.length = s.turns.length
  rm : ∀ a b n, runOf s a b = some n → n ≤ 1440
  tl : s.trips.length ≤ 10
  tr : ∀ x ∈ s.trips, x.from_ < s.turns.length ∧ x.to < s.turns.length ∧ x.start < x.halt_ ∧ x.halt_ ≤ 10000
/-- a plan stands at p; m: so many runs at most -/
structure PlanAt (C : Addr) (H : Hp) (p tl rd tr : Addr) (s : Sw75.Plan) (m : Nat) : Prop where
  ob : ∃ dx, H p = some (.ins C dx (flds tl rd tr))
  tu : H tl = some (.lst (nVs s.turns))
  ru : ∃ kvs, H rd = some (.dT kvs) ∧ RunsAt s kvs ∧ kvs.length ≤ m
  tp : ∃ as : List Addr, H tr = some (.lst (as.map V.ref)) ∧ TripsAt H as s.trips
  ne : tl ≠ tr
  sh : Shape s
/-- what a step leaves: what isn't the plan's own stands; what is the plan's own then was so, or was nothing's -/
structure Frame (H H' : Hp) (F F' : List Addr) : Prop where
  keep : ∀ b o, H b = some o → b ∉ F → H' b = some o
  own : ∀ b ∈ F', b ∈ F ∨ H b = none
theorem Frame.refl (H : Hp) (F : List Addr) : Frame H H F F := ⟨fun _ _ h _ => h, fun _ h => .inl h⟩

/-! ### plain facts about plans -/
theorem key2_inj {a b c d : Nat} : key2 a b = key2 c d ↔ a = c ∧ b = d := by
  unfold key2
  constructor
  · intro h
    injection h with h1 h2
    injection h2 with h2 _
    have e1 := Sum.inl.inj h1
    have e2 := Sum.inl.inj h2
    omega
  · rintro ⟨rfl, rfl⟩; rfl
def withRun (s : Sw75.Plan) (a b : Nat) (v : Option Nat) : Sw75.Plan := { s with empty_ := s.empty_.set a ((s.empty_.getD a []).set b v) }
theorem runOf_with {s : Sw75.Plan} (sh : Shape s) {a b : Nat} (ha : a < s.turns.length) (hb : b < s.turns.length) (v : Option Nat) (c d : Nat) : runOf (withRun s a b v) c d = if c = a ∧ d = b then v else runOf s c d := by
  have ha' : a < s.empty_.length := by rw [sh.rl]; exact ha
  have hr : (s.empty_.getD a []).length = s.turns.length := by
    rw [List.getD_eq_getElem?_getD, List.getElem?_eq_getElem ha', Option.getD_some]
    exact sh.rr _ (List.getElem_mem ha')
  unfold runOf withRun
  simp only [List.getD_eq_getElem?_getD]
  by_cases hc : c = a
  · subst hc
    rw [List.getElem?_set_self ha', Option.getD_some]
    by_cases hd : d = b
    · subst hd
      rw [List.getElem?_set_self (by rw [← List.getD_eq_getElem?_getD, hr]; exact hb), Option.getD_some, if_pos ⟨rfl, rfl⟩]
    · rw [List.getElem?_set_ne (fun q => hd q.symm), if_neg (fun q => hd q.2)]
  · rw [List.getElem?_set_ne (fun q => hc q.symm), if_neg (fun q => hc q.1)]
theorem shape_with {s : Sw75.Plan} (sh : Shape s) {a b : Nat} (ha : a < s.turns.length) (hb : b < s.turns.length) {v : Option Nat} (hv : ∀ n, v = some n → n ≤ 1440) : Shape (withRun s a b v) where
  st := sh.st
  tu := sh.tu
  rl := by show (s.empty_.set a _).length = _; rw [List.length_set]; exact sh.rl
  rr := fun r hr => by
    rcases List.mem_or_eq_of_mem_set (show r ∈ s.empty_.set a _ from hr) with h | rfl
    · exact sh.rr r h
    · have ha' : a < s.empty_.length := by rw [sh.rl]; exact ha
      rw [List.length_set, List.getD_eq_getElem?_getD, List.getElem?_eq_getElem ha', Option.getD_some]
      exact sh.rr _ (List.getElem_mem ha')
  rm := fun c d n h => by
    rw [runOf_with sh ha hb] at h
    by_cases q : c = a ∧ d = b
    · rw [if_pos q] at h; exact hv n h
    · rw [if_neg q] at h; exact sh.rm c d n h
  tl := sh.tl
  tr := sh.tr
theorem upd_none {H : Hp} {a b : Addr} {o : HO} (h : upd H a o b = Option.none) : b ≠ a ∧ H b = Option.none := by
  unfold upd at h
  by_cases e : b = a
  · rw [if_pos e] at h; cases h
  · rw [if_neg e] at h; exact ⟨e, h⟩
theorem PlanAt.mono {C : Addr} {H : Hp} {p tl rd tr : Addr} {s : Sw75.Plan} {m n : Nat} (h : PlanAt C H p tl rd tr s m) (q : m ≤ n) : PlanAt C H p tl rd tr s n := by
  obtain ⟨o, t, ⟨kvs, a, b, c⟩, r, e, f⟩ := h
  exact ⟨o, t, ⟨kvs, a, b, Nat.le_trans c q⟩, r, e, f⟩
theorem init_shape : Shape Sw75.init := ⟨by decide, (fun _ h => nomatch h), rfl, (fun _ h => nomatch h), (fun a b n h => by simp [runOf, Sw75.init] at h), by decide, (fun _ h => nomatch h)⟩

/-- what is known of the text -/
structure Txt (K : PySem.W.Frag) (mg : Str → Option Value) (C : Addr) : Prop where
  cl : Cls K C
  nT : NoAttr K C "turns"
  nR : NoAttr K C "runs"
  nP : NoAttr K C "trips"
  b_len : mg "len" = none
  b_max : mg "max" = none
  b_list : mg "list" = none
  c_MOST_STOPS : ∃ t, mg "MOST_STOPS" = some (.int 10 t)
  c_MOST_TRIPS : ∃ t, mg "MOST_TRIPS" = some (.int 10 t)
  c_LONGEST : ∃ t, mg "LONGEST" = some (.int 1440 t)
  c_LAST_MINUTE : ∃ t, mg "LAST_MINUTE" = some (.int 10000 t)
  c_OUT_OF_BOUNDS : ∃ t, mg "OUT_OF_BOUNDS" = some (.int (-1) t)
  c_NO_SUCH : ∃ t, mg "NO_SUCH" = some (.int (-2) t)
  c_FULL : ∃ t, mg "FULL" = some (.int (-5) t)
  b_min : mg "min" = none
  b_range : mg "range" = none
  b_enumerate : mg "enumerate" = none
  b_sorted : mg "sorted" = none
  c_DAY : ∃ t, mg "DAY" = some (.int 1440 t)
  c_NEVER : ∃ t, mg "NEVER" = some (.int (-6) t)
  c_BEGINS : ∃ t, mg "BEGINS" = some (.int 0 t)
  c_EMPTY : ∃ t, mg "EMPTY" = some (.int 1 t)
  c_REMOVE : ∃ t, mg "REMOVE" = some (.int 2 t)
  c_TRIP : ∃ t, mg "TRIP" = some (.int 3 t)
  c_DROP : ∃ t, mg "DROP" = some (.int 4 t)
  c_FOLLOW : ∃ t, mg "FOLLOW" = some (.int 5 t)
  c_UNITS : ∃ t, mg "UNITS" = some (.int 6 t)
  c_WHY : ∃ t, mg "WHY" = some (.int 7 t)
  c_DAILY : ∃ t, mg "DAILY" = some (.int 8 t)
section
variable {P : Program} {w : World} {K : PySem.W.Frag} {mg : Str → Option Value} {base : Heap} {C : Addr}

/-! ### has_stops -/
def spHas (C : Addr) : Sp := fun vs H Q _ => ∃ (p tl rd tr : Addr) (s : Sw75.Plan) (m a b : Nat), vs = [.ref p, nV a, nV b] ∧ PlanAt C H p tl rd tr s m ∧ Q (.bl (decide (a < s.stops ∧ b < s.stops))) H
theorem sc_has : FnScope ["self", "source", "target"] ["self", "source", "target"] (defScope s_has_stops) := ⟨rfl, rfl, rfl, by decide +kernel, rfl, by decide +kernel, by decide +kernel⟩
theorem ok_has {f : Addr} {fd : FuncData} (F : Fun K "has_stops" "Plan.has_stops" s_has_stops f fd) (T : Txt K mg C) : FnOk P w K mg base CX0 1 f fd ["self", "source", "target"] (spHas C) := by
  refine F.ok sc_has (fun vs H Q E h => ?_) (fun cdv A outer s H vs Q E hr h => ?_)
  · obtain ⟨p, tl, rd, tr, s, m, a, b, rfl, _⟩ := h
    rfl
  · obtain ⟨p, tl, rd, tr, s, m, a, b, rfl, ⟨⟨dx, h1⟩, h2, _, _, _, _⟩, k⟩ := h
    refine ⟨_, (pss_one (ps_ret (pe_and (pe_cmpR op_lt (pv 1) (pe_callB call_len_seq (by rfl) T.b_len PySem.boot_len (pa_cons (pe_fld (pv 0) rfl) pa_nil)) (nomark _)) (pe_one (pe_cmpR op_lt (pv 2) (pe_callB call_len_seq (by rfl) T.b_len PySem.boot_len (pa_cons (pe_fld (pv 0) rfl) pa_nil)) (nomark _)))))), ?_⟩
    have e : ∀ n : Nat, decide ((n : Int) < ((nVs s.turns).length : Int)) = decide (n < s.stops) := fun n => by
      rw [nVs_len]
      exact decide_eq_decide.mpr (by show _ ↔ n < s.turns.length; omega)
    refine ⟨_, rfl, _, rfl, _, _, _, _, _, rfl, h1, T.cl, T.nT, f_turns _ _ _, _, _, rfl, .inl (SqL.of h2), _, _, rfl, rfl, _, rfl, ?_⟩
    rw [e a]
    refine ite2 (fun ha => ?_) (fun ha => ?_)
    · refine ⟨_, rfl, _, rfl, _, _, _, _, _, rfl, h1, T.cl, T.nT, f_turns _ _ _, _, _, rfl, .inl (SqL.of h2), _, _, rfl, rfl, ?_⟩
      show Q (V.bl (decide ((b : Int) < ((nVs s.turns).length : Int)))) H
      rw [e b]
      have q : decide (b < s.stops) = decide (a < s.stops ∧ b < s.stops) := decide_eq_decide.mpr ⟨fun z => ⟨of_decide_eq_true ha, z⟩, fun z => z.2⟩
      rw [q]
      exact k
    · have q : decide (a < s.stops ∧ b < s.stops) = false := decide_eq_false fun z => ha (decide_eq_true z.1)
      rw [q] at k
      exact k
/-! ### has_trip -/
def spHasT (C : Addr) : Sp := fun vs H Q _ => ∃ (p tl rd tr : Addr) (s : Sw75.Plan) (m j : Nat), vs = [.ref p, nV j] ∧ PlanAt C H p tl rd tr s m ∧ Q (.bl (decide (j < s.trips.length))) H
theorem sc_hasT : FnScope ["self", "k"] ["self", "k"] (defScope s_has_trip) := ⟨rfl, rfl, rfl, by decide +kernel, rfl, by decide +kernel, by decide +kernel⟩
theorem ok_hasT {f : Addr} {fd : FuncData} (F : Fun K "has_trip" "Plan.has_trip" s_has_trip f fd) (T : Txt K mg C) : FnOk P w K mg base CX0 1 f fd ["self", "k"] (spHasT C) := by
  refine F.ok sc_hasT (fun vs H Q E h => ?_) (fun cdv A outer s H vs Q E hr h => ?_)
  · obtain ⟨p, tl, rd, tr, s, m, j, rfl, _⟩ := h
    rfl
  · obtain ⟨p, tl, rd, tr, s, m, j, rfl, ⟨⟨dx, h1⟩, _, _, ⟨as, h4, h4t⟩, _, _⟩, k⟩ := h
    refine ⟨_, (pss_one (ps_ret (pe_cmpR op_lt (pv 1) (pe_callB call_len_seq (by rfl) T.b_len PySem.boot_len (pa_cons (pe_fld (pv 0) rfl) pa_nil)) (nomark _)))), ?_⟩
    refine ⟨_, rfl, _, rfl, _, _, _, _, _, rfl, h1, T.cl, T.nP, f_trips _ _ _, _, _, rfl, .inl (SqL.of h4), _, _, rfl, rfl, ?_⟩
    show Q (V.bl (decide ((j : Int) < ((as.map V.ref).length : Int)))) H
    have e : decide ((j : Int) < ((as.map V.ref).length : Int)) = decide (j < s.trips.length) := by
      rw [List.length_map, h4t.len]
      exact decide_eq_decide.mpr (by omega)
    rw [e]
    exact k
/-! ### run_refusal -/
def refusal (s : Sw75.Plan) (a b : Nat) : Int := if s.stops ≤ a ∨ s.stops ≤ b then -2 else if a = b then -1 else 0
def spRef (C : Addr) : Sp := fun vs H Q _ => ∃ (p tl rd tr : Addr) (s : Sw75.Plan) (m a b : Nat), vs = [.ref p, nV a, nV b] ∧ PlanAt C H p tl rd tr s m ∧ Q (.int (refusal s a b)) H
theorem sc_ref : FnScope ["self", "source", "target"] ["self", "source", "target"] (defScope s_run_refusal) := ⟨rfl, rfl, rfl, by decide +kernel, rfl, by decide +kernel, by decide +kernel⟩
theorem ok_ref {f : Addr} {fd : FuncData} (F : Fun K "run_refusal" "Plan.run_refusal" s_run_refusal f fd) (T : Txt K mg C) (F_has_stops : MethAt P w K mg base C "has_stops" 1 ["self", "source", "target"] (spHas C)) :
    FnOk P w K mg base CX0 2 f fd ["self", "source", "target"] (spRef C) := by
  refine F.ok sc_ref (fun vs H Q E h => ?_) (fun cdv A outer s H vs Q E hr h => ?_)
  · obtain ⟨p, tl, rd, tr, s, m, a, b, rfl, _⟩ := h
    rfl
  · obtain ⟨p, tl, rd, tr, s, m, a, b, rfl, PA, k⟩ := h
    obtain ⟨dx, h1⟩ := PA.ob
    refine ⟨_, (pss_cons (ps_if (pt_not (pt_val (pmeth (pv 0) T.cl F_has_stops hr (pa_cons (pv 1) (pa_cons (pv 2) pa_nil))))) (pss_one (ps_ret (pg_int T.c_NO_SUCH))) pss_nil)
      (pss_cons (ps_if (pt_cmpR op_eq (pv 1) (pv 2) (nomark _)) (pss_one (ps_ret (pg_int T.c_OUT_OF_BOUNDS))) pss_nil)
      (pss_one (ps_ret pe_int)))), ?_⟩
    refine ⟨_, rfl, p, dx, _, rfl, h1, f_none _ _ _ (by decide +kernel) (by decide +kernel) (by decide +kernel), _, rfl, _, rfl, p, tl, rd, tr, s, m, a, b, rfl, PA, _, rfl, ?_⟩
    unfold refusal at k
    refine ite2 (fun ha => ?_) (fun ha => ?_)
    · have q : s.stops ≤ a ∨ s.stops ≤ b := by simp at ha; omega
      rw [if_pos q] at k
      exact k
    · have q : ¬ (s.stops ≤ a ∨ s.stops ≤ b) := by simp at ha; omega
      rw [if_neg q] at k
      refine ⟨_, rfl, _, rfl, rfl, _, rfl, ?_⟩
      refine ite2 (fun hb => ?_) (fun hb => ?_)
      · have q : a = b := by
          have := of_decide_eq_true hb
          unfold nV at this
          injection this with this
          omega
        rw [if_pos q] at k
        exact k
      · have q : ¬ a = b := fun q => hb (decide_eq_true (by rw [q]))
        rw [if_neg q] at k
        exact k
/-! ### __init__ -/
def spInit (C : Addr) : Sp := fun vs H Q _ => ∃ (p dx : Addr), vs = [.ref p] ∧ H p = some (.ins C dx []) ∧
  ∀ (H' : Hp) (tl rd tr : Addr), PlanAt C H' p tl rd tr Sw75.init 0 → (∀ b o, H b = some o → b ≠ p → H' b = some o) → (∀ b ∈ [tl, rd, tr], H b = none) → Q .non H'
theorem sc_init : FnScope ["self"] ["self"] (defScope s_init) := ⟨rfl, rfl, rfl, by decide +kernel, rfl, by decide +kernel, by decide +kernel⟩
theorem ok_init {f : Addr} {fd : FuncData} (F : Fun K "__init__" "Plan.__init__" s_init f fd) (T : Txt K mg C) : FnOk P w K mg base CX0 1 f fd ["self"] (spInit C) := by
  refine F.ok sc_init (fun vs H Q E h => ?_) (fun cdv A outer s H vs Q E hr h => ?_)
  · obtain ⟨p, dx, rfl, _⟩ := h
    rfl
  · obtain ⟨p, dx, rfl, hp, k⟩ := h
    refine ⟨_, (pss_cons (ps_fld (pv 0) (pe_lst pa_nil) rfl)
      (pss_cons (ps_fld (pv 0) pe_dnewT rfl)
      (pss_one (ps_fld (pv 0) (pe_lst pa_nil) rfl)))), ?_⟩
    refine ⟨Nat.zero_le _, fun q1 n1 => ?_⟩
    have np1 : p ≠ q1 := ne_of_none hp n1
    refine ⟨_, rfl, p, C, dx, [], rfl, (by rw [upd_ne np1]; exact hp), T.cl, T.nT, (by show 0 < 1000; decide), ?_⟩
    intro q2 n2
    obtain ⟨n2p, n2'⟩ := upd_none n2
    obtain ⟨n21, n20⟩ := upd_none n2'
    refine ⟨_, rfl, p, C, dx, _, rfl, (by rw [upd_ne n2p.symm]; exact upd_same), T.cl, T.nR, (by show 1 < 1000; decide), ?_⟩
    refine ⟨Nat.zero_le _, fun q3 n3 => ?_⟩
    obtain ⟨n3p, n3'⟩ := upd_none n3
    obtain ⟨n32, n3'⟩ := upd_none n3'
    obtain ⟨_, n3'⟩ := upd_none n3'
    obtain ⟨n31, n30⟩ := upd_none n3'
    refine ⟨_, rfl, p, C, dx, _, rfl, (by rw [upd_ne n3p.symm]; exact upd_same), T.cl, T.nP, p_second _ _, ?_⟩
    · have e := p_first q1 q2 q3
      refine k _ q1 q2 q3 ⟨⟨dx, Eq.trans upd_same (congrArg (fun l => some (HO.ins C dx l)) e)⟩, ?_, ⟨[], ?_, fun a b => rfl, Nat.le_refl _⟩, ⟨[], ?_, trivial⟩, n31.symm, init_shape⟩ (fun b o hb nb => ?_) fun b hb => ?_
      · rw [upd_ne np1.symm, upd_ne n31.symm, upd_ne np1.symm, upd_ne n21.symm, upd_ne np1.symm, upd_same]; rfl
      · rw [upd_ne n2p, upd_ne n32.symm, upd_ne n2p, upd_same]
      · rw [upd_ne n3p, upd_same]; rfl
      · rw [upd_ne nb, upd_ne (ne_of_none hb n30), upd_ne nb, upd_ne (ne_of_none hb n20), upd_ne nb, upd_ne (ne_of_none hb n1)]
        exact hb
      · simp only [List.mem_cons, List.not_mem_nil, or_false] at hb
        rcases hb with rfl | rfl | rfl
        · exact n1
        · exact n20
        · exact n30
/-! ### set_run, remove_run -/
/-- a call of one plan: its new plan, its own things, its number -/
def Goes (C : Addr) (x : Sw75.Call) (p tl rd tr : Addr) (s : Sw75.Plan) (m : Nat) (H : Hp) (Q : VK) : Prop :=
  ∀ (H' : Hp) (tl' rd' tr' : Addr), PlanAt C H' p tl' rd' tr' (Sw75.step s x).1 (m + 1) → Frame H H' [p, tl, rd, tr] [p, tl', rd', tr'] → Q (.int (Sw75.step s x).2.v) H'
theorem Goes.same {C : Addr} {x : Sw75.Call} {p tl rd tr : Addr} {s : Sw75.Plan} {m : Nat} {H : Hp} {Q : VK} {v : Int} (g : Goes C x p tl rd tr s m H Q) (PA : PlanAt C H p tl rd tr s m) (e : Sw75.step s x = (s, Sw75.ok v)) : Q (.int v) H := by
  have := g H tl rd tr (by rw [e]; exact PA.mono (Nat.le_succ _)) (Frame.refl _ _)
  rw [e] at this
  exact this
def spSet (C : Addr) : Sp := fun vs H Q _ => ∃ (p tl rd tr : Addr) (s : Sw75.Plan) (m a b n : Nat), vs = [.ref p, nV a, nV b, nV n] ∧ PlanAt C H p tl rd tr s m ∧ m ≤ 100 ∧ Goes C (.empty_ a b (some n)) p tl rd tr s m H Q
theorem sc_set : FnScope ["self", "source", "target", "minutes", "refusal"] ["self", "source", "target", "minutes"] (defScope s_set_run) := ⟨rfl, rfl, rfl, by decide +kernel, rfl, by decide +kernel, by decide +kernel⟩
theorem ok_set {f : Addr} {fd : FuncData} (F : Fun K "set_run" "Plan.set_run" s_set_run f fd) (T : Txt K mg C) (F_run_refusal : MethAt P w K mg base C "run_refusal" 2 ["self", "source", "target"] (spRef C)) :
    FnOk P w K mg base CX0 3 f fd ["self", "source", "target", "minutes"] (spSet C) := by
  refine F.ok sc_set (fun vs H Q E h => ?_) (fun cdv A outer s H vs Q E hr h => ?_)
  · obtain ⟨p, tl, rd, tr, s, m, a, b, n, rfl, _⟩ := h
    rfl
  · obtain ⟨p, tl, rd, tr, s, m, a, b, n, rfl, PA, hm, k⟩ := h
    have hu := hu_of hr
    have S := sc_set
    obtain ⟨⟨dx, h1⟩, h2, ⟨kvs, h3, h3r, h3m⟩, ⟨as, h4, h4t⟩, hne, sh⟩ := id PA
    refine ⟨_, (pss_cons (ps_set (i := 4) S.nd rfl (Or.inl rfl) (pmeth (pv 0) T.cl F_run_refusal hr (pa_cons (pv 1) (pa_cons (pv 2) pa_nil))))
      (pss_cons (ps_if (pt_cmpR op_lt (pv 4) pe_int (nomark _)) (pss_one (ps_ret (pv 4))) pss_nil)
      (pss_cons (ps_if (pt_cmpR op_gt (pv 3) (pg_int T.c_LONGEST) (nomark _)) (pss_one (ps_ret (pg_int T.c_OUT_OF_BOUNDS))) pss_nil)
      (pss_cons (ps_dput hu (pe_fld (pv 0) rfl) (pe_tup (pa_cons (pv 1) (pa_cons (pv 2) pa_nil))) (pv 3) rfl)
      (pss_one (ps_ret pe_int)))))), ?_⟩
    refine ⟨_, rfl, p, dx, _, rfl, h1, f_none _ _ _ (by decide +kernel) (by decide +kernel) (by decide +kernel), _, rfl, _, rfl, p, tl, rd, tr, s, m, a, b, rfl, PA, ?_⟩
    refine ⟨_, rfl, _, _, rfl, rfl, _, rfl, ?_⟩
    refine ite2 (fun ha => ?_) (fun ha => ?_)
    · refine ⟨_, rfl, ?_⟩
      refine k.same PA ?_
      have hlt := of_decide_eq_true ha
      unfold refusal at hlt ⊢
      show (if s.stops ≤ a ∨ s.stops ≤ b then (s, Sw75.ok (-2)) else _) = _
      by_cases q : s.stops ≤ a ∨ s.stops ≤ b
      · rw [if_pos q, if_pos q]
      · rw [if_neg q, if_neg q]
        rw [if_neg q] at hlt
        by_cases q2 : a = b
        · rw [if_pos (Or.inl q2), if_pos q2]
        · rw [if_neg q2] at hlt
          exact absurd hlt (by decide)
    · have hge : ¬ refusal s a b < 0 := fun z => ha (decide_eq_true z)
      unfold refusal at hge
      have q1 : ¬ (s.stops ≤ a ∨ s.stops ≤ b) := fun q => by rw [if_pos q] at hge; exact hge (by decide)
      rw [if_neg q1] at hge
      have q2 : ¬ a = b := fun q => by rw [if_pos q] at hge; exact hge (by decide)
      refine ⟨_, rfl, _, _, rfl, rfl, _, rfl, ?_⟩
      refine ite2 (fun hb => ?_) (fun hb => ?_)
      · refine k.same PA ?_
        have hn : 1440 < n := by have := of_decide_eq_true hb; omega
        show (if s.stops ≤ a ∨ s.stops ≤ b then (s, Sw75.ok (-2)) else _) = _
        rw [if_neg q1, if_pos (Or.inr (by show decide (n ≤ 1440) = false; exact decide_eq_false (by omega)))]
      · have hn : n ≤ 1440 := by
          have : ¬ (1440 : Int) < n := fun z => hb (decide_eq_true z)
          omega
        refine ⟨_, rfl, _, rfl, _, _, _, _, _, rfl, h1, T.cl, T.nR, f_runs _ _ _, _, rfl, _, rfl, (by show 2 ≤ sizeLine; decide), fun q nq => ?_⟩
        have npq : p ≠ q := ne_of_none h1 nq
        have nrq : rd ≠ q := ne_of_none h3 nq
        have ntq : tl ≠ q := ne_of_none h2 nq
        have nsq : tr ≠ q := ne_of_none h4 nq
        have npr : p ≠ rd := ne_of h1 h3 (by intro z; cases z)
        have ntr : tl ≠ rd := ne_of h2 h3 (by intro z; cases z)
        have nsr : tr ≠ rd := ne_of h4 h3 (by intro z; cases z)
        refine ⟨rd, _, rfl, DPut.t (k := key2 a b) (by rw [upd_ne nrq]; exact h3) upd_same (small1000 (by omega)), ?_⟩
        have ea : a < s.turns.length := by unfold Sw75.Plan.stops at q1; omega
        have eb : b < s.turns.length := by unfold Sw75.Plan.stops at q1; omega
        have es : Sw75.step s (.empty_ a b (some n)) = (withRun s a b (some n), Sw75.ok 0) := by
          show (if s.stops ≤ a ∨ s.stops ≤ b then (s, Sw75.ok (-2)) else _) = _
          rw [if_neg q1, if_neg (by
            intro z
            rcases z with z | z
            · exact q2 z
            · have : decide (n ≤ 1440) = false := z
              exact absurd hn (of_decide_eq_false this))]
          rfl
        have kk := k (upd (upd H q (.tup [nV a, nV b])) rd (.dT (putK kvs (key2 a b) (nV n)))) tl rd tr
        rw [es] at kk
        refine kk ⟨⟨dx, by rw [upd_ne npr, upd_ne npq]; exact h1⟩, by rw [upd_ne ntr, upd_ne ntq]; exact h2, ⟨_, upd_same, fun c d => ?_, Nat.le_trans (length_putK _ _ _) (by omega)⟩,
          ⟨as, by rw [upd_ne nsr, upd_ne nsq]; exact h4, h4t.keep fun b ys e => ?_⟩, hne, shape_with sh ea eb (fun n' e => by cases e; exact hn)⟩ ⟨fun b o e nb => ?_, fun b hb => .inl hb⟩
        · rw [valV_put, runOf_with sh ea eb]
          by_cases z : c = a ∧ d = b
          · rw [if_pos (key2_inj.mpr z), if_pos z]; rfl
          · rw [if_neg (fun y => z (key2_inj.mp y)), if_neg z]; exact h3r c d
        · rw [upd_ne (ne_of e h3 (by intro z; cases z)), upd_ne (ne_of_none e nq)]; exact e
        · rw [upd_ne (fun z => nb (by rw [z]; simp)), upd_ne (ne_of_none e nq)]; exact e
end
end Tu
end
section
/-! The plan's other methods. -/
set_option Elab.async false
set_option linter.all false
set_option maxRecDepth 100000
namespace Tu
open PySem PySem.Spec PyProof.Rows L2
section
variable {P : Program} {w : World} {K : PySem.W.Frag} {mg : Str → Option Value} {base : Heap} {C : Addr}
/-! ### remove_run -/
def spRem (C : Addr) : Sp := fun vs H Q _ => ∃ (p tl rd tr : Addr) (s : Sw75.Plan) (m a b : Nat), vs = [.ref p, nV a, nV b] ∧ PlanAt C H p tl rd tr s m ∧ m ≤ 100 ∧ Goes C (.empty_ a b none) p tl rd tr s m H Q
theorem sc_rem : FnScope ["self", "source", "target", "refusal"] ["self", "source", "target"] (defScope s_remove_run) := ⟨rfl, rfl, rfl, by decide +kernel, rfl, by decide +kernel, by decide +kernel⟩
theorem ok_rem {f : Addr} {fd : FuncData} (F : Fun K "remove_run" "Plan.remove_run" s_remove_run f fd) (T : Txt K mg C) (F_run_refusal : MethAt P w K mg base C "run_refusal" 2 ["self", "source", "target"] (spRef C)) :
    FnOk P w K mg base CX0 3 f fd ["self", "source", "target"] (spRem C) := by
  refine F.ok sc_rem (fun vs H Q E h => ?_) (fun cdv A outer s H vs Q E hr h => ?_)
  · obtain ⟨p, tl, rd, tr, s, m, a, b, rfl, _⟩ := h
    rfl
  · obtain ⟨p, tl, rd, tr, s, m, a, b, rfl, PA, hm, k⟩ := h
    have hu := hu_of hr
    have S := sc_rem
    obtain ⟨⟨dx, h1⟩, h2, ⟨kvs, h3, h3r, h3m⟩, ⟨as, h4, h4t⟩, hne, sh⟩ := id PA
    refine ⟨_, (pss_cons (ps_set (i := 3) S.nd rfl (Or.inl rfl) (pmeth (pv 0) T.cl F_run_refusal hr (pa_cons (pv 1) (pa_cons (pv 2) pa_nil))))
      (pss_cons (ps_if (pt_cmpR op_lt (pv 3) pe_int (nomark _)) (pss_one (ps_ret (pv 3))) pss_nil)
      (pss_cons (ps_if (pt_cmp (pc_din hu (pe_tup (pa_cons (pv 1) (pa_cons (pv 2) pa_nil))) (pe_fld (pv 0) rfl))) (pss_one (ps_expr (pe_dpopT hu (pe_fld (pv 0) rfl) (pe_tup (pa_cons (pv 1) (pa_cons (pv 2) pa_nil)))))) pss_nil)
      (pss_one (ps_ret pe_int))))), ?_⟩
    refine ⟨_, rfl, p, dx, _, rfl, h1, f_none _ _ _ (by decide +kernel) (by decide +kernel) (by decide +kernel), _, rfl, _, rfl, p, tl, rd, tr, s, m, a, b, rfl, PA, ?_⟩
    refine ⟨_, rfl, _, _, rfl, rfl, _, rfl, ?_⟩
    refine ite2 (fun ha => ?_) (fun ha => ?_)
    · refine ⟨_, rfl, ?_⟩
      refine k.same PA ?_
      have hlt := of_decide_eq_true ha
      unfold refusal at hlt ⊢
      show (if s.stops ≤ a ∨ s.stops ≤ b then (s, Sw75.ok (-2)) else _) = _
      by_cases q : s.stops ≤ a ∨ s.stops ≤ b
      · rw [if_pos q, if_pos q]
      · rw [if_neg q, if_neg q]
        rw [if_neg q] at hlt
        by_cases q2 : a = b
        · rw [if_pos (Or.inl q2), if_pos q2]
        · rw [if_neg q2] at hlt
          exact absurd hlt (by decide)
    · have hge : ¬ refusal s a b < 0 := fun z => ha (decide_eq_true z)
      unfold refusal at hge
      have q1 : ¬ (s.stops ≤ a ∨ s.stops ≤ b) := fun q => by rw [if_pos q] at hge; exact hge (by decide)
      rw [if_neg q1] at hge
      have q2 : ¬ a = b := fun q => by rw [if_pos q] at hge; exact hge (by decide)
      have ea : a < s.turns.length := by unfold Sw75.Plan.stops at q1; omega
      have eb : b < s.turns.length := by unfold Sw75.Plan.stops at q1; omega
      have es : Sw75.step s (.empty_ a b none) = (withRun s a b none, Sw75.ok 0) := by
        show (if s.stops ≤ a ∨ s.stops ≤ b then (s, Sw75.ok (-2)) else _) = _
        rw [if_neg q1, if_neg (by
          intro z
          rcases z with z | z
          · exact q2 z
          · cases z)]
        rfl
      have npr : p ≠ rd := ne_of h1 h3 (by intro z; cases z)
      have ntr : tl ≠ rd := ne_of h2 h3 (by intro z; cases z)
      have nsr : tr ≠ rd := ne_of h4 h3 (by intro z; cases z)
      refine ⟨_, rfl, _, rfl, (by show 2 ≤ sizeLine; decide), fun q nq => ?_⟩
      have npq : p ≠ q := ne_of_none h1 nq
      have nrq : rd ≠ q := ne_of_none h3 nq
      have ntq : tl ≠ q := ne_of_none h2 nq
      have nsq : tr ≠ q := ne_of_none h4 nq
      have g1 : (upd H q (.tup [nV a, nV b])) p = some (.ins C dx (flds tl rd tr)) := by rw [upd_ne npq]; exact h1
      have g3 : (upd H q (.tup [nV a, nV b])) rd = some (.dT kvs) := by rw [upd_ne nrq]; exact h3
      refine ⟨_, rfl, _, _, _, _, _, rfl, g1, T.cl, T.nR, f_runs _ _ _, rd, _, rfl, DGet.t (k := key2 a b) g3 upd_same, _, rfl, ?_⟩
      cases e : valV kvs (key2 a b) with
      | none =>
        refine iteF ?_
        have kk := k (upd H q (.tup [nV a, nV b])) tl rd tr
        rw [es] at kk
        refine kk ⟨⟨dx, g1⟩, by rw [upd_ne ntq]; exact h2, ⟨kvs, g3, fun c d => ?_, by omega⟩, ⟨as, by rw [upd_ne nsq]; exact h4, h4t.keep fun b ys e => ?_⟩, hne, shape_with sh ea eb (fun n' e => by cases e)⟩ ⟨fun b o e nb => ?_, fun b hb => .inl hb⟩
        · rw [runOf_with sh ea eb]
          by_cases z : c = a ∧ d = b
          · rw [if_pos z, z.1, z.2, e]; rfl
          · rw [if_neg z]; exact h3r c d
        · rw [upd_ne (ne_of_none e nq)]; exact e
        · rw [upd_ne (ne_of_none e nq)]; exact e
      | some v =>
        refine iteT ?_
        refine ⟨_, rfl, _, _, _, _, _, rfl, g1, T.cl, T.nR, f_runs _ _ _, rd, rfl, .inr ⟨_, .of g3⟩, _, rfl, _, rfl, (by show 2 ≤ sizeLine; decide), fun r nr => ?_⟩
        obtain ⟨nrq2, nr0⟩ := upd_none nr
        have g3' : (upd (upd H q (.tup [nV a, nV b])) r (.tup [nV a, nV b])) rd = some (.dT kvs) := by rw [upd_ne (ne_of_none h3 nr0)]; exact g3
        refine ⟨r, kvs, key2 a b, v, rfl, g3', upd_same, e, ?_⟩
        have kk := k (upd (upd (upd H q (.tup [nV a, nV b])) r (.tup [nV a, nV b])) rd (.dT (dropK kvs (key2 a b)))) tl rd tr
        rw [es] at kk
        refine kk ⟨⟨dx, by rw [upd_ne npr, upd_ne (ne_of_none h1 nr0)]; exact g1⟩, by rw [upd_ne ntr, upd_ne (ne_of_none h2 nr0), upd_ne ntq]; exact h2, ⟨_, upd_same, fun c d => ?_, Nat.le_trans (dropK_le _ _) (by omega)⟩,
          ⟨as, by rw [upd_ne nsr, upd_ne (ne_of_none h4 nr0), upd_ne nsq]; exact h4, h4t.keep fun b ys e => ?_⟩, hne, shape_with sh ea eb (fun n' e => by cases e)⟩ ⟨fun b o e nb => ?_, fun b hb => .inl hb⟩
        · rw [valV_drop, runOf_with sh ea eb]
          by_cases z : c = a ∧ d = b
          · rw [if_pos (key2_inj.mpr z), if_pos z]; rfl
          · rw [if_neg (fun y => z (key2_inj.mp y)), if_neg z]; exact h3r c d
        · rw [upd_ne (ne_of e h3 (by intro z; cases z)), upd_ne (ne_of_none e nr0), upd_ne (ne_of_none e nq)]; exact e
        · rw [upd_ne (fun z => nb (by rw [z]; simp)), upd_ne (ne_of_none e nr0), upd_ne (ne_of_none e nq)]; exact e
/-! ### add_trip -/
def spAdd (C : Addr) : Sp := fun vs H Q _ => ∃ (p tl rd tr : Addr) (s : Sw75.Plan) (m a b c d : Nat), vs = [.ref p, nV a, nV b, nV c, nV d] ∧ PlanAt C H p tl rd tr s m ∧ Goes C (.trip ⟨a, b, c, d⟩) p tl rd tr s m H Q
theorem sc_add : FnScope ["self", "source", "target", "first", "last"] ["self", "source", "target", "first", "last"] (defScope s_add_trip) := ⟨rfl, rfl, rfl, by decide +kernel, rfl, by decide +kernel, by decide +kernel⟩
theorem ok_add {f : Addr} {fd : FuncData} (F : Fun K "add_trip" "Plan.add_trip" s_add_trip f fd) (T : Txt K mg C) (F_has_stops : MethAt P w K mg base C "has_stops" 1 ["self", "source", "target"] (spHas C)) :
    FnOk P w K mg base CX0 2 f fd ["self", "source", "target", "first", "last"] (spAdd C) := by
  refine F.ok sc_add (fun vs H Q E h => ?_) (fun cdv A outer s H vs Q E hr h => ?_)
  · obtain ⟨p, tl, rd, tr, s, m, a, b, c, d, rfl, _⟩ := h
    rfl
  · obtain ⟨p, tl, rd, tr, s, m, a, b, c, d, rfl, PA, k⟩ := h
    obtain ⟨⟨dx, h1⟩, h2, ⟨kvs, h3, h3r, h3m⟩, ⟨as, h4, h4t⟩, hne, sh⟩ := id PA
    refine ⟨_, (pss_cons (ps_if (pt_not (pt_val (pmeth (pv 0) T.cl F_has_stops hr (pa_cons (pv 1) (pa_cons (pv 2) pa_nil))))) (pss_one (ps_ret (pg_int T.c_NO_SUCH))) pss_nil)
      (pss_cons (ps_if ((pw_or (pt_cmpR op_le (pv 4) (pv 3) (nomark _)) (pw_or1 (pt_cmpR op_gt (pv 4) (pg_int T.c_LAST_MINUTE) (nomark _))))).pt (pss_one (ps_ret (pg_int T.c_OUT_OF_BOUNDS))) pss_nil)
      (pss_cons (ps_if (pt_cmpR op_ge (pe_callB call_len_seq (by rfl) T.b_len PySem.boot_len (pa_cons (pe_fld (pv 0) rfl) pa_nil)) (pg_int T.c_MOST_TRIPS) (nomark _)) (pss_one (ps_ret (pg_int T.c_FULL))) pss_nil)
      (pss_cons (ps_expr (pe_bm PySem.F.plainAttrs_list PySem.F.slot_list_append PySem.F.type_list_append mt_append (pe_fld (pv 0) rfl) (pa_cons (pe_tup (pa_cons (pv 1) (pa_cons (pv 2) (pa_cons (pv 3) (pa_cons (pv 4) pa_nil))))) pa_nil)))
      (pss_one (ps_ret (pe_op op_sub (pe_callB call_len_seq (by rfl) T.b_len PySem.boot_len (pa_cons (pe_fld (pv 0) rfl) pa_nil)) pe_int))))))), ?_⟩
    refine ⟨_, rfl, p, dx, _, rfl, h1, f_none _ _ _ (by decide +kernel) (by decide +kernel) (by decide +kernel), _, rfl, _, rfl, p, tl, rd, tr, s, m, a, b, rfl, PA, _, rfl, ?_⟩
    refine ite2 (fun ha => ?_) (fun ha => ?_)
    · have q : s.stops ≤ a ∨ s.stops ≤ b := by simp at ha; omega
      exact k.same PA (by show (if s.stops ≤ a ∨ s.stops ≤ b then (s, Sw75.ok (-2)) else _) = _; rw [if_pos q])
    · have q1 : ¬ (s.stops ≤ a ∨ s.stops ≤ b) := by simp at ha; omega
      have no1 : d ≤ c ∨ 10000 < d → Q (.int (-1)) H := fun q => k.same PA (by
        show (if s.stops ≤ a ∨ s.stops ≤ b then (s, Sw75.ok (-2)) else if d ≤ c ∨ 10000 < d then (s, Sw75.ok (-1)) else _) = _
        rw [if_neg q1, if_pos q])
      refine ⟨_, rfl, _, rfl, _, _, rfl, rfl, _, rfl, ?_⟩
      refine ite2 (fun hb => ?_) (fun hb => ?_)
      · exact iteT (no1 (.inl (by have := of_decide_eq_true hb; omega)))
      · have hb' : ¬ d ≤ c := fun z => hb (decide_eq_true (by omega))
        refine ⟨_, rfl, _, _, rfl, rfl, _, rfl, ?_⟩
        refine ite2 (fun hc => ?_) (fun hc => ?_)
        · exact no1 (.inr (by have := of_decide_eq_true hc; omega))
        · have hc' : ¬ 10000 < d := fun z => hc (decide_eq_true (by omega))
          have q2 : ¬ (d ≤ c ∨ 10000 < d) := by omega
          refine ⟨_, rfl, _, _, _, _, _, rfl, h1, T.cl, T.nP, f_trips _ _ _, _, _, rfl, .inl (SqL.of h4), _, _, rfl, rfl, _, rfl, ?_⟩
          have el : (as.map V.ref).length = s.trips.length := by rw [List.length_map, h4t.len]
          rw [el]
          refine ite2 (fun hd => ?_) (fun hd => ?_)
          · have q3 : 10 ≤ s.trips.length := by have := of_decide_eq_true hd; omega
            refine k.same PA ?_
            show (if s.stops ≤ a ∨ s.stops ≤ b then (s, Sw75.ok (-2)) else if d ≤ c ∨ 10000 < d then (s, Sw75.ok (-1)) else if 10 ≤ s.trips.length then (s, Sw75.ok (-5)) else _) = _
            rw [if_neg q1, if_neg q2, if_pos q3]
          · have q3 : ¬ 10 ≤ s.trips.length := fun z => hd (decide_eq_true (by omega))
            refine ⟨_, rfl, _, _, _, _, _, rfl, h1, T.cl, T.nP, f_trips _ _ _, .inl ⟨rfl, _, SqL.of h4⟩, _, rfl, _, rfl, _, rfl, _, rfl, (by show 4 ≤ sizeLine; decide), fun q nq => ?_⟩
            have npq : p ≠ q := ne_of_none h1 nq
            have nrq : rd ≠ q := ne_of_none h3 nq
            have ntq : tl ≠ q := ne_of_none h2 nq
            have nsq : tr ≠ q := ne_of_none h4 nq
            have npr : p ≠ tr := ne_of h1 h4 (by intro z; cases z)
            have nrr : rd ≠ tr := ne_of h3 h4 (by intro z; cases z)
            refine ⟨tr, _, _, rfl, rfl, by rw [upd_ne nsq]; exact h4, small1000 (by omega), ?_⟩
            have g1 : (upd (upd H q (.tup (tripV ⟨a, b, c, d⟩))) tr (.lst (as.map V.ref ++ [V.ref q]))) p = some (.ins C dx (flds tl rd tr)) := by rw [upd_ne npr, upd_ne npq]; exact h1
            refine ⟨_, rfl, _, _, _, _, _, rfl, g1, T.cl, T.nP, f_trips _ _ _, _, _, rfl, .inl (SqL.of upd_same), _, _, rfl, rfl, ?_⟩
            have es : Sw75.step s (.trip ⟨a, b, c, d⟩) = ({ s with trips := s.trips ++ [⟨a, b, c, d⟩] }, Sw75.ok (s.trips.length : Nat)) := by
              show (if s.stops ≤ a ∨ s.stops ≤ b then (s, Sw75.ok (-2)) else if d ≤ c ∨ 10000 < d then (s, Sw75.ok (-1)) else if 10 ≤ s.trips.length then (s, Sw75.ok (-5)) else _) = _
              rw [if_neg q1, if_neg q2, if_neg q3]
            have kk := k (upd (upd H q (.tup (tripV ⟨a, b, c, d⟩))) tr (.lst (as.map V.ref ++ [V.ref q]))) tl rd tr
            rw [es] at kk
            have ev : (((as.map V.ref ++ [V.ref q]).length : Int) - 1) = ((s.trips.length : Nat) : Int) := by rw [List.length_append, el]; simp
            have kk2 := kk ⟨⟨dx, g1⟩, by rw [upd_ne hne, upd_ne ntq]; exact h2, ⟨kvs, by rw [upd_ne nrr, upd_ne nrq]; exact h3, h3r, by omega⟩,
              ⟨as ++ [q], by rw [upd_same, List.map_append]; rfl, TripsAt.snoc (by rw [upd_ne nsq.symm, upd_same]) (h4t.keep fun b ys e => ?_)⟩, hne, ?_⟩ ⟨fun b o e nb => ?_, fun b hb => .inl hb⟩
            · show Q (V.int (((as.map V.ref ++ [V.ref q]).length : Int) - 1)) _
              rw [ev]
              exact kk2
            · rw [upd_ne (ne_of e h4 (by intro z; cases z)), upd_ne (ne_of_none e nq)]; exact e
            · refine ⟨sh.st, sh.tu, sh.rl, sh.rr, sh.rm, ?_, fun x hx => ?_⟩
              · show (s.trips ++ [_]).length ≤ 10
                rw [List.length_append]
                show s.trips.length + 1 ≤ 10
                omega
              · rcases List.mem_append.mp (show x ∈ s.trips ++ [_] from hx) with hx | hx
                · exact sh.tr x hx
                · rw [List.mem_singleton] at hx
                  subst hx
                  unfold Sw75.Plan.stops at q1
                  show a < s.turns.length ∧ b < s.turns.length ∧ c < d ∧ d ≤ 10000
                  omega
            · rw [upd_ne (fun z => nb (by rw [z]; simp)), upd_ne (ne_of_none e nq)]; exact e
/-! ### drop_trip -/
def spDrop (C : Addr) : Sp := fun vs H Q _ => ∃ (p tl rd tr : Addr) (s : Sw75.Plan) (m j : Nat), vs = [.ref p, nV j] ∧ PlanAt C H p tl rd tr s m ∧ j ≤ 4294967295 ∧ Goes C (.drop j) p tl rd tr s m H Q
theorem sc_drop : FnScope ["self", "k"] ["self", "k"] (defScope s_drop_trip) := ⟨rfl, rfl, rfl, by decide +kernel, rfl, by decide +kernel, by decide +kernel⟩
theorem ok_drop {f : Addr} {fd : FuncData} (F : Fun K "drop_trip" "Plan.drop_trip" s_drop_trip f fd) (T : Txt K mg C) (F_has_trip : MethAt P w K mg base C "has_trip" 1 ["self", "k"] (spHasT C)) : FnOk P w K mg base CX0 2 f fd ["self", "k"] (spDrop C) := by
  refine F.ok sc_drop (fun vs H Q E h => ?_) (fun cdv A outer s H vs Q E hr h => ?_)
  · obtain ⟨p, tl, rd, tr, s, m, j, rfl, _⟩ := h
    rfl
  · obtain ⟨p, tl, rd, tr, s, m, j, rfl, PA, hj, k⟩ := h
    obtain ⟨⟨dx, h1⟩, h2, ⟨kvs, h3, h3r, h3m⟩, ⟨as, h4, h4t⟩, hne, sh⟩ := id PA
    refine ⟨_, (pss_cons (ps_if (pt_not (pt_val (pmeth (pv 0) T.cl F_has_trip hr (pa_cons (pv 1) pa_nil)))) (pss_one (ps_ret (pg_int T.c_NO_SUCH))) pss_nil)
      (pss_cons (ps_expr (pe_bm PySem.F.plainAttrs_list PySem.F.slot_list_pop PySem.F.type_list_pop mt_popAt (pe_fld (pv 0) rfl) (pa_cons (pv 1) pa_nil)))
      (pss_one (ps_ret pe_int)))), ?_⟩
    have el : (as.map V.ref).length = s.trips.length := by rw [List.length_map, h4t.len]
    refine ⟨_, rfl, p, dx, _, rfl, h1, f_none _ _ _ (by decide +kernel) (by decide +kernel) (by decide +kernel), _, rfl, p, tl, rd, tr, s, m, j, rfl, PA, _, rfl, ?_⟩
    refine ite2 (fun ha => ?_) (fun ha => ?_)
    · have q : s.trips.length ≤ j := by simp at ha; omega
      exact k.same PA (by show (if s.trips.length ≤ j then (s, Sw75.ok (-2)) else _) = _; rw [if_pos q])
    · have q : ¬ s.trips.length ≤ j := by simp at ha; omega
      have hlt : j < (as.map V.ref).length := by rw [el]; omega
      refine ⟨_, rfl, _, _, _, _, _, rfl, h1, T.cl, T.nP, f_trips _ _ _, .inl ⟨rfl, _, SqL.of h4⟩, _, rfl, tr, _, _, j, _, rfl, rfl, h4, by omega, by omega, (ixN_seq (by unfold ixN; rw [if_pos (by omega), if_pos (by omega)]; exact congrArg some (by omega))).1, List.getElem?_eq_getElem hlt, ?_⟩
      have npr : p ≠ tr := ne_of h1 h4 (by intro z; cases z)
      have nrr : rd ≠ tr := ne_of h3 h4 (by intro z; cases z)
      have es : Sw75.step s (.drop j) = (s.without j, Sw75.ok 0) := by show (if s.trips.length ≤ j then (s, Sw75.ok (-2)) else _) = _; rw [if_neg q]
      have kk := k (upd H tr (.lst ((as.map V.ref).eraseIdx j))) tl rd tr
      rw [es] at kk
      refine kk ⟨⟨dx, by rw [upd_ne npr]; exact h1⟩, by rw [upd_ne hne]; exact h2, ⟨kvs, by rw [upd_ne nrr]; exact h3, h3r, by omega⟩, ⟨as.eraseIdx j, by rw [upd_same, TuPop.map_erase], (h4t.erase j).keep fun b ys e => ?_⟩, hne, ?_⟩ ⟨fun b o e nb => ?_, fun b hb => .inl hb⟩
      · rw [upd_ne (ne_of e h4 (by intro z; cases z))]; exact e
      · refine ⟨sh.st, sh.tu, sh.rl, sh.rr, sh.rm, Nat.le_trans (len_erase _ _) sh.tl, fun x hx => sh.tr x (List.mem_of_mem_eraseIdx hx)⟩
      · rw [upd_ne (fun z => nb (by rw [z]; simp))]; exact e
/-! ### begin -/
def spBegin (C : Addr) : Sp := fun vs H Q _ => ∃ (p tl rd tr : Addr) (s : Sw75.Plan) (m : Nat) (a : Addr) (ts : List Nat), vs = [.ref p, .ref a] ∧ PlanAt C H p tl rd tr s m ∧ H a = some (.lst (nVs ts)) ∧ Goes C (.begins ts) p tl rd tr s m H Q
theorem nVs_int (ts : List Nat) : nVs ts = (ts.map fun (n : Nat) => (n : Int)).map V.int := by
  unfold nVs
  rw [List.map_map]
  rfl
theorem begin_none {ts : List Nat} {c d : Nat} : runOf ⟨ts, ts.map fun _ => ts.map fun _ => none, []⟩ c d = none := by
  unfold runOf
  simp only [List.getD_eq_getElem?_getD, List.getElem?_map]
  cases e : ts[c]? with
  | none => simp
  | some x =>
    simp only [Option.map_some, Option.getD_some, List.getElem?_map]
    cases e2 : ts[d]? with
    | none => rfl
    | some y => rfl
theorem begin_shape {ts : List Nat} (hl : ts.length ≤ 10) (hk : ∀ n ∈ ts, n ≤ 1440) : Shape ⟨ts, ts.map fun _ => ts.map fun _ => none, []⟩ where
  st := hl
  tu := hk
  rl := List.length_map ..
  rr := fun r hr => by
    obtain ⟨_, _, rfl⟩ := List.mem_map.mp hr
    exact List.length_map ..
  rm := fun a b n h => by rw [begin_none] at h; cases h
  tl := Nat.zero_le _
  tr := fun _ h => nomatch h
theorem sc_begin : FnScope ["self", "turns"] ["self", "turns"] (defScope s_begin) := ⟨rfl, rfl, rfl, by decide +kernel, rfl, by decide +kernel, by decide +kernel⟩
theorem ok_begin {f : Addr} {fd : FuncData} (F : Fun K "begin" "Plan.begin" s_begin f fd) (T : Txt K mg C) : FnOk P w K mg base CX0 1 f fd ["self", "turns"] (spBegin C) := by
  refine F.ok sc_begin (fun vs H Q E h => ?_) (fun cdv A outer s H vs Q E hr h => ?_)
  · obtain ⟨p, tl, rd, tr, s, m, a, ts, rfl, _⟩ := h
    rfl
  · obtain ⟨p, tl, rd, tr, s, m, a, ts, rfl, PA, ha, k⟩ := h
    obtain ⟨⟨dx, h1⟩, h2, ⟨kvs, h3, h3r, h3m⟩, ⟨as, h4, h4t⟩, hne, sh⟩ := id PA
    refine ⟨_, (pss_cons (ps_if ((pw_or (pt_cmpR op_gt (pe_callB call_len_seq (by rfl) T.b_len PySem.boot_len (pa_cons (pv 1) pa_nil)) (pg_int T.c_MOST_STOPS) (nomark _)) (pw_or1 (pt_cmpR op_gt (pe_callBK cr_maxD (by rfl) T.b_max PyProof.Rows.boot_max (pa_cons (pv 1) pa_nil) (pk_cons pe_int pk_nil)) (pg_int T.c_LONGEST) (nomark _))))).pt (pss_one (ps_ret (pg_int T.c_OUT_OF_BOUNDS))) pss_nil)
      (pss_cons (ps_fld (pv 0) (pe_callTy call_list_of (by rfl) T.b_list b_list (pa_cons (pv 1) pa_nil)) rfl)
      (pss_cons (ps_fld (pv 0) pe_dnewT rfl)
      (pss_cons (ps_fld (pv 0) (pe_lst pa_nil) rfl)
      (pss_one (ps_ret (pe_callB call_len_seq (by rfl) T.b_len PySem.boot_len (pa_cons (pe_fld (pv 0) rfl) pa_nil)))))))), ?_⟩
    have no : (decide (ts.length ≤ 10) && ts.all fun n => decide (n ≤ 1440)) = false → Q (.int (-1)) H := fun q => k.same PA (by
      show (if (decide (ts.length ≤ 10) && ts.all fun n => decide (n ≤ 1440)) = false then (s, Sw75.ok (-1)) else _) = _
      rw [if_pos q])
    refine ⟨_, rfl, _, _, rfl, .inl (SqL.of ha), _, _, rfl, rfl, _, rfl, ?_⟩
    rw [nVs_len]
    refine ite2 (fun hb => ?_) (fun hb => ?_)
    · refine iteT (no ?_)
      have : ¬ ts.length ≤ 10 := by have := of_decide_eq_true hb; omega
      rw [decide_eq_false this, Bool.false_and]
    · have hl : ts.length ≤ 10 := by
        have : ¬ (10 : Int) < (ts.length : Int) := fun z => hb (decide_eq_true z)
        omega
      have es : (∀ n ∈ ts, n ≤ 1440) → Sw75.step s (.begins ts) = (⟨ts, ts.map fun _ => ts.map fun _ => none, []⟩, Sw75.ok (ts.length : Nat)) := fun q => by
        show (if (decide (ts.length ≤ 10) && ts.all fun n => decide (n ≤ 1440)) = false then (s, Sw75.ok (-1)) else _) = _
        rw [if_neg]
        have q2 : (ts.all fun n => decide (n ≤ 1440)) = true := List.all_eq_true.mpr fun n hn => decide_eq_true (q n hn)
        rw [q2, decide_eq_true hl]
        decide
      have ns : ¬ (∀ n ∈ ts, n ≤ 1440) → (decide (ts.length ≤ 10) && ts.all fun n => decide (n ≤ 1440)) = false := fun q => by
        have q2 : (ts.all fun n => decide (n ≤ 1440)) = false := by
          rw [Bool.eq_false_iff]
          intro z
          exact q fun n hn => of_decide_eq_true (List.all_eq_true.mp z n hn)
        rw [q2, Bool.and_false]
      refine ⟨_, rfl, a, ts.map (fun (n : Nat) => (n : Int)), _, rfl, rfl, by rw [← nVs_int]; exact SqL.of ha, fun e => ?_, fun M hM hall => ?_⟩
      · have hk : ∀ n ∈ ts, n ≤ 1440 := by rw [List.map_eq_nil_iff.mp e]; exact fun _ h => nomatch h
        refine ⟨_, _, rfl, rfl, _, rfl, iteF ?_⟩
        have kk := (show ∀ (H' : Hp) (tl' rd' tr' : Addr), PlanAt C H' p tl' rd' tr' (Sw75.step s (.begins ts)).1 (m + 1) → Frame H H' [p, tl, rd, tr] [p, tl', rd', tr'] → Q (.int (Sw75.step s (.begins ts)).2.v) H' from k)
        rw [es hk] at kk
        refine ⟨_, rfl, a, _, rfl, .inl (SqL.of ha), fun q1 n1 => ?_⟩
        have np1 : p ≠ q1 := ne_of_none h1 n1
        refine ⟨_, rfl, p, C, dx, _, rfl, (by rw [upd_ne np1]; exact h1), T.cl, T.nT, f_len _ _ _, ?_⟩
        rw [p_turns]
        intro q2 n2
        obtain ⟨n2p, n2'⟩ := upd_none n2
        obtain ⟨n21, n20⟩ := upd_none n2'
        refine ⟨_, rfl, p, C, dx, _, rfl, (by rw [upd_ne n2p.symm]; exact upd_same), T.cl, T.nR, f_len _ _ _, ?_⟩
        rw [p_runs]
        refine ⟨Nat.zero_le _, fun q3 n3 => ?_⟩
        obtain ⟨n3p, n3'⟩ := upd_none n3
        obtain ⟨n32, n3'⟩ := upd_none n3'
        obtain ⟨_, n3'⟩ := upd_none n3'
        obtain ⟨n31, n30⟩ := upd_none n3'
        refine ⟨_, rfl, p, C, dx, _, rfl, (by rw [upd_ne n3p.symm]; exact upd_same), T.cl, T.nP, f_len _ _ _, ?_⟩
        rw [p_trips]
        have g1 : ∀ (H0 : Hp), (upd (upd (upd (upd (upd (upd H0 q1 (.lst (nVs ts))) p (.ins C dx (flds q1 rd tr))) q2 (.dT [])) p (.ins C dx (flds q1 q2 tr))) q3 (.lst [])) p (.ins C dx (flds q1 q2 q3))) q1 = some (.lst (nVs ts)) := fun H0 => by
          rw [upd_ne np1.symm, upd_ne n31.symm, upd_ne np1.symm, upd_ne n21.symm, upd_ne np1.symm, upd_same]
        refine ⟨_, rfl, _, _, _, _, _, rfl, upd_same, T.cl, T.nT, f_turns _ _ _, _, _, rfl, .inl (SqL.of (g1 H)), ?_⟩
        have ev : ((nVs ts).length : Int) = ((ts.length : Nat) : Int) := by rw [nVs_len]
        show Q (V.int ((nVs ts).length : Int)) _
        rw [ev]
        refine kk _ q1 q2 q3 ⟨⟨dx, upd_same⟩, g1 H, ⟨[], ?_, fun c d => ?_, Nat.zero_le _⟩, ⟨[], ?_, trivial⟩, n31.symm, begin_shape hl hk⟩ ⟨fun b o hb nb => ?_, fun b hb => ?_⟩
        · rw [upd_ne n2p, upd_ne n32.symm, upd_ne n2p, upd_same]
        · rw [begin_none]; rfl
        · rw [upd_ne n3p, upd_same]; rfl
        · have nbp : b ≠ p := fun z => nb (by rw [z]; simp)
          rw [upd_ne nbp, upd_ne (ne_of_none hb n30), upd_ne nbp, upd_ne (ne_of_none hb n20), upd_ne nbp, upd_ne (ne_of_none hb n1)]
          exact hb
        · simp only [List.mem_cons, List.not_mem_nil, or_false] at hb
          rcases hb with rfl | rfl | rfl | rfl
          · exact .inl (by simp)
          · exact .inr n1
          · exact .inr n20
          · exact .inr n30
      · have hk : M ≤ 1440 ↔ ∀ n ∈ ts, n ≤ 1440 := by
          obtain ⟨n0, hn0, rfl⟩ := List.mem_map.mp hM
          constructor
          · intro z n hn
            have := hall (n : Int) (List.mem_map.mpr ⟨n, hn, rfl⟩)
            omega
          · intro z
            have := z n0 hn0
            omega
        refine ⟨_, _, rfl, rfl, _, rfl, ?_⟩
        refine ite2 (fun hc => ?_) (fun hc => ?_)
        · refine no (ns fun z => ?_)
          have := hk.mpr z
          have := of_decide_eq_true hc
          omega
        · have hk' := hk.mp (by
            have : ¬ (1440 : Int) < M := fun z => hc (decide_eq_true z)
            omega)
          have kk := (show ∀ (H' : Hp) (tl' rd' tr' : Addr), PlanAt C H' p tl' rd' tr' (Sw75.step s (.begins ts)).1 (m + 1) → Frame H H' [p, tl, rd, tr] [p, tl', rd', tr'] → Q (.int (Sw75.step s (.begins ts)).2.v) H' from k)
          rw [es hk'] at kk
          refine ⟨_, rfl, a, _, rfl, .inl (SqL.of ha), fun q1 n1 => ?_⟩
          have np1 : p ≠ q1 := ne_of_none h1 n1
          refine ⟨_, rfl, p, C, dx, _, rfl, (by rw [upd_ne np1]; exact h1), T.cl, T.nT, f_len _ _ _, ?_⟩
          rw [p_turns]
          intro q2 n2
          obtain ⟨n2p, n2'⟩ := upd_none n2
          obtain ⟨n21, n20⟩ := upd_none n2'
          refine ⟨_, rfl, p, C, dx, _, rfl, (by rw [upd_ne n2p.symm]; exact upd_same), T.cl, T.nR, f_len _ _ _, ?_⟩
          rw [p_runs]
          refine ⟨Nat.zero_le _, fun q3 n3 => ?_⟩
          obtain ⟨n3p, n3'⟩ := upd_none n3
          obtain ⟨n32, n3'⟩ := upd_none n3'
          obtain ⟨_, n3'⟩ := upd_none n3'
          obtain ⟨n31, n30⟩ := upd_none n3'
          refine ⟨_, rfl, p, C, dx, _, rfl, (by rw [upd_ne n3p.symm]; exact upd_same), T.cl, T.nP, f_len _ _ _, ?_⟩
          rw [p_trips]
          have g1 : ∀ (H0 : Hp), (upd (upd (upd (upd (upd (upd H0 q1 (.lst (nVs ts))) p (.ins C dx (flds q1 rd tr))) q2 (.dT [])) p (.ins C dx (flds q1 q2 tr))) q3 (.lst [])) p (.ins C dx (flds q1 q2 q3))) q1 = some (.lst (nVs ts)) := fun H0 => by
            rw [upd_ne np1.symm, upd_ne n31.symm, upd_ne np1.symm, upd_ne n21.symm, upd_ne np1.symm, upd_same]
          refine ⟨_, rfl, _, _, _, _, _, rfl, upd_same, T.cl, T.nT, f_turns _ _ _, _, _, rfl, .inl (SqL.of (g1 H)), ?_⟩
          have ev : ((nVs ts).length : Int) = ((ts.length : Nat) : Int) := by rw [nVs_len]
          show Q (V.int ((nVs ts).length : Int)) _
          rw [ev]
          refine kk _ q1 q2 q3 ⟨⟨dx, upd_same⟩, g1 H, ⟨[], ?_, fun c d => ?_, Nat.zero_le _⟩, ⟨[], ?_, trivial⟩, n31.symm, begin_shape hl hk'⟩ ⟨fun b o hb nb => ?_, fun b hb => ?_⟩
          · rw [upd_ne n2p, upd_ne n32.symm, upd_ne n2p, upd_same]
          · rw [begin_none]; rfl
          · rw [upd_ne n3p, upd_same]; rfl
          · have nbp : b ≠ p := fun z => nb (by rw [z]; simp)
            rw [upd_ne nbp, upd_ne (ne_of_none hb n30), upd_ne nbp, upd_ne (ne_of_none hb n20), upd_ne nbp, upd_ne (ne_of_none hb n1)]
            exact hb
          · simp only [List.mem_cons, List.not_mem_nil, or_false] at hb
            rcases hb with rfl | rfl | rfl | rfl
            · exact .inl (by simp)
            · exact .inr n1
            · exact .inr n20
            · exact .inr n30
end
end Tu
end
section
/-! Data as trees of numbers, tuples, lists; what a heap has of them. -/
set_option Elab.async false
set_option linter.all false
set_option maxRecDepth 100000
namespace Tu
open PySem PySem.Spec PyProof.Rows L2

inductive D where
  | n (k : Nat) | tu (ds : List D) | li (ds : List D)
mutual
/-- v is this tree; none of its lists stands where av says -/
def Has (H : Hp) (av : Addr → Prop) : D → V → Prop
  | .n k, v => v = nV k
  | .tu ds, v => ∃ a vs, v = .ref a ∧ H a = some (.tup vs) ∧ HasL H av ds vs
  | .li ds, v => ∃ a vs, v = .ref a ∧ H a = some (.lst vs) ∧ ¬ av a ∧ HasL H av ds vs
def HasL (H : Hp) (av : Addr → Prop) : List D → List V → Prop
  | [], vs => vs = []
  | d :: ds, vs => ∃ v r, vs = v :: r ∧ Has H av d v ∧ HasL H av ds r
end
abbrev No : Addr → Prop := fun _ => False
/-- what stands already -/
def Old (H : Hp) : Addr → Prop := fun b => H b ≠ none
mutual
theorem Has.to {H H' : Hp} {av av' : Addr → Prop} (k1 : ∀ b ys, H b = some (.tup ys) → H' b = some (.tup ys)) (k2 : ∀ b ys, H b = some (.lst ys) → ¬ av b → H' b = some (.lst ys) ∧ ¬ av' b) : ∀ (d : D) (v : V), Has H av d v → Has H' av' d v
  | .n k, v, h => by unfold Has at h ⊢; exact h
  | .tu ds, v, h => by
    unfold Has at h ⊢
    obtain ⟨a, vs, e, h1, h2⟩ := h
    exact ⟨a, vs, e, k1 a vs h1, HasL.to k1 k2 ds vs h2⟩
  | .li ds, v, h => by
    unfold Has at h ⊢
    obtain ⟨a, vs, e, h1, h2, h3⟩ := h
    exact ⟨a, vs, e, (k2 a vs h1 h2).1, (k2 a vs h1 h2).2, HasL.to k1 k2 ds vs h3⟩
theorem HasL.to {H H' : Hp} {av av' : Addr → Prop} (k1 : ∀ b ys, H b = some (.tup ys) → H' b = some (.tup ys)) (k2 : ∀ b ys, H b = some (.lst ys) → ¬ av b → H' b = some (.lst ys) ∧ ¬ av' b) : ∀ (ds : List D) (vs : List V), HasL H av ds vs → HasL H' av' ds vs
  | [], vs, h => by unfold HasL at h ⊢; exact h
  | d :: ds, vs, h => by
    unfold HasL at h ⊢
    obtain ⟨v, r, e, h1, h2⟩ := h
    exact ⟨v, r, e, Has.to k1 k2 d v h1, HasL.to k1 k2 ds r h2⟩
end
section
variable {H H' : Hp} {av av' : Addr → Prop} {d : D} {v : V} {ds : List D} {vs : List V}
theorem Has.same (k : Same H H') (h : Has H av d v) : Has H' av d v := Has.to (fun b ys e => k b _ e) (fun b ys e n => ⟨k b _ e, n⟩) d v h
theorem HasL.same (k : Same H H') (h : HasL H av ds vs) : HasL H' av ds vs := HasL.to (fun b ys e => k b _ e) (fun b ys e n => ⟨k b _ e, n⟩) ds vs h
theorem Has.no (h : Has H av d v) : Has H No d v := Has.to (fun _ _ e => e) (fun _ _ e _ => ⟨e, fun q => q⟩) d v h
theorem HasL.no (h : HasL H av ds vs) : HasL H No ds vs := HasL.to (fun _ _ e => e) (fun _ _ e _ => ⟨e, fun q => q⟩) ds vs h
/-- lists that are elsewhere stay, whatever becomes of one -/
theorem Has.but {c : Addr} {o : HO} {xs : List V} (hc : H c = some (.lst xs)) (hav : av c) (h : Has H av d v) : Has (upd H c o) av d v :=
  Has.to (fun b ys e => by rw [upd_ne (ne_of e hc (by intro z; cases z))]; exact e) (fun b ys e n => ⟨by rw [upd_ne (show b ≠ c from fun z => n (by rw [z]; exact hav))]; exact e, n⟩) d v h
theorem HasL.but {c : Addr} {o : HO} {xs : List V} (hc : H c = some (.lst xs)) (hav : av c) (h : HasL H av ds vs) : HasL (upd H c o) av ds vs :=
  HasL.to (fun b ys e => by rw [upd_ne (ne_of e hc (by intro z; cases z))]; exact e) (fun b ys e n => ⟨by rw [upd_ne (show b ≠ c from fun z => n (by rw [z]; exact hav))]; exact e, n⟩) ds vs h
/-- a dict that is written is no list, no tuple -/
theorem Has.dict {c : Addr} {o : HO} {kvs : List (Key × V)} (hc : H c = some (.dK kvs)) (h : Has H av d v) : Has (upd H c o) av d v :=
  Has.to (fun b ys e => by rw [upd_ne (ne_of e hc (by intro z; cases z))]; exact e) (fun b ys e n => ⟨by rw [upd_ne (ne_of e hc (by intro z; cases z))]; exact e, n⟩) d v h
theorem HasL.dict {c : Addr} {o : HO} {kvs : List (Key × V)} (hc : H c = some (.dK kvs)) (h : HasL H av ds vs) : HasL (upd H c o) av ds vs :=
  HasL.to (fun b ys e => by rw [upd_ne (ne_of e hc (by intro z; cases z))]; exact e) (fun b ys e n => ⟨by rw [upd_ne (ne_of e hc (by intro z; cases z))]; exact e, n⟩) ds vs h
theorem HasL.nil : HasL H av [] [] := by unfold HasL; rfl
theorem HasL.cons (h : Has H av d v) (g : HasL H av ds vs) : HasL H av (d :: ds) (v :: vs) := by unfold HasL; exact ⟨v, vs, rfl, h, g⟩
theorem HasL.len : ∀ {ds : List D} {vs : List V}, HasL H av ds vs → vs.length = ds.length
  | [], vs, h => by unfold HasL at h; subst h; rfl
  | d :: ds, vs, h => by
    unfold HasL at h
    obtain ⟨v, r, rfl, _, h2⟩ := h
    rw [List.length_cons, List.length_cons, HasL.len h2]
theorem HasL.append : ∀ {ds ds' : List D} {vs vs' : List V}, HasL H av ds vs → HasL H av ds' vs' → HasL H av (ds ++ ds') (vs ++ vs')
  | [], ds', vs, vs', h, g => by unfold HasL at h; subst h; exact g
  | d :: ds, ds', vs, vs', h, g => by
    unfold HasL at h
    obtain ⟨v, r, rfl, h1, h2⟩ := h
    exact HasL.cons h1 (HasL.append h2 g)
theorem HasL.snoc (h : HasL H av ds vs) (g : Has H av d v) : HasL H av (ds ++ [d]) (vs ++ [v]) := h.append (HasL.cons g HasL.nil)
theorem HasL.get : ∀ {ds : List D} {vs : List V} {i : Nat} {v : V}, HasL H av ds vs → vs[i]? = some v → ∃ d, ds[i]? = some d ∧ Has H av d v
  | [], vs, i, v, h, e => by unfold HasL at h; subst h; simp at e
  | d :: ds, vs, i, v, h, e => by
    unfold HasL at h
    obtain ⟨w, r, rfl, h1, h2⟩ := h
    cases i with
    | zero => cases e; exact ⟨d, rfl, h1⟩
    | succ i => exact HasL.get (i := i) h2 e
theorem HasL.at : ∀ {ds : List D} {vs : List V} {i : Nat} {d : D}, HasL H av ds vs → ds[i]? = some d → ∃ v, vs[i]? = some v ∧ Has H av d v
  | [], vs, i, d, h, e => by simp at e
  | d0 :: ds, vs, i, d, h, e => by
    unfold HasL at h
    obtain ⟨w, r, rfl, h1, h2⟩ := h
    cases i with
    | zero => cases e; exact ⟨w, rfl, h1⟩
    | succ i => exact HasL.at (i := i) h2 e
theorem hasL_nums : ∀ {ns : List Nat} {vs : List V}, HasL H av (ns.map D.n) vs ↔ vs = nVs ns
  | [], vs => by unfold HasL; exact Iff.rfl
  | n :: ns, vs => by
    rw [List.map_cons]
    unfold HasL
    constructor
    · rintro ⟨v, r, rfl, h1, h2⟩
      unfold Has at h1
      rw [h1, hasL_nums.mp h2]
      rfl
    · intro h
      exact ⟨nV n, nVs ns, h, by unfold Has; rfl, hasL_nums.mpr rfl⟩
end
theorem Has.num {H : Hp} {av : Addr → Prop} {k : Nat} {v : V} (h : Has H av (.n k) v) : v = nV k := by unfold Has at h; exact h
theorem Has.mkN {H : Hp} {av : Addr → Prop} {k : Nat} : Has H av (.n k) (nV k) := by unfold Has; rfl
theorem Has.tuple {H : Hp} {av : Addr → Prop} {ds : List D} {v : V} (h : Has H av (.tu ds) v) : ∃ a vs, v = .ref a ∧ H a = some (.tup vs) ∧ HasL H av ds vs := by unfold Has at h; exact h
theorem Has.list {H : Hp} {av : Addr → Prop} {ds : List D} {v : V} (h : Has H av (.li ds) v) : ∃ a vs, v = .ref a ∧ H a = some (.lst vs) ∧ ¬ av a ∧ HasL H av ds vs := by unfold Has at h; exact h
theorem Has.mkT {H : Hp} {av : Addr → Prop} {ds : List D} {a : Addr} {vs : List V} (h : H a = some (.tup vs)) (g : HasL H av ds vs) : Has H av (.tu ds) (.ref a) := by unfold Has; exact ⟨a, vs, rfl, h, g⟩
theorem Has.mkL {H : Hp} {av : Addr → Prop} {ds : List D} {a : Addr} {vs : List V} (h : H a = some (.lst vs)) (n : ¬ av a) (g : HasL H av ds vs) : Has H av (.li ds) (.ref a) := by unfold Has; exact ⟨a, vs, rfl, h, n, g⟩
/-! ### the trees of this program -/
def numsD (l : List Nat) : D := .li (l.map D.n)
def tupN (l : List Nat) : D := .tu (l.map D.n)
def tripD (x : Sw75.Trip) : D := tupN [x.from_, x.to, x.start, x.halt_]
def pairD (p : Nat × Nat) : D := tupN [p.1, p.2]
def pairsD (l : List (Nat × Nat)) : D := .li (l.map pairD)
def bestD (b : Sw75.Best) : D := .tu [.n b.cost, .n b.many, tupN b.next]
theorem Has.nums {H : Hp} {av : Addr → Prop} {l : List Nat} {v : V} (h : Has H av (numsD l) v) : ∃ a, v = .ref a ∧ H a = some (.lst (nVs l)) ∧ ¬ av a := by
  obtain ⟨a, vs, e, h1, h2, h3⟩ := Has.list h
  rw [hasL_nums.mp h3] at h1
  exact ⟨a, e, h1, h2⟩
theorem Has.mkNums {H : Hp} {av : Addr → Prop} {l : List Nat} {a : Addr} (h : H a = some (.lst (nVs l))) (n : ¬ av a) : Has H av (numsD l) (.ref a) := Has.mkL h n (hasL_nums.mpr rfl)
theorem Has.tups {H : Hp} {av : Addr → Prop} {l : List Nat} {v : V} (h : Has H av (tupN l) v) : ∃ a, v = .ref a ∧ H a = some (.tup (nVs l)) := by
  obtain ⟨a, vs, e, h1, h3⟩ := Has.tuple h
  rw [hasL_nums.mp h3] at h1
  exact ⟨a, e, h1⟩
theorem Has.mkTup {H : Hp} {av : Addr → Prop} {l : List Nat} {a : Addr} (h : H a = some (.tup (nVs l))) : Has H av (tupN l) (.ref a) := Has.mkT h (hasL_nums.mpr rfl)
theorem Has.best {H : Hp} {av : Addr → Prop} {b : Sw75.Best} {v : V} (h : Has H av (bestD b) v) : ∃ a r, v = .ref a ∧ H a = some (.tup [nV b.cost, nV b.many, .ref r]) ∧ H r = some (.tup (nVs b.next)) := by
  obtain ⟨a, vs, e, h1, h3⟩ := Has.tuple h
  unfold HasL at h3
  obtain ⟨v1, r1, rfl, g1, h3⟩ := h3
  unfold HasL at h3
  obtain ⟨v2, r2, rfl, g2, h3⟩ := h3
  unfold HasL at h3
  obtain ⟨v3, r3, rfl, g3, h3⟩ := h3
  unfold HasL at h3
  subst h3
  obtain ⟨r, rfl, hr⟩ := g3.tups
  rw [g1.num, g2.num] at h1
  exact ⟨a, r, e, h1, hr⟩
theorem Has.mkBest {H : Hp} {av : Addr → Prop} {b : Sw75.Best} {a r : Addr} (h : H a = some (.tup [nV b.cost, nV b.many, .ref r])) (hr : H r = some (.tup (nVs b.next))) : Has H av (bestD b) (.ref a) :=
  Has.mkT h (HasL.cons Has.mkN (HasL.cons Has.mkN (HasL.cons (Has.mkTup hr) HasL.nil)))
/-- the trips of a plan -/
theorem TripsAt.has {H : Hp} {av : Addr → Prop} : ∀ {as : List Addr} {xs : List Sw75.Trip}, TripsAt H as xs → HasL H av (xs.map tripD) (as.map V.ref)
  | [], [], _ => HasL.nil
  | _ :: _, _ :: _, h => HasL.cons (Has.mkTup h.1) h.2.has
  | [], _ :: _, h => h.elim
  | _ :: _, [], h => h.elim
/-- what is promised of a value: it is this tree, its lists new; what stood stands -/
def Gives (H : Hp) (d : D) (Q : VK) : Prop := ∀ (H' : Hp) (v : V), Same H H' → Has H' (Old H) d v → Q v H'
def optN : Option Nat → V
  | none => .non
  | some k => nV k
theorem same_new {H : Hp} {a : Addr} {o : HO} (h : H a = none) : Same H (upd H a o) := fun b _ e => by rw [upd_ne (ne_of_none e h)]; exact e
/-- a thing of one's own written: what stood ahead of it stands -/
theorem same_own {H H' : Hp} {a : Addr} {o : HO} (k : Same H H') (h : H a = none) : Same H (upd H' a o) := fun b o' e => by rw [upd_ne (ne_of_none e h)]; exact k b o' e
theorem PlanAt.sm {C : Addr} {H H' : Hp} {p tl rd tr : Addr} {s : Sw75.Plan} {m : Nat} (h : PlanAt C H p tl rd tr s m) (k : Same H H') : PlanAt C H' p tl rd tr s m := by
  obtain ⟨⟨dx, h1⟩, h2, ⟨kvs, h3, h3'⟩, ⟨as, h4, h4'⟩, h5, h6⟩ := h
  exact ⟨⟨dx, k _ _ h1⟩, k _ _ h2, ⟨kvs, k _ _ h3, h3'⟩, ⟨as, k _ _ h4, h4'.keep fun b ys e => k _ _ e⟩, h5, h6⟩
theorem iAt {l : List Nat} {i k : Nat} (h : l[i]? = some k) : (nVs l)[i]? = some (nV k) := by unfold nVs; rw [List.getElem?_map, h]; rfl
end Tu
end
section
/-! Trips behind one another: ready, days_later, and the lists of choices. -/
set_option Elab.async false
set_option linter.all false
set_option maxRecDepth 100000
namespace Tu
open PySem PySem.Spec PyProof.Rows L2
abbrev s_day_choices : Stmt := top 2
abbrev s_may_follow : Stmt := top 3
abbrev s_daily_choices : Stmt := top 4
abbrev s_choices_behind : Stmt := top 5
abbrev s_days_later : Stmt := top 6
section
variable {P : Program} {w : World} {K : PySem.W.Frag} {mg : Str → Option Value} {base : Heap} {C : Addr}
/-! ### ready -/
def spReady (C : Addr) : Sp := fun vs H Q _ => ∃ (p tl rd tr : Addr) (s : Sw75.Plan) (m : Nat) (x y : Sw75.Trip) (vx vy : V), vs = [.ref p, vx, vy] ∧ PlanAt C H p tl rd tr s m ∧ Has H No (tripD x) vx ∧ Has H No (tripD y) vy ∧ x.to < s.turns.length ∧
  ∀ H', Same H H' → Q (optN (s.ready x y)) H'
theorem sc_ready : FnScope ["self", "one", "other", "stop", "turned"] ["self", "one", "other"] (defScope s_ready) := ⟨rfl, rfl, rfl, by decide +kernel, rfl, by decide +kernel, by decide +kernel⟩
theorem getD_some {l : List Nat} {i d : Nat} (h : i < l.length) : l[i]? = some (l.getD i d) := by rw [List.getD_eq_getElem?_getD, List.getElem?_eq_getElem h, Option.getD_some]
theorem ok_ready {f : Addr} {fd : FuncData} (F : Fun K "ready" "Plan.ready" s_ready f fd) (T : Txt K mg C) : FnOk P w K mg base CX0 1 f fd ["self", "one", "other"] (spReady C) := by
  refine F.ok sc_ready (fun vs H Q E h => ?_) (fun cdv A outer s H vs Q E hr h => ?_)
  · obtain ⟨p, tl, rd, tr, s, m, x, y, vx, vy, rfl, _⟩ := h
    rfl
  · obtain ⟨p, tl, rd, tr, s, m, x, y, vx, vy, rfl, PA, hx, hy, hst, k⟩ := h
    have hu := hu_of hr
    have S := sc_ready
    obtain ⟨⟨dx, h1⟩, h2, ⟨kvs, h3, h3r, h3m⟩, _, _, sh⟩ := id PA
    obtain ⟨a, rfl, ha⟩ := hx.tups
    obtain ⟨b, rfl, hb⟩ := hy.tups
    refine ⟨_, (pss_cons (ps_set (i := 3) S.nd rfl (Or.inl rfl) (pe_ix ix_tup (pv 1) pe_int (fun _ _ => rfl)))
      (pss_cons (ps_set (i := 4) S.nd rfl (Or.inl rfl) (pe_op op_add (pe_ix ix_tup (pv 1) pe_int (fun _ _ => rfl)) (pe_ix ix_list (pe_fld (pv 0) rfl) (pv 3) (fun _ _ => rfl))))
      (pss_cons (ps_if (pt_cmpR op_eq (pe_ix ix_tup (pv 2) pe_int (fun _ _ => rfl)) (pv 3) (nomark _)) (pss_one (ps_ret (pv 4))) pss_nil)
      (pss_cons (ps_if (pt_cmp (pc_din hu (pe_tup (pa_cons (pv 3) (pa_cons (pe_ix ix_tup (pv 2) pe_int (fun _ _ => rfl)) pa_nil))) (pe_fld (pv 0) rfl))) (pss_one (ps_ret (pe_op op_add (pv 4) (pe_dget hu (pe_fld (pv 0) rfl) (pe_tup (pa_cons (pv 3) (pa_cons (pe_ix ix_tup (pv 2) pe_int (fun _ _ => rfl)) pa_nil))) (fun _ _ => rfl))))) pss_nil)
      (pss_one (ps_ret pe_non)))))), ?_⟩
    refine ⟨_, rfl, a, _, _, nV x.to, rfl, rfl, SqT.of ha, atI_nat (j := 1) (iAt rfl), ?_⟩
    refine ⟨_, rfl, a, _, _, nV x.halt_, rfl, rfl, SqT.of ha, atI_nat (j := 3) (iAt rfl), _, rfl, _, _, _, _, _, rfl, h1, T.cl, T.nT, f_turns _ _ _, _, rfl, tl, _, _, _, rfl, rfl, SqL.of h2, atI_nat (iAt (getD_some (d := 0) hst)), _, _, rfl, rfl, ?_⟩
    refine ⟨_, rfl, b, _, _, nV y.from_, rfl, rfl, SqT.of hb, atI_nat (j := 0) (iAt rfl), _, rfl, rfl, _, rfl, ?_⟩
    have kk : ∀ v, s.ready x y = v → ∀ H', Same H H' → Q (optN v) H' := fun v e => by rw [← e]; exact k
    unfold Sw75.Plan.ready Sw75.Plan.way at kk
    refine ite2 (fun q => ?_) (fun q => ?_)
    · have q : x.to = y.from_ := by
        have := of_decide_eq_true q
        unfold nV at this
        injection this with this
        omega
      refine ⟨_, rfl, ?_⟩
      have := kk (some (x.halt_ + s.turns.getD x.to 0)) (by rw [if_pos q]; rfl) H (Same.refl H)
      exact this
    · have q : ¬ x.to = y.from_ := fun z => q (decide_eq_true (by rw [z]))
      refine ⟨_, rfl, _, rfl, b, _, _, nV y.from_, rfl, rfl, SqT.of hb, atI_nat (j := 0) (iAt rfl), (by show 2 ≤ sizeLine; decide), fun t nt => ?_⟩
      have g1 : (upd H t (.tup [nV x.to, nV y.from_])) p = some (.ins C dx (flds tl rd tr)) := by rw [upd_ne (ne_of_none h1 nt)]; exact h1
      have g3 : (upd H t (.tup [nV x.to, nV y.from_])) rd = some (.dT kvs) := by rw [upd_ne (ne_of_none h3 nt)]; exact h3
      have gb : (upd H t (.tup [nV x.to, nV y.from_])) b = some (.tup (nVs [y.from_, y.to, y.start, y.halt_])) := by rw [upd_ne (ne_of_none hb nt)]; exact hb
      refine ⟨_, rfl, _, _, _, _, _, rfl, g1, T.cl, T.nR, f_runs _ _ _, rd, _, rfl, DGet.t (k := key2 x.to y.from_) g3 upd_same, _, rfl, ?_⟩
      have e0 := h3r x.to y.from_
      cases e : runOf s x.to y.from_ with
      | none =>
        rw [e] at e0
        rw [e0]
        refine iteF ?_
        exact kk none (by unfold runOf at e; rw [if_neg q, e]; rfl) _ (same_new nt)
      | some n =>
        rw [e] at e0
        rw [e0]
        refine iteT ?_
        refine ⟨_, rfl, _, rfl, _, _, _, _, _, rfl, g1, T.cl, T.nR, f_runs _ _ _, _, rfl, _, rfl, b, _, _, nV y.from_, rfl, rfl, SqT.of gb, atI_nat (j := 0) (iAt rfl), (by show 2 ≤ sizeLine; decide), fun t2 nt2 => ?_⟩
        have g3' : (upd (upd H t (.tup [nV x.to, nV y.from_])) t2 (.tup [nV x.to, nV y.from_])) rd = some (.dT kvs) := by rw [upd_ne (ne_of_none g3 nt2)]; exact g3
        refine ⟨rd, nV n, rfl, ?_, _, _, rfl, rfl, ?_⟩
        · have := DGet.t (k := key2 x.to y.from_) g3' upd_same
          rw [e0] at this
          exact this
        have e2 : (((x.halt_ : Int) + (s.turns.getD x.to 0 : Nat)) + (n : Int)) = ((x.halt_ + (s.turns.getD x.to 0 + n) : Nat) : Int) := by omega
        show Q (V.int (((x.halt_ : Int) + (s.turns.getD x.to 0 : Nat)) + (n : Int))) _
        rw [e2]
        exact kk (some (x.halt_ + (s.turns.getD x.to 0 + n))) (by unfold runOf at e; rw [if_neg q, e]; rfl) _ ((same_new nt).trans (same_new nt2))
/-! ### days_later -/
def daysL (r : Nat) (x : Sw75.Trip) : Nat := if r ≤ x.start then 0 else (r - x.start + (Sw75.DAY - 1)) / Sw75.DAY
def spDays : Sp := fun vs H Q _ => ∃ (r : Nat) (x : Sw75.Trip) (vx : V), vs = [nV r, vx] ∧ Has H No (tripD x) vx ∧ Q (nV (daysL r x)) H
theorem sc_days : FnScope ["ready", "trip", "late"] ["ready", "trip"] (defScope s_days_later) := ⟨rfl, rfl, rfl, by decide +kernel, rfl, by decide +kernel, by decide +kernel⟩
theorem ok_days {f : Addr} {fd : FuncData} (F : Fun K "days_later" "days_later" s_days_later f fd) (T : Txt K mg C) : FnOk P w K mg base CX0 1 f fd ["ready", "trip"] spDays := by
  refine F.ok sc_days (fun vs H Q E h => ?_) (fun cdv A outer s H vs Q E hr h => ?_)
  · obtain ⟨r, x, vx, rfl, _⟩ := h
    rfl
  · obtain ⟨r, x, vx, rfl, hx, k⟩ := h
    have S := sc_days
    obtain ⟨a, rfl, ha⟩ := hx.tups
    refine ⟨_, (pss_cons (ps_set (i := 2) S.nd rfl (Or.inl rfl) (pe_callB (call_max2 rfl) (by rfl) T.b_max PyProof.Rows.boot_max (pa_cons pe_int (pa_cons (pe_op op_sub (pv 0) (pe_ix ix_tup (pv 1) pe_int (fun _ _ => rfl))) pa_nil))))
      (pss_one (ps_ret (pe_op op_fdiv (pe_op op_sub (pe_op op_add (pv 2) (pg_int T.c_DAY)) pe_int) (pg_int T.c_DAY))))), ?_⟩
    refine ⟨_, rfl, _, rfl, a, _, _, nV x.start, rfl, rfl, SqT.of ha, atI_nat (j := 2) (iAt rfl), _, _, rfl, rfl, _, _, rfl, ?_⟩
    refine ⟨_, rfl, _, _, rfl, rfl, _, _, rfl, rfl, _, _, rfl, rfl, ⟨by decide, by decide⟩, ?_⟩
    have e : ((if ((r : Int) - (x.start : Int)) > 0 then ((r : Int) - (x.start : Int)) else 0) + 1440 - 1) / 1440 = ((daysL r x : Nat) : Int) := by
      unfold daysL Sw75.DAY
      by_cases q : r ≤ x.start
      · rw [if_pos q, if_neg (by omega)]; rfl
      · rw [if_neg q, if_pos (by omega)]; omega
    show Q (V.int (((if ((r : Int) - (x.start : Int)) > 0 then ((r : Int) - (x.start : Int)) else 0) + 1440 - 1) / 1440)) H
    rw [e]
    exact k
end
end Tu
end
section
/-! The lists of choices. -/
set_option Elab.async false
set_option linter.all false
set_option maxRecDepth 100000
namespace Tu
open PySem PySem.Spec PyProof.Rows L2
/-- not what stood, nor c -/
def Oc (H : Hp) (c : Addr) : Addr → Prop := fun b => H b ≠ none ∨ b = c
theorem HasL.old {H H' : Hp} {c : Addr} {ds : List D} {vs : List V} (h : HasL H' (Oc H c) ds vs) : HasL H' (Old H) ds vs := HasL.to (fun _ _ e => e) (fun _ _ e n => ⟨e, fun q => n (.inl q)⟩) ds vs h
/-- what came new behind H1, c standing there, is neither old nor c -/
theorem Has.oc {H H1 H' : Hp} {c : Addr} {d : D} {v : V} (k : Same H H1) (hc : H1 c ≠ none) (h : Has H' (Old H1) d v) : Has H' (Oc H c) d v := Has.to (fun _ _ e => e) (fun b _ e n => ⟨e, fun q => n (by
  rcases q with q | rfl
  · cases e0 : H b with
    | none => exact absurd e0 q
    | some o => intro z; rw [k b o e0] at z; cases z
  · exact hc)⟩) d v h
theorem yes_mk {A B : Hp → Prop} {σ : L2.St} {H : Hp} (h : A H) : tYes σ H (fun b H3 => if b = true then A H3 else B H3) := by
  show if true = true then A H else B H
  rw [if_pos rfl]
  exact h
theorem list_short {n m : Nat} (h : n ≤ m) (hm : m ≤ 1000) : n < sizeLine := small1000 (by omega)
section
variable {P : Program} {w : World} {K : PySem.W.Frag} {mg : Str → Option Value} {base : Heap} {C : Addr}
/-! ### choices_behind -/
def behindTo (s : Sw75.Plan) (ts : List Sw75.Trip) (x : Sw75.Trip) (i : Nat) : List (Nat × Nat) := (ts.zipIdx.take i).filterMap fun q => (s.days x q.1).map fun d => (q.2, d)
theorem behindTo_succ {s : Sw75.Plan} {ts : List Sw75.Trip} {x y : Sw75.Trip} {i : Nat} (h : ts[i]? = some y) : behindTo s ts x (i + 1) = behindTo s ts x i ++ (match s.days x y with | none => [] | some d => [(i, d)]) := by
  unfold behindTo
  have e : ts.zipIdx[i]? = some (y, i) := by rw [List.getElem?_zipIdx, h]; simp
  rw [List.take_add_one, e, List.filterMap_append]
  congr 1
  simp only [Option.toList_some, List.filterMap_cons, List.filterMap_nil]
  cases s.days x y <;> rfl
theorem behindTo_all (s : Sw75.Plan) (ts : List Sw75.Trip) (x : Sw75.Trip) : behindTo s ts x ts.length = behind s ts x := by
  unfold behindTo behind
  rw [List.take_of_length_le (by rw [List.length_zipIdx]; exact Nat.le_refl _)]
theorem behindTo_len (s : Sw75.Plan) (ts : List Sw75.Trip) (x : Sw75.Trip) (i : Nat) : (behindTo s ts x i).length ≤ i := by
  unfold behindTo
  exact Nat.le_trans (List.length_filterMap_le ..) (by rw [List.length_take]; omega)
theorem days_ready (s : Sw75.Plan) (x y : Sw75.Trip) : s.days x y = (s.ready x y).map fun t => daysL t y := rfl
def spBehind (C : Addr) : Sp := fun vs H Q _ => ∃ (p tl rd tr : Addr) (s : Sw75.Plan) (m : Nat) (ts : List Sw75.Trip) (x : Sw75.Trip) (vt vx : V), vs = [.ref p, vt, vx] ∧ PlanAt C H p tl rd tr s m ∧ Has H No (.li (ts.map tripD)) vt ∧ Has H No (tripD x) vx ∧ x.to < s.turns.length ∧ ts.length ≤ 10 ∧ Gives H (pairsD (behind s ts x)) Q
theorem sc_behind : FnScope ["plan", "trips", "one", "pairs", "j", "other", "ready"] ["plan", "trips", "one"] (defScope s_choices_behind) := ⟨rfl, rfl, rfl, by decide +kernel, rfl, by decide +kernel, by decide +kernel⟩
theorem ok_behind {f : Addr} {fd : FuncData} (F : Fun K "choices_behind" "choices_behind" s_choices_behind f fd) (T : Txt K mg C) (F_ready : MethAt P w K mg base C "ready" 1 ["self", "one", "other"] (spReady C)) (F_days_later : FnAt P w K mg base "days_later" 1 ["ready", "trip"] spDays) :
    FnOk P w K mg base CX0 2 f fd ["plan", "trips", "one"] (spBehind C) := by
  refine F.ok sc_behind (fun vs H Q E h => ?_) (fun cdv A outer s H vs Q E hr h => ?_)
  · obtain ⟨p, tl, rd, tr, s, m, ts, x, vt, vx, rfl, _⟩ := h
    rfl
  · obtain ⟨p, tl, rd, tr, s, m, ts, x, vt, vx, rfl, PA, ht, hx, hst, hlen, k⟩ := h
    have S := sc_behind
    refine ⟨_, (pss_cons (ps_set (i := 3) S.nd rfl (Or.inl rfl) (pe_lst pa_nil))
      (pss_cons (ps_for PassesOwn.never rfl (pi_enum (by rfl) T.b_enumerate (pa_cons (pv 1) pa_nil)) (pg_tup rfl (pgs_cons (pg_name (i := 4) S.nd rfl (Or.inl rfl)) (pgs_cons (pg_name (i := 5) S.nd rfl (Or.inl rfl)) pgs_nil)))
      (pss_cons (ps_set (i := 6) S.nd rfl (Or.inl rfl) (pmeth (pv 0) T.cl F_ready hr (pa_cons (pv 2) (pa_cons (pv 5) pa_nil))))
      (pss_one (ps_if (pt_cmp (pc_notN (pv 6))) (pss_one (ps_expr (pe_bm PySem.F.plainAttrs_list PySem.F.slot_list_append PySem.F.type_list_append mt_append (pv 3) (pa_cons (pe_tup (pa_cons (pv 4) (pa_cons (pcall F_days_later hr (pa_cons (pv 6) (pa_cons (pv 5) pa_nil))) pa_nil))) pa_nil)))) pss_nil))))
      (pss_one (ps_ret (pv 3))))), ?_⟩
    obtain ⟨ta, tvs, rfl, hta, _, htl⟩ := ht.list
    have hl0 : tvs.length = ts.length := by rw [htl.len, List.length_map]
    refine ⟨Nat.zero_le _, fun c nc => ?_⟩
    have s1 : Same H (upd H c (.lst [])) := same_new nc
    refine ⟨_, rfl, ta, tvs, rfl, SqL.of (s1 _ _ hta), for_enum (xs := tvs) (fun i σ H' => ∃ (acc : List V) (v4 v5 v6 : Option V), σ = [some (.ref p), some (.ref ta), some vx, some (.ref c), v4, v5, v6] ∧ Same H H' ∧ H' c = some (.lst acc) ∧ HasL H' (Oc H c) ((behindTo s ts x i).map pairD) acc) ?_ ?_ ?_ ?_⟩
    · exact ⟨[], none, none, none, rfl, s1, upd_same, HasL.nil⟩
    · rintro i σ H' _ ⟨acc, v4, v5, v6, rfl, sm, hc, hacc⟩
      exact SqL.of (sm _ _ hta)
    · rintro i v σ H' t e ⟨acc, v4, v5, v6, rfl, sm, hc, hacc⟩ nt
      obtain ⟨d, hd, hv⟩ := htl.get e
      rw [List.getElem?_map, Option.map_eq_some_iff] at hd
      obtain ⟨y, hy, rfl⟩ := hd
      have hi : i < ts.length := (List.getElem?_eq_some_iff.mp hy).1
      refine ⟨t, _, rfl, SqT.of upd_same, rfl, _, _, rfl, _, _, rfl, rfl, ?_⟩
      have s2 : Same H' (upd H' t (.tup [.int (i : Nat), v])) := same_new nt
      have PA2 := PA.sm (sm.trans s2)
      obtain ⟨dx, h1⟩ := PA2.ob
      refine ⟨_, rfl, p, dx, _, rfl, h1, f_none _ _ _ (by decide +kernel) (by decide +kernel) (by decide +kernel), _, rfl, _, rfl, p, tl, rd, tr, s, m, x, y, vx, v, rfl, PA2, hx.same (sm.trans s2), hv.same (sm.trans s2), hst, fun H3 s3 => ?_⟩
      have sm3 : Same H H3 := sm.trans (s2.trans s3)
      have hc3 : H3 c = some (.lst acc) := s3 _ _ (s2 _ _ hc)
      have ha3 := hacc.same (s2.trans s3)
      have eb := behindTo_succ (s := s) (x := x) hy
      rw [days_ready] at eb
      refine ⟨_, rfl, _, rfl, ?_⟩
      cases er : s.ready x y with
      | none =>
        rw [er] at eb
        refine iteF ?_
        refine ⟨acc, _, _, _, rfl, sm3, hc3, ?_⟩
        rw [eb]
        simpa using ha3
      | some r =>
        rw [er] at eb
        refine iteT ?_
        refine ⟨_, rfl, .inl ⟨rfl, _, SqL.of hc3⟩, _, rfl, _, rfl, _, rfl, r, y, v, rfl, hv.same sm3, (by show 2 ≤ sizeLine; decide), fun q nq => ?_⟩
        have s4 : Same H3 (upd H3 q (.tup [nV i, nV (daysL r y)])) := same_new nq
        have hlen' : acc.length = (behindTo s ts x i).length := by rw [hacc.len, List.length_map]
        refine ⟨c, _, _, rfl, rfl, s4 _ _ hc3, list_short (m := 10) (by have := behindTo_len s ts x i; omega) (by decide), ?_⟩
        refine ⟨acc ++ [.ref q], _, _, _, rfl, same_own (sm3.trans s4) nc, upd_same, ?_⟩
        rw [eb]
        simp only [Option.map_some, List.map_append, List.map_cons, List.map_nil]
        refine HasL.but (s4 _ _ hc3) (.inr rfl) ((ha3.same s4).snoc ?_)
        exact Has.mkTup (l := [i, daysL r y]) upd_same
    · rintro σ H' ⟨acc, v4, v5, v6, rfl, sm, hc, hacc⟩
      refine ⟨_, rfl, ?_⟩
      rw [hl0, behindTo_all] at hacc
      exact k H' (.ref c) sm (Has.mkL hc (fun q => q nc) hacc.old)
/-! ### daily_choices -/
def spDaily (C : Addr) : Sp := fun vs H Q _ => ∃ (p tl rd tr : Addr) (s : Sw75.Plan) (m : Nat) (ts : List Sw75.Trip) (vt : V), vs = [.ref p, vt] ∧ PlanAt C H p tl rd tr s m ∧ Has H No (.li (ts.map tripD)) vt ∧ (∀ x ∈ ts, x.to < s.turns.length) ∧ ts.length ≤ 10 ∧ Gives H (.li ((dailyC s ts).map pairsD)) Q
theorem sc_daily : FnScope ["plan", "trips", "one"] ["plan", "trips"] (defScope s_daily_choices) := ⟨rfl, rfl, rfl, by decide +kernel, rfl, by decide +kernel, by decide +kernel⟩
theorem ok_daily {f : Addr} {fd : FuncData} (F : Fun K "daily_choices" "daily_choices" s_daily_choices f fd) (T : Txt K mg C) (F_choices_behind : FnAt P w K mg base "choices_behind" 2 ["plan", "trips", "one"] (spBehind C)) :
    FnOk P w K mg base CX0 3 f fd ["plan", "trips"] (spDaily C) := by
  refine F.ok sc_daily (fun vs H Q E h => ?_) (fun cdv A outer s H vs Q E hr h => ?_)
  · obtain ⟨p, tl, rd, tr, s, m, ts, vt, rfl, _⟩ := h
    rfl
  · obtain ⟨p, tl, rd, tr, s, m, ts, vt, rfl, PA, ht, hst, hlen, k⟩ := h
    have S := sc_daily
    refine ⟨_, (pss_one (ps_ret (pe_lc (own := [("one", 2)]) rfl S.nd (pi_list (pv 1)) (blkOk_by (by show blkC ["plan", "trips", "one"] (defScope s_daily_choices) _ _ = true; decide +kernel)) (fun _ _ _ _ _ => pg_name (i := 2) S.nd rfl (Or.inl rfl)) (fun _ _ _ _ _ => pts_nil)
      (fun _ _ _ _ _ => pcall F_choices_behind hr (pa_cons (pv 0) (pa_cons (pv 1) (pa_cons (pv 2) pa_nil))))))), ?_⟩
    obtain ⟨ta, tvs, rfl, hta, _, htl⟩ := ht.list
    have hl0 : tvs.length = ts.length := by rw [htl.len, List.length_map]
    refine ⟨_, rfl, ta, rfl, ⟨_, SqL.of hta⟩, fun c nc => ?_⟩
    have s1 : Same H (upd H c (.lst [])) := same_new nc
    refine lc_list (xs := tvs) (fun i H' => ∃ acc : List V, Same H H' ∧ H' c = some (.lst acc) ∧ HasL H' (Oc H c) (((dailyC s ts).take i).map pairsD) acc) ?_ ?_ ?_ ?_
    · exact ⟨[], s1, upd_same, HasL.nil⟩
    · rintro i H' _ ⟨acc, sm, hc, hacc⟩
      exact SqL.of (sm _ _ hta)
    · rintro i v H' e ⟨acc, sm, hc, hacc⟩
      obtain ⟨d, hd, hv⟩ := htl.get e
      rw [List.getElem?_map, Option.map_eq_some_iff] at hd
      obtain ⟨x, hx, rfl⟩ := hd
      have hi : i < ts.length := (List.getElem?_eq_some_iff.mp hx).1
      refine ⟨rfl, yes_mk ?_⟩
      refine ⟨_, rfl, _, rfl, _, rfl, p, tl, rd, tr, s, m, ts, x, .ref ta, v, rfl, PA.sm sm, ht.same sm, hv.same sm, hst x (List.mem_of_getElem? hx), hlen, fun H3 v3 s3 hv3 => ?_⟩
      have hc3 := s3 _ _ hc
      have hlen' : acc.length ≤ i := by rw [hacc.len, List.length_map, List.length_take]; omega
      refine ⟨acc, hc3, list_short (m := 10) (by omega) (by decide), acc ++ [v3], same_own (sm.trans s3) nc, upd_same, ?_⟩
      have e2 : (dailyC s ts)[i]? = some (behind s ts x) := by unfold dailyC; rw [List.getElem?_map, hx]; rfl
      rw [List.take_add_one, e2, List.map_append]
      exact HasL.but hc3 (.inr rfl) ((hacc.same s3).snoc (hv3.oc sm (by rw [hc]; intro z; cases z)))
    · rintro H' ⟨acc, sm, hc, hacc⟩
      rw [hl0, List.take_of_length_le (by unfold dailyC; rw [List.length_map]; exact Nat.le_refl _)] at hacc
      exact k H' (.ref c) sm (Has.mkL hc (fun q => q nc) hacc.old)
/-! ### may_follow -/
def spMay (C : Addr) : Sp := fun vs H Q _ => ∃ (p tl rd tr : Addr) (s : Sw75.Plan) (m : Nat) (ts : List Sw75.Trip) (vt : V), vs = [.ref p, vt] ∧ PlanAt C H p tl rd tr s m ∧ Has H No (.li (ts.map tripD)) vt ∧ (∀ x ∈ ts, x.to < s.turns.length) ∧ ts.length ≤ 10 ∧ Gives H (.li ((mayF s ts).map numsD)) Q
theorem sc_may : FnScope ["plan", "trips", "found", "pairs", "pair"] ["plan", "trips"] (defScope s_may_follow) := ⟨rfl, rfl, rfl, by decide +kernel, rfl, by decide +kernel, by decide +kernel⟩
theorem behind_len (s : Sw75.Plan) (ts : List Sw75.Trip) (x : Sw75.Trip) : (behind s ts x).length ≤ ts.length := by rw [← behindTo_all]; exact behindTo_len ..
theorem ok_may {f : Addr} {fd : FuncData} (F : Fun K "may_follow" "may_follow" s_may_follow f fd) (T : Txt K mg C) (F_daily_choices : FnAt P w K mg base "daily_choices" 3 ["plan", "trips"] (spDaily C)) :
    FnOk P w K mg base CX0 4 f fd ["plan", "trips"] (spMay C) := by
  refine F.ok sc_may (fun vs H Q E h => ?_) (fun cdv A outer s H vs Q E hr h => ?_)
  · obtain ⟨p, tl, rd, tr, s, m, ts, vt, rfl, _⟩ := h
    rfl
  · obtain ⟨p, tl, rd, tr, s, m, ts, vt, rfl, PA, ht, hst, hlen, k⟩ := h
    have S := sc_may
    refine ⟨_, (pss_cons (ps_set (i := 2) S.nd rfl (Or.inl rfl) (pe_lst pa_nil))
      (pss_cons (ps_for PassesOwn.never rfl (pi_list (pcall F_daily_choices hr (pa_cons (pv 0) (pa_cons (pv 1) pa_nil)))) (pg_name (i := 3) S.nd rfl (Or.inl rfl))
      (pss_one (ps_expr (pe_bm PySem.F.plainAttrs_list PySem.F.slot_list_append PySem.F.type_list_append mt_append (pv 2) (pa_cons (pe_lc (own := [("pair", 4)]) rfl S.nd (pi_list (pv 3)) (blkOk_by (by show blkC ["plan", "trips", "found", "pairs", "pair"] (defScope s_may_follow) _ _ = true; decide +kernel)) (fun _ _ _ _ _ => pg_name (i := 4) S.nd rfl (Or.inl rfl))
        (fun _ _ _ _ _ => pts_one (pt_cmpR op_eq (pe_ix (r := rIxT K) ix_tup (pv 4) pe_int (fun _ _ => rfl)) pe_int (nomark _))) (fun _ _ _ _ _ => pe_ix (r := rIxT K) ix_tup (pv 4) pe_int (fun _ _ => rfl))) pa_nil)))))
      (pss_one (ps_ret (pv 2))))), ?_⟩
    refine ⟨Nat.zero_le _, fun c nc => ?_⟩
    have s1 : Same H (upd H c (.lst [])) := same_new nc
    refine ⟨_, rfl, _, rfl, p, tl, rd, tr, s, m, ts, vt, rfl, PA.sm s1, ht.same s1, hst, hlen, fun H1 v1 s2 hv1 => ?_⟩
    have sm1 : Same H H1 := s1.trans s2
    have hc1 : H1 c = some (.lst []) := s2 _ _ upd_same
    have hv1 := hv1.oc s1 (by rw [upd_same]; intro z; cases z)
    obtain ⟨a1, vs1, rfl, ha1, na1, hl1⟩ := hv1.list
    have hl0 : vs1.length = (dailyC s ts).length := by rw [hl1.len, List.length_map]
    have hdl : (dailyC s ts).length = ts.length := by unfold dailyC; rw [List.length_map]
    refine ⟨a1, rfl, ⟨_, SqL.of ha1⟩, for_list (xs := vs1) (fun i σ H' => ∃ (acc : List V) (v3 v4 : Option V), σ = [some (.ref p), some vt, some (.ref c), v3, v4] ∧ Same H H' ∧ H' c = some (.lst acc) ∧ HasL H' (Oc H c) (((mayF s ts).take i).map numsD) acc ∧ H' a1 = some (.lst vs1) ∧ HasL H' (Oc H c) ((dailyC s ts).map pairsD) vs1) ?_ ?_ ?_ ?_⟩
    · exact ⟨[], none, none, rfl, sm1, hc1, HasL.nil, ha1, hl1⟩
    · rintro i σ H' _ ⟨acc, v3, v4, rfl, sm, hc, hacc, ha, hl⟩
      exact SqL.of ha
    · rintro i v σ H' e ⟨acc, v3, v4, rfl, sm, hc, hacc, ha, hl⟩
      obtain ⟨d, hd, hv⟩ := hl.get e
      rw [List.getElem?_map, Option.map_eq_some_iff] at hd
      obtain ⟨ps, hps, rfl⟩ := hd
      have hi : i < ts.length := by rw [← hdl]; exact (List.getElem?_eq_some_iff.mp hps).1
      have hpl : ps.length ≤ 10 := by
        unfold dailyC at hps
        rw [List.getElem?_map, Option.map_eq_some_iff] at hps
        obtain ⟨x, _, rfl⟩ := hps
        exact Nat.le_trans (behind_len s ts x) hlen
      obtain ⟨b, bs, rfl, hb, nb, hbl⟩ := hv.list
      have hbl0 : bs.length = ps.length := by rw [hbl.len, List.length_map]
      refine ⟨_, rfl, .inl ⟨rfl, _, SqL.of hc⟩, ?_⟩
      refine ⟨_, rfl, b, rfl, ⟨_, SqL.of hb⟩, fun c2 nc2 => ?_⟩
      have s3 : Same H' (upd H' c2 (.lst [])) := same_new nc2
      refine lc_list (xs := bs) (fun j H2 => ∃ ns : List Nat, Same H' H2 ∧ H2 c2 = some (.lst (nVs ns)) ∧ ns = only0 (ps.take j)) ?_ ?_ ?_ ?_
      · exact ⟨[], s3, upd_same, by simp [only0]⟩
      · rintro j H2 _ ⟨ns, sm2, hc2, _⟩
        exact SqL.of (sm2 _ _ hb)
      · rintro j v2 H2 e2 ⟨ns, sm2, hc2, ens⟩
        obtain ⟨d2, hd2, hv2⟩ := hbl.get e2
        rw [List.getElem?_map, Option.map_eq_some_iff] at hd2
        obtain ⟨pr, hpr, rfl⟩ := hd2
        obtain ⟨q, rfl, hq⟩ := hv2.tups
        have hq2 := sm2 _ _ hq
        have ej : only0 (ps.take (j + 1)) = only0 (ps.take j) ++ (if pr.2 = 0 then [pr.1] else []) := by
          unfold only0
          rw [List.take_add_one, hpr, List.filter_append, List.map_append]
          congr 1
          simp only [Option.toList_some, List.filter_cons, List.filter_nil]
          by_cases z : pr.2 = 0 <;> simp [z]
        refine ⟨rfl, ?_⟩
        refine ⟨_, rfl, q, _, _, nV pr.2, rfl, rfl, SqT.of hq2, atI_nat (j := 1) (iAt rfl), rfl, _, rfl, ?_⟩
        have ed : decide (nV pr.2 = V.int 0) = decide (pr.2 = 0) := decide_eq_decide.mpr (by unfold nV; constructor <;> intro z <;> (first | (injection z with z; omega) | (rw [z]; rfl)))
        have hnl : ns.length ≤ j := by rw [ens]; unfold only0; rw [List.length_map]; exact Nat.le_trans (List.length_filter_le ..) (by rw [List.length_take]; omega)
        have hjl : j < ps.length := (List.getElem?_eq_some_iff.mp hpr).1
        rw [ed]
        refine ite2 (fun z => ?_) (fun z => ?_)
        · have z : pr.2 = 0 := of_decide_eq_true z
          refine ⟨_, rfl, q, _, _, nV pr.1, rfl, rfl, SqT.of hq2, atI_nat (j := 0) (iAt rfl), ?_⟩
          refine ⟨nVs ns, hc2, by rw [nVs_len]; exact list_short (m := 10) (by omega) (by decide), ns ++ [pr.1], same_own sm2 nc2, ?_, by rw [ej, if_pos z, ens]⟩
          rw [upd_same]
          unfold nVs
          rw [List.map_append]
          rfl
        · have z : ¬ pr.2 = 0 := fun y => z (decide_eq_true y)
          exact ⟨ns, sm2, hc2, by rw [ej, if_neg z, List.append_nil, ens]⟩
      · rintro H2 ⟨ns, sm2, hc2, ens⟩
        rw [hbl0, List.take_of_length_le (Nat.le_refl _)] at ens
        have hcc := sm2 _ _ hc
        have hlen' : acc.length ≤ i := by rw [hacc.len, List.length_map, List.length_take]; omega
        refine ⟨c, _, _, rfl, rfl, hcc, list_short (m := 10) (by omega) (by decide), ?_⟩
        have ncc : c2 ≠ c := (ne_of_none hc nc2).symm
        have n2 : ¬ Oc H c c2 := fun z => by
          rcases z with z | z
          · exact z (sm.free nc2)
          · exact ncc z
        have e2 : (mayF s ts)[i]? = some (only0 ps) := by unfold mayF; rw [List.getElem?_map, hps]; rfl
        refine ⟨acc ++ [.ref c2], _, _, rfl, same_own (sm.trans sm2) nc, upd_same, ?_, ?_, ?_⟩
        · rw [List.take_add_one, e2, List.map_append]
          refine HasL.but hcc (.inr rfl) ((hacc.same sm2).snoc ?_)
          rw [← ens]
          exact Has.mkNums hc2 n2
        · rw [upd_ne (fun z => na1 (.inr z))]
          exact sm2 _ _ ha
        · exact HasL.but hcc (.inr rfl) (hl.same sm2)
    · rintro σ H' ⟨acc, v3, v4, rfl, sm, hc, hacc, ha, hl⟩
      refine ⟨_, rfl, ?_⟩
      rw [hl0, List.take_of_length_le (by rw [mayF_len, hdl]; exact Nat.le_refl _)] at hacc
      exact k H' (.ref c) sm (Has.mkL hc (fun q => q nc) hacc.old)
/-! ### day_choices -/
def spDay (C : Addr) : Sp := fun vs H Q _ => ∃ (p tl rd tr : Addr) (s : Sw75.Plan) (m : Nat) (ts : List Sw75.Trip) (vt : V), vs = [.ref p, vt] ∧ PlanAt C H p tl rd tr s m ∧ Has H No (.li (ts.map tripD)) vt ∧ (∀ x ∈ ts, x.to < s.turns.length) ∧ ts.length ≤ 10 ∧ Gives H (.li ((dayC s ts).map pairsD)) Q
theorem sc_day : FnScope ["plan", "trips", "choices", "followers", "j"] ["plan", "trips"] (defScope s_day_choices) := ⟨rfl, rfl, rfl, by decide +kernel, rfl, by decide +kernel, by decide +kernel⟩
theorem only0_len (ps : List (Nat × Nat)) : (only0 ps).length ≤ ps.length := by unfold only0; rw [List.length_map]; exact List.length_filter_le ..
theorem ok_day {f : Addr} {fd : FuncData} (F : Fun K "day_choices" "day_choices" s_day_choices f fd) (T : Txt K mg C) (F_may_follow : FnAt P w K mg base "may_follow" 4 ["plan", "trips"] (spMay C)) :
    FnOk P w K mg base CX0 5 f fd ["plan", "trips"] (spDay C) := by
  refine F.ok sc_day (fun vs H Q E h => ?_) (fun cdv A outer s H vs Q E hr h => ?_)
  · obtain ⟨p, tl, rd, tr, s, m, ts, vt, rfl, _⟩ := h
    rfl
  · obtain ⟨p, tl, rd, tr, s, m, ts, vt, rfl, PA, ht, hst, hlen, k⟩ := h
    have S := sc_day
    refine ⟨_, (pss_cons (ps_set (i := 2) S.nd rfl (Or.inl rfl) (pe_lst pa_nil))
      (pss_cons (ps_for PassesOwn.never rfl (pi_list (pcall F_may_follow hr (pa_cons (pv 0) (pa_cons (pv 1) pa_nil)))) (pg_name (i := 3) S.nd rfl (Or.inl rfl))
      (pss_one (ps_expr (pe_bm PySem.F.plainAttrs_list PySem.F.slot_list_append PySem.F.type_list_append mt_append (pv 2) (pa_cons (pe_op op_cat (pe_lc (own := [("j", 4)]) rfl S.nd (pi_list (pv 3)) (blkOk_by (by show blkC ["plan", "trips", "choices", "followers", "j"] (defScope s_day_choices) _ _ = true; decide +kernel)) (fun _ _ _ _ _ => pg_name (i := 4) S.nd rfl (Or.inl rfl))
        (fun _ _ _ _ _ => pts_nil) (fun _ _ _ _ _ => pe_tup (pa_cons (pv 4) (pa_cons pe_int pa_nil)))) (pe_lst (pa_cons (pe_tup (pa_cons (pe_callB call_len_seq (by rfl) T.b_len PySem.boot_len (pa_cons (pv 1) pa_nil)) (pa_cons pe_int pa_nil))) pa_nil))) pa_nil)))))
      (pss_one (ps_ret (pv 2))))), ?_⟩
    obtain ⟨ta, tvs, rfl, hta, _, htl⟩ := ht.list
    have htl0 : tvs.length = ts.length := by rw [htl.len, List.length_map]
    refine ⟨Nat.zero_le _, fun c nc => ?_⟩
    have s1 : Same H (upd H c (.lst [])) := same_new nc
    refine ⟨_, rfl, _, rfl, p, tl, rd, tr, s, m, ts, .ref ta, rfl, PA.sm s1, ht.same s1, hst, hlen, fun H1 v1 s2 hv1 => ?_⟩
    have sm1 : Same H H1 := s1.trans s2
    have hc1 : H1 c = some (.lst []) := s2 _ _ upd_same
    have hv1 := hv1.oc s1 (by rw [upd_same]; intro z; cases z)
    obtain ⟨a1, vs1, rfl, ha1, na1, hl1⟩ := hv1.list
    have hl0 : vs1.length = (mayF s ts).length := by rw [hl1.len, List.length_map]
    refine ⟨a1, rfl, ⟨_, SqL.of ha1⟩, for_list (xs := vs1) (fun i σ H' => ∃ (acc : List V) (v3 v4 : Option V), σ = [some (.ref p), some (.ref ta), some (.ref c), v3, v4] ∧ Same H H' ∧ H' c = some (.lst acc) ∧ HasL H' (Oc H c) (((dayC s ts).take i).map pairsD) acc ∧ H' a1 = some (.lst vs1) ∧ HasL H' (Oc H c) ((mayF s ts).map numsD) vs1) ?_ ?_ ?_ ?_⟩
    · exact ⟨[], none, none, rfl, sm1, hc1, HasL.nil, ha1, hl1⟩
    · rintro i σ H' _ ⟨acc, v3, v4, rfl, sm, hc, hacc, ha, hl⟩
      exact SqL.of ha
    · rintro i v σ H' e ⟨acc, v3, v4, rfl, sm, hc, hacc, ha, hl⟩
      obtain ⟨d, hd, hv⟩ := hl.get e
      rw [List.getElem?_map, Option.map_eq_some_iff] at hd
      obtain ⟨js, hjs, rfl⟩ := hd
      have hi : i < ts.length := by rw [← mayF_len s ts]; exact (List.getElem?_eq_some_iff.mp hjs).1
      have hjl : js.length ≤ 10 := by
        unfold mayF dailyC at hjs
        rw [List.map_map, List.getElem?_map, Option.map_eq_some_iff] at hjs
        obtain ⟨x, _, rfl⟩ := hjs
        exact Nat.le_trans (only0_len _) (Nat.le_trans (behind_len s ts x) hlen)
      obtain ⟨b, rfl, hb, nb⟩ := hv.nums
      refine ⟨_, rfl, .inl ⟨rfl, _, SqL.of hc⟩, ?_⟩
      refine ⟨_, rfl, b, rfl, ⟨_, SqL.of hb⟩, fun c2 nc2 => ?_⟩
      have s3 : Same H' (upd H' c2 (.lst [])) := same_new nc2
      refine lc_list (xs := nVs js) (fun j H2 => ∃ acc2 : List V, Same H' H2 ∧ H2 c2 = some (.lst acc2) ∧ HasL H2 (Oc H' c2) (((js.take j).map fun q => (q, 0)).map pairD) acc2) ?_ ?_ ?_ ?_
      · exact ⟨[], s3, upd_same, HasL.nil⟩
      · rintro j H2 _ ⟨acc2, sm2, hc2, _⟩
        exact SqL.of (sm2 _ _ hb)
      · rintro j v2 H2 e2 ⟨acc2, sm2, hc2, hacc2⟩
        unfold nVs at e2
        rw [List.getElem?_map, Option.map_eq_some_iff] at e2
        obtain ⟨q, hq, rfl⟩ := e2
        have hjj : j < js.length := (List.getElem?_eq_some_iff.mp hq).1
        refine ⟨rfl, yes_mk ?_⟩
        refine ⟨_, rfl, (by show 2 ≤ sizeLine; decide), fun t nt => ?_⟩
        have s4 : Same H2 (upd H2 t (.tup [nV q, V.int 0])) := same_new nt
        have hal : acc2.length ≤ j := by rw [hacc2.len, List.length_map, List.length_map, List.length_take]; omega
        refine ⟨acc2, s4 _ _ hc2, list_short (m := 10) (by omega) (by decide), acc2 ++ [.ref t], same_own (sm2.trans s4) nc2, upd_same, ?_⟩
        rw [List.take_add_one, hq, List.map_append, List.map_append]
        exact HasL.but (s4 _ _ hc2) (.inr rfl) ((hacc2.same s4).snoc (Has.mkTup (l := [q, 0]) upd_same))
      · rintro H2 ⟨acc2, sm2, hc2, hacc2⟩
        rw [nVs_len, List.take_of_length_le (Nat.le_refl _)] at hacc2
        have hal : acc2.length = js.length := by rw [hacc2.len, List.length_map, List.length_map]
        -- [(len(trips), 1)]
        refine ⟨_, rfl, _, _, rfl, .inl (SqL.of (sm2 _ _ (sm _ _ hta))), (by show 2 ≤ sizeLine; decide), fun t nt => ?_⟩
        refine ⟨(by show 1 ≤ sizeLine; decide), fun c3 nc3 => ?_⟩
        have s4 : Same H2 (upd H2 t (.tup [V.int (tvs.length : Nat), V.int 1])) := same_new nt
        have s5 := same_new (o := .lst [V.ref t]) nc3
        refine ⟨c2, c3, acc2, [.ref t], rfl, rfl, s5 _ _ (s4 _ _ hc2), upd_same, by rw [hal]; exact Nat.le_of_lt (list_short (m := 20) (by show js.length + 1 ≤ 20; omega) (by decide)), fun c4 nc4 => ?_⟩
        have s6 := same_new (o := .lst (acc2 ++ [V.ref t])) nc4
        have sB : Same H' _ := sm2.trans (s4.trans (s5.trans s6))
        have hcc := sB _ _ hc
        have hlen' : acc.length ≤ i := by rw [hacc.len, List.length_map, List.length_take]; omega
        refine ⟨c, _, _, rfl, rfl, hcc, list_short (m := 10) (by omega) (by decide), ?_⟩
        have n4 : ¬ Oc H c c4 := fun z => by
          have z0 : H' c4 = none := (sm2.trans (s4.trans s5)).free nc4
          rcases z with z | z
          · exact z (sm.free z0)
          · rw [z, hc] at z0; cases z0
        have e2 : (dayC s ts)[i]? = some (day1 ts.length js) := by unfold dayC; rw [List.getElem?_map, hjs]; rfl
        refine ⟨acc ++ [.ref c4], _, _, rfl, same_own (sm.trans sB) nc, upd_same, ?_, ?_, ?_⟩
        · rw [List.take_add_one, e2, List.map_append]
          refine HasL.but hcc (.inr rfl) ((hacc.same sB).snoc ?_)
          refine Has.mkL upd_same n4 ?_
          unfold day1
          rw [List.map_append]
          have h2 : HasL _ (Oc H c) _ acc2 := HasL.to (av := Oc H' c2) (fun _ _ e => e) (fun b _ e n => ⟨e, fun z => n (by
            rcases z with z | z
            · exact .inl (by
                cases e0 : H b with
                | none => exact absurd e0 z
                | some o => intro y; rw [sm b o e0] at y; cases y)
            · exact .inl (by rw [z, hc]; intro y; cases y))⟩) _ _ hacc2
          refine (h2.same (s4.trans (s5.trans s6))).snoc ?_
          have := s6 _ _ (s5 _ _ (upd_same (H := H2) (a := t) (o := .tup [V.int (tvs.length : Nat), V.int 1])))
          refine Has.mkTup (l := [ts.length, 1]) ?_
          rw [← htl0]
          exact this
        · rw [upd_ne (fun z => na1 (.inr z))]
          exact sB _ _ ha
        · exact HasL.but hcc (.inr rfl) (hl.same sB)
    · rintro σ H' ⟨acc, v3, v4, rfl, sm, hc, hacc, ha, hl⟩
      refine ⟨_, rfl, ?_⟩
      rw [hl0, List.take_of_length_le (by unfold dayC; rw [List.length_map]; exact Nat.le_refl _)] at hacc
      exact k H' (.ref c) sm (Has.mkL hc (fun q => q nc) hacc.old)
end
end Tu
end
section
/-! merged, cheapest. -/
set_option Elab.async false
set_option linter.all false
set_option maxRecDepth 100000
namespace Tu
open PySem PySem.Spec PyProof.Rows L2
abbrev s_cheapest : Stmt := top 7
abbrev s_merged : Stmt := top 8
/-- no lists at all -/
abbrev All : Addr → Prop := fun _ => True
/-- tuples stay -/
def Tk (H H' : Hp) : Prop := ∀ b ys, H b = some (.tup ys) → H' b = some (.tup ys)
theorem Tk.of {H H' : Hp} (k : Same H H') : Tk H H' := fun b ys e => k b _ e
theorem Tk.trans {H H1 H2 : Hp} (a : Tk H H1) (b : Tk H1 H2) : Tk H H2 := fun c ys e => b c ys (a c ys e)
theorem Tk.upd {H : Hp} {c : Addr} {o u : HO} (hc : H c = some u) (hn : ∀ ys, u ≠ .tup ys) : Tk H (upd H c o) := fun b ys e => by rw [upd_ne (ne_of e hc (fun z => hn ys z.symm))]; exact e
theorem Has.tk {H H' : Hp} {d : D} {v : V} (k : Tk H H') (h : Has H All d v) : Has H' All d v := Has.to k (fun _ _ _ n => absurd trivial n) d v h
/-- one that is kept, or None -/
def HasB (H : Hp) (b : Sw75.Best) (v : V) : Prop := Has H All (bestD b) v
def HasO (H : Hp) (o : Option Sw75.Best) (v : V) : Prop := match o with
  | none => v = .non
  | some b => HasB H b v
theorem HasO.tk {H H' : Hp} {o : Option Sw75.Best} {v : V} (k : Tk H H') (h : HasO H o v) : HasO H' o v := by
  cases o with
  | none => exact h
  | some b => exact Has.tk k h
theorem nVs_ofN (l : List Nat) : nVs l = (ofN l).map V.int := by
  unfold nVs ofN
  rw [List.map_map]
  rfl
theorem lex_nat : ∀ (a b : List Nat), HT.lexLt (ofN a) (ofN b) = lexN a b
  | [], [] => rfl
  | [], _ :: _ => rfl
  | _ :: _, [] => rfl
  | x :: a, y :: b => by
    show (if (x : Int) = (y : Int) then HT.lexLt (ofN a) (ofN b) else decide ((x : Int) < (y : Int))) = if x = y then lexN a b else decide (x < y)
    rw [lex_nat a b]
    by_cases e : x = y
    · rw [if_pos e, if_pos (by rw [e])]
    · rw [if_neg e, if_neg (by omega)]
      exact decide_eq_decide.mpr (by omega)
section
variable {P : Program} {w : World} {K : PySem.W.Frag} {mg : Str → Option Value} {base : Heap} {C : Addr}
/-! ### merged -/
def spMerged : Sp := fun vs H Q _ => ∃ (o : Option Sw75.Best) (b : Sw75.Best) (vo vb : V), vs = [vo, vb] ∧ HasO H o vo ∧ HasB H b vb ∧ ∀ (H' : Hp) (v : V), Same H H' → HasO H' (mO o (some b)) v → Q v H'
theorem sc_merged : FnScope ["one", "other"] ["one", "other"] (defScope s_merged) := ⟨rfl, rfl, rfl, by decide +kernel, rfl, by decide +kernel, by decide +kernel⟩
theorem ok_merged {f : Addr} {fd : FuncData} (F : Fun K "merged" "merged" s_merged f fd) (T : Txt K mg C) : FnOk P w K mg base CX0 1 f fd ["one", "other"] spMerged := by
  refine F.ok sc_merged (fun vs H Q E h => ?_) (fun cdv A outer s H vs Q E hr h => ?_)
  · obtain ⟨o, b, vo, vb, rfl, _⟩ := h
    rfl
  · obtain ⟨o, b, vo, vb, rfl, ho, hb, k⟩ := h
    have hu := hu_of hr
    refine ⟨_, (pss_cons (ps_if ((pw_or (pt_cmp (pc_isN (pv 0))) (pw_or1 (pt_cmpR op_lt (pe_ix ix_tup (pv 1) pe_int (fun _ _ => rfl)) (pe_ix ix_tup (pv 0) pe_int (fun _ _ => rfl)) (nomark _))))).pt (pss_one (ps_ret (pv 1))) pss_nil)
      (pss_cons (ps_if (pt_cmpR op_lt (pe_ix ix_tup (pv 0) pe_int (fun _ _ => rfl)) (pe_ix ix_tup (pv 1) pe_int (fun _ _ => rfl)) (nomark _)) (pss_one (ps_ret (pv 0))) pss_nil)
      (pss_one (ps_ret (pe_tup (pa_cons (pe_ix ix_tup (pv 0) pe_int (fun _ _ => rfl)) (pa_cons (pe_op op_add (pe_ix ix_tup (pv 0) pe_int (fun _ _ => rfl)) (pe_ix ix_tup (pv 1) pe_int (fun _ _ => rfl))) (pa_cons (pe_callB (cr_minT hu) (by rfl) T.b_min PyProof.Rows.boot_min (pa_cons (pe_ix ix_tup (pv 0) pe_int (fun _ _ => rfl)) (pa_cons (pe_ix ix_tup (pv 1) pe_int (fun _ _ => rfl)) pa_nil))) pa_nil)))))))), ?_⟩
    obtain ⟨ba, br, rfl, hba, hbr⟩ := Has.best hb
    cases o with
    | none =>
      have ho : vo = .non := ho
      subst ho
      refine ⟨_, rfl, _, rfl, iteT (iteT ?_)⟩
      exact ⟨_, rfl, k H _ (Same.refl H) hb⟩
    | some a =>
      obtain ⟨oa, orr, rfl, hoa, hor⟩ := Has.best (show Has H All (bestD a) vo from ho)
      refine ⟨_, rfl, _, rfl, iteF ?_⟩
      refine ⟨_, rfl, ba, _, _, nV b.cost, rfl, rfl, SqT.of hba, atI_nat (j := 0) rfl, _, rfl, oa, _, _, nV a.cost, rfl, rfl, SqT.of hoa, atI_nat (j := 0) rfl, _, _, rfl, rfl, _, rfl, ?_⟩
      refine ite2 (fun q => ?_) (fun q => ?_)
      · have q : b.cost < a.cost := by have := of_decide_eq_true q; omega
        refine ⟨_, rfl, k H _ (Same.refl H) ?_⟩
        show HasB H (mrg a b) _
        rw [mrg_gt q]
        exact hb
      · have q : ¬ b.cost < a.cost := fun z => q (decide_eq_true (by omega))
        refine ⟨_, rfl, oa, _, _, nV a.cost, rfl, rfl, SqT.of hoa, atI_nat (j := 0) rfl, _, rfl, ba, _, _, nV b.cost, rfl, rfl, SqT.of hba, atI_nat (j := 0) rfl, _, _, rfl, rfl, _, rfl, ?_⟩
        refine ite2 (fun q2 => ?_) (fun q2 => ?_)
        · have q2 : a.cost < b.cost := by have := of_decide_eq_true q2; omega
          refine ⟨_, rfl, k H _ (Same.refl H) ?_⟩
          show HasB H (mrg a b) _
          rw [mrg_lt q2]
          exact ho
        · have q2 : ¬ a.cost < b.cost := fun z => q2 (decide_eq_true (by omega))
          refine ⟨_, rfl, oa, _, _, nV a.cost, rfl, rfl, SqT.of hoa, atI_nat (j := 0) rfl, ?_⟩
          refine ⟨_, rfl, oa, _, _, nV a.many, rfl, rfl, SqT.of hoa, atI_nat (j := 1) rfl, _, rfl, ba, _, _, nV b.many, rfl, rfl, SqT.of hba, atI_nat (j := 1) rfl, _, _, rfl, rfl, ?_⟩
          refine ⟨_, rfl, oa, _, _, .ref orr, rfl, rfl, SqT.of hoa, atI_nat (j := 2) rfl, _, rfl, ba, _, _, .ref br, rfl, rfl, SqT.of hba, atI_nat (j := 2) rfl, orr, br, ofN a.next, ofN b.next, rfl, by rw [← nVs_ofN]; exact SqT.of hor, by rw [← nVs_ofN]; exact SqT.of hbr, ?_⟩
          refine ⟨(by show 3 ≤ sizeLine; decide), fun t nt => ?_⟩
          refine k _ _ (same_new nt) ?_
          show HasB _ (mrg a b) _
          rw [mrg_eq (by omega)]
          have e : ((a.many : Int) + (b.many : Int)) = ((a.many + b.many : Nat) : Int) := by omega
          have hr : ∀ r, (if HT.lexLt (ofN b.next) (ofN a.next) = true then br else orr) = r → H r = some (.tup (nVs (minL a.next b.next))) := fun r er => by
            rw [lex_nat] at er
            unfold minL
            by_cases z : lexN b.next a.next = true
            · rw [if_pos z] at er ⊢; rw [← er]; exact hbr
            · rw [if_neg z] at er ⊢; rw [← er]; exact hor
          refine Has.mkBest (r := if HT.lexLt (ofN b.next) (ofN a.next) = true then br else orr) ?_ ?_
          · rw [upd_same]
            show some (HO.tup [nV a.cost, V.int ((a.many : Int) + (b.many : Int)), _]) = _
            rw [e]
            rfl
          · have h0 := hr _ rfl
            rw [upd_ne (ne_of_none h0 nt)]
            exact h0
/-! ### the dict of what is kept -/
/-- the pairs of the dict are these -/
def DictHas (H : Hp) : List (Nat × Sw75.Best) → List (Key × V) → Prop
  | [], kvs => kvs = []
  | e :: d, kvs => ∃ v r, kvs = (Sum.inl (e.1 : Int), v) :: r ∧ HasB H e.2 v ∧ DictHas H d r
theorem DictHas.tk {H H' : Hp} (k : Tk H H') : ∀ {d : List (Nat × Sw75.Best)} {kvs : List (Key × V)}, DictHas H d kvs → DictHas H' d kvs
  | [], _, h => h
  | _ :: _, _, ⟨v, r, e, h1, h2⟩ => ⟨v, r, e, Has.tk k h1, h2.tk k⟩
theorem DictHas.len {H : Hp} : ∀ {d : List (Nat × Sw75.Best)} {kvs : List (Key × V)}, DictHas H d kvs → kvs.length = d.length
  | [], _, h => by cases h; rfl
  | _ :: _, _, ⟨v, r, e, h1, h2⟩ => by subst e; rw [List.length_cons, List.length_cons, h2.len]
theorem DictHas.get {H : Hp} : ∀ {d : List (Nat × Sw75.Best)} {kvs : List (Key × V)} {i : Nat} {k : Key} {v : V}, DictHas H d kvs → kvs[i]? = some (k, v) → ∃ e, d[i]? = some e ∧ k = Sum.inl (e.1 : Int) ∧ HasB H e.2 v
  | [], _, _, _, _, h, e => by cases h; simp at e
  | x :: _, _, 0, _, _, ⟨v, r, e, h1, h2⟩, q => by subst e; cases q; exact ⟨x, rfl, rfl, h1⟩
  | _ :: _, _, i + 1, _, _, ⟨v, r, e, h1, h2⟩, q => by subst e; exact h2.get (i := i) q
theorem DictHas.val {H : Hp} {m : Nat} : ∀ {d : List (Nat × Sw75.Best)} {kvs : List (Key × V)}, DictHas H d kvs → HasO H (getN d m) ((valV kvs (Sum.inl (m : Int))).getD .non)
  | [], _, h => by cases h; rfl
  | x :: d, _, ⟨v, r, e, h1, h2⟩ => by
    subst e
    by_cases q : x.1 = m
    · have eg : getN (x :: d) m = some x.2 := by unfold getN; rw [List.find?_cons]; simp [q]
      rw [eg, valV_pos (by rw [q])]
      exact h1
    · have eg : getN (x :: d) m = getN d m := by unfold getN; rw [List.find?_cons, beq_false_of_ne q]
      rw [eg, valV_neg (fun z => q (by have := Sum.inl.inj z; omega))]
      exact h2.val
theorem putK_cons {p : Key × V} {r : List (Key × V)} {k : Key} {v : V} (hn : k ∉ r.map (·.1) ∨ ¬ p.1 = k) : putK (p :: r) k v = if p.1 = k then (k, v) :: r else p :: putK r k v := by
  unfold putK
  by_cases e : p.1 = k
  · rw [if_pos e, if_pos (by simp [e]), List.map_cons, if_pos e, e]
    congr 1
    rcases hn with hn | hn
    · have : ∀ (l : List (Key × V)), k ∉ l.map (·.1) → l.map (fun kv => if kv.1 = k then (kv.1, v) else kv) = l := by
        intro l
        induction l with
        | nil => intro _; rfl
        | cons q l ih =>
          intro h
          rw [List.map_cons, List.mem_cons, not_or] at h
          rw [List.map_cons, if_neg (fun z => h.1 z.symm), ih h.2]
      exact this r hn
    · exact absurd e hn
  · rw [if_neg e]
    have : ((p :: r).any fun kv => decide (kv.1 = k)) = r.any fun kv => decide (kv.1 = k) := by rw [List.any_cons, decide_eq_false e, Bool.false_or]
    rw [this]
    by_cases h : (r.any fun kv => decide (kv.1 = k)) = true
    · rw [if_pos h, if_pos h, List.map_cons, if_neg e]
    · rw [if_neg h, if_neg h, List.cons_append]
theorem DictHas.keys {H : Hp} : ∀ {d : List (Nat × Sw75.Best)} {kvs : List (Key × V)}, DictHas H d kvs → kvs.map (·.1) = d.map fun e => Sum.inl (e.1 : Int)
  | [], _, h => by cases h; rfl
  | _ :: _, _, ⟨v, r, e, h1, h2⟩ => by subst e; rw [List.map_cons, List.map_cons, h2.keys]
theorem DictHas.put {H : Hp} {m : Nat} {b : Sw75.Best} {v : V} (hb : HasB H b v) : ∀ {d : List (Nat × Sw75.Best)} {kvs : List (Key × V)}, DictHas H d kvs → (d.map (·.1)).Nodup → DictHas H (putN d m b) (putK kvs (Sum.inl (m : Int)) v)
  | [], _, h, _ => by cases h; exact ⟨v, [], rfl, hb, rfl⟩
  | x :: d, _, ⟨u, r, e, h1, h2⟩, hn => by
    subst e
    rw [List.map_cons, List.nodup_cons] at hn
    unfold putN
    by_cases q : x.1 = m
    · rw [if_pos q, putK_cons (.inl (by
        rw [h2.keys]
        intro z
        obtain ⟨y, hy, ey⟩ := List.mem_map.mp z
        have : y.1 = m := by have := Sum.inl.inj ey; omega
        exact hn.1 (List.mem_map.mpr ⟨y, hy, this.trans q.symm⟩))), if_pos (by rw [q])]
      exact ⟨v, r, rfl, hb, h2⟩
    · have q' : ¬ (Sum.inl (x.1 : Int) : Key) = Sum.inl (m : Int) := fun z => q (by have := Sum.inl.inj z; omega)
      rw [if_neg q, putK_cons (.inr q'), if_neg q']
      exact ⟨u, _, rfl, h1, h2.put hb hn.2⟩
/-! ### bits -/
theorem int_and (m b : Nat) : Builtin.bitAnd (m : Int) (b : Int) = ((m &&& b : Nat) : Int) := by
  rw [bitAnd_pp (by omega) (by omega), Int.toNat_natCast, Int.toNat_natCast]
theorem int_or {m b : Nat} (h : m &&& b = 0) : Builtin.bitOr (m : Int) (b : Int) = ((m + b : Nat) : Int) := by
  rw [bitOr_and, int_and, h]
  omega
theorem pe_disp1 {X : Cx} {k v : Expr} {tk tv : TE} {pos : Pos} (hk : PE X k tk) (hv : PE X v tv) : PE X (.Dict [some k] [v] pos) (tDisp [(tk, tv)]) := pe_disp (pps_cons hk hv pps_nil) rfl rfl (by intro z; cases z) (by show 1 ≤ 15; decide)
theorem pe_mono {X : Cx} {e : Expr} {t t' : TE} (h : PE X e t) (hm : ∀ σ H Q, t' σ H Q → t σ H Q) : PE X e t' := fun pins s σ H Q I q => h pins s σ H Q I (hm σ H Q q)
/-- 1 << follower if follower < none else 0 -/
def tBit (i j : Nat) : TE := fun σ H Q => ∃ a n : Nat, σ[i]? = some (some (nV a)) ∧ σ[j]? = some (some (nV n)) ∧ a ≤ 1000 ∧ Q (nV (bitN n a)) H
theorem bit_ok (i j : Nat) (σ : L2.St) (H : Hp) (Q : VK) (h : tBit i j σ H Q) : tIf (tTest (tOp (rI0 fun i j => V.bl (decide (i < j))) (tVar i) (tVar j))) (tOp (rI CPow fun i j => V.int (i * 2 ^ j.toNat)) (tC (V.int 1)) (tVar i)) (tC (V.int 0)) σ H Q := by
  obtain ⟨a, n, h1, h2, h3, q⟩ := h
  refine ⟨_, h1, _, h2, _, _, rfl, rfl, _, rfl, ?_⟩
  unfold bitN at q
  refine ite2 (fun z => ?_) (fun z => ?_)
  · have z : a < n := by have := of_decide_eq_true z; omega
    rw [if_pos z] at q
    refine ⟨_, h1, _, _, rfl, rfl, ⟨by omega, by omega, by decide⟩, ?_⟩
    have e : ((1 : Int) * 2 ^ ((a : Int)).toNat) = ((2 ^ a : Nat) : Int) := by rw [Int.toNat_natCast]; simp
    show Q (V.int ((1 : Int) * 2 ^ ((a : Int)).toNat)) H
    rw [e]
    exact q
  · have z : ¬ a < n := fun y => z (decide_eq_true (by omega))
    rw [if_neg z] at q
    exact q
/-! ### cheapest -/
def spCheap : Sp := fun vs H Q _ => ∃ (cs : List (List (Nat × Nat))) (v0 : V), vs = [v0] ∧ Has H No (.li (cs.map pairsD)) v0 ∧ cs.length ≤ 10 ∧ (∀ ps ∈ cs, ∀ p ∈ ps, p.1 ≤ 10) ∧ ∀ (H' : Hp) (v : V), Same H H' → HasO H' (sumO ((walkD cs.length cs).map fun e => some e.2)) v → Q v H'
theorem sc_cheap : FnScope ["choices", "none", "bests", "pairs", "longer", "taken", "best", "follower", "cost", "bit", "grown", "found"] ["choices"] (defScope s_cheapest) := ⟨rfl, rfl, rfl, by decide +kernel, rfl, by decide +kernel, by decide +kernel⟩
/-- what bests is at first, as the text says it; the body with another in its place -/
def startE : Expr := match defBody s_cheapest with
  | _ :: .Assign _ v _ :: _ => v
  | _ => .Constant .none 0 ⟨0, 0, 0, 0⟩
def setVal (l : List Stmt) (e : Expr) : List Stmt := match l with
  | a :: .Assign t _ p :: r => a :: .Assign t e p :: r
  | l => l
theorem two10 {n : Nat} (h : n ≤ 10) : 2 ^ n ≤ 1024 := Nat.pow_le_pow_right (by decide) h
theorem dict_room {n : Nat} {d : List (Nat × Sw75.Best)} (h : KeysOk n d) (hn : n ≤ 10) : d.length < sizeLine := Nat.lt_of_le_of_lt (Nat.le_trans h.len (two10 hn)) (by decide)
section
set_option maxHeartbeats 0 in
theorem ok_cheap {f : Addr} {fd : FuncData} (F : Fun K "cheapest" "cheapest" s_cheapest f fd) (T : Txt K mg C) (F_merged : FnAt P w K mg base "merged" 1 ["one", "other"] spMerged) : FnOk P w K mg base CX0 2 f fd ["choices"] spCheap := by
  refine F.ok sc_cheap (fun vs H Q E h => ?_) (fun cdv A outer s H vs Q E hr h => ?_)
  · obtain ⟨cs, v0, rfl, _⟩ := h
    rfl
  · obtain ⟨cs, v0, rfl, h0, hlen, hps, k⟩ := h
    have hu := hu_of hr
    have S := sc_cheap
    have start : PE (cxOf CX0 P w K mg base ["choices", "none", "bests", "pairs", "longer", "taken", "best", "follower", "cost", "bit", "grown", "found"] "cheapest" (defScope s_cheapest) f cdv A outer s H E).nox startE (tDisp [(tC (.int 0), tTup (tCons (tC (.int 0)) (tCons (tC (.int 1)) (tCons (tTup tNil) tNil))))]) := by
      refine pe_disp1 ?_ ?_
      · exact pe_int
      · exact (pe_tup (pa_cons pe_int (pa_cons pe_int (pa_cons (pe_tup pa_nil) pa_nil))))
    have sws : ∀ (x : Str) (p : Pos) (n : Nat), swapsWith startE (some (.Name x p)) n (cxOf CX0 P w K mg base ["choices", "none", "bests", "pairs", "longer", "taken", "best", "follower", "cost", "bit", "grown", "found"] "cheapest" (defScope s_cheapest) f cdv A outer s H E).nox.env = pure false := fun _ _ _ => rfl
    have hB : defBody s_cheapest = setVal (defBody s_cheapest) startE := rfl
    rw [hB]
    generalize startE = e0 at start sws ⊢
    refine ⟨_, (pss_cons (ps_set (i := 1) S.nd rfl (Or.inl rfl) (pe_callB call_len_seq (by rfl) T.b_len PySem.boot_len (pa_cons (pv 0) pa_nil)))
      (pss_cons (ps_set (i := 2) S.nd rfl (Or.inl rfl) start (hs := sws _ _ _))
      (pss_cons (ps_for PassesOwn.never rfl (pi_list (pv 0)) (pg_name (i := 3) S.nd rfl (Or.inl rfl))
      (pss_cons (ps_set (i := 4) S.nd rfl (Or.inl rfl) pe_dnewK)
      (pss_cons (ps_lock (ps_for PassesOwn.never rfl (pi_items (pv 2)) (pg_tup rfl (pgs_cons (pg_name (i := 5) S.nd rfl (Or.inl rfl)) (pgs_cons (pg_name (i := 6) S.nd rfl (Or.inl rfl)) pgs_nil)))
      (pss_one (ps_for PassesOwn.never rfl (pi_list (pv 3)) (pg_tup rfl (pgs_cons (pg_name (i := 7) S.nd rfl (Or.inl rfl)) (pgs_cons (pg_name (i := 8) S.nd rfl (Or.inl rfl)) pgs_nil)))
      (pss_cons (ps_set (i := 9) S.nd rfl (Or.inl rfl) (pe_mono (pe_ifExp (pt_cmpR op_lt (pv 7) (pv 1) (nomark _)) (pe_op op_shl pe_int (pv 7)) pe_int) (bit_ok 7 1)))
      (pss_one (ps_if (pt_cmpR op_eq (pe_op op_and (pv 5) (pv 9)) pe_int (nomark _))
        (pss_cons (ps_set (i := 10) S.nd rfl (Or.inl rfl) (pe_tup (pa_cons (pe_op op_add (pe_ix ix_tup (pv 6) pe_int (fun _ _ => rfl)) (pv 8)) (pa_cons (pe_ix ix_tup (pv 6) pe_int (fun _ _ => rfl)) (pa_cons (pe_op op_catU (pe_ix ix_tup (pv 6) pe_int (fun _ _ => rfl)) (pe_tup (pa_cons (pv 7) pa_nil))) pa_nil)))))
        (pss_one (ps_dput hu (pv 4) (pe_op op_or (pv 5) (pv 9)) (pcall F_merged hr (pa_cons (pe_dget1 hu (pv 4) (pe_op op_or (pv 5) (pv 9)) (by exact ⟨rfl, rfl, rfl, rfl⟩)) (pa_cons (pv 10) pa_nil))) rfl)))
        pss_nil)))))))
      (pss_one (ps_set (i := 2) S.nd rfl (Or.inl rfl) (pv 4))))))
      (pss_cons (ps_set (i := 11) S.nd rfl (Or.inl rfl) pe_non)
      (pss_cons (ps_lock (ps_for PassesOwn.never rfl (pi_values (pv 2)) (pg_name (i := 6) S.nd rfl (Or.inl rfl))
      (pss_one (ps_set (i := 11) S.nd rfl (Or.inl rfl) (pcall F_merged hr (pa_cons (pv 11) (pa_cons (pv 6) pa_nil)))))))
      (pss_one (ps_ret (pv 11)))))))), ?_⟩
    obtain ⟨a0, vs0, rfl, ha0, _, hl0⟩ := h0.list
    have hn0 : vs0.length = cs.length := by rw [hl0.len, List.length_map]
    -- none = len(choices)
    refine ⟨_, rfl, _, _, rfl, .inl (SqL.of ha0), ?_⟩
    rw [hn0]
    -- bests = {0: (0, 1, ())}
    intro bd nbd
    refine ⟨Nat.zero_le _, fun t nt => ⟨(by show 3 ≤ sizeLine; decide), fun g ng => ?_⟩⟩
    obtain ⟨ntb, nt0⟩ := upd_none nt
    obtain ⟨ngt, ng1⟩ := upd_none ng
    obtain ⟨ngb, ng0⟩ := upd_none ng1
    refine ⟨by rw [upd_ne ngb.symm, upd_ne ntb.symm, upd_same], [(Sum.inl 0, .ref g)], rfl, (by show 1 ≤ 15; decide), ?_⟩
    -- for pairs in choices
    refine ⟨_, rfl, a0, rfl, ⟨vs0, ?_⟩, for_list (xs := vs0) (fun i σ H' => ∃ (bd : Addr) (kvs : List (Key × V)) (v3 v4 v5 v6 v7 v8 v9 v10 v11 : Option V), σ = [some (.ref a0), some (nV cs.length), some (.ref bd), v3, v4, v5, v6, v7, v8, v9, v10, v11] ∧ Same H H' ∧ H bd = none ∧ H' bd = some (.dK kvs) ∧ DictHas H' (walkD cs.length (cs.take i)) kvs) ?_ ?_ ?_ ?_⟩
    · refine SqL.of ?_
      rw [upd_ne (ne_of_none ha0 nbd), upd_ne (ne_of_none ha0 ng0), upd_ne (ne_of_none ha0 nt0), upd_ne (ne_of_none ha0 nbd)]
      exact ha0
    · refine ⟨bd, _, none, none, none, none, none, none, none, none, none, rfl, same_own (same_own (same_own (same_own (Same.refl H) nbd) nt0) ng0) nbd, nbd, upd_same, ?_⟩
      refine ⟨.ref g, [], rfl, ?_, rfl⟩
      refine Has.mkBest (r := t) ?_ ?_
      · rw [upd_ne ngb, upd_same]; rfl
      · rw [upd_ne ntb, upd_ne ngt.symm, upd_same]; rfl
    · rintro i σ H' _ ⟨bd, kvs, v3, v4, v5, v6, v7, v8, v9, v10, v11, rfl, sm, _⟩
      exact SqL.of (sm _ _ ha0)
    · rintro i v σ H' e ⟨bd, kvs, v3, v4, v5, v6, v7, v8, v9, v10, v11, rfl, sm, nb0, hbd, hD⟩
      obtain ⟨d, hd, hv⟩ := hl0.get e
      rw [List.getElem?_map, Option.map_eq_some_iff] at hd
      obtain ⟨ps, hps1, rfl⟩ := hd
      have hpm : ps ∈ cs := List.mem_of_getElem? hps1
      have hi : i < cs.length := (List.getElem?_eq_some_iff.mp hps1).1
      obtain ⟨pa, pvs, rfl, hpa, _, hpl⟩ := hv.list
      have hpn : pvs.length = ps.length := by rw [hpl.len, List.length_map]
      have kD : KeysOk cs.length (walkD cs.length (cs.take i)) := walk_keys _ _
      have lD : AllLen (cs.take i).length (walkD cs.length (cs.take i)) := walk_len _ _
      have li : (cs.take i).length ≤ 10 := by rw [List.length_take]; omega
      generalize hdd : walkD cs.length (cs.take i) = dd at hD kD lD
      have eW : walkD cs.length (cs.take (i + 1)) = turn cs.length dd ps := by
        rw [← hdd]; exact foldl_take (turn cs.length) cs _ hps1
      -- longer = {}
      intro lg nlg
      have nlg0 : H lg = none := sm.free nlg
      have nbl : bd ≠ lg := ne_of_none hbd nlg
      have hbd2 : (upd H' lg (.dK [])) bd = some (.dK kvs) := by rw [upd_ne nbl]; exact hbd
      -- for taken, best in bests.items()
      refine ⟨bd, .dK kvs, hbd2, trivial, fun od => ?_⟩
      refine ⟨_, rfl, bd, od, kvs, rfl, upd_same, for_items (fun j σ H3 => ∃ (kl : List (Key × V)) (v5 v6 v7 v8 v9 v10 v11 : Option V), σ = [some (.ref a0), some (nV cs.length), some (.ref bd), some (.ref pa), some (.ref lg), v5, v6, v7, v8, v9, v10, v11] ∧ Same H H3 ∧ H3 bd = some (.frz od (.dK kvs)) ∧ H3 lg = some (.dK kl) ∧ DictHas H3 dd kvs ∧ DictHas H3 ((dd.take j).foldl (put2 cs.length ps) []) kl ∧ KeysOk cs.length ((dd.take j).foldl (put2 cs.length ps) [])) ?_ ?_ ?_ ?_⟩
      · refine ⟨[], _, _, _, _, _, _, _, rfl, same_own (same_own sm nlg0) nb0, upd_same, by rw [upd_ne nbl.symm, upd_same], ?_, rfl, ⟨List.nodup_nil, fun _ h => nomatch h⟩⟩
        exact hD.tk ((Tk.of (same_new nlg)).trans (Tk.upd hbd2 (fun ys z => nomatch z)))
      · rintro j σ H3 ⟨kl, v5, v6, v7, v8, v9, v10, v11, rfl, sm3, hf3, _⟩
        exact hf3
      · rintro j kk vb σ H3 T ej ⟨kl, v5, v6, v7, v8, v9, v10, v11, rfl, sm3, hf3, hlg3, hD3, hL3, kL3⟩ nT
        obtain ⟨en, hen, rfl, hB⟩ := hD3.get ej
        have henm : en ∈ dd := List.mem_of_getElem? hen
        refine ⟨T, _, rfl, SqT.of upd_same, rfl, _, _, rfl, _, _, rfl, rfl, ?_⟩
        have s4 : Same H3 (upd H3 T (.tup [kV (Sum.inl (en.1 : Int)), vb])) := same_new nT
        have eP : (dd.take (j + 1)).foldl (put2 cs.length ps) [] = put2 cs.length ps ((dd.take j).foldl (put2 cs.length ps) []) en := foldl_take _ dd _ hen
        generalize hdl : (dd.take j).foldl (put2 cs.length ps) [] = dl at hL3 kL3 eP
        -- for follower, cost in pairs
        refine ⟨_, rfl, pa, rfl, ⟨_, SqL.of (s4 _ _ (sm3 _ _ hpa))⟩, for_list (xs := pvs) (fun l σ H5 => ∃ (kl : List (Key × V)) (v7 v8 v9 v10 v11 : Option V), σ = [some (.ref a0), some (nV cs.length), some (.ref bd), some (.ref pa), some (.ref lg), some (nV en.1), some vb, v7, v8, v9, v10, v11] ∧ Same H H5 ∧ H5 bd = some (.frz od (.dK kvs)) ∧ H5 lg = some (.dK kl) ∧ DictHas H5 dd kvs ∧ HasB H5 en.2 vb ∧ DictHas H5 ((ps.take l).foldl (put1 cs.length en) dl) kl ∧ KeysOk cs.length ((ps.take l).foldl (put1 cs.length en) dl)) ?_ ?_ ?_ ?_⟩
        · exact ⟨kl, _, _, _, _, _, rfl, sm3.trans s4, s4 _ _ hf3, s4 _ _ hlg3, hD3.tk (Tk.of s4), Has.tk (Tk.of s4) hB, hL3.tk (Tk.of s4), kL3⟩
        · rintro l σ H5 _ ⟨kl, v7, v8, v9, v10, v11, rfl, sm5, _⟩
          exact SqL.of (sm5 _ _ hpa)
        · rintro l u σ H5 el ⟨kl, v7, v8, v9, v10, v11, rfl, sm5, hf5, hlg5, hD5, hB5, hL5, kL5⟩
          obtain ⟨d2, hd2, hv2⟩ := hpl.get el
          rw [List.getElem?_map, Option.map_eq_some_iff] at hd2
          obtain ⟨pr, hpr, rfl⟩ := hd2
          obtain ⟨qa, rfl, hqa⟩ := hv2.tups
          have hpr1 : pr.1 ≤ 10 := hps ps hpm pr (List.mem_of_getElem? hpr)
          refine ⟨qa, _, rfl, SqT.of (sm5 _ _ hqa), rfl, _, _, rfl, _, _, rfl, rfl, ?_⟩
          have eQ : (ps.take (l + 1)).foldl (put1 cs.length en) dl = put1 cs.length en ((ps.take l).foldl (put1 cs.length en) dl) pr := foldl_take _ ps _ hpr
          have kQ : KeysOk cs.length ((ps.take (l + 1)).foldl (put1 cs.length en) dl) := by rw [eQ]; exact put1_keys (kD.lt en henm) kL5
          generalize hdq : (ps.take l).foldl (put1 cs.length en) dl = dq at hL5 kL5 eQ
          -- bit
          refine ⟨pr.1, cs.length, rfl, rfl, by omega, ?_⟩
          -- if taken & bit == 0
          refine ⟨_, rfl, _, rfl, _, _, rfl, rfl, rfl, _, rfl, ?_⟩
          cases et : taken cs.length en.1 pr.1 with
          | none =>
            have e0 : decide (V.int (Builtin.bitAnd (en.1 : Int) ((bitN cs.length pr.1 : Nat) : Int)) = V.int 0) = false := by
              refine decide_eq_false fun z => bits_none et ?_
              rw [int_and] at z
              injection z with z
              omega
            rw [e0]
            refine iteF ?_
            refine ⟨kl, _, _, _, _, _, rfl, sm5, hf5, hlg5, hD5, hB5, ?_, kQ⟩
            rw [eQ]
            unfold put1
            rw [et]
            exact hL5
          | some m' =>
            obtain ⟨hz, hm'⟩ := bits_some et
            have e0 : decide (V.int (Builtin.bitAnd (en.1 : Int) ((bitN cs.length pr.1 : Nat) : Int)) = V.int 0) = true := by
              rw [int_and, hz]
              rfl
            have hk : V.int (Builtin.bitOr (en.1 : Int) ((bitN cs.length pr.1 : Nat) : Int)) = kV (Sum.inl (m' : Int)) := by
              rw [int_or hz, hm']
              rfl
            rw [e0]
            refine iteT ?_
            obtain ⟨ba, br, rfl, hba, hbr⟩ := Has.best hB5
            -- grown
            refine ⟨_, rfl, ba, _, _, nV en.2.cost, rfl, rfl, SqT.of hba, atI_nat (j := 0) rfl, _, rfl, _, _, rfl, rfl, ?_⟩
            refine ⟨_, rfl, ba, _, _, nV en.2.many, rfl, rfl, SqT.of hba, atI_nat (j := 1) rfl, ?_⟩
            refine ⟨_, rfl, ba, _, _, .ref br, rfl, rfl, SqT.of hba, atI_nat (j := 2) rfl, _, rfl, (by show 1 ≤ sizeLine; decide), fun t nt => ?_⟩
            have s6 : Same H5 (upd H5 t (.tup [nV pr.1])) := same_new nt
            have hnl : en.2.next.length ≤ 10 := by rw [lD en henm]; exact li
            refine ⟨br, t, nVs en.2.next, [nV pr.1], rfl, rfl, s6 _ _ hbr, upd_same, (by intro z; cases z), by rw [nVs_len]; exact Nat.le_of_lt (list_short (m := 20) (by show en.2.next.length + 1 ≤ 20; omega) (by decide)), fun H7 q s7 hq => ?_⟩
            refine ⟨(by show 3 ≤ sizeLine; decide), fun g ng => ?_⟩
            have s8 : Same H7 _ := same_new (o := .tup [V.int ((en.2.cost : Int) + (pr.2 : Int)), nV en.2.many, .ref q]) ng
            have s58 : Same H5 _ := s6.trans (s7.trans s8)
            have hG : HasB (upd H7 g (.tup [V.int ((en.2.cost : Int) + (pr.2 : Int)), nV en.2.many, .ref q])) (grown en.2 pr) (.ref g) := by
              refine Has.mkBest (r := q) ?_ ?_
              · rw [upd_same]
                have : (en.2.cost : Int) + (pr.2 : Int) = ((en.2.cost + pr.2 : Nat) : Int) := by omega
                rw [this]
                rfl
              · rw [s8 _ _ hq]
                unfold grown nVs
                rw [List.map_append]
                rfl
            -- merged(longer.get(taken | bit), grown)
            refine ⟨_, rfl, lg, rfl, .inl ⟨kl, .inl (s58 _ _ hlg5)⟩, _, rfl, _, rfl, _, _, rfl, rfl, valV kl (Sum.inl (m' : Int)), .inl ⟨kl, _, .inl (s58 _ _ hlg5), hk, rfl⟩, _, rfl, ?_⟩
            refine ⟨getN dq m', grown en.2 pr, _, _, rfl, (hL5.val).tk (Tk.of s58), hG, fun H9 v9 s9 h9 => ?_⟩
            -- longer[taken | bit] = ..
            have s59 := s58.trans s9
            refine ⟨_, rfl, _, rfl, _, rfl, _, _, rfl, rfl, lg, _, rfl, .inl ⟨kl, _, s59 _ _ hlg5, hk, by rw [hL5.len]; exact dict_room kL5 hlen, rfl⟩, ?_⟩
            have nlb : lg ≠ bd := nbl.symm
            have tk9 : Tk H5 (upd H9 lg (.dK (putK kl (Sum.inl (m' : Int)) v9))) := (Tk.of s59).trans (Tk.upd (s59 _ _ hlg5) (fun ys z => nomatch z))
            have tkw : Tk H9 (upd H9 lg (.dK (putK kl (Sum.inl (m' : Int)) v9))) := Tk.upd (s59 _ _ hlg5) (fun ys z => nomatch z)
            refine ⟨_, _, _, _, _, _, rfl, same_own (sm5.trans s59) nlg0, by rw [upd_ne nbl]; exact s59 _ _ hf5, upd_same, hD5.tk tk9, Has.tk tk9 hB5, ?_, kQ⟩
            rw [eQ]
            unfold put1
            rw [et]
            simp only
            cases eg : getN dq m' with
            | none =>
              rw [eg] at h9
              exact (hL5.tk tk9).put (Has.tk tkw h9) kL5.nd
            | some x =>
              rw [eg] at h9
              exact (hL5.tk tk9).put (Has.tk tkw h9) kL5.nd
        · rintro σ H5 ⟨kl, v7, v8, v9, v10, v11, rfl, sm5, hf5, hlg5, hD5, hB5, hL5, kL5⟩
          rw [hpn, List.take_of_length_le (Nat.le_refl _)] at hL5 kL5
          refine ⟨kl, _, _, _, _, _, _, _, rfl, sm5, hf5, hlg5, hD5, ?_, ?_⟩
          · rw [eP]; exact hL5
          · rw [eP]; exact kL5
      · rintro σ H3 ⟨kl, v5, v6, v7, v8, v9, v10, v11, rfl, sm3, hf3, hlg3, hD3, hL3, kL3⟩
        rw [hD.len, List.take_of_length_le (Nat.le_refl _)] at hL3
        refine ⟨hf3, _, rfl, ?_⟩
        refine ⟨lg, kl, _, _, _, _, _, _, _, _, _, rfl, same_own sm3 nb0, nlg0, by rw [upd_ne nbl.symm]; exact hlg3, ?_⟩
        rw [eW]
        exact hL3.tk (Tk.upd hf3 (fun ys z => nomatch z))
    · rintro σ H' ⟨bd, kvs, v3, v4, v5, v6, v7, v8, v9, v10, v11, rfl, sm, nb0, hbd, hD⟩
      rw [hn0, List.take_of_length_le (Nat.le_refl _)] at hD
      -- found = None; for best in bests.values()
      generalize hdd : walkD cs.length cs = dd at hD k
      refine ⟨bd, .dK kvs, hbd, trivial, fun od => ?_⟩
      refine ⟨_, rfl, bd, od, kvs, rfl, upd_same, for_vals (fun j σ H3 => ∃ (v3 v4 v5 v6 v7 v8 v9 v10 : Option V) (vf : V), σ = [some (.ref a0), some (nV cs.length), some (.ref bd), v3, v4, v5, v6, v7, v8, v9, v10, some vf] ∧ Same H H3 ∧ H3 bd = some (.frz od (.dK kvs)) ∧ DictHas H3 dd kvs ∧ HasO H3 (sumO ((dd.take j).map fun e => some e.2)) vf) ?_ ?_ ?_ ?_⟩
      · exact ⟨_, _, _, _, _, _, _, _, _, rfl, same_own sm nb0, upd_same, hD.tk (Tk.upd hbd (fun ys z => nomatch z)), rfl⟩
      · rintro j σ H3 ⟨v3, v4, v5, v6, v7, v8, v9, v10, vf, rfl, sm3, hf3, _⟩
        exact hf3
      · rintro j kk vb σ H3 ej ⟨v3, v4, v5, v6, v7, v8, v9, v10, vf, rfl, sm3, hf3, hD3, hO3⟩
        obtain ⟨en, hen, rfl, hB⟩ := hD3.get ej
        refine ⟨_, rfl, _, rfl, _, en.2, vf, vb, rfl, hO3, hB, fun H4 v4' s4 h4 => ?_⟩
        refine ⟨_, _, _, _, _, _, _, _, _, rfl, sm3.trans s4, s4 _ _ hf3, hD3.tk (Tk.of s4), ?_⟩
        rw [List.take_add_one, hen, List.map_append]
        show HasO H4 (sumO (_ ++ [some en.2])) _
        rw [sumO_snoc]
        exact h4
      · rintro σ H3 ⟨v3, v4, v5, v6, v7, v8, v9, v10, vf, rfl, sm3, hf3, hD3, hO3⟩
        rw [hD.len, List.take_of_length_le (Nat.le_refl _)] at hO3
        refine ⟨hf3, _, rfl, ?_⟩
        exact k _ vf (same_own sm3 nb0) (hO3.tk (Tk.upd hf3 (fun ys z => nomatch z)))
end
end
end Tu
end
section
/-! run_from, unit_lists, ring_lists. -/
set_option Elab.async false
set_option linter.all false
set_option maxRecDepth 100000
namespace Tu
open PySem PySem.Spec PyProof.Rows L2
abbrev s_unit_lists : Stmt := top 9
abbrev s_ring_lists : Stmt := top 10
abbrev s_run_from : Stmt := top 11
section
variable {P : Program} {w : World} {K : PySem.W.Frag} {mg : Str → Option Value} {base : Heap} {C : Addr}
/-! ### run_from -/
def spRun : Sp := fun vs H Q _ => ∃ (row : List Nat) (n first : Nat) (v : V), vs = [v, nV first] ∧ Has H No (tupN row) v ∧ Row row n ∧ first < n ∧ n ≤ 10 ∧ Gives H (numsD (runOff row n first)) Q
theorem sc_run : FnScope ["row", "first", "run", "after"] ["row", "first"] (defScope s_run_from) := ⟨rfl, rfl, rfl, by decide +kernel, rfl, by decide +kernel, by decide +kernel⟩
theorem ok_run {f : Addr} {fd : FuncData} (F : Fun K "run_from" "run_from" s_run_from f fd) (T : Txt K mg C) : FnOk P w K mg base CX0 1 f fd ["row", "first"] spRun := by
  refine F.ok sc_run (fun vs H Q E h => ?_) (fun cdv A outer s H vs Q E hr h => ?_)
  · obtain ⟨row, n, first, v, rfl, _⟩ := h
    rfl
  · obtain ⟨row, n, first, v, rfl, hv, R, hf, hn, k⟩ := h
    have S := sc_run
    refine ⟨_, (pss_cons (ps_set (i := 2) S.nd rfl (Or.inl rfl) (pe_lst (pa_cons (pv 1) pa_nil)))
      (pss_cons (ps_set (i := 3) S.nd rfl (Or.inl rfl) (pe_ix ix_tup (pv 0) (pv 1) (fun _ _ => rfl)))
      (pss_cons (ps_while PassesOwn.never ((pw_and (pt_cmpR op_lt (pv 3) (pe_callB call_len_seq (by rfl) T.b_len PySem.boot_len (pa_cons (pv 0) pa_nil)) (nomark _)) (pw_and1 (pt_cmpR op_ne (pv 3) (pv 1) (nomark _))))).pt
      (pss_cons (ps_expr (pe_bm PySem.F.plainAttrs_list PySem.F.slot_list_append PySem.F.type_list_append mt_append (pv 2) (pa_cons (pv 3) pa_nil)))
      (pss_one (ps_set (i := 3) S.nd rfl (Or.inl rfl) (pe_ix ix_tup (pv 0) (pv 3) (fun _ _ => rfl))))))
      (pss_one (ps_ret (pv 2)))))), ?_⟩
    obtain ⟨a, rfl, ha⟩ := hv.tups
    refine ⟨_, rfl, (by show 1 ≤ sizeLine; decide), fun c nc => ?_⟩
    have s1 : Same H (upd H c (.lst [nV first])) := same_new nc
    refine ⟨_, rfl, _, rfl, a, _, _, nV (row.getD first n), rfl, rfl, SqT.of (s1 _ _ ha), atI_nat (iAt (getD_some (by rw [R.len]; exact hf))), ?_⟩
    refine while_by (fun σ H' => ∃ (run : List Nat) (after : Nat), σ = [some (.ref a), some (nV first), some (.ref c), some (nV after)] ∧ Same H H' ∧ H' c = some (.lst (nVs run)) ∧ RunInv row n first run after)
      (fun _ H' => n - (match H' c with | some (.lst xs) => xs.length | _ => 0)) ?_ ?_ ?_
    · exact ⟨[first], _, rfl, s1, upd_same, RunInv.start hf⟩
    · rintro σ H' ⟨run, after, rfl, sm, hc, hI⟩
      refine ⟨_, rfl, _, rfl, _, _, rfl, .inr (SqT.of (sm _ _ ha)), _, _, rfl, rfl, _, rfl, ?_⟩
      have e1 : decide ((after : Int) < ((nVs row).length : Int)) = decide (after < n) := by
        rw [nVs_len, R.len]
        exact decide_eq_decide.mpr (by omega)
      rw [e1]
      refine ite2 (fun q => ?_) (fun q => ?_)
      · have q : after < n := of_decide_eq_true q
        refine ⟨_, rfl, _, rfl, rfl, _, rfl, ?_⟩
        refine ite2 (fun z => ?_) (fun z => ?_)
        · have z : after ≠ first := fun y => by
            rw [y] at z
            simp at z
          obtain ⟨hl, hI2⟩ := hI.step R q z
          refine ⟨_, rfl, .inl ⟨rfl, _, SqL.of hc⟩, _, rfl, c, _, _, rfl, rfl, hc, by rw [nVs_len]; exact list_short (m := 10) (by omega) (by decide), ?_⟩
          have hc2 : (upd H' c (.lst (nVs run ++ [nV after]))) c = some (.lst (nVs (run ++ [after]))) := by
            rw [upd_same]; unfold nVs; rw [List.map_append]; rfl
          have ha2 := same_own (o := .lst (nVs run ++ [nV after])) sm nc _ _ ha
          refine ⟨_, rfl, _, rfl, a, _, _, nV (row.getD after n), rfl, rfl, SqT.of ha2, atI_nat (iAt (getD_some (by rw [R.len]; exact q))), ?_⟩
          refine ⟨⟨run ++ [after], _, rfl, same_own sm nc, hc2, hI2⟩, ?_⟩
          simp only [hc2, hc, nVs_len, List.length_append, List.length_singleton]
          show n - (run.length + 1) < n - run.length
          omega
        · have z : after = first := Classical.byContradiction fun y => z (by
            simp only [Bool.not_eq_true', decide_eq_false_iff_not]
            intro w
            unfold nV at w
            injection w with w
            omega)
          refine ⟨_, rfl, ?_⟩
          refine k H' (.ref c) sm (Has.mkNums ?_ (fun w => w nc))
          rw [← hI.fin (fun w => w.2 z)]
          exact hc
      · have q : ¬ after < n := fun y => q (decide_eq_true y)
        refine iteF ⟨_, rfl, ?_⟩
        refine k H' (.ref c) sm (Has.mkNums ?_ (fun w => w nc))
        rw [← hI.fin (fun w => q w.1)]
        exact hc
    · intro σ H2 Q1 Q2 hq h
      obtain ⟨v, h1, v2, h2, pp, yy, h3, h4, i, j, h5, h6, kk, h7, h8⟩ := h
      refine ⟨v, h1, v2, h2, pp, yy, h3, h4, i, j, h5, h6, kk, h7, ?_⟩
      cases kk with
      | true =>
        rw [if_pos rfl] at h8
        obtain ⟨u1, g1, u2, g2, g3, b, g4, g5⟩ := h8
        exact iteT ⟨u1, g1, u2, g2, g3, b, g4, hq _ _ g5⟩
      | false =>
        rw [if_neg (by decide)] at h8
        exact iteF (hq _ _ h8)
/-! ### unit_lists -/
def spUnits : Sp := fun vs H Q _ => ∃ (row : List Nat) (n : Nat) (v : V), vs = [v] ∧ Has H No (tupN row) v ∧ Row row n ∧ n ≤ 10 ∧ Gives H (.li ((((List.range n).filter fun i => !row.contains i).map (runOff row n)).map numsD)) Q
theorem sc_units : FnScope ["row", "trip"] ["row"] (defScope s_unit_lists) := ⟨rfl, rfl, rfl, by decide +kernel, rfl, by decide +kernel, by decide +kernel⟩
theorem flat_nVs (l : List Nat) : (nVs l).all flatV = true := by
  rw [List.all_eq_true]
  intro v hv
  obtain ⟨k, _, rfl⟩ := List.mem_map.mp hv
  rfl
theorem in_nVs (i : Nat) : ∀ (l : List Nat), inV (nV i) (nVs l) = l.contains i
  | [] => rfl
  | x :: l => by
    show (eqV (nV x) (nV i) || inV (nV i) (nVs l)) = (x :: l).contains i
    rw [in_nVs i l, List.contains_cons]
    congr 1
    show ((x : Int) == (i : Int)) = (i == x)
    rw [Bool.eq_iff_iff]
    simp only [beq_iff_eq]
    omega
theorem ok_units {f : Addr} {fd : FuncData} (F : Fun K "unit_lists" "unit_lists" s_unit_lists f fd) (T : Txt K mg C) (F_run_from : FnAt P w K mg base "run_from" 1 ["row", "first"] spRun) : FnOk P w K mg base CX0 2 f fd ["row"] spUnits := by
  refine F.ok sc_units (fun vs H Q E h => ?_) (fun cdv A outer s H vs Q E hr h => ?_)
  · obtain ⟨row, n, v, rfl, _⟩ := h
    rfl
  · obtain ⟨row, n, v, rfl, hv, R, hn, k⟩ := h
    have S := sc_units
    refine ⟨_, (pss_one (ps_ret (pe_lc (own := [("trip", 1)]) rfl S.nd (pi_range1 rfl T.b_range (pa_cons (pe_callB call_len_seq (by rfl) T.b_len PySem.boot_len (pa_cons (pv 0) pa_nil)) pa_nil)) (blkOk_by (by show blkC ["row", "trip"] (defScope s_unit_lists) _ _ = true; decide +kernel)) (fun _ _ _ _ _ => pg_name (i := 1) S.nd rfl (Or.inl rfl))
      (fun _ _ _ _ _ => pts_one (pt_cmpR (r := rIn K true) op_notIn_seq (pv 1) (pv 0) rfl)) (fun _ _ _ _ _ => pcall F_run_from hr (pa_cons (pv 0) (pa_cons (pv 1) pa_nil)))))), ?_⟩
    obtain ⟨a, rfl, ha⟩ := hv.tups
    refine ⟨_, rfl, _, _, rfl, .inr (SqT.of ha), _, rfl, by omega, by rw [nVs_len, R.len]; omega, fun c nc => ?_⟩
    have en : (((nVs row).length : Int)).toNat = n := by rw [nVs_len, R.len, Int.toNat_natCast]
    rw [en]
    have s1 : Same H (upd H c (.lst [])) := same_new nc
    refine lc_range (fun i H' => ∃ acc : List V, Same H H' ∧ H' c = some (.lst acc) ∧ HasL H' (Oc H c) ((((List.range i).filter fun i => !row.contains i).map (runOff row n)).map numsD) acc ∧ acc.length ≤ i) ?_ ?_ ?_
    · exact ⟨[], s1, upd_same, HasL.nil, Nat.le_refl _⟩
    · rintro i H' hi ⟨acc, sm, hc, hacc, hal⟩
      have e0 : V.int (0 + (i : Int)) = nV i := by unfold nV; congr 1; omega
      rw [e0]
      refine ⟨rfl, ?_⟩
      refine ⟨_, rfl, _, rfl, a, _, rfl, .inr (SqT.of (sm _ _ ha)), rfl, flat_nVs row, _, rfl, ?_⟩
      have er : (List.range (i + 1)).filter (fun i => !row.contains i) = (List.range i).filter (fun i => !row.contains i) ++ (if (!row.contains i) = true then [i] else []) := by
        rw [List.range_succ, List.filter_append, List.filter_cons, List.filter_nil]
      show if (if true then !inV (nV i) (nVs row) else _) = true then _ else _
      rw [if_pos rfl, in_nVs]
      refine ite2 (fun z => ?_) (fun z => ?_)
      · rw [if_pos z] at er
        refine ⟨_, rfl, _, rfl, row, n, i, _, rfl, hv.same sm, R, hi, hn, fun H3 v3 s3 h3 => ?_⟩
        refine ⟨acc, s3 _ _ hc, list_short (m := 10) (by omega) (by decide), acc ++ [v3], same_own (sm.trans s3) nc, upd_same, ?_, by rw [List.length_append]; show acc.length + 1 ≤ i + 1; omega⟩
        rw [er, List.map_append, List.map_append]
        exact HasL.but (s3 _ _ hc) (.inr rfl) ((hacc.same s3).snoc (h3.oc sm (by rw [hc]; intro z; cases z)))
      · rw [if_neg z, List.append_nil] at er
        refine ⟨acc, sm, hc, ?_, by omega⟩
        rw [er]
        exact hacc
    · rintro H' ⟨acc, sm, hc, hacc, hal⟩
      exact k H' (.ref c) sm (Has.mkL hc (fun q => q nc) hacc.old)
/-! ### ring_lists -/
def spRings : Sp := fun vs H Q _ => ∃ (row : List Nat) (n : Nat) (v : V), vs = [v] ∧ Has H No (tupN row) v ∧ Row row n ∧ (∀ a, a < n → row.getD a n < n) ∧ n ≤ 10 ∧ Gives H (.li ((ringsTo row n n).map numsD)) Q
theorem sc_rings : FnScope ["row", "rings", "seen", "trip", "ring", "member"] ["row"] (defScope s_ring_lists) := ⟨rfl, rfl, rfl, by decide +kernel, rfl, by decide +kernel, by decide +kernel⟩
/-- the keys of a dict are these numbers -/
def KeysAre (kvs : List (Key × V)) (S : Nat → Prop) : Prop := (∀ x : Nat, S x ↔ (valV kvs (Sum.inl (x : Int))).isSome = true)
theorem KeysAre.put {kvs : List (Key × V)} {S : Nat → Prop} (h : KeysAre kvs S) (j : Nat) (v : V) : KeysAre (putK kvs (Sum.inl (j : Int)) v) (fun x => S x ∨ x = j) := fun x => by
  rw [valV_put]
  by_cases e : x = j
  · rw [if_pos (by rw [e])]
    exact ⟨fun _ => rfl, fun _ => .inr e⟩
  · rw [if_neg (fun z => e (by have := Sum.inl.inj z; omega)), ← h x]
    exact ⟨fun z => z.elim id (fun y => absurd y e), .inl⟩
theorem runOff_len {row : List Nat} {n i : Nat} (R : Row row n) (h : i < n) : (runOff row n i).length ≤ n := by
  obtain ⟨_, _, I⟩ := run_whole R h
  exact len_lt n I.nd I.lt
theorem ringsTo_len (row : List Nat) (n k : Nat) : (ringsTo row n k).length ≤ k := by
  unfold ringsTo
  exact Nat.le_trans (List.length_filterMap_le ..) (by rw [List.length_range]; exact Nat.le_refl _)
theorem ok_rings {f : Addr} {fd : FuncData} (F : Fun K "ring_lists" "ring_lists" s_ring_lists f fd) (T : Txt K mg C) (F_run_from : FnAt P w K mg base "run_from" 1 ["row", "first"] spRun) : FnOk P w K mg base CX0 2 f fd ["row"] spRings := by
  refine F.ok sc_rings (fun vs H Q E h => ?_) (fun cdv A outer s H vs Q E hr h => ?_)
  · obtain ⟨row, n, v, rfl, _⟩ := h
    rfl
  · obtain ⟨row, n, v, rfl, hv, R, hlt, hn, k⟩ := h
    have hu := hu_of hr
    have S := sc_rings
    refine ⟨_, (pss_cons (ps_set (i := 1) S.nd rfl (Or.inl rfl) (pe_lst pa_nil))
      (pss_cons (ps_set (i := 2) S.nd rfl (Or.inl rfl) pe_dnewK)
      (pss_cons (ps_for PassesOwn.never rfl (pi_range1 rfl T.b_range (pa_cons (pe_callB call_len_seq (by rfl) T.b_len PySem.boot_len (pa_cons (pv 0) pa_nil)) pa_nil)) (pg_name (i := 3) S.nd rfl (Or.inl rfl))
      (pss_one (ps_if (pt_cmp (pc_dnotin hu (pv 3) (pv 2))) (pss_cons (ps_set (i := 4) S.nd rfl (Or.inl rfl) (pcall F_run_from hr (pa_cons (pv 0) (pa_cons (pv 3) pa_nil))))
      (pss_cons (ps_expr (pe_bm PySem.F.plainAttrs_list PySem.F.slot_list_append PySem.F.type_list_append mt_append (pv 1) (pa_cons (pv 4) pa_nil)))
      (pss_one (ps_for PassesOwn.never rfl (pi_list (pv 4)) (pg_name (i := 5) S.nd rfl (Or.inl rfl))
      (pss_one (ps_dput hu (pv 2) (pv 5) pe_bl rfl)))))) pss_nil)))
      (pss_one (ps_ret (pv 1)))))), ?_⟩
    obtain ⟨a, rfl, ha⟩ := hv.tups
    refine ⟨Nat.zero_le _, fun c nc => ?_⟩
    have s1 : Same H (upd H c (.lst [])) := same_new nc
    intro sd nsd
    have nsd0 : H sd = none := s1.free nsd
    have ncs : c ≠ sd := ne_of_none upd_same nsd
    have s2 : Same H (upd (upd H c (.lst [])) sd (.dK [])) := s1.trans (same_new nsd)
    refine ⟨_, rfl, _, _, rfl, .inr (SqT.of (s2 _ _ ha)), _, rfl, by omega, by rw [nVs_len, R.len]; omega, ?_⟩
    have en : (((nVs row).length : Int)).toNat = n := by rw [nVs_len, R.len, Int.toNat_natCast]
    rw [en]
    refine for_range (fun i σ H' => ∃ (acc : List V) (kvs : List (Key × V)) (v3 v4 v5 : Option V), σ = [some (.ref a), some (.ref c), some (.ref sd), v3, v4, v5] ∧ Same H H' ∧ H' c = some (.lst acc) ∧ HasL H' (Oc H c) ((ringsTo row n i).map numsD) acc ∧ H' sd = some (.dK kvs) ∧ KeysAre kvs (SeenTo row n i) ∧ kvs.length ≤ i * 10) ?_ ?_ ?_
    · exact ⟨[], [], none, none, none, rfl, s2, by rw [upd_ne ncs, upd_same], HasL.nil, upd_same, fun x => ⟨fun ⟨j, hj, _⟩ => absurd hj (Nat.not_lt_zero _), fun z => by cases z⟩, Nat.zero_le _⟩
    · rintro i σ H' hi ⟨acc, kvs, v3, v4, v5, rfl, sm, hc, hacc, hsd, hK, hkl⟩
      have e0 : V.int (0 + (i : Int)) = nV i := by unfold nV; congr 1; omega
      rw [e0]
      refine ⟨_, rfl, _, rfl, sd, _, rfl, DGet.k (k := Sum.inl (i : Int)) hsd, _, rfl, ?_⟩
      cases ev : valV kvs (Sum.inl (i : Int)) with
      | some x =>
        have hs : SeenTo row n i i := (hK i).mpr (by rw [ev]; rfl)
        obtain ⟨h1, h2⟩ := rings_seen R hlt hi hs
        refine iteF ?_
        refine ⟨acc, kvs, _, _, _, rfl, sm, hc, by rw [h1]; exact hacc, hsd, fun x => (h2 x).trans (hK x), by omega⟩
      | none =>
        have hs : ¬ SeenTo row n i i := fun z => by have := (hK i).mp z; rw [ev] at this; cases this
        obtain ⟨h1, h2⟩ := rings_new R hlt hi hs
        refine iteT ?_
        refine ⟨_, rfl, _, rfl, row, n, i, _, rfl, hv.same sm, R, hi, hn, fun H3 v3 s3 h3 => ?_⟩
        have h3 := h3.oc sm (show H' c ≠ none by rw [hc]; intro z; cases z)
        obtain ⟨b, rfl, hb, nb⟩ := h3.nums
        have hal : acc.length ≤ i := by rw [hacc.len, List.length_map]; exact ringsTo_len ..
        refine ⟨_, rfl, .inl ⟨rfl, _, SqL.of (s3 _ _ hc)⟩, _, rfl, c, _, _, rfl, rfl, s3 _ _ hc, list_short (m := 10) (by omega) (by decide), ?_⟩
        have hb4 : (upd H3 c (.lst (acc ++ [V.ref b]))) b = some (.lst (nVs (runOff row n i))) := by rw [upd_ne (fun z => nb (.inr z))]; exact hb
        have hacc4 : HasL (upd H3 c (.lst (acc ++ [V.ref b]))) (Oc H c) ((ringsTo row n (i + 1)).map numsD) (acc ++ [V.ref b]) := by
          rw [h1, List.map_append]
          exact HasL.but (s3 _ _ hc) (.inr rfl) ((hacc.same s3).snoc (Has.mkNums hb nb))
        have nsc : sd ≠ c := ncs.symm
        refine ⟨_, rfl, b, rfl, ⟨_, SqL.of hb4⟩, for_list (xs := nVs (runOff row n i)) (fun l σ H5 => ∃ (kv2 : List (Key × V)) (v5 : Option V), σ = [some (.ref a), some (.ref c), some (.ref sd), some (nV i), some (.ref b), v5] ∧ Same H H5 ∧ H5 c = some (.lst (acc ++ [V.ref b])) ∧ HasL H5 (Oc H c) ((ringsTo row n (i + 1)).map numsD) (acc ++ [V.ref b]) ∧ H5 b = some (.lst (nVs (runOff row n i))) ∧ H5 sd = some (.dK kv2) ∧ KeysAre kv2 (fun x => SeenTo row n i x ∨ x ∈ (runOff row n i).take l) ∧ kv2.length ≤ i * 10 + l) ?_ ?_ ?_ ?_⟩
        · exact ⟨kvs, _, rfl, same_own (sm.trans s3) nc, upd_same, hacc4, hb4, by rw [upd_ne nsc]; exact s3 _ _ hsd, fun x => by rw [← hK x]; simp, by omega⟩
        · rintro l σ H5 _ ⟨kv2, v5, rfl, sm5, hc5, hacc5, hb5, hsd5, hK5, hl5⟩
          exact SqL.of hb5
        · rintro l u σ H5 el ⟨kv2, v5, rfl, sm5, hc5, hacc5, hb5, hsd5, hK5, hl5⟩
          unfold nVs at el
          rw [List.getElem?_map, Option.map_eq_some_iff] at el
          obtain ⟨x, hx, rfl⟩ := el
          have hll : l < (runOff row n i).length := (List.getElem?_eq_some_iff.mp hx).1
          have hrl := runOff_len R hi
          refine ⟨_, rfl, _, rfl, sd, _, rfl, DPut.k (k := Sum.inl (x : Int)) hsd5 (list_short (m := 200) (by omega) (by decide)), ?_⟩
          have ncs5 : c ≠ sd := ncs
          refine ⟨_, _, rfl, same_own sm5 nsd0, by rw [upd_ne ncs]; exact hc5, HasL.dict hsd5 hacc5, by rw [upd_ne (ne_of hb5 hsd5 (by intro z; cases z))]; exact hb5, upd_same, ?_, Nat.le_trans (length_putK _ _ _) (by omega)⟩
          intro y
          rw [← hK5.put x _ y, List.take_add_one, hx]
          simp only [Option.toList_some, List.mem_append, List.mem_singleton, or_assoc]
        · rintro σ H5 ⟨kv2, v5, rfl, sm5, hc5, hacc5, hb5, hsd5, hK5, hl5⟩
          rw [nVs_len, List.take_of_length_le (Nat.le_refl _)] at hK5
          have hrl := runOff_len R hi
          refine ⟨_, kv2, _, _, _, rfl, sm5, hc5, hacc5, hsd5, fun x => (h2 x).trans (hK5 x), ?_⟩
          rw [nVs_len] at hl5
          omega
    · rintro σ H' ⟨acc, kvs, v3, v4, v5, rfl, sm, hc, hacc, hsd, hK, hkl⟩
      refine ⟨_, rfl, ?_⟩
      exact k H' (.ref c) sm (Has.mkL hc (fun q => q nc) hacc.old)
end
end Tu
end
section
/-! size_of, whole_sets, fewest_sets. -/
set_option Elab.async false
set_option linter.all false
set_option maxRecDepth 100000
namespace Tu
open PySem PySem.Spec PyProof.Rows L2
abbrev s_fewest_sets : Stmt := top 23
abbrev s_whole_sets : Stmt := top 24
abbrev s_size_of : Stmt := top 25
def setsD (l m : List Nat) : D := .tu [numsD l, numsD m]
theorem Has.sets {H : Hp} {av : Addr → Prop} {l m : List Nat} {v : V} (h : Has H av (setsD l m) v) : ∃ a b c, v = .ref a ∧ H a = some (.tup [.ref b, .ref c]) ∧ H b = some (.lst (nVs l)) ∧ ¬ av b ∧ H c = some (.lst (nVs m)) ∧ ¬ av c := by
  obtain ⟨a, vs, e, h1, h3⟩ := Has.tuple h
  unfold HasL at h3
  obtain ⟨v1, r1, rfl, g1, h3⟩ := h3
  unfold HasL at h3
  obtain ⟨v2, r2, rfl, g2, h3⟩ := h3
  unfold HasL at h3
  subst h3
  obtain ⟨b, rfl, hb, nb⟩ := g1.nums
  obtain ⟨c, rfl, hc, nc⟩ := g2.nums
  exact ⟨a, b, c, e, h1, hb, nb, hc, nc⟩
theorem Has.mkSets {H : Hp} {av : Addr → Prop} {l m : List Nat} {a b c : Addr} (h : H a = some (.tup [.ref b, .ref c])) (hb : H b = some (.lst (nVs l))) (nb : ¬ av b) (hc : H c = some (.lst (nVs m))) (nc : ¬ av c) : Has H av (setsD l m) (.ref a) :=
  Has.mkT h (HasL.cons (Has.mkNums hb nb) (HasL.cons (Has.mkNums hc nc) HasL.nil))
/-! ### plain facts -/
theorem incrI : ∀ {l m : List Int}, l.Pairwise (· < ·) → m.Pairwise (· < ·) → (∀ x, x ∈ l ↔ x ∈ m) → l = m
  | [], [], _, _, _ => rfl
  | [], y :: _, _, _, h => absurd ((h y).mpr (List.mem_cons_self ..)) (by simp)
  | x :: _, [], _, _, h => absurd ((h x).mp (List.mem_cons_self ..)) (by simp)
  | x :: l, y :: m, hl, hm, h => by
    rw [List.pairwise_cons] at hl hm
    have e : x = y := by
      have h1 := (h x).mp (List.mem_cons_self ..)
      have h2 := (h y).mpr (List.mem_cons_self ..)
      rcases List.mem_cons.mp h1 with q | q
      · exact q
      · rcases List.mem_cons.mp h2 with p | p
        · exact p.symm
        · have := hm.1 x q
          have := hl.1 y p
          omega
    subst e
    congr 1
    refine incrI hl.2 hm.2 fun z => ?_
    constructor
    · intro hz
      rcases List.mem_cons.mp ((h z).mp (List.mem_cons_of_mem _ hz)) with q | q
      · have := hl.1 z hz; omega
      · exact q
    · intro hz
      rcases List.mem_cons.mp ((h z).mpr (List.mem_cons_of_mem _ hz)) with q | q
      · have := hm.1 z hz; omega
      · exact q
theorem strict : ∀ {l : List Int}, l.Pairwise (· ≤ ·) → l.Nodup → l.Pairwise (· < ·)
  | [], _, _ => .nil
  | x :: l, h, g => by
    rw [List.pairwise_cons] at h
    rw [List.nodup_cons] at g
    rw [List.pairwise_cons]
    refine ⟨fun y hy => ?_, strict h.2 g.2⟩
    have h1 := h.1 y hy
    have h2 : x ≠ y := fun z => g.1 (by rw [z]; exact hy)
    omega
theorem mem_ofN {l : List Nat} {x : Nat} : (x : Int) ∈ ofN l ↔ x ∈ l := by
  unfold ofN
  rw [List.mem_map]
  constructor
  · rintro ⟨y, hy, e⟩
    have : y = x := by omega
    rw [← this]; exact hy
  · exact fun h => ⟨x, h, rfl⟩
theorem mem_ofN' {l : List Nat} {z : Int} (h : z ∈ ofN l) : ∃ x : Nat, z = (x : Int) ∧ x ∈ l := by
  obtain ⟨x, hx, rfl⟩ := List.mem_map.mp h
  exact ⟨x, rfl, hx⟩
theorem sorted_eq {ns l : List Nat} {ns' : List Int} (hp : ns'.Perm (ofN ns)) (hs : ns'.Pairwise (· ≤ ·)) (hn : ns.Nodup) (hl : l.Pairwise (· < ·)) (hm : ∀ x, x ∈ l ↔ x ∈ ns) : ns' = ofN l := by
  have n1 : (ofN ns).Nodup := by
    unfold ofN
    exact List.Pairwise.map _ (fun a b hab q => hab (by omega)) hn
  refine incrI (strict hs (hp.nodup_iff.mpr n1)) ?_ fun z => ?_
  · unfold ofN
    exact List.Pairwise.map _ (fun a b hab => by omega) hl
  · rw [hp.mem_iff]
    constructor
    · intro h
      obtain ⟨x, rfl, hx⟩ := mem_ofN' h
      exact mem_ofN.mpr ((hm x).mpr hx)
    · intro h
      obtain ⟨x, rfl, hx⟩ := mem_ofN' h
      exact mem_ofN.mpr ((hm x).mp hx)
/-- a dict's keys -/
def nKeys (ns : List Nat) : List Key := (ofN ns).map Sum.inl
theorem keys_put {kvs : List (Key × V)} {ns : List Nat} (h : kvs.map (·.1) = nKeys ns) (x : Nat) (v : V) : (putK kvs (Sum.inl (x : Int)) v).map (·.1) = nKeys (if x ∈ ns then ns else ns ++ [x]) := by
  have mem : (Sum.inl (x : Int) : Key) ∈ kvs.map (·.1) ↔ x ∈ ns := by
    rw [h]
    unfold nKeys
    rw [List.mem_map]
    constructor
    · rintro ⟨z, hz, e⟩
      have e := Sum.inl.inj e
      subst e
      exact mem_ofN.mp hz
    · exact fun q => ⟨_, mem_ofN.mpr q, rfl⟩
  cases e : valV kvs (Sum.inl (x : Int)) with
  | none =>
    have n : ¬ x ∈ ns := fun q => valV_not e (mem.mpr q)
    rw [if_neg n, putK_new v e, List.map_append, h]
    unfold nKeys ofN
    rw [List.map_append, List.map_append]
    rfl
  | some u =>
    have n : x ∈ ns := mem.mp (valV_in e)
    rw [if_pos n, ← h]
    unfold putK
    rw [if_pos (by rw [valV_any, e]; rfl), List.map_map]
    refine List.map_congr_left fun kv _ => ?_
    show (if kv.1 = Sum.inl (x : Int) then (kv.1, v) else kv).1 = kv.1
    split <;> rfl
theorem nodup_put {ns : List Nat} {x : Nat} (h : ns.Nodup) : (if x ∈ ns then ns else ns ++ [x]).Nodup := by
  split
  · exact h
  · rename_i n
    rw [List.nodup_append]
    exact ⟨h, by simp, fun a ha b hb => by rw [List.mem_singleton.mp hb]; intro q; exact n (q ▸ ha)⟩
theorem mem_put {ns : List Nat} {x y : Nat} : y ∈ (if x ∈ ns then ns else ns ++ [x]) ↔ y ∈ ns ∨ y = x := by
  split
  · rename_i h
    exact ⟨.inl, fun q => q.elim id (fun e => e ▸ h)⟩
  · rw [List.mem_append, List.mem_singleton]
section
variable {P : Program} {w : World} {K : PySem.W.Frag} {mg : Str → Option Value} {base : Heap} {C : Addr}
/-! ### size_of -/
def spSize : Sp := fun vs H Q _ => ∃ (l m : List Nat) (v : V), vs = [v] ∧ Has H No (setsD l m) v ∧ Q (nV (l.length + m.length)) H
theorem sc_size : FnScope ["sets"] ["sets"] (defScope s_size_of) := ⟨rfl, rfl, rfl, by decide +kernel, rfl, by decide +kernel, by decide +kernel⟩
theorem ok_size {f : Addr} {fd : FuncData} (F : Fun K "size_of" "size_of" s_size_of f fd) (T : Txt K mg C) : FnOk P w K mg base CX0 1 f fd ["sets"] spSize := by
  refine F.ok sc_size (fun vs H Q E h => ?_) (fun cdv A outer s H vs Q E hr h => ?_)
  · obtain ⟨l, m, v, rfl, _⟩ := h
    rfl
  · obtain ⟨l, m, v, rfl, hv, k⟩ := h
    refine ⟨_, (pss_one (ps_ret (pe_op op_add (pe_callB call_len_seq (by rfl) T.b_len PySem.boot_len (pa_cons (pe_ix ix_tup (pv 0) pe_int (fun _ _ => rfl)) pa_nil)) (pe_callB call_len_seq (by rfl) T.b_len PySem.boot_len (pa_cons (pe_ix ix_tup (pv 0) pe_int (fun _ _ => rfl)) pa_nil))))), ?_⟩
    obtain ⟨a, b, c, rfl, ha, hb, _, hc, _⟩ := hv.sets
    refine ⟨_, rfl, a, _, _, .ref b, rfl, rfl, SqT.of ha, atI_nat (j := 0) rfl, _, _, rfl, .inl (SqL.of hb), _, rfl, a, _, _, .ref c, rfl, rfl, SqT.of ha, atI_nat (j := 1) rfl, _, _, rfl, .inl (SqL.of hc), _, _, rfl, rfl, ?_⟩
    have e : (((nVs l).length : Int) + ((nVs m).length : Int)) = ((l.length + m.length : Nat) : Int) := by rw [nVs_len, nVs_len]; omega
    show Q (V.int (((nVs l).length : Int) + ((nVs m).length : Int))) H
    rw [e]
    exact k
/-! ### whole_sets -/
def InL (fs : List (List Nat)) (a k j : Nat) : Prop := ∃ i js, i < k ∧ fs[i]? = some js ∧ a.testBit i = false ∧ j ∈ js
def spWhole : Sp := fun vs H Q _ => ∃ (fs : List (List Nat)) (a : Nat) (v : V) (l : List Nat), vs = [v, nV a] ∧ Has H No (.li (fs.map numsD)) v ∧ fs.length ≤ 10 ∧ (∀ js ∈ fs, ∀ j ∈ js, j < 10) ∧ l.Pairwise (· < ·) ∧ (∀ j, j ∈ l ↔ InL fs a fs.length j) ∧ Gives H (setsD (Sw75.onesOf fs.length a) l) Q
theorem sc_whole : FnScope ["followers", "number", "one", "other", "i", "after", "j"] ["followers", "number"] (defScope s_whole_sets) := ⟨rfl, rfl, rfl, by decide +kernel, rfl, by decide +kernel, by decide +kernel⟩
theorem ok_whole {f : Addr} {fd : FuncData} (F : Fun K "whole_sets" "whole_sets" s_whole_sets f fd) (T : Txt K mg C) : FnOk P w K mg base CX0 1 f fd ["followers", "number"] spWhole := by
  refine F.ok sc_whole (fun vs H Q E h => ?_) (fun cdv A outer s H vs Q E hr h => ?_)
  · obtain ⟨fs, a, v, l, rfl, _⟩ := h
    rfl
  · obtain ⟨fs, a, v, l, rfl, hv, hn, hjs, hl, hm, k⟩ := h
    have hu := hu_of hr
    have S := sc_whole
    refine ⟨_, (pss_cons (ps_set (i := 2) S.nd rfl (Or.inl rfl) (pe_lst pa_nil))
      (pss_cons (ps_set (i := 3) S.nd rfl (Or.inl rfl) pe_dnewK)
      (pss_cons (ps_for PassesOwn.never rfl (pi_enum (by rfl) T.b_enumerate (pa_cons (pv 0) pa_nil)) (pg_tup rfl (pgs_cons (pg_name (i := 4) S.nd rfl (Or.inl rfl)) (pgs_cons (pg_name (i := 5) S.nd rfl (Or.inl rfl)) pgs_nil)))
      (pss_one (ps_if (pt_cmpR op_eq (pe_op op_and (pe_op op_shr (pv 1) (pv 4)) pe_int) pe_int (nomark _)) (pss_one (ps_expr (pe_bm PySem.F.plainAttrs_list PySem.F.slot_list_append PySem.F.type_list_append mt_append (pv 2) (pa_cons (pv 4) pa_nil)))) (pss_one (ps_for PassesOwn.never rfl (pi_list (pv 5)) (pg_name (i := 6) S.nd rfl (Or.inl rfl))
      (pss_one (ps_dput hu (pv 3) (pv 6) pe_bl rfl)))))))
      (pss_one (ps_ret (pe_tup (pa_cons (pv 2) (pa_cons (pe_callB cr_sortedD (by rfl) T.b_sorted boot_sorted (pa_cons (pv 3) pa_nil)) pa_nil)))))))), ?_⟩
    obtain ⟨ta, tvs, rfl, hta, _, htl⟩ := hv.list
    have hl0 : tvs.length = fs.length := by rw [htl.len, List.length_map]
    refine ⟨Nat.zero_le _, fun c nc => ?_⟩
    have s1 : Same H (upd H c (.lst [])) := same_new nc
    intro sd nsd
    have nsd0 : H sd = none := s1.free nsd
    have ncs : c ≠ sd := ne_of_none upd_same nsd
    have s2 : Same H (upd (upd H c (.lst [])) sd (.dK [])) := s1.trans (same_new nsd)
    refine ⟨_, rfl, ta, tvs, rfl, SqL.of (s2 _ _ hta), for_enum (xs := tvs) (fun i σ H' => ∃ (kvs : List (Key × V)) (ns : List Nat) (v4 v5 v6 : Option V), σ = [some (.ref ta), some (nV a), some (.ref c), some (.ref sd), v4, v5, v6] ∧ Same H H' ∧ H' c = some (.lst (nVs (Sw75.onesOf i a))) ∧ H' sd = some (.dK kvs) ∧ kvs.map (·.1) = nKeys ns ∧ ns.Nodup ∧ (∀ j, j ∈ ns ↔ InL fs a i j)) ?_ ?_ ?_ ?_⟩
    · exact ⟨[], [], none, none, none, rfl, s2, by rw [upd_ne ncs, upd_same]; rfl, upd_same, rfl, List.nodup_nil, fun j => ⟨(fun z => nomatch z), (fun ⟨i, _, hi, _⟩ => absurd hi (Nat.not_lt_zero _))⟩⟩
    · rintro i σ H' _ ⟨kvs, ns, v4, v5, v6, rfl, sm, _⟩
      exact SqL.of (sm _ _ hta)
    · rintro i u σ H' t e ⟨kvs, ns, v4, v5, v6, rfl, sm, hc, hsd, hk, hnd, hmem⟩ nt
      obtain ⟨d, hd, hu2⟩ := htl.get e
      rw [List.getElem?_map, Option.map_eq_some_iff] at hd
      obtain ⟨js, hj, rfl⟩ := hd
      obtain ⟨b, rfl, hb, _⟩ := hu2.nums
      have hi : i < fs.length := (List.getElem?_eq_some_iff.mp hj).1
      refine ⟨t, _, rfl, SqT.of upd_same, rfl, _, _, rfl, _, _, rfl, rfl, ?_⟩
      have s3 := same_new (o := .tup [.int (i : Nat), V.ref b]) nt
      have lt10 : ∀ ms : List Nat, ms.Nodup → (∀ x ∈ ms, x < 10) → ms.length ≤ 10 := fun ms h1 h2 => len_lt 10 h1 h2
      refine ⟨_, rfl, _, rfl, _, _, rfl, rfl, by omega, _, _, rfl, rfl, rfl, _, rfl, ?_⟩
      have eb : decide (V.int (Builtin.bitAnd ((a : Int) / 2 ^ ((i : Int)).toNat) 1) = V.int 1) = a.testBit i := by
        rw [bitAnd_m1, Int.toNat_natCast, Nat.testBit_eq_decide_div_mod_eq]
        refine decide_eq_decide.mpr ?_
        have e2 : ((a : Int) / 2 ^ i % 2) = ((a / 2 ^ i % 2 : Nat) : Int) := by simp
        rw [e2]
        constructor
        · intro z; injection z with z; omega
        · intro z; rw [z]; rfl
      rw [eb]
      have in_succ : ∀ j, InL fs a (i + 1) j ↔ InL fs a i j ∨ (a.testBit i = false ∧ j ∈ js) := fun j => by
        constructor
        · rintro ⟨i', js', h1, h2, h3, h4⟩
          by_cases q : i' = i
          · subst q
            rw [hj] at h2
            cases h2
            exact .inr ⟨h3, h4⟩
          · exact .inl ⟨i', js', by omega, h2, h3, h4⟩
        · rintro (⟨i', js', h1, h2, h3, h4⟩ | ⟨h3, h4⟩)
          · exact ⟨i', js', by omega, h2, h3, h4⟩
          · exact ⟨i, js, by omega, hj, h3, h4⟩
      have ol : (Sw75.onesOf i a).length ≤ i := by
        unfold Sw75.onesOf
        exact Nat.le_trans (List.length_filter_le ..) (by rw [List.length_range]; exact Nat.le_refl _)
      cases tb : a.testBit i with
      | true =>
        refine iteT ?_
        refine ⟨_, rfl, .inl ⟨rfl, _, SqL.of (s3 _ _ hc)⟩, _, rfl, c, _, _, rfl, rfl, s3 _ _ hc, by rw [nVs_len]; exact list_short (m := 10) (by omega) (by decide), ?_⟩
        refine ⟨kvs, ns, _, _, _, rfl, same_own (sm.trans s3) nc, ?_, by rw [upd_ne ncs.symm]; exact s3 _ _ hsd, hk, hnd, fun j => ?_⟩
        · rw [upd_same, onesOf_succ, tb]
          unfold nVs
          rw [if_pos rfl, List.map_append]
          rfl
        · rw [hmem, in_succ, tb]
          simp
      | false =>
        refine iteF ?_
        refine ⟨_, rfl, b, rfl, ⟨_, SqL.of (s3 _ _ (sm _ _ hb))⟩, for_list (xs := nVs js) (fun q σ H5 => ∃ (kvs : List (Key × V)) (ns : List Nat) (v6 : Option V), σ = [some (.ref ta), some (nV a), some (.ref c), some (.ref sd), some (nV i), some (.ref b), v6] ∧ Same H H5 ∧ H5 c = some (.lst (nVs (Sw75.onesOf i a))) ∧ H5 sd = some (.dK kvs) ∧ kvs.map (·.1) = nKeys ns ∧ ns.Nodup ∧ (∀ j, j ∈ ns ↔ InL fs a i j ∨ j ∈ js.take q)) ?_ ?_ ?_ ?_⟩
        · exact ⟨kvs, ns, _, rfl, sm.trans s3, s3 _ _ hc, s3 _ _ hsd, hk, hnd, fun j => by rw [hmem]; simp⟩
        · rintro q σ H5 _ ⟨kvs, ns, v6, rfl, sm5, _⟩
          exact SqL.of (sm5 _ _ hb)
        · rintro q x σ H5 ex ⟨kvs, ns, v6, rfl, sm5, hc5, hsd5, hk5, hnd5, hm5⟩
          unfold nVs at ex
          rw [List.getElem?_map, Option.map_eq_some_iff] at ex
          obtain ⟨y, hy, rfl⟩ := ex
          have hkl : kvs.length ≤ 10 := by
            have e1 := congrArg List.length hk5
            unfold nKeys at e1
            rw [List.length_map, List.length_map, ofN_len] at e1
            rw [e1]
            refine lt10 ns hnd5 fun x hx => ?_
            rcases (hm5 x).mp hx with ⟨i', js', _, h2, _, h4⟩ | h4
            · exact hjs js' (List.mem_of_getElem? h2) x h4
            · exact hjs js (List.mem_of_getElem? hj) x (List.mem_of_mem_take h4)
          refine ⟨_, rfl, _, rfl, sd, _, rfl, DPut.k (k := Sum.inl (y : Int)) hsd5 (list_short (m := 10) hkl (by decide)), ?_⟩
          refine ⟨_, _, _, rfl, same_own sm5 nsd0, by rw [upd_ne ncs]; exact hc5, upd_same, keys_put hk5 y _, nodup_put hnd5, fun j => ?_⟩
          rw [mem_put, hm5, List.take_add_one, hy]
          simp only [Option.toList_some, List.mem_append, List.mem_singleton, or_assoc]
        · rintro σ H5 ⟨kvs, ns, v6, rfl, sm5, hc5, hsd5, hk5, hnd5, hm5⟩
          rw [nVs_len, List.take_of_length_le (Nat.le_refl _)] at hm5
          refine ⟨kvs, ns, _, _, _, rfl, sm5, ?_, hsd5, hk5, hnd5, fun j => ?_⟩
          · rw [onesOf_succ, tb, if_neg (by decide), List.append_nil]
            exact hc5
          · rw [hm5, in_succ, tb]
            simp
    · rintro σ H' ⟨kvs, ns, v4, v5, v6, rfl, sm, hc, hsd, hk, hnd, hmem⟩
      rw [hl0] at hc hmem
      have nl : ns.length ≤ 10 := len_lt 10 hnd fun x hx => by
        obtain ⟨i', js', _, h2, _, h4⟩ := (hmem x).mp hx
        exact hjs js' (List.mem_of_getElem? h2) x h4
      refine ⟨_, rfl, _, rfl, sd, kvs, ofN ns, rfl, hsd, hk, by rw [ofN_len]; omega, fun ns' p hp hs np => ?_⟩
      have es := sorted_eq hp hs hnd hl (fun x => by rw [hm, hmem])
      have s3 := same_new (o := .lst (ns'.map V.int)) np
      refine ⟨(by show 2 ≤ sizeLine; decide), fun g ng => ?_⟩
      have s4 := same_new (o := .tup [V.ref c, V.ref p]) ng
      refine k _ _ (sm.trans (s3.trans s4)) (Has.mkSets upd_same (s4 _ _ (s3 _ _ hc)) (fun q => q nc) ?_ (fun q => q (sm.free np)))
      rw [s4 _ _ (upd_same (H := H') (a := p) (o := .lst (ns'.map V.int))), es, nVs_ofN]
/-! ### fewest_sets -/
def spFewest : Sp := fun vs H Q _ => ∃ (s : Sw75.Plan) (v : V), vs = [v] ∧ Has H No (.li ((mayF s s.trips).map numsD)) v ∧ s.trips.length ≤ 10 ∧ Gives H (setsD (Sw75.onesOf s.trips.length s.cover) (s.later s.cover)) Q
theorem sc_fewest : FnScope ["followers", "best", "number", "sets"] ["followers"] (defScope s_fewest_sets) := ⟨rfl, rfl, rfl, by decide +kernel, rfl, by decide +kernel, by decide +kernel⟩
theorem inL_later (s : Sw75.Plan) (a j : Nat) : j ∈ s.later a ↔ InL (mayF s s.trips) a (mayF s s.trips).length j := by
  rw [mem_later]
  constructor
  · rintro ⟨i, js, h1, h2, h3⟩
    exact ⟨i, js, (List.getElem?_eq_some_iff.mp h1).1, h1, h2, h3⟩
  · rintro ⟨i, js, _, h1, h2, h3⟩
    exact ⟨i, js, h1, h2, h3⟩
theorem mayF_lt {s : Sw75.Plan} (h : s.trips.length ≤ 10) : ∀ js ∈ mayF s s.trips, ∀ j ∈ js, j < 10 := fun js hjs j hj => by
  obtain ⟨i, hi, e⟩ := List.getElem_of_mem hjs
  obtain ⟨x, y, _, h2, _⟩ := (mem_mayF (by rw [List.getElem?_eq_getElem hi, e])).mp hj
  exact Nat.lt_of_lt_of_le (List.getElem?_eq_some_iff.mp h2).1 h
theorem ok_fewest {f : Addr} {fd : FuncData} (F : Fun K "fewest_sets" "fewest_sets" s_fewest_sets f fd) (T : Txt K mg C) (F_whole_sets : FnAt P w K mg base "whole_sets" 1 ["followers", "number"] spWhole) (F_size_of : FnAt P w K mg base "size_of" 1 ["sets"] spSize) :
    FnOk P w K mg base CX0 2 f fd ["followers"] spFewest := by
  refine F.ok sc_fewest (fun vs H Q E h => ?_) (fun cdv A outer s H vs Q E hr h => ?_)
  · obtain ⟨s, v, rfl, _⟩ := h
    rfl
  · obtain ⟨s, v, rfl, hv, hn, k⟩ := h
    have S := sc_fewest
    refine ⟨_, (pss_cons (ps_set (i := 1) S.nd rfl (Or.inl rfl) (pcall F_whole_sets hr (pa_cons (pv 0) (pa_cons pe_int pa_nil))))
      (pss_cons (ps_for PassesOwn.never rfl (pi_range2 rfl T.b_range (pa_cons pe_int (pa_cons (pe_op op_shl pe_int (pe_callB call_len_seq (by rfl) T.b_len PySem.boot_len (pa_cons (pv 0) pa_nil))) pa_nil))) (pg_name (i := 2) S.nd rfl (Or.inl rfl))
      (pss_cons (ps_set (i := 3) S.nd rfl (Or.inl rfl) (pcall F_whole_sets hr (pa_cons (pv 0) (pa_cons (pv 2) pa_nil))))
      (pss_one (ps_if (pt_cmpR op_lt (pcall F_size_of hr (pa_cons (pv 3) pa_nil)) (pcall F_size_of hr (pa_cons (pv 1) pa_nil)) (nomark _)) (pss_one (ps_set (i := 1) S.nd rfl (Or.inl rfl) (pv 3))) pss_nil))))
      (pss_one (ps_ret (pv 1))))), ?_⟩
    have ml := mayF_len s s.trips
    have whole : ∀ (a : Nat) (H' : Hp) (Q' : VK), Same H H' → (∀ H2 v2, Same H' H2 → Has H2 (Old H') (setsD (Sw75.onesOf s.trips.length a) (s.later a)) v2 → Q' v2 H2) → spWhole [v, nV a] H' Q' E0 := fun a H' Q' sm kk =>
      ⟨mayF s s.trips, a, v, s.later a, rfl, hv.same sm, by rw [ml]; exact hn, mayF_lt hn, later_lt s a, inL_later s a, by rw [ml]; exact kk⟩
    have old : ∀ {H1 H2 : Hp} {l m : List Nat} {v : V}, Same H H1 → Has H2 (Old H1) (setsD l m) v → Has H2 (Old H) (setsD l m) v := fun sm h => Has.to (fun _ _ e => e) (fun b _ e n => ⟨e, fun q => n (by
      cases e0 : H b with
      | none => exact absurd e0 q
      | some o => intro z; rw [sm b o e0] at z; cases z)⟩) _ _ h
    obtain ⟨ta, tvs, rfl, hta, _, htl⟩ := hv.list
    have hl0 : tvs.length = s.trips.length := by rw [htl.len, List.length_map, ml]
    refine ⟨_, rfl, whole 0 H _ (Same.refl H) fun H1 v1 s1 h1 => ?_⟩
    refine ⟨_, rfl, _, _, rfl, .inl (SqL.of (s1 _ _ hta)), _, _, rfl, rfl, ⟨by omega, by rw [hl0]; omega, by decide⟩, ?_⟩
    have e2 : ((1 : Int) * 2 ^ ((tvs.length : Int)).toNat) = ((2 ^ s.trips.length : Nat) : Int) := by rw [hl0, Int.toNat_natCast]; simp
    have h1024 := two10 hn
    have hpos := Nat.two_pow_pos s.trips.length
    refine ⟨_, _, rfl, ⟨by omega, by omega, by rw [e2]; omega, by rw [e2]; omega⟩, ?_⟩
    rw [e2]
    have e3 : (((2 ^ s.trips.length : Nat) : Int) - 1).toNat = 2 ^ s.trips.length - 1 := by omega
    rw [e3]
    refine for_range (fun i σ H' => ∃ (vb : V) (v2 v3 : Option V), σ = [some (.ref ta), some vb, v2, v3] ∧ Same H H' ∧ Has H' (Old H) (setsD (Sw75.onesOf s.trips.length (covTo s (i + 1))) (s.later (covTo s (i + 1)))) vb) ?_ ?_ ?_
    · exact ⟨v1, none, none, rfl, s1, by rw [covTo_one]; exact h1⟩
    · rintro i σ H' hi ⟨vb, v2, v3, rfl, sm, hb⟩
      have e0 : V.int (1 + (i : Int)) = nV (i + 1) := by unfold nV; congr 1; omega
      rw [e0]
      refine ⟨_, rfl, _, rfl, whole (i + 1) H' _ sm fun H2 v4 s2 h4 => ?_⟩
      have h4 := old sm h4
      have hb2 := hb.same s2
      refine ⟨_, rfl, _, _, v4, rfl, h4.no, _, rfl, _, _, vb, rfl, hb2.no, _, _, rfl, rfl, _, rfl, ?_⟩
      have ec := covTo_succ s (i + 1)
      have ed : decide ((((Sw75.onesOf s.trips.length (i + 1)).length + (s.later (i + 1)).length : Nat) : Int) < (((Sw75.onesOf s.trips.length (covTo s (i + 1))).length + (s.later (covTo s (i + 1))).length : Nat) : Int)) = decide (s.coverSize (i + 1) < s.coverSize (covTo s (i + 1))) := decide_eq_decide.mpr (by
        show _ ↔ (Sw75.onesOf s.trips.length (i + 1)).length + (s.later (i + 1)).length < (Sw75.onesOf s.trips.length (covTo s (i + 1))).length + (s.later (covTo s (i + 1))).length
        omega)
      rw [ed]
      refine ite2 (fun z => ?_) (fun z => ?_)
      · rw [if_pos (of_decide_eq_true z)] at ec
        exact ⟨_, rfl, v4, _, _, rfl, sm.trans s2, by rw [ec]; exact h4⟩
      · rw [if_neg (fun y => z (decide_eq_true y))] at ec
        exact ⟨vb, _, _, rfl, sm.trans s2, by rw [ec]; exact hb2⟩
    · rintro σ H' ⟨vb, v2, v3, rfl, sm, hb⟩
      have e4 : 2 ^ s.trips.length - 1 + 1 = 2 ^ s.trips.length := by omega
      rw [e4, ← cover_to] at hb
      exact ⟨_, rfl, k H' vb sm hb⟩
end
end Tu
end
section
/-! with_lists, follow, units, why, daily, without. -/
set_option Elab.async false
set_option linter.all false
set_option maxRecDepth 100000
namespace Tu
open PySem PySem.Spec PyProof.Rows L2
abbrev s_follow : Stmt := top 41
abbrev s_units : Stmt := top 42
abbrev s_why : Stmt := top 43
abbrev s_daily : Stmt := top 44
abbrev s_without : Stmt := top 45
abbrev s_with_lists : Stmt := top 46
def iVs (l : List Int) : List V := l.map V.int
theorem iVs_len (l : List Int) : (iVs l).length = l.length := List.length_map ..
/-! ### lists behind their lengths -/
def flatL (ls : List (List Nat)) : List Nat := ls.flatMap fun l => l.length :: l
theorem flatL_snoc (ls : List (List Nat)) (l : List Nat) : flatL (ls ++ [l]) = flatL ls ++ (l.length :: l) := by
  unfold flatL
  rw [List.flatMap_append]
  simp
theorem flatL_len : ∀ {ls : List (List Nat)}, (∀ l ∈ ls, l.length ≤ 12) → (flatL ls).length ≤ 13 * ls.length
  | [], _ => Nat.le_refl _
  | l :: ls, h => by
    have h1 := h l (List.mem_cons_self ..)
    have h2 := flatL_len (ls := ls) fun m hm => h m (List.mem_cons_of_mem _ hm)
    show ((l.length :: l) ++ flatL ls).length ≤ _
    rw [List.length_append, List.length_cons, List.length_cons]
    omega
theorem out_nums (k : Nat) (ls : List (List Nat)) : iVs (Sw75Neutral.out ⟨(k : Int), ls⟩) = nVs (k :: flatL ls) := by
  unfold Sw75Neutral.out iVs nVs flatL
  rw [List.map_cons, List.map_cons]
  congr 1
  induction ls with
  | nil => rfl
  | cons l ls ih =>
    rw [List.flatMap_cons, List.flatMap_cons, List.map_append, List.map_append, ih]
    congr 1
    rw [List.map_cons, List.map_cons, List.map_map]
    rfl
theorem out_ok (z : Int) : Sw75Neutral.out (Sw75.ok z) = [z] := rfl
/-- the lists stand in a list or a tuple -/
def Seqs (H : Hp) (ls : List (List Nat)) (v : V) : Prop := ∃ a vs b, v = .ref a ∧ H a = some (match b with | true => .lst vs | false => .tup vs) ∧ HasL H No (ls.map numsD) vs
theorem Seqs.ofL {H : Hp} {av : Addr → Prop} {ls : List (List Nat)} {v : V} (h : Has H av (.li (ls.map numsD)) v) : Seqs H ls v := by
  obtain ⟨a, vs, e, h1, _, h3⟩ := h.list
  exact ⟨a, vs, true, e, h1, h3.no⟩
theorem Seqs.ofS {H : Hp} {av : Addr → Prop} {l m : List Nat} {v : V} (h : Has H av (setsD l m) v) : Seqs H [l, m] v := by
  obtain ⟨a, vs, e, h1, h3⟩ := Has.tuple h
  exact ⟨a, vs, false, e, h1, h3.no⟩
theorem follow_none {s : Sw75.Plan} {i j : Nat} (q : s.trips.length ≤ i ∨ s.trips.length ≤ j) : Sw75.step s (.follow i j) = (s, Sw75.ok (-2)) := by
  simp only [Sw75.step]
  rcases q with q | q
  · rw [List.getElem?_eq_none q]
  · rw [List.getElem?_eq_none q]
    split
    · rename_i h; cases h
    · rfl
theorem follow_some {s : Sw75.Plan} {i j : Nat} {x y : Sw75.Trip} (hx : s.trips[i]? = some x) (hy : s.trips[j]? = some y) : Sw75.step s (.follow i j) = (s, match s.ready x y, s.days x y with
    | some t, some d => ⟨((d : Nat) : Int), [[t]]⟩
    | _, _ => Sw75.ok (-6)) := by
  simp only [Sw75.step]
  rw [hx, hy]
  rfl
/-- a new list of these numbers is told -/
def Tells (H : Hp) (l : List Int) (Q : VK) : Prop := ∀ (H' : Hp) (q : Addr), Same H H' → H q = none → H' q = some (.lst (iVs l)) → Q (.ref q) H'
section
variable {P : Program} {w : World} {K : PySem.W.Frag} {mg : Str → Option Value} {base : Heap} {C : Addr}
/-! ### with_lists -/
def spWith : Sp := fun vs H Q _ => ∃ (k : Nat) (ls : List (List Nat)) (v : V), vs = [nV k, v] ∧ Seqs H ls v ∧ ls.length ≤ 12 ∧ (∀ l ∈ ls, l.length ≤ 12) ∧ Tells H (Sw75Neutral.out ⟨(k : Int), ls⟩) Q
theorem sc_with : FnScope ["number", "lists", "told", "members"] ["number", "lists"] (defScope s_with_lists) := ⟨rfl, rfl, rfl, by decide +kernel, rfl, by decide +kernel, by decide +kernel⟩
theorem ok_with {f : Addr} {fd : FuncData} (F : Fun K "with_lists" "with_lists" s_with_lists f fd) (T : Txt K mg C) : FnOk P w K mg base CX0 1 f fd ["number", "lists"] spWith := by
  refine F.ok sc_with (fun vs H Q E h => ?_) (fun cdv A outer s H vs Q E hr h => ?_)
  · obtain ⟨n, ls, v, rfl, _⟩ := h
    rfl
  · obtain ⟨n, ls, v, rfl, ⟨a, vs, b, rfl, ha, hl⟩, h12, hl12, k⟩ := h
    have S := sc_with
    refine ⟨_, (pss_cons (ps_set (i := 2) S.nd rfl (Or.inl rfl) (pe_lst (pa_cons (pv 0) pa_nil)))
      (pss_cons (ps_for PassesOwn.never rfl (pi_seq (pv 1)) (pg_name (i := 3) S.nd rfl (Or.inl rfl))
      (pss_cons (ps_expr (pe_bm PySem.F.plainAttrs_list PySem.F.slot_list_append PySem.F.type_list_append mt_append (pv 2) (pa_cons (pe_callB call_len_seq (by rfl) T.b_len PySem.boot_len (pa_cons (pv 3) pa_nil)) pa_nil)))
      (pss_one (ps_expr (pe_bm PySem.F.plainAttrs_list PySem.F.slot_list_extend PySem.F.type_list_extend mt_extend (pv 2) (pa_cons (pv 3) pa_nil))))))
      (pss_one (ps_ret (pv 2))))), ?_⟩
    refine ⟨_, rfl, (by show 1 ≤ sizeLine; decide), fun c nc => ?_⟩
    have s1 : Same H (upd H c (.lst [nV n])) := same_new nc
    have sq : ∀ H', Same H H' → SqB K H' a vs b := fun H' sm => by
      cases b with
      | true => exact SqL.of (sm _ _ ha)
      | false => exact SqT.of (sm _ _ ha)
    have hn : vs.length = ls.length := by rw [hl.len, List.length_map]
    refine ⟨_, rfl, a, b, rfl, ⟨vs, sq _ s1⟩, for_seq (xs := vs) (fun i σ H' => ∃ (v3 : Option V), σ = [some (nV n), some (.ref a), some (.ref c), v3] ∧ Same H H' ∧ H' c = some (.lst (nVs (n :: flatL (ls.take i))))) ?_ ?_ ?_ ?_⟩
    · exact ⟨none, rfl, s1, upd_same⟩
    · rintro i σ H' _ ⟨v3, rfl, sm, _⟩
      exact sq _ sm
    · rintro i u σ H' e ⟨v3, rfl, sm, hc⟩
      obtain ⟨d, hd, hu⟩ := hl.get e
      rw [List.getElem?_map, Option.map_eq_some_iff] at hd
      obtain ⟨l, hli, rfl⟩ := hd
      obtain ⟨q, rfl, hq, _⟩ := hu.nums
      have hi : i < ls.length := (List.getElem?_eq_some_iff.mp hli).1
      have hl1 := hl12 l (List.mem_of_getElem? hli)
      have fl : (flatL (ls.take i)).length ≤ 13 * 12 := Nat.le_trans (flatL_len fun m hm => hl12 m (List.mem_of_mem_take hm)) (by rw [List.length_take]; omega)
      have nqc : q ≠ c := ne_of_none hq nc
      refine ⟨_, rfl, .inl ⟨rfl, _, SqL.of hc⟩, _, rfl, _, _, rfl, .inl (SqL.of (sm _ _ hq)), c, _, _, rfl, rfl, hc, by rw [nVs_len, List.length_cons]; exact list_short (m := 200) (by omega) (by decide), ?_⟩
      refine ⟨_, rfl, .inl ⟨rfl, _, SqL.of upd_same⟩, _, rfl, c, q, _, _, rfl, rfl, upd_same, by rw [upd_ne nqc]; exact sm _ _ hq, ?_, ?_⟩
      · rw [List.length_append, nVs_len, nVs_len, List.length_cons]
        exact Nat.le_of_lt (list_short (m := 300) (by show _ + 1 + _ ≤ 300; omega) (by decide))
      · refine ⟨_, rfl, same_own (same_own sm nc) nc, ?_⟩
        rw [upd_same, List.take_add_one, hli, nVs_len]
        show some (HO.lst (nVs (n :: flatL (ls.take i)) ++ [nV l.length] ++ nVs l)) = some (HO.lst (nVs (n :: flatL (ls.take i ++ [l]))))
        rw [flatL_snoc]
        unfold nVs
        rw [List.map_cons, List.map_cons, List.map_append, List.map_cons, List.append_assoc]
        rfl
    · rintro σ H' ⟨v3, rfl, sm, hc⟩
      rw [hn, List.take_of_length_le (Nat.le_refl _)] at hc
      exact ⟨_, rfl, k H' c sm nc (by rw [out_nums]; exact hc)⟩
/-! ### follow -/
def spFollow (C : Addr) : Sp := fun vs H Q _ => ∃ (p tl rd tr : Addr) (s : Sw75.Plan) (m i j : Nat), vs = [.ref p, nV i, nV j] ∧ PlanAt C H p tl rd tr s m ∧ Tells H (Sw75Neutral.out (Sw75.step s (.follow i j)).2) Q
theorem sc_follow : FnScope ["plan", "i", "j", "ready"] ["plan", "i", "j"] (defScope s_follow) := ⟨rfl, rfl, rfl, by decide +kernel, rfl, by decide +kernel, by decide +kernel⟩
theorem ok_follow {f : Addr} {fd : FuncData} (F : Fun K "follow" "follow" s_follow f fd) (T : Txt K mg C) (F_has_trip : MethAt P w K mg base C "has_trip" 1 ["self", "k"] (spHasT C)) (F_ready : MethAt P w K mg base C "ready" 1 ["self", "one", "other"] (spReady C))
    (F_days_later : FnAt P w K mg base "days_later" 1 ["ready", "trip"] spDays) (F_with_lists : FnAt P w K mg base "with_lists" 1 ["number", "lists"] spWith) : FnOk P w K mg base CX0 2 f fd ["plan", "i", "j"] (spFollow C) := by
  refine F.ok sc_follow (fun vs H Q E h => ?_) (fun cdv A outer s H vs Q E hr h => ?_)
  · obtain ⟨p, tl, rd, tr, s, m, i, j, rfl, _⟩ := h
    rfl
  · obtain ⟨p, tl, rd, tr, s, m, i, j, rfl, PA, k⟩ := h
    have S := sc_follow
    obtain ⟨⟨dx, h1⟩, _, _, ⟨as, h4, h4t⟩, _, sh⟩ := id PA
    refine ⟨_, (pss_cons (ps_if ((pw_or (pt_not (pt_val (pmeth (pv 0) T.cl F_has_trip hr (pa_cons (pv 1) pa_nil)))) (pw_or1 (pt_not (pt_val (pmeth (pv 0) T.cl F_has_trip hr (pa_cons (pv 2) pa_nil))))))).pt (pss_one (ps_ret (pe_lst (pa_cons (pg_int T.c_NO_SUCH) pa_nil)))) pss_nil)
      (pss_cons (ps_set (i := 3) S.nd rfl (Or.inl rfl) (pmeth (pv 0) T.cl F_ready hr (pa_cons (pe_ix ix_list (pe_fld (pv 0) rfl) (pv 1) (fun _ _ => rfl)) (pa_cons (pe_ix ix_list (pe_fld (pv 0) rfl) (pv 2) (fun _ _ => rfl)) pa_nil))))
      (pss_cons (ps_if (pt_cmp (pc_isN (pv 3))) (pss_one (ps_ret (pe_lst (pa_cons (pg_int T.c_NEVER) pa_nil)))) pss_nil)
      (pss_one (ps_ret (pcall F_with_lists hr (pa_cons (pcall F_days_later hr (pa_cons (pv 3) (pa_cons (pe_ix ix_list (pe_fld (pv 0) rfl) (pv 2) (fun _ _ => rfl)) pa_nil))) (pa_cons (pe_lst (pa_cons (pe_lst (pa_cons (pv 3) pa_nil)) pa_nil)) pa_nil)))))))), ?_⟩
    have refused : s.trips.length ≤ i ∨ s.trips.length ≤ j → Tells H [-2] Q := fun q => by
      rw [follow_none q] at k
      exact k
    refine ⟨_, rfl, p, dx, _, rfl, h1, f_none _ _ _ (by decide +kernel) (by decide +kernel) (by decide +kernel), _, rfl, p, tl, rd, tr, s, m, i, rfl, PA, _, rfl, ?_⟩
    refine ite2 (fun q => ?_) (fun q => ?_)
    · refine iteT ?_
      have q : s.trips.length ≤ i := by simp at q; omega
      refine ⟨(by show 1 ≤ sizeLine; decide), fun c nc => ?_⟩
      exact refused (.inl q) _ c (same_new nc) nc upd_same
    · have q : i < s.trips.length := by simp at q; omega
      refine ⟨_, rfl, p, dx, _, rfl, h1, f_none _ _ _ (by decide +kernel) (by decide +kernel) (by decide +kernel), _, rfl, p, tl, rd, tr, s, m, j, rfl, PA, _, rfl, ?_⟩
      refine ite2 (fun q2 => ?_) (fun q2 => ?_)
      · have q2 : s.trips.length ≤ j := by simp at q2; omega
        refine ⟨(by show 1 ≤ sizeLine; decide), fun c nc => ?_⟩
        exact refused (.inr q2) _ c (same_new nc) nc upd_same
      · have q2 : j < s.trips.length := by simp at q2; omega
        obtain ⟨x, hx⟩ : ∃ x, s.trips[i]? = some x := ⟨_, List.getElem?_eq_getElem q⟩
        obtain ⟨y, hy⟩ : ∃ y, s.trips[j]? = some y := ⟨_, List.getElem?_eq_getElem q2⟩
        obtain ⟨ax, hax, hxa⟩ := h4t.get hx
        obtain ⟨ay, hay, hya⟩ := h4t.get hy
        have hix : (as.map V.ref)[i]? = some (.ref ax) := by rw [List.getElem?_map, hax]; rfl
        have hiy : (as.map V.ref)[j]? = some (.ref ay) := by rw [List.getElem?_map, hay]; rfl
        have Hx : Has H No (tripD x) (.ref ax) := Has.mkTup hxa
        have Hy : Has H No (tripD y) (.ref ay) := Has.mkTup hya
        rw [follow_some hx hy, days_ready] at k
        refine ⟨_, rfl, p, dx, _, rfl, h1, f_none _ _ _ (by decide +kernel) (by decide +kernel) (by decide +kernel), ?_⟩
        refine ⟨_, rfl, _, _, _, _, _, rfl, h1, T.cl, T.nP, f_trips _ _ _, _, rfl, tr, _, _, _, rfl, rfl, SqL.of h4, atI_nat hix, ?_⟩
        refine ⟨_, rfl, _, _, _, _, _, rfl, h1, T.cl, T.nP, f_trips _ _ _, _, rfl, tr, _, _, _, rfl, rfl, SqL.of h4, atI_nat hiy, ?_⟩
        refine ⟨p, tl, rd, tr, s, m, x, y, _, _, rfl, PA, Hx, Hy, (sh.tr x (List.mem_of_getElem? hx)).2.1, fun H2 s2 => ?_⟩
        refine ⟨_, rfl, _, rfl, ?_⟩
        cases er : s.ready x y with
        | none =>
          rw [er] at k
          refine iteT ?_
          refine ⟨(by show 1 ≤ sizeLine; decide), fun c nc => ?_⟩
          exact k _ c (s2.trans (same_new nc)) (s2.free nc) upd_same
        | some t =>
          rw [er] at k
          refine iteF ?_
          refine ⟨_, rfl, _, rfl, _, _, _, _, _, rfl, s2 _ _ h1, T.cl, T.nP, f_trips _ _ _, _, rfl, tr, _, _, _, rfl, rfl, SqL.of (s2 _ _ h4), atI_nat hiy, ?_⟩
          refine ⟨t, y, _, rfl, Hy.same s2, ?_⟩
          refine ⟨_, rfl, (by show 1 ≤ sizeLine; decide), fun c nc => ?_⟩
          have s3 := same_new (o := .lst [nV t]) nc
          refine ⟨(by show 1 ≤ sizeLine; decide), fun c2 nc2 => ?_⟩
          have s4 := same_new (o := .lst [V.ref c]) nc2
          refine ⟨daysL t y, [[t]], _, rfl, ⟨c2, [V.ref c], true, rfl, upd_same, HasL.cons (Has.mkNums (s4 _ _ upd_same) (fun z => z)) HasL.nil⟩, (by show 1 ≤ 12; decide), (fun l hl => by rw [List.mem_singleton.mp hl]; show 1 ≤ 12; decide), fun H5 q5 s5 n5 h5 => ?_⟩
          have sA := s2.trans (s3.trans s4)
          exact k H5 q5 (sA.trans s5) (sA.free n5) h5
/-! ### units -/
theorem dayC_le {s : Sw75.Plan} {ts : List Sw75.Trip} (h : ts.length ≤ 10) : ∀ ps ∈ dayC s ts, ∀ p ∈ ps, p.1 ≤ 10 := fun ps hps p hp => by
  obtain ⟨js, hjs, rfl⟩ := List.mem_map.mp hps
  unfold day1 at hp
  rcases List.mem_append.mp hp with hp | hp
  · obtain ⟨j, hj, rfl⟩ := List.mem_map.mp hp
    obtain ⟨i, hi, e⟩ := List.getElem_of_mem hjs
    obtain ⟨_, _, _, h2, _⟩ := (mem_mayF (by rw [List.getElem?_eq_getElem hi, e])).mp hj
    exact Nat.le_trans (Nat.le_of_lt (List.getElem?_eq_some_iff.mp h2).1) h
  · rw [List.mem_singleton.mp hp]
    exact h
theorem dailyC_le {s : Sw75.Plan} {ts : List Sw75.Trip} (h : ts.length ≤ 10) : ∀ ps ∈ dailyC s ts, ∀ p ∈ ps, p.1 ≤ 10 := fun ps hps p hp => by
  obtain ⟨x, _, rfl⟩ := List.mem_map.mp hps
  unfold behind at hp
  obtain ⟨⟨y, j⟩, hq, e⟩ := List.mem_filterMap.mp hp
  rw [List.mem_zipIdx_iff_getElem?] at hq
  rw [Option.map_eq_some_iff] at e
  obtain ⟨d, _, rfl⟩ := e
  exact Nat.le_trans (Nat.le_of_lt (List.getElem?_eq_some_iff.mp hq).1) h
theorem dayC_len (s : Sw75.Plan) (ts : List Sw75.Trip) : (dayC s ts).length = ts.length := by unfold dayC; rw [List.length_map, mayF_len]
theorem dailyC_len (s : Sw75.Plan) (ts : List Sw75.Trip) : (dailyC s ts).length = ts.length := by unfold dailyC; rw [List.length_map]
def spAsk (C : Addr) (x : Sw75.Call) : Sp := fun vs H Q _ => ∃ (p tl rd tr : Addr) (s : Sw75.Plan) (m : Nat), vs = [.ref p] ∧ PlanAt C H p tl rd tr s m ∧ Tells H (Sw75Neutral.out (Sw75.step s x).2) Q
theorem PlanAt.trips {H : Hp} {p tl rd tr : Addr} {s : Sw75.Plan} {m : Nat} (h : PlanAt C H p tl rd tr s m) : Has H No (.li (s.trips.map tripD)) (.ref tr) := by
  obtain ⟨as, h4, h4t⟩ := h.tp
  exact Has.mkL h4 (fun z => z) h4t.has
theorem sc_units2 : FnScope ["plan", "best"] ["plan"] (defScope s_units) := ⟨rfl, rfl, rfl, by decide +kernel, rfl, by decide +kernel, by decide +kernel⟩
theorem ok_units2 {f : Addr} {fd : FuncData} (F : Fun K "units" "units" s_units f fd) (T : Txt K mg C) (F_cheapest : FnAt P w K mg base "cheapest" 2 ["choices"] spCheap) (F_day_choices : FnAt P w K mg base "day_choices" 5 ["plan", "trips"] (spDay C)) (F_unit_lists : FnAt P w K mg base "unit_lists" 2 ["row"] spUnits)
    (F_with_lists : FnAt P w K mg base "with_lists" 1 ["number", "lists"] spWith) : FnOk P w K mg base CX0 6 f fd ["plan"] (spAsk C .units) := by
  refine F.ok sc_units2 (fun vs H Q E h => ?_) (fun cdv A outer s H vs Q E hr h => ?_)
  · obtain ⟨p, tl, rd, tr, s, m, rfl, _⟩ := h
    rfl
  · obtain ⟨p, tl, rd, tr, s, m, rfl, PA, k⟩ := h
    have S := sc_units2
    obtain ⟨⟨dx, h1⟩, _, _, _, _, sh⟩ := id PA
    refine ⟨_, (pss_cons (ps_set (i := 1) S.nd rfl (Or.inl rfl) (pcall F_cheapest hr (pa_cons (pcall F_day_choices hr (pa_cons (pv 0) (pa_cons (pe_fld (pv 0) rfl) pa_nil))) pa_nil)))
      (pss_one (ps_ret (pcall F_with_lists hr (pa_cons (pe_ix ix_tup (pv 1) pe_int (fun _ _ => rfl)) (pa_cons (pe_op op_cat (pe_lst (pa_cons (pe_lst (pa_cons (pe_ix ix_tup (pv 1) pe_int (fun _ _ => rfl)) pa_nil)) pa_nil)) (pcall F_unit_lists hr (pa_cons (pe_ix ix_tup (pv 1) pe_int (fun _ _ => rfl)) pa_nil))) pa_nil)))))), ?_⟩
    refine ⟨_, rfl, _, rfl, _, _, _, _, _, rfl, h1, T.cl, T.nP, f_trips _ _ _, p, tl, rd, tr, s, m, s.trips, _, rfl, PA, PA.trips, (fun x hx => (sh.tr x hx).2.1), sh.tl, fun H1 v1 s1 hv1 => ?_⟩
    refine ⟨dayC s s.trips, v1, rfl, hv1.no, by rw [dayC_len]; exact sh.tl, dayC_le sh.tl, fun H2 v2 s2 hv2 => ?_⟩
    rw [dayC_len, ← units_day s s.trips] at hv2
    obtain ⟨b, hb⟩ := units_some s
    have hv2 : HasO H2 s.units v2 := hv2
    rw [hb] at hv2
    obtain ⟨ba, br, rfl, hba, hbr⟩ := Has.best (show Has H2 All (bestD b) v2 from hv2)
    obtain ⟨R, _⟩ := units_row hb
    have es : Sw75.step s .units = (s, ⟨(b.cost : Nat), [b.many] :: Sw75.chains b.next s.trips.length⟩) := by
      show (s, match s.units with | some b => _ | none => _) = _
      rw [hb]
    rw [es, chains_run R] at k
    refine ⟨_, rfl, ba, _, _, nV b.cost, rfl, rfl, SqT.of hba, atI_nat (j := 0) rfl, ?_⟩
    refine ⟨_, rfl, ba, _, _, nV b.many, rfl, rfl, SqT.of hba, atI_nat (j := 1) rfl, (by show 1 ≤ sizeLine; decide), fun c nc => ?_⟩
    have s3 := same_new (o := .lst [nV b.many]) nc
    refine ⟨(by show 1 ≤ sizeLine; decide), fun c2 nc2 => ?_⟩
    have s4 := same_new (o := .lst [V.ref c]) nc2
    refine ⟨_, rfl, ba, _, _, .ref br, rfl, rfl, SqT.of (s4 _ _ (s3 _ _ hba)), atI_nat (j := 2) rfl, ?_⟩
    refine ⟨b.next, s.trips.length, _, rfl, Has.mkTup (s4 _ _ (s3 _ _ hbr)), R, sh.tl, fun H5 v5 s5 hv5 => ?_⟩
    obtain ⟨u, uvs, rfl, hu, _, hul⟩ := hv5.list
    have ulen : (((List.range s.trips.length).filter fun i => !b.next.contains i).map (runOff b.next s.trips.length)).length ≤ 10 := by
      rw [List.length_map]
      exact Nat.le_trans (List.length_filter_le ..) (by rw [List.length_range]; exact sh.tl)
    have uvl : uvs.length ≤ 10 := by rw [hul.len, List.length_map]; exact ulen
    refine ⟨c2, u, _, _, rfl, rfl, s5 _ _ upd_same, hu, by show 1 + uvs.length ≤ _; exact Nat.le_of_lt (list_short (m := 20) (by omega) (by decide)), fun c3 nc3 => ?_⟩
    have s6 := same_new (o := .lst ([V.ref c] ++ uvs)) nc3
    have hcc : (upd H2 c (.lst [nV b.many])) c = some (.lst (nVs [b.many])) := upd_same
    refine ⟨b.cost, [b.many] :: (((List.range s.trips.length).filter fun i => !b.next.contains i).map (runOff b.next s.trips.length)), _, rfl, ⟨c3, _, true, rfl, upd_same, HasL.cons (Has.mkNums (l := [b.many]) (s6 _ _ (s5 _ _ (s4 _ _ hcc))) (fun z => z)) ((hul.same s6).no)⟩, by rw [List.length_cons]; omega, fun l hl => ?_, fun H7 q7 s7 n7 h7 => ?_⟩
    · rcases List.mem_cons.mp hl with rfl | hl
      · show 1 ≤ 12; decide
      · obtain ⟨i, hi, rfl⟩ := List.mem_map.mp hl
        have hi : i < s.trips.length := List.mem_range.mp (List.mem_filter.mp hi).1
        have := runOff_len R hi
        have := sh.tl
        omega
    · have sA := s1.trans (s2.trans (s3.trans (s4.trans (s5.trans s6))))
      exact k H7 q7 (sA.trans s7) (sA.free n7) h7
/-! ### why -/
theorem sc_why : FnScope ["plan", "sets"] ["plan"] (defScope s_why) := ⟨rfl, rfl, rfl, by decide +kernel, rfl, by decide +kernel, by decide +kernel⟩
theorem ok_why {f : Addr} {fd : FuncData} (F : Fun K "why" "why" s_why f fd) (T : Txt K mg C) (F_fewest_sets : FnAt P w K mg base "fewest_sets" 2 ["followers"] spFewest) (F_may_follow : FnAt P w K mg base "may_follow" 4 ["plan", "trips"] (spMay C)) (F_size_of : FnAt P w K mg base "size_of" 1 ["sets"] spSize)
    (F_with_lists : FnAt P w K mg base "with_lists" 1 ["number", "lists"] spWith) : FnOk P w K mg base CX0 5 f fd ["plan"] (spAsk C .why) := by
  refine F.ok sc_why (fun vs H Q E h => ?_) (fun cdv A outer s H vs Q E hr h => ?_)
  · obtain ⟨p, tl, rd, tr, s, m, rfl, _⟩ := h
    rfl
  · obtain ⟨p, tl, rd, tr, s, m, rfl, PA, k⟩ := h
    have S := sc_why
    obtain ⟨⟨dx, h1⟩, _, _, _, _, sh⟩ := id PA
    refine ⟨_, (pss_cons (ps_set (i := 1) S.nd rfl (Or.inl rfl) (pcall F_fewest_sets hr (pa_cons (pcall F_may_follow hr (pa_cons (pv 0) (pa_cons (pe_fld (pv 0) rfl) pa_nil))) pa_nil)))
      (pss_one (ps_ret (pcall F_with_lists hr (pa_cons (pcall F_size_of hr (pa_cons (pv 1) pa_nil)) (pa_cons (pv 1) pa_nil)))))), ?_⟩
    refine ⟨_, rfl, _, rfl, _, _, _, _, _, rfl, h1, T.cl, T.nP, f_trips _ _ _, p, tl, rd, tr, s, m, s.trips, _, rfl, PA, PA.trips, (fun x hx => (sh.tr x hx).2.1), sh.tl, fun H1 v1 s1 hv1 => ?_⟩
    refine ⟨s, v1, rfl, hv1.no, sh.tl, fun H2 v2 s2 hv2 => ?_⟩
    refine ⟨_, rfl, _, _, v2, rfl, hv2.no, _, rfl, ?_⟩
    have ol : (Sw75.onesOf s.trips.length s.cover).length ≤ 10 := by
      unfold Sw75.onesOf
      exact Nat.le_trans (List.length_filter_le ..) (by rw [List.length_range]; exact sh.tl)
    have ll : (s.later s.cover).length ≤ 10 := by
      unfold Sw75.Plan.later
      exact Nat.le_trans (List.length_filter_le ..) (by rw [List.length_range]; exact sh.tl)
    refine ⟨_, _, v2, rfl, Seqs.ofS hv2, (by show 2 ≤ 12; decide), fun l hl => ?_, fun H3 q3 s3 n3 h3 => ?_⟩
    · rcases List.mem_cons.mp hl with rfl | hl
      · omega
      · rw [List.mem_singleton.mp hl]; omega
    · have sA := s1.trans s2
      exact k H3 q3 (sA.trans s3) (sA.free n3) h3
/-! ### daily -/
theorem sc_daily2 : FnScope ["plan", "best"] ["plan"] (defScope s_daily) := ⟨rfl, rfl, rfl, by decide +kernel, rfl, by decide +kernel, by decide +kernel⟩
theorem ok_daily2 {f : Addr} {fd : FuncData} (F : Fun K "daily" "daily" s_daily f fd) (T : Txt K mg C) (F_cheapest : FnAt P w K mg base "cheapest" 2 ["choices"] spCheap) (F_daily_choices : FnAt P w K mg base "daily_choices" 3 ["plan", "trips"] (spDaily C)) (F_ring_lists : FnAt P w K mg base "ring_lists" 2 ["row"] spRings)
    (F_with_lists : FnAt P w K mg base "with_lists" 1 ["number", "lists"] spWith) : FnOk P w K mg base CX0 4 f fd ["plan"] (spAsk C .daily) := by
  refine F.ok sc_daily2 (fun vs H Q E h => ?_) (fun cdv A outer s H vs Q E hr h => ?_)
  · obtain ⟨p, tl, rd, tr, s, m, rfl, _⟩ := h
    rfl
  · obtain ⟨p, tl, rd, tr, s, m, rfl, PA, k⟩ := h
    have S := sc_daily2
    obtain ⟨⟨dx, h1⟩, _, _, _, _, sh⟩ := id PA
    refine ⟨_, (pss_cons (ps_set (i := 1) S.nd rfl (Or.inl rfl) (pcall F_cheapest hr (pa_cons (pcall F_daily_choices hr (pa_cons (pv 0) (pa_cons (pe_fld (pv 0) rfl) pa_nil))) pa_nil)))
      (pss_cons (ps_if (pt_cmp (pc_isN (pv 1))) (pss_one (ps_ret (pe_lst (pa_cons (pg_int T.c_NEVER) pa_nil)))) pss_nil)
      (pss_one (ps_ret (pcall F_with_lists hr (pa_cons (pe_ix ix_tup (pv 1) pe_int (fun _ _ => rfl)) (pa_cons (pe_op op_cat (pe_lst (pa_cons (pe_lst (pa_cons (pe_ix ix_tup (pv 1) pe_int (fun _ _ => rfl)) pa_nil)) pa_nil)) (pcall F_ring_lists hr (pa_cons (pe_ix ix_tup (pv 1) pe_int (fun _ _ => rfl)) pa_nil))) pa_nil))))))), ?_⟩
    refine ⟨_, rfl, _, rfl, _, _, _, _, _, rfl, h1, T.cl, T.nP, f_trips _ _ _, p, tl, rd, tr, s, m, s.trips, _, rfl, PA, PA.trips, (fun x hx => (sh.tr x hx).2.1), sh.tl, fun H1 v1 s1 hv1 => ?_⟩
    refine ⟨dailyC s s.trips, v1, rfl, hv1.no, by rw [dailyC_len]; exact sh.tl, dailyC_le sh.tl, fun H2 v2 s2 hv2 => ?_⟩
    rw [dailyC_len, ← daily_day s] at hv2
    refine ⟨_, rfl, _, rfl, ?_⟩
    cases hb : s.daily with
    | none =>
      rw [hb] at hv2
      have hv2 : v2 = .non := hv2
      subst hv2
      have es : Sw75.step s .daily = (s, Sw75.ok (-6)) := by
        show (s, match s.daily with | some b => _ | none => _) = _
        rw [hb]
      rw [es] at k
      refine iteT ?_
      refine ⟨(by show 1 ≤ sizeLine; decide), fun c nc => ?_⟩
      have sA := s1.trans s2
      exact k _ c (sA.trans (same_new nc)) (sA.free nc) upd_same
    | some b =>
      rw [hb] at hv2
      obtain ⟨ba, br, rfl, hba, hbr⟩ := Has.best (show Has H2 All (bestD b) v2 from hv2)
      obtain ⟨R, hlt⟩ := daily_row hb
      have es : Sw75.step s .daily = (s, ⟨(b.cost : Nat), [b.many] :: Sw75.rings b.next s.trips.length⟩) := by
        show (s, match s.daily with | some b => _ | none => _) = _
        rw [hb]
      rw [es, ringsTo_rings hlt R.len] at k
      refine iteF ?_
      refine ⟨_, rfl, ba, _, _, nV b.cost, rfl, rfl, SqT.of hba, atI_nat (j := 0) rfl, ?_⟩
      refine ⟨_, rfl, ba, _, _, nV b.many, rfl, rfl, SqT.of hba, atI_nat (j := 1) rfl, (by show 1 ≤ sizeLine; decide), fun c nc => ?_⟩
      have s3 := same_new (o := .lst [nV b.many]) nc
      refine ⟨(by show 1 ≤ sizeLine; decide), fun c2 nc2 => ?_⟩
      have s4 := same_new (o := .lst [V.ref c]) nc2
      refine ⟨_, rfl, ba, _, _, .ref br, rfl, rfl, SqT.of (s4 _ _ (s3 _ _ hba)), atI_nat (j := 2) rfl, ?_⟩
      refine ⟨b.next, s.trips.length, _, rfl, Has.mkTup (s4 _ _ (s3 _ _ hbr)), R, hlt, sh.tl, fun H5 v5 s5 hv5 => ?_⟩
      obtain ⟨u, uvs, rfl, hu, _, hul⟩ := hv5.list
      have ulen : (ringsTo b.next s.trips.length s.trips.length).length ≤ 10 := Nat.le_trans (ringsTo_len ..) sh.tl
      have uvl : uvs.length ≤ 10 := by rw [hul.len, List.length_map]; exact ulen
      refine ⟨c2, u, _, _, rfl, rfl, s5 _ _ upd_same, hu, by show 1 + uvs.length ≤ _; exact Nat.le_of_lt (list_short (m := 20) (by omega) (by decide)), fun c3 nc3 => ?_⟩
      have s6 := same_new (o := .lst ([V.ref c] ++ uvs)) nc3
      have hcc : (upd H2 c (.lst [nV b.many])) c = some (.lst (nVs [b.many])) := upd_same
      refine ⟨b.cost, [b.many] :: ringsTo b.next s.trips.length s.trips.length, _, rfl, ⟨c3, _, true, rfl, upd_same, HasL.cons (Has.mkNums (l := [b.many]) (s6 _ _ (s5 _ _ (s4 _ _ hcc))) (fun z => z)) ((hul.same s6).no)⟩, by rw [List.length_cons]; omega, fun l hl => ?_, fun H7 q7 s7 n7 h7 => ?_⟩
      · rcases List.mem_cons.mp hl with rfl | hl
        · show 1 ≤ 12; decide
        · unfold ringsTo at hl
          obtain ⟨i, hi, e⟩ := List.mem_filterMap.mp hl
          have hi : i < s.trips.length := List.mem_range.mp hi
          split at e
          · have e := Option.some.inj e
            rw [← e]
            have := runOff_len R hi
            have := sh.tl
            omega
          · cases e
      · have sA := s1.trans (s2.trans (s3.trans (s4.trans (s5.trans s6))))
        exact k H7 q7 (sA.trans s7) (sA.free n7) h7
/-! ### without -/
def spWithout (C : Addr) : Sp := fun vs H Q _ => ∃ (p tl rd tr : Addr) (s : Sw75.Plan) (m j : Nat), vs = [.ref p, nV j] ∧ PlanAt C H p tl rd tr s m ∧ ∀ H', Same H H' → Q (.int (Sw75.step s (.without j)).2.v) H'
theorem sc_without : FnScope ["plan", "k", "rest"] ["plan", "k"] (defScope s_without) := ⟨rfl, rfl, rfl, by decide +kernel, rfl, by decide +kernel, by decide +kernel⟩
theorem cutV_to (xs : List V) {j : Nat} (h : j ≤ xs.length) : cutV xs none (some (j : Int)) = xs.take j := by
  unfold cutV
  rw [HT.sIx_nat, HT.sIx_none, Nat.min_eq_left h]
  rfl
theorem cutV_from (xs : List V) {j : Nat} (h : j ≤ xs.length) : cutV xs (some (j : Int)) none = xs.drop j := by
  unfold cutV
  rw [HT.sIx_nat, HT.sIx_none, Nat.min_eq_left h, List.take_of_length_le (by rw [List.length_drop]; exact Nat.le_refl _)]
theorem HasL.take {H : Hp} {av : Addr → Prop} : ∀ {ds : List D} {vs : List V} (j : Nat), HasL H av ds vs → HasL H av (ds.take j) (vs.take j)
  | [], vs, j, h => by unfold HasL at h; subst h; rw [List.take_nil, List.take_nil]; exact HasL.nil
  | d :: ds, vs, 0, h => HasL.nil
  | d :: ds, vs, j + 1, h => by
    unfold HasL at h
    obtain ⟨v, r, rfl, h1, h2⟩ := h
    exact HasL.cons h1 (HasL.take j h2)
theorem HasL.drop {H : Hp} {av : Addr → Prop} : ∀ {ds : List D} {vs : List V} (j : Nat), HasL H av ds vs → HasL H av (ds.drop j) (vs.drop j)
  | [], vs, j, h => by unfold HasL at h; subst h; rw [List.drop_nil, List.drop_nil]; exact HasL.nil
  | d :: ds, vs, 0, h => h
  | d :: ds, vs, j + 1, h => by
    unfold HasL at h
    obtain ⟨v, r, rfl, h1, h2⟩ := h
    exact HasL.drop j h2
theorem ok_without {f : Addr} {fd : FuncData} (F : Fun K "without" "without" s_without f fd) (T : Txt K mg C) (F_has_trip : MethAt P w K mg base C "has_trip" 1 ["self", "k"] (spHasT C)) (F_cheapest : FnAt P w K mg base "cheapest" 2 ["choices"] spCheap) (F_day_choices : FnAt P w K mg base "day_choices" 5 ["plan", "trips"] (spDay C)) :
    FnOk P w K mg base CX0 6 f fd ["plan", "k"] (spWithout C) := by
  refine F.ok sc_without (fun vs H Q E h => ?_) (fun cdv A outer s H vs Q E hr h => ?_)
  · obtain ⟨p, tl, rd, tr, s, m, j, rfl, _⟩ := h
    rfl
  · obtain ⟨p, tl, rd, tr, s, m, j, rfl, PA, k⟩ := h
    have S := sc_without
    obtain ⟨⟨dx, h1⟩, _, _, ⟨as, h4, h4t⟩, _, sh⟩ := id PA
    refine ⟨_, (pss_cons (ps_if (pt_not (pt_val (pmeth (pv 0) T.cl F_has_trip hr (pa_cons (pv 1) pa_nil)))) (pss_one (ps_ret (pg_int T.c_NO_SUCH))) pss_nil)
      (pss_cons (ps_set (i := 2) S.nd rfl (Or.inl rfl) (pe_op op_cat (pe_slice sl_list (pe_fld (pv 0) rfl) po_none (po_some (pv 1))) (pe_slice sl_list (pe_fld (pv 0) rfl) (po_some (pe_op op_add (pv 1) pe_int)) po_none)))
      (pss_one (ps_ret (pe_ix ix_tup (pcall F_cheapest hr (pa_cons (pcall F_day_choices hr (pa_cons (pv 0) (pa_cons (pv 2) pa_nil))) pa_nil)) pe_int (fun _ _ => rfl)))))), ?_⟩
    refine ⟨_, rfl, p, dx, _, rfl, h1, f_none _ _ _ (by decide +kernel) (by decide +kernel) (by decide +kernel), _, rfl, p, tl, rd, tr, s, m, j, rfl, PA, _, rfl, ?_⟩
    refine ite2 (fun q => ?_) (fun q => ?_)
    · have q : s.trips.length ≤ j := by simp at q; omega
      have es : Sw75.step s (.without j) = (s, Sw75.ok (-2)) := by
        show (if s.trips.length ≤ j then (s, Sw75.ok (-2)) else _) = _
        rw [if_pos q]
      rw [es] at k
      exact k H (Same.refl H)
    · have q : j < s.trips.length := by simp at q; omega
      have el : (as.map V.ref).length = s.trips.length := by rw [List.length_map, h4t.len]
      refine ⟨_, rfl, _, _, _, _, _, rfl, h1, T.cl, T.nP, f_trips _ _ _, _, rfl, _, rfl, tr, _, rfl, SqL.of h4, fun c nc => ?_⟩
      rw [cutV_to _ (by omega)]
      have s1 := same_new (o := .lst ((as.map V.ref).take j)) nc
      refine ⟨_, rfl, _, _, _, _, _, rfl, s1 _ _ h1, T.cl, T.nP, f_trips _ _ _, _, rfl, _, _, rfl, rfl, _, rfl, tr, _, rfl, SqL.of (s1 _ _ h4), fun c2 nc2 => ?_⟩
      have ej : cutV (as.map V.ref) (some ((j : Int) + 1)) none = (as.map V.ref).drop (j + 1) := cutV_from (j := j + 1) _ (by omega)
      rw [ej]
      have s2 := same_new (o := .lst ((as.map V.ref).drop (j + 1))) nc2
      refine ⟨c, c2, _, _, rfl, rfl, s2 _ _ upd_same, upd_same, by rw [List.length_take, List.length_drop, el]; have := sh.tl; exact Nat.le_of_lt (list_short (m := 20) (by omega) (by decide)), fun c3 nc3 => ?_⟩
      have s3 := same_new (o := .lst ((as.map V.ref).take j ++ (as.map V.ref).drop (j + 1))) nc3
      have sA := s1.trans (s2.trans s3)
      have er : s.trips.take j ++ s.trips.drop (j + 1) = s.trips.eraseIdx j := (List.eraseIdx_eq_take_drop_succ ..).symm
      have hR : Has (upd (upd (upd H c (.lst ((as.map V.ref).take j))) c2 (.lst ((as.map V.ref).drop (j + 1)))) c3 (.lst ((as.map V.ref).take j ++ (as.map V.ref).drop (j + 1)))) No (.li ((s.trips.eraseIdx j).map tripD)) (.ref c3) := by
        refine Has.mkL upd_same (fun z => z) ?_
        rw [← er, List.map_append, List.map_take, List.map_drop]
        have h0 : HasL H No (s.trips.map tripD) (as.map V.ref) := h4t.has
        exact ((h0.take j).append (h0.drop (j + 1))).same sA
      have rl : (s.trips.eraseIdx j).length ≤ 10 := Nat.le_trans (len_erase _ _) sh.tl
      refine ⟨_, rfl, _, rfl, p, tl, rd, tr, s, m, s.trips.eraseIdx j, _, rfl, PA.sm sA, hR, (fun x hx => (sh.tr x (List.mem_of_mem_eraseIdx hx)).2.1), rl, fun H4 v4 s4 hv4 => ?_⟩
      refine ⟨dayC s (s.trips.eraseIdx j), v4, rfl, hv4.no, by rw [dayC_len]; exact rl, dayC_le rl, fun H5 v5 s5 hv5 => ?_⟩
      rw [dayC_len, ← units_day s (s.trips.eraseIdx j)] at hv5
      obtain ⟨b, hb⟩ := units_some (s.without j)
      have hv5 : HasO H5 (s.without j).units v5 := hv5
      rw [hb] at hv5
      obtain ⟨ba, br, rfl, hba, hbr⟩ := Has.best (show Has H5 All (bestD b) v5 from hv5)
      have es : Sw75.step s (.without j) = (s, Sw75.ok (b.cost : Nat)) := by
        show (if s.trips.length ≤ j then (s, Sw75.ok (-2)) else (s, match (s.without j).units with | some b => _ | none => _)) = _
        rw [if_neg (by omega), hb]
      rw [es] at k
      refine ⟨ba, _, _, nV b.cost, rfl, rfl, SqT.of hba, atI_nat (j := 0) rfl, ?_⟩
      exact k H5 (sA.trans (s4.trans s5))
end
end Tu
end
section
/-! The desk: the calls one by one, and their answers. -/
set_option Elab.async false
set_option linter.all false
set_option maxRecDepth 100000
namespace Tu
open PySem PySem.Spec PyProof.Rows L2
abbrev s_answers : Stmt := top 37
abbrev s_end_of_call : Stmt := top 38
abbrev s_answer_of : Stmt := top 39

/-! ### plain facts -/
/-! ### plain facts, behind TuAsk -/

/-- a call's own numbers, and what stands behind -/
theorem CallAt.split {l rest : List Int} {x : Sw75.Call} (h : CallAt l x rest) : ∃ c ns, l = c :: (ns ++ rest) ∧ CallAt (c :: ns) x [] := by
  cases h with
  | begins ts rest hl hb => exact ⟨0, _ :: ofN ts, rfl, by have := CallAt.begins ts [] hl hb; rw [List.append_nil] at this; exact this⟩
  | empty_ a b n rest ha hb hn => exact ⟨1, [_, _, _], rfl, .empty_ a b n [] ha hb hn⟩
  | remove a b rest ha hb => exact ⟨2, [_, _], rfl, .remove a b [] ha hb⟩
  | trip a b s t rest ha hb hs ht => exact ⟨3, [_, _, _, _], rfl, .trip a b s t [] ha hb hs ht⟩
  | drop k rest hk => exact ⟨4, [_], rfl, .drop k [] hk⟩
  | follow i j rest hi hj => exact ⟨5, [_, _], rfl, .follow i j [] hi hj⟩
  | units rest => exact ⟨6, [], rfl, .units []⟩
  | why rest => exact ⟨7, [], rfl, .why []⟩
  | daily rest => exact ⟨8, [], rfl, .daily []⟩
  | without k rest hk => exact ⟨9, [_], rfl, .without k [] hk⟩
theorem Parsed.inv {l : List Int} {xs : List Sw75.Call} (h : Parsed l xs) : (l = [] ∧ xs = []) ∨ ∃ x ys rest, xs = x :: ys ∧ CallAt l x rest ∧ Parsed rest ys := by
  cases h with
  | nil => exact .inl ⟨rfl, rfl⟩
  | cons h t => exact .inr ⟨_, _, _, rfl, h, t⟩
/-- the list that was handed in: known, and never written -/
def ReqAt (K : PySem.W.Frag) (H : Hp) (a : Addr) (xs : List V) : Prop := (∃ o, H a = some (.frz o (.lst xs))) ∨ ((∀ H', SqL K H' a xs) ∧ H a = none)
theorem ReqAt.sq {K : PySem.W.Frag} {H : Hp} {a : Addr} {xs : List V} (h : ReqAt K H a xs) : SqL K H a xs := by
  rcases h with ⟨o, h⟩ | h
  · exact .inl (.inr ⟨o, h⟩)
  · exact h.1 H
theorem ReqAt.of {K : PySem.W.Frag} {H : Hp} {a : Addr} {xs : List V} (hO : OnlyF H) (h : SqL K H a xs) : (∃ o, H a = some (.frz o (.lst xs))) ∨ ∀ H', SqL K H' a xs := by
  rcases h with (h | ⟨o, h⟩) | h
  · rcases hO a with z | ⟨o, u, z⟩
    · rw [z] at h; cases h
    · rw [z] at h; cases h
  · exact .inl ⟨o, h⟩
  · exact .inr fun H' => .inr h
/-- the same, whatever else stands there -/
def Req (K : PySem.W.Frag) (H : Hp) (a : Addr) (xs : List V) : Prop := (∃ o, H a = some (.frz o (.lst xs))) ∨ ∀ H', SqL K H' a xs
theorem Req.sq {K : PySem.W.Frag} {H : Hp} {a : Addr} {xs : List V} (h : Req K H a xs) : SqL K H a xs := by
  rcases h with ⟨o, h⟩ | h
  · exact .inl (.inr ⟨o, h⟩)
  · exact h H
theorem Req.keep {K : PySem.W.Frag} {H H' : Hp} {a : Addr} {xs : List V} (h : Req K H a xs) (k : ∀ o u, H a = some (.frz o u) → H' a = some (.frz o u)) : Req K H' a xs := by
  rcases h with ⟨o, h⟩ | h
  · exact .inl ⟨o, k _ _ h⟩
  · exact .inr h
theorem Req.same {K : PySem.W.Frag} {H H' : Hp} {a : Addr} {xs : List V} (h : Req K H a xs) (k : Same H H') : Req K H' a xs := h.keep fun o u e => k _ _ e
theorem PlanAt.frz {C : Addr} {H : Hp} {p tl rd tr : Addr} {s : Sw75.Plan} {m : Nat} (h : PlanAt C H p tl rd tr s m) {a : Addr} {o : Obj} {u : HO} (e : H a = some (.frz o u)) : a ∉ [p, tl, rd, tr] := by
  obtain ⟨⟨dx, h1⟩, h2, ⟨kvs, h3, _⟩, ⟨as, h4, _⟩, _, _⟩ := h
  simp only [List.mem_cons, List.not_mem_nil, or_false, not_or]
  exact ⟨ne_of e h1 (by intro z; cases z), ne_of e h2 (by intro z; cases z), ne_of e h3 (by intro z; cases z), ne_of e h4 (by intro z; cases z)⟩
theorem PlanAt.same {C : Addr} {H H' : Hp} {p tl rd tr : Addr} {s : Sw75.Plan} {m : Nat} (h : PlanAt C H p tl rd tr s m) (k : ∀ b o, H b = some o → b ∈ [p, tl, rd, tr] ∨ (∃ ys, o = .tup ys) → H' b = some o) : PlanAt C H' p tl rd tr s m := by
  obtain ⟨⟨dx, h1⟩, h2, ⟨kvs, h3, h3'⟩, ⟨as, h4, h4'⟩, h5, h6⟩ := h
  exact ⟨⟨dx, k _ _ h1 (.inl (by simp))⟩, k _ _ h2 (.inl (by simp)), ⟨kvs, k _ _ h3 (.inl (by simp)), h3'⟩, ⟨as, k _ _ h4 (.inl (by simp)), h4'.keep fun b ys e => k _ _ e (.inr ⟨ys, rfl⟩)⟩, h5, h6⟩
section
variable {P : Program} {w : World} {K : PySem.W.Frag} {mg : Str → Option Value} {base : Heap} {C : Addr}
/-! ### the promises -/
def spEnd (K : PySem.W.Frag) : Sp := fun vs H Q _ => ∃ (a : Addr) (l : List Int) (n : Nat) (x : Sw75.Call) (rest : List Int), vs = [.ref a, nV n] ∧ SqL K H a (iVs l) ∧ CallAt (l.drop n) x rest ∧ n ≤ l.length ∧ Q (nV (l.length - rest.length)) H
def spOf (C : Addr) : Sp := fun vs H Q _ => ∃ (p tl rd tr : Addr) (s : Sw75.Plan) (m : Nat) (c : Int) (b : Addr) (ns : List Int) (x : Sw75.Call), vs = [.ref p, .int c, .ref b] ∧ PlanAt C H p tl rd tr s m ∧ m ≤ 40 ∧ H b = some (.lst (iVs ns)) ∧ b ∉ [p, tl, rd, tr] ∧ CallAt (c :: ns) x [] ∧
  ∀ (H' : Hp) (tl' rd' tr' q : Addr), PlanAt C H' p tl' rd' tr' (Sw75.step s x).1 (m + 1) → Frame H H' [p, tl, rd, tr] [p, tl', rd', tr'] → (q ∈ [p, tl, rd, tr] ∨ H q = none) → H' q = some (.lst (iVs (Sw75Neutral.out (Sw75.step s x).2))) → q ∉ [p, tl', rd', tr'] → Q (.ref q) H'
def spAns (K : PySem.W.Frag) : Sp := fun vs H Q _ => ∃ (a : Addr) (l : List Int), vs = [.ref a] ∧ SqL K H a (iVs l) ∧ OnlyF H ∧ PySw75.answers_asked l = true ∧ ∀ (H' : Hp) (q : Addr), H' q = some (.lst (iVs (PySw75.answers l))) → Q (.ref q) H'
theorem sc_ans : FnScope ["calls", "plan", "told", "at", "end", "answer"] ["calls"] (defScope s_answers) := ⟨rfl, rfl, rfl, by decide +kernel, rfl, by decide +kernel, by decide +kernel⟩
theorem cut_mid {l : List Int} {n e : Nat} (he : e ≤ l.length) (hn : n ≤ e) : cutV (iVs l) (some ((n : Int))) (some (e : Int)) = iVs ((l.drop n).take (e - n)) := by
  unfold cutV iVs
  rw [HT.sIx_nat, HT.sIx_nat, List.length_map, Nat.min_eq_left (by omega), Nat.min_eq_left (by omega), ← List.map_drop, ← List.map_take]
theorem parsed_drop {l rest : List Int} {n : Nat} {c : Int} {ns : List Int} (h : l.drop n = c :: (ns ++ rest)) : l.length = n + 1 + ns.length + rest.length ∧ l.drop (l.length - rest.length) = rest ∧ (l.drop (n + 1)).take (l.length - rest.length - (n + 1)) = ns ∧ l[n]? = some c := by
  have h1 := congrArg List.length h
  rw [List.length_drop, List.length_cons, List.length_append] at h1
  have h2 : l.drop (n + 1) = ns ++ rest := by
    rw [← List.drop_drop, h]; rfl
  refine ⟨by omega, ?_, ?_, ?_⟩
  · have : l.length - rest.length = (n + 1) + ns.length := by omega
    rw [this, ← List.drop_drop, h2, List.drop_left]
  · have : l.length - rest.length - (n + 1) = ns.length := by omega
    rw [this, h2, List.take_left]
  · have := congrArg (fun q => q[0]?) h
    simp only [List.getElem?_drop, Nat.add_zero, List.getElem?_cons_zero] at this
    exact this
theorem ok_ans {f : Addr} {fd : FuncData} (F : Fun K "answers" "answers" s_answers f fd) (T : Txt K mg C) (M_Plan : MakeAt P w K mg base "Plan" C 1 (spInit C))
    (F_end_of_call : FnAt P w K mg base "end_of_call" 1 ["calls", "at"] (spEnd K)) (F_answer_of : FnAt P w K mg base "answer_of" 10 ["plan", "call", "numbers"] (spOf C)) : FnOk P w K mg base CX0 11 f fd ["calls"] (spAns K) := by
  refine F.ok sc_ans (fun vs H Q E h => ?_) (fun cdv A outer s H vs Q E hr h => ?_)
  · obtain ⟨a, l, rfl, _⟩ := h
    rfl
  · obtain ⟨a, l, rfl, hS, hO, hask, k⟩ := h
    have S := sc_ans
    obtain ⟨xs, hpar, hnil, h40, hans, hlen⟩ := asked_parsed hask
    refine ⟨_, (pss_cons (ps_set (i := 1) S.nd rfl (Or.inl rfl) (pmake M_Plan hr))
      (pss_cons (ps_set (i := 2) S.nd rfl (Or.inl rfl) (pe_lst pa_nil))
      (pss_cons (ps_set (i := 3) S.nd rfl (Or.inl rfl) pe_int)
      (pss_cons (ps_while PassesOwn.never (pt_cmpR op_lt (pv 3) (pe_callB call_len_seq (by rfl) T.b_len PySem.boot_len (pa_cons (pv 0) pa_nil)) (nomark _))
      (pss_cons (ps_set (i := 4) S.nd rfl (Or.inl rfl) (pcall F_end_of_call hr (pa_cons (pv 0) (pa_cons (pv 3) pa_nil))))
      (pss_cons (ps_set (i := 5) S.nd rfl (Or.inl rfl) (pcall F_answer_of hr (pa_cons (pv 1) (pa_cons (pe_ix ix_list (pv 0) (pv 3) (fun _ _ => rfl)) (pa_cons (pe_slice sl_list (pv 0) (po_some (pe_op op_add (pv 3) pe_int)) (po_some (pv 4))) pa_nil)))))
      (pss_cons (ps_expr (pe_bm PySem.F.plainAttrs_list PySem.F.slot_list_append PySem.F.type_list_append mt_append (pv 2) (pa_cons (pe_callB call_len_seq (by rfl) T.b_len PySem.boot_len (pa_cons (pv 5) pa_nil)) pa_nil)))
      (pss_cons (ps_expr (pe_bm PySem.F.plainAttrs_list PySem.F.slot_list_extend PySem.F.type_list_extend mt_extend (pv 2) (pa_cons (pv 5) pa_nil)))
      (pss_one (ps_set (i := 3) S.nd rfl (Or.inl rfl) (pv 4))))))))
      (pss_one (ps_ret (pv 2))))))), ?_⟩
    -- plan = Plan()
    intro p dx np nd nex
    refine ⟨p, dx, rfl, upd_same, fun H1 tl rd tr P1 kp1 own1 => ⟨rfl, ?_⟩⟩
    have s1 : Same H H1 := Same.made np nd kp1
    -- told = []
    refine ⟨Nat.zero_le _, fun t nt => ?_⟩
    have s2 : Same H1 (upd H1 t (.lst [])) := fun b o e => by rw [upd_ne (ne_of_none e nt)]; exact e
    have hR : Req K (upd H1 t (.lst [])) a (iVs l) := (show Req K H a (iVs l) from ReqAt.of hO hS).same (s1.trans s2)
    -- the loop
    refine while_by (fun σ H' => ∃ (tl rd tr : Addr) (s : Sw75.Plan) (m n : Nat) (ys : List Sw75.Call) (out : List Int) (v4 v5 : Option V), σ = [some (.ref a), some (.ref p), some (.ref t), some (nV n), v4, v5] ∧ Req K H' a (iVs l) ∧ PlanAt C H' p tl rd tr s m ∧ m + ys.length ≤ 40 ∧
        Parsed (l.drop n) ys ∧ n ≤ l.length ∧ H' t = some (.lst (iVs out)) ∧ t ∉ [p, tl, rd, tr] ∧ out ++ due s ys = PySw75.answers l)
      (fun σ _ => match σ with | [_, _, _, some (.int n), _, _] => l.length - n.toNat | _ => 0) ?_ ?_ ?_
    · refine ⟨tl, rd, tr, Sw75.init, 0, 0, xs, [], none, none, rfl, hR, P1.same fun b o e _ => s2 b o e, by omega, hpar, Nat.zero_le _, upd_same, ?_, by rw [List.nil_append, hans]⟩
      obtain ⟨⟨_, h1⟩, h2, ⟨_, h3, _⟩, ⟨_, h4, _⟩, _, _⟩ := P1
      simp only [List.mem_cons, List.not_mem_nil, or_false, not_or]
      exact ⟨(ne_of_none h1 nt).symm, (ne_of_none h2 nt).symm, (ne_of_none h3 nt).symm, (ne_of_none h4 nt).symm⟩
    · rintro σ H2 ⟨tl, rd, tr, s, m, n, ys, out, v4, v5, rfl, hR2, P2, hm, hp2, hn, ht, htF, hout⟩
      refine ⟨_, rfl, _, rfl, _, _, rfl, .inl hR2.sq, _, _, rfl, rfl, _, rfl, ?_⟩
      rw [iVs_len]
      refine ite2 (fun hlt => ?_) (fun hge => ?_)
      · have hlt : n < l.length := by have := of_decide_eq_true hlt; omega
        rcases hp2.inv with ⟨e, _⟩ | ⟨x, ys', rest, rfl, hc, hrest⟩
        · have := congrArg List.length e
          rw [List.length_drop, List.length_nil] at this
          omega
        · obtain ⟨c, ns, hd, hcall⟩ := hc.split
          obtain ⟨e1, e2, e3, e4⟩ := parsed_drop hd
          have hbig : out.length + 1 + (Sw75Neutral.out (Sw75.step s x).2).length ≤ 10000000 := by
            have := congrArg List.length hout
            rw [due_cons, List.length_append, List.length_append, List.length_cons] at this
            omega
          have hline : (10000000 : Nat) < sizeLine := by decide
          -- end = end_of_call(calls, at)
          refine ⟨_, rfl, _, rfl, a, l, n, x, rest, rfl, hR2.sq, hc, hn, ?_⟩
          -- answer = answer_of(plan, calls[at], calls[at + 1:end])
          refine ⟨_, rfl, _, rfl, _, rfl, a, _, _, .int c, rfl, rfl, hR2.sq, atI_nat (by unfold iVs; rw [List.getElem?_map, e4]; rfl), ?_⟩
          refine ⟨_, rfl, _, rfl, _, _, rfl, rfl, _, rfl, _, rfl, _, rfl, a, _, rfl, hR2.sq, fun b nb => ?_⟩
          have ecut : cutV (iVs l) (some ((n : Int) + 1)) (some ((l.length - rest.length : Nat) : Int)) = iVs ns := by
            have := cut_mid (l := l) (n := n + 1) (e := l.length - rest.length) (by omega) (by omega)
            rw [e3] at this
            exact this
          rw [ecut]
          have s3 : Same H2 (upd H2 b (.lst (iVs ns))) := fun b' o e => by rw [upd_ne (ne_of_none e nb)]; exact e
          have P3 : PlanAt C (upd H2 b (.lst (iVs ns))) p tl rd tr s m := P2.same fun b' o e _ => s3 b' o e
          have hbF : b ∉ [p, tl, rd, tr] := by
            obtain ⟨⟨_, h1⟩, h2, ⟨_, h3, _⟩, ⟨_, h4, _⟩, _, _⟩ := P2
            simp only [List.mem_cons, List.not_mem_nil, or_false, not_or]
            exact ⟨(ne_of_none h1 nb).symm, (ne_of_none h2 nb).symm, (ne_of_none h3 nb).symm, (ne_of_none h4 nb).symm⟩
          refine ⟨p, tl, rd, tr, s, m, c, b, ns, x, rfl, P3, by omega, upd_same, hbF, hcall, fun H4 tl' rd' tr' q P4 fr nq hq hqF => ?_⟩
          have ht3 := s3 t _ ht
          have ht4 : H4 t = some (.lst (iVs out)) := fr.keep t _ ht3 htF
          have ntq : t ≠ q := by
            rcases nq with nq | nq
            · exact fun z => htF (z ▸ nq)
            · exact ne_of_none ht3 nq
          -- told.append(len(answer))
          refine ⟨_, rfl, .inl ⟨rfl, _, SqL.of ht4⟩, _, rfl, _, _, rfl, .inl (SqL.of hq), t, _, _, rfl, rfl, ht4, (by rw [iVs_len]; omega), ?_⟩
          -- told.extend(answer)
          refine ⟨_, rfl, .inl ⟨rfl, _, SqL.of upd_same⟩, _, rfl, t, q, _, _, rfl, rfl, upd_same, by rw [upd_ne ntq.symm]; exact hq, ?_, ?_⟩
          · rw [List.length_append, iVs_len, iVs_len]
            show out.length + 1 + _ ≤ _
            omega
          -- at = end
          refine ⟨_, rfl, ⟨tl', rd', tr', (Sw75.step s x).1, m + 1, l.length - rest.length, ys', out ++ [((Sw75Neutral.out (Sw75.step s x).2).length : Int)] ++ Sw75Neutral.out (Sw75.step s x).2, _, _, rfl, ?_, ?_, ?_, ?_, ?_, ?_, ?_, ?_⟩, ?_⟩
          · refine hR2.keep fun o u e => ?_
            have h3 := s3 _ _ e
            have h4 := fr.keep _ _ h3 (P3.frz h3)
            have nat : a ≠ t := ne_of h4 ht4 (by intro z; cases z)
            rw [upd_ne nat, upd_ne nat]
            exact h4
          · refine P4.same fun b' o e hb' => ?_
            have nbt : b' ≠ t := by
              rintro rfl
              rcases hb' with hb' | ⟨ys2, rfl⟩
              · rcases fr.own b' hb' with z | z
                · exact htF z
                · rw [ht3] at z; cases z
              · rw [ht4] at e; cases e
            rw [upd_ne nbt, upd_ne nbt]
            exact e
          · rw [List.length_cons] at hm
            omega
          · rw [e2]; exact hrest
          · omega
          · rw [upd_same]
            unfold iVs
            rw [List.map_append, List.map_append, List.length_map]
            rfl
          · intro z
            rcases fr.own t z with z | z
            · exact htF z
            · rw [ht3] at z; cases z
          · rw [due_cons] at hout
            rw [← hout]
            simp
          · show l.length - (((l.length - rest.length : Nat) : Int)).toNat < l.length - ((n : Int)).toNat
            omega
      · -- return told
        have hge' : l.length ≤ n := by
          have : ¬ (n : Int) < (l.length : Int) := fun z => hge (decide_eq_true z)
          omega
        rcases hp2.inv with ⟨_, rfl⟩ | ⟨x, ys', rest, _, hc, _⟩
        · rw [due_nil, List.append_nil] at hout
          subst hout
          refine ⟨_, rfl, ?_⟩
          exact k H2 t ht
        · obtain ⟨c, ns, hd, _⟩ := hc.split
          have := congrArg List.length hd
          rw [List.length_drop, List.length_cons] at this
          omega
    · intro σ H2 Q1 Q2 hq h
      obtain ⟨v, h1, v2, h2, pp, yy, h3, h4, i, j, h5, h6, kk, h7, h8⟩ := h
      exact ⟨v, h1, v2, h2, pp, yy, h3, h4, i, j, h5, h6, kk, h7, hq _ _ h8⟩
end
end Tu
end
section
/-! The desk's other defs: end_of_call, change, answer_of. -/
set_option Elab.async false
set_option linter.all false
set_option maxRecDepth 100000
namespace Tu
open PySem PySem.Spec PyProof.Rows L2
abbrev s_change : Stmt := top 40
section
variable {P : Program} {w : World} {K : PySem.W.Frag} {mg : Str → Option Value} {base : Heap} {C : Addr}
/-! ### end_of_call -/
def wholes : List (Int × Int) := [(1, 3), (2, 2), (3, 4), (4, 1), (5, 2), (6, 0), (7, 0), (8, 0), (9, 1)]
theorem sc_end : FnScope ["calls", "at"] ["calls", "at"] (defScope s_end_of_call) := ⟨rfl, rfl, rfl, by decide +kernel, rfl, by decide +kernel, by decide +kernel⟩
theorem iAtI {l : List Int} {i : Nat} {z : Int} (h : l[i]? = some z) : (iVs l)[i]? = some (.int z) := by unfold iVs; rw [List.getElem?_map, h]; rfl
theorem ok_end {f : Addr} {fd : FuncData} (F : Fun K "end_of_call" "end_of_call" s_end_of_call f fd) (T : Txt K mg C) (kd : ∃ a, mg "WHOLE_NUMBERS" = some (.ref a) ∧ KDict K a wholes) : FnOk P w K mg base CX0 1 f fd ["calls", "at"] (spEnd K) := by
  refine F.ok sc_end (fun vs H Q E h => ?_) (fun cdv A outer s H vs Q E hr h => ?_)
  · obtain ⟨a, l, n, x, rest, rfl, _⟩ := h
    rfl
  · obtain ⟨a, l, n, x, rest, rfl, hS, hc, hn, k⟩ := h
    refine ⟨_, (pss_cons (ps_if (pt_cmpR op_eq (pe_ix ix_list (pv 0) (pv 1) (fun _ _ => rfl)) (pg_int T.c_BEGINS) (nomark _)) (pss_one (ps_ret (pe_op op_add (pe_op op_add (pv 1) pe_int) (pe_ix ix_list (pv 0) (pe_op op_add (pv 1) pe_int) (fun _ _ => rfl))))) pss_nil)
      (pss_one (ps_ret (pe_op op_add (pe_op op_add (pv 1) pe_int) (pe_kd (by rfl) kd (pe_ix ix_list (pv 0) (pv 1) (fun _ _ => rfl)) (fun _ _ => rfl)))))), ?_⟩
    obtain ⟨c, ns, hd, hcall⟩ := hc.split
    obtain ⟨e1, _, _, e4⟩ := parsed_drop hd
    have el : l.length - rest.length = n + 1 + ns.length := by omega
    rw [el] at k
    refine ⟨_, rfl, _, rfl, a, _, _, .int c, rfl, rfl, hS, atI_nat (iAtI e4), rfl, _, rfl, ?_⟩
    have tail : ∀ u : Int, u = (ns.length : Int) → Q (V.int ((n : Int) + 1 + u)) H := fun u hu => by
      have e : (n : Int) + 1 + u = ((n + 1 + ns.length : Nat) : Int) := by rw [hu]; omega
      rw [e]
      exact k
    cases hcall with
    | begins ts _ hl hb =>
      refine iteT ?_
      have e5 : l[n + 1]? = some (ts.length : Int) := by
        have := congrArg (fun q => q[1]?) hd
        simpa [List.getElem?_drop] using this
      refine ⟨_, rfl, _, _, rfl, rfl, _, rfl, _, rfl, _, _, rfl, rfl, a, _, _, .int (ts.length : Int), rfl, rfl, hS, atI_nat (j := n + 1) (iAtI e5), _, _, rfl, rfl, ?_⟩
      have e : (n : Int) + 2 + (ts.length : Int) = ((n + 1 + ((ts.length : Int) :: (ofN ts ++ [])).length : Nat) : Int) := by
        rw [List.length_cons, List.append_nil, ofN_len]; omega
      show Q (V.int ((n : Int) + 2 + (ts.length : Int))) H
      rw [e]
      exact k
    | empty_ a1 b1 n1 _ ha hb hn1 => exact iteF ⟨_, rfl, _, _, rfl, rfl, _, rfl, _, rfl, a, _, _, _, rfl, rfl, hS, atI_nat (iAtI e4), _, 3, rfl, rfl, _, _, rfl, rfl, tail 3 rfl⟩
    | remove a1 b1 _ ha hb => exact iteF ⟨_, rfl, _, _, rfl, rfl, _, rfl, _, rfl, a, _, _, _, rfl, rfl, hS, atI_nat (iAtI e4), _, 2, rfl, rfl, _, _, rfl, rfl, tail 2 rfl⟩
    | trip a1 b1 s1 t1 _ ha hb hs ht => exact iteF ⟨_, rfl, _, _, rfl, rfl, _, rfl, _, rfl, a, _, _, _, rfl, rfl, hS, atI_nat (iAtI e4), _, 4, rfl, rfl, _, _, rfl, rfl, tail 4 rfl⟩
    | drop j _ hj => exact iteF ⟨_, rfl, _, _, rfl, rfl, _, rfl, _, rfl, a, _, _, _, rfl, rfl, hS, atI_nat (iAtI e4), _, 1, rfl, rfl, _, _, rfl, rfl, tail 1 rfl⟩
    | follow i j _ hi hj => exact iteF ⟨_, rfl, _, _, rfl, rfl, _, rfl, _, rfl, a, _, _, _, rfl, rfl, hS, atI_nat (iAtI e4), _, 2, rfl, rfl, _, _, rfl, rfl, tail 2 rfl⟩
    | units _ => exact iteF ⟨_, rfl, _, _, rfl, rfl, _, rfl, _, rfl, a, _, _, _, rfl, rfl, hS, atI_nat (iAtI e4), _, 0, rfl, rfl, _, _, rfl, rfl, tail 0 rfl⟩
    | why _ => exact iteF ⟨_, rfl, _, _, rfl, rfl, _, rfl, _, rfl, a, _, _, _, rfl, rfl, hS, atI_nat (iAtI e4), _, 0, rfl, rfl, _, _, rfl, rfl, tail 0 rfl⟩
    | daily _ => exact iteF ⟨_, rfl, _, _, rfl, rfl, _, rfl, _, rfl, a, _, _, _, rfl, rfl, hS, atI_nat (iAtI e4), _, 0, rfl, rfl, _, _, rfl, rfl, tail 0 rfl⟩
    | without j _ hj => exact iteF ⟨_, rfl, _, _, rfl, rfl, _, rfl, _, rfl, a, _, _, _, rfl, rfl, hS, atI_nat (iAtI e4), _, 1, rfl, rfl, _, _, rfl, rfl, tail 1 rfl⟩
/-! ### change -/
theorem Frame.new {H H' : Hp} {F F' : List Addr} {q : Addr} {o : HO} (n : H q = none) (f : Frame (upd H q o) H' F F') : Frame H H' F F' where
  keep := fun b u e nb => f.keep b u (by rw [upd_ne (ne_of_none e n)]; exact e) nb
  own := fun b hb => by
    rcases f.own b hb with z | z
    · exact .inl z
    · exact .inr (upd_none z).2
theorem Goes.new {x : Sw75.Call} {p tl rd tr : Addr} {s : Sw75.Plan} {m : Nat} {H : Hp} {Q : VK} {q : Addr} {o : HO} (n : H q = none) (g : Goes C x p tl rd tr s m H Q) : Goes C x p tl rd tr s m (upd H q o) Q :=
  fun H' tl' rd' tr' PA f => g H' tl' rd' tr' PA (f.new n)
def spChange (C : Addr) : Sp := fun vs H Q _ => ∃ (p tl rd tr : Addr) (s : Sw75.Plan) (m : Nat) (c : Int) (b : Addr) (ns : List Int) (x : Sw75.Call), vs = [.ref p, .int c, .ref b] ∧ PlanAt C H p tl rd tr s m ∧ m ≤ 40 ∧ H b = some (.lst (iVs ns)) ∧ CallAt (c :: ns) x [] ∧ c ≤ 4 ∧ Goes C x p tl rd tr s m H Q
theorem sc_change : FnScope ["plan", "call", "numbers"] ["plan", "call", "numbers"] (defScope s_change) := ⟨rfl, rfl, rfl, by decide +kernel, rfl, by decide +kernel, by decide +kernel⟩
theorem ok_change {f : Addr} {fd : FuncData} (F : Fun K "change" "change" s_change f fd) (T : Txt K mg C) (F_begin : MethAt P w K mg base C "begin" 1 ["self", "turns"] (spBegin C)) (F_set_run : MethAt P w K mg base C "set_run" 3 ["self", "source", "target", "minutes"] (spSet C))
    (F_remove_run : MethAt P w K mg base C "remove_run" 3 ["self", "source", "target"] (spRem C)) (F_add_trip : MethAt P w K mg base C "add_trip" 2 ["self", "source", "target", "first", "last"] (spAdd C)) (F_drop_trip : MethAt P w K mg base C "drop_trip" 2 ["self", "k"] (spDrop C)) :
    FnOk P w K mg base CX0 4 f fd ["plan", "call", "numbers"] (spChange C) := by
  refine F.ok sc_change (fun vs H Q E h => ?_) (fun cdv A outer s H vs Q E hr h => ?_)
  · obtain ⟨p, tl, rd, tr, s, m, c, b, ns, x, rfl, _⟩ := h
    rfl
  · obtain ⟨p, tl, rd, tr, s, m, c, b, ns, x, rfl, PA, hm, hb, hcall, hc4, k⟩ := h
    obtain ⟨dx, h1⟩ := PA.ob
    refine ⟨_, (pss_cons (ps_if (pt_cmpR op_eq (pv 1) (pg_int T.c_BEGINS) (nomark _)) (pss_one (ps_ret (pmeth (pv 0) T.cl F_begin hr (pa_cons (pe_slice sl_list (pv 2) (po_some pe_int) po_none) pa_nil)))) pss_nil)
      (pss_cons (ps_if (pt_cmpR op_eq (pv 1) (pg_int T.c_EMPTY) (nomark _)) (pss_one (ps_ret (pmeth (pv 0) T.cl F_set_run hr (pa_cons (pe_ix ix_list (pv 2) pe_int (fun _ _ => rfl)) (pa_cons (pe_ix ix_list (pv 2) pe_int (fun _ _ => rfl)) (pa_cons (pe_ix ix_list (pv 2) pe_int (fun _ _ => rfl)) pa_nil)))))) pss_nil)
      (pss_cons (ps_if (pt_cmpR op_eq (pv 1) (pg_int T.c_REMOVE) (nomark _)) (pss_one (ps_ret (pmeth (pv 0) T.cl F_remove_run hr (pa_cons (pe_ix ix_list (pv 2) pe_int (fun _ _ => rfl)) (pa_cons (pe_ix ix_list (pv 2) pe_int (fun _ _ => rfl)) pa_nil))))) pss_nil)
      (pss_cons (ps_if (pt_cmpR op_eq (pv 1) (pg_int T.c_TRIP) (nomark _)) (pss_one (ps_ret (pmeth (pv 0) T.cl F_add_trip hr (pa_cons (pe_ix ix_list (pv 2) pe_int (fun _ _ => rfl)) (pa_cons (pe_ix ix_list (pv 2) pe_int (fun _ _ => rfl)) (pa_cons (pe_ix ix_list (pv 2) pe_int (fun _ _ => rfl)) (pa_cons (pe_ix ix_list (pv 2) pe_int (fun _ _ => rfl)) pa_nil))))))) pss_nil)
      (pss_one (ps_ret (pmeth (pv 0) T.cl F_drop_trip hr (pa_cons (pe_ix ix_list (pv 2) pe_int (fun _ _ => rfl)) pa_nil)))))))), ?_⟩
    have at_ : ∀ (i : Nat) (z : Int), ns[i]? = some z → atI (iVs ns) (i : Int) = some (.int z) := fun i z h => atI_nat (iAtI h)
    have no : ∀ q : Str, ¬ q = "turns" → ¬ q = "runs" → ¬ q = "trips" → (flds tl rd tr).lookup q = none := fun q a b c => f_none _ _ _ a b c
    refine ⟨_, rfl, rfl, _, rfl, ?_⟩
    cases hcall with
    | begins ts _ hl hbb =>
      refine iteT ?_
      refine ⟨_, rfl, p, dx, _, rfl, h1, no _ (by decide +kernel) (by decide +kernel) (by decide +kernel), ?_⟩
      refine ⟨_, rfl, _, rfl, b, _, rfl, SqL.of hb, fun q nq => ?_⟩
      have ec : cutV (iVs ((ts.length : Int) :: (ofN ts ++ []))) (some (1 : Int)) none = nVs ts := by
        have := cutV_from (j := 1) (iVs ((ts.length : Int) :: (ofN ts ++ []))) (by rw [iVs_len, List.length_cons]; omega)
        rw [List.append_nil] at this ⊢
        rw [nVs_ofN]
        exact this
      rw [ec]
      refine ⟨p, tl, rd, tr, s, m, q, ts, rfl, PA.sm (same_new nq), upd_same, Goes.new nq k⟩
    | empty_ a1 b1 n1 _ ha hb1 hn1 =>
      refine iteF ⟨_, rfl, rfl, _, rfl, iteT ?_⟩
      refine ⟨_, rfl, p, dx, _, rfl, h1, no _ (by decide +kernel) (by decide +kernel) (by decide +kernel), ?_⟩
      refine ⟨_, rfl, b, _, _, _, rfl, rfl, SqL.of hb, at_ 0 _ rfl, _, rfl, b, _, _, _, rfl, rfl, SqL.of hb, at_ 1 _ rfl, _, rfl, b, _, _, _, rfl, rfl, SqL.of hb, at_ 2 _ rfl, ?_⟩
      exact ⟨p, tl, rd, tr, s, m, a1, b1, n1, rfl, PA, by omega, k⟩
    | remove a1 b1 _ ha hb1 =>
      refine iteF ⟨_, rfl, rfl, _, rfl, iteF ⟨_, rfl, rfl, _, rfl, iteT ?_⟩⟩
      refine ⟨_, rfl, p, dx, _, rfl, h1, no _ (by decide +kernel) (by decide +kernel) (by decide +kernel), ?_⟩
      refine ⟨_, rfl, b, _, _, _, rfl, rfl, SqL.of hb, at_ 0 _ rfl, _, rfl, b, _, _, _, rfl, rfl, SqL.of hb, at_ 1 _ rfl, ?_⟩
      exact ⟨p, tl, rd, tr, s, m, a1, b1, rfl, PA, by omega, k⟩
    | trip a1 b1 s1 t1 _ ha hb1 hs ht =>
      refine iteF ⟨_, rfl, rfl, _, rfl, iteF ⟨_, rfl, rfl, _, rfl, iteF ⟨_, rfl, rfl, _, rfl, iteT ?_⟩⟩⟩
      refine ⟨_, rfl, p, dx, _, rfl, h1, no _ (by decide +kernel) (by decide +kernel) (by decide +kernel), ?_⟩
      refine ⟨_, rfl, b, _, _, _, rfl, rfl, SqL.of hb, at_ 0 _ rfl, _, rfl, b, _, _, _, rfl, rfl, SqL.of hb, at_ 1 _ rfl, _, rfl, b, _, _, _, rfl, rfl, SqL.of hb, at_ 2 _ rfl, _, rfl, b, _, _, _, rfl, rfl, SqL.of hb, at_ 3 _ rfl, ?_⟩
      exact ⟨p, tl, rd, tr, s, m, a1, b1, s1, t1, rfl, PA, k⟩
    | drop j _ hj =>
      refine iteF ⟨_, rfl, rfl, _, rfl, iteF ⟨_, rfl, rfl, _, rfl, iteF ⟨_, rfl, rfl, _, rfl, iteF ?_⟩⟩⟩
      refine ⟨_, rfl, p, dx, _, rfl, h1, no _ (by decide +kernel) (by decide +kernel) (by decide +kernel), ?_⟩
      refine ⟨_, rfl, b, _, _, _, rfl, rfl, SqL.of hb, at_ 0 _ rfl, ?_⟩
      exact ⟨p, tl, rd, tr, s, m, j, rfl, PA, hj, k⟩
    | follow i j _ hi hj => exact absurd hc4 (by decide)
    | units _ => exact absurd hc4 (by decide)
    | why _ => exact absurd hc4 (by decide)
    | daily _ => exact absurd hc4 (by decide)
    | without j _ hj => exact absurd hc4 (by decide)
/-! ### answer_of -/
theorem out_one {a : Sw75.Ans} (h : a.l = []) : Sw75Neutral.out a = [a.v] := by
  unfold Sw75Neutral.out
  rw [h]
  rfl
theorem l_begins (s : Sw75.Plan) (ts : List Nat) : (Sw75.step s (.begins ts)).2.l = [] := by
  simp only [Sw75.step]
  split <;> rfl
theorem l_empty (s : Sw75.Plan) (a b : Nat) (n : Option Nat) : (Sw75.step s (.empty_ a b n)).2.l = [] := by
  simp only [Sw75.step]
  split
  · rfl
  · split <;> rfl
theorem l_trip (s : Sw75.Plan) (x : Sw75.Trip) : (Sw75.step s (.trip x)).2.l = [] := by
  simp only [Sw75.step]
  split
  · rfl
  · split
    · rfl
    · split <;> rfl
theorem l_drop (s : Sw75.Plan) (j : Nat) : (Sw75.step s (.drop j)).2.l = [] := by
  simp only [Sw75.step]
  split <;> rfl
theorem l_without (s : Sw75.Plan) (j : Nat) : (Sw75.step s (.without j)).2.l = [] := by
  simp only [Sw75.step]
  split
  · rfl
  · simp only
    split <;> rfl
theorem p_without (s : Sw75.Plan) (j : Nat) : (Sw75.step s (.without j)).1 = s := by
  simp only [Sw75.step]
  split <;> rfl
theorem p_follow (s : Sw75.Plan) (i j : Nat) : (Sw75.step s (.follow i j)).1 = s := by
  simp only [Sw75.step]
  split <;> rfl
theorem sc_of : FnScope ["plan", "call", "numbers"] ["plan", "call", "numbers"] (defScope s_answer_of) := ⟨rfl, rfl, rfl, by decide +kernel, rfl, by decide +kernel, by decide +kernel⟩
theorem PlanAt.noneOf {H : Hp} {p tl rd tr : Addr} {s : Sw75.Plan} {m : Nat} (h : PlanAt C H p tl rd tr s m) {q : Addr} (n : H q = none) : q ∉ [p, tl, rd, tr] := by
  obtain ⟨⟨_, h1⟩, h2, ⟨_, h3, _⟩, ⟨_, h4, _⟩, _, _⟩ := h
  simp only [List.mem_cons, List.not_mem_nil, or_false, not_or]
  exact ⟨(ne_of_none h1 n).symm, (ne_of_none h2 n).symm, (ne_of_none h3 n).symm, (ne_of_none h4 n).symm⟩
theorem Frame.same {H H' : Hp} {F : List Addr} (k : Same H H') : Frame H H' F F := ⟨fun b o e _ => k b o e, fun _ h => .inl h⟩
theorem ok_of {f : Addr} {fd : FuncData} (F : Fun K "answer_of" "answer_of" s_answer_of f fd) (T : Txt K mg C) (F_change : FnAt P w K mg base "change" 4 ["plan", "call", "numbers"] (spChange C)) (F_follow : FnAt P w K mg base "follow" 2 ["plan", "i", "j"] (spFollow C))
    (F_units : FnAt P w K mg base "units" 6 ["plan"] (spAsk C .units)) (F_why : FnAt P w K mg base "why" 5 ["plan"] (spAsk C .why)) (F_daily : FnAt P w K mg base "daily" 4 ["plan"] (spAsk C .daily)) (F_without : FnAt P w K mg base "without" 6 ["plan", "k"] (spWithout C)) :
    FnOk P w K mg base CX0 10 f fd ["plan", "call", "numbers"] (spOf C) := by
  refine F.ok sc_of (fun vs H Q E h => ?_) (fun cdv A outer s H vs Q E hr h => ?_)
  · obtain ⟨p, tl, rd, tr, s, m, c, b, ns, x, rfl, _⟩ := h
    rfl
  · obtain ⟨p, tl, rd, tr, s, m, c, b, ns, x, rfl, PA, hm, hb, hbF, hcall, k⟩ := h
    refine ⟨_, (pss_cons (ps_if (pt_cmpR op_le (pv 1) (pg_int T.c_DROP) (nomark _)) (pss_one (ps_ret (pe_lst (pa_cons (pcall F_change hr (pa_cons (pv 0) (pa_cons (pv 1) (pa_cons (pv 2) pa_nil)))) pa_nil)))) pss_nil)
      (pss_cons (ps_if (pt_cmpR op_eq (pv 1) (pg_int T.c_FOLLOW) (nomark _)) (pss_one (ps_ret (pcall F_follow hr (pa_cons (pv 0) (pa_cons (pe_ix ix_list (pv 2) pe_int (fun _ _ => rfl)) (pa_cons (pe_ix ix_list (pv 2) pe_int (fun _ _ => rfl)) pa_nil)))))) pss_nil)
      (pss_cons (ps_if (pt_cmpR op_eq (pv 1) (pg_int T.c_UNITS) (nomark _)) (pss_one (ps_ret (pcall F_units hr (pa_cons (pv 0) pa_nil)))) pss_nil)
      (pss_cons (ps_if (pt_cmpR op_eq (pv 1) (pg_int T.c_WHY) (nomark _)) (pss_one (ps_ret (pcall F_why hr (pa_cons (pv 0) pa_nil)))) pss_nil)
      (pss_cons (ps_if (pt_cmpR op_eq (pv 1) (pg_int T.c_DAILY) (nomark _)) (pss_one (ps_ret (pcall F_daily hr (pa_cons (pv 0) pa_nil)))) pss_nil)
      (pss_one (ps_ret (pe_lst (pa_cons (pcall F_without hr (pa_cons (pv 0) (pa_cons (pe_ix ix_list (pv 2) pe_int (fun _ _ => rfl)) pa_nil))) pa_nil))))))))), ?_⟩
    have at_ : ∀ (i : Nat) (z : Int), ns[i]? = some z → atI (iVs ns) (i : Int) = some (.int z) := fun i z h => atI_nat (iAtI h)
    -- the calls that change nothing
    have tells : (Sw75.step s x).1 = s → Tells H (Sw75Neutral.out (Sw75.step s x).2) Q := fun e H' q sm nq hq =>
      k H' tl rd tr q (by rw [e]; exact (PA.sm sm).mono (Nat.le_succ _)) (Frame.same sm) (.inr nq) hq (PA.noneOf nq)
    -- the calls that change the plan
    have changes : c ≤ 4 → Sw75Neutral.out (Sw75.step s x).2 = [(Sw75.step s x).2.v] → decide ((c : Int) ≤ 4) = true ∧ spChange C [.ref p, .int c, .ref b] H (fun v H1 => [v].length ≤ sizeLine ∧ ∀ q, H1 q = none → Q (.ref q) (upd H1 q (.lst [v]))) E0 := fun h4 eo => by
      refine ⟨decide_eq_true h4, p, tl, rd, tr, s, m, c, b, ns, x, rfl, PA, hm, hb, hcall, h4, fun H' tl' rd' tr' PA' fr => ⟨(by show 1 ≤ sizeLine; decide), fun q nq => ?_⟩⟩
      have s1 := same_new (o := .lst [V.int (Sw75.step s x).2.v]) nq
      refine k _ tl' rd' tr' q (PA'.sm s1) ⟨fun b o e nb => s1 _ _ (fr.keep b o e nb), fr.own⟩ ?_ (by rw [upd_same, eo]; rfl) (PA'.noneOf nq)
      cases e0 : H q with
      | none => exact .inr rfl
      | some o =>
        refine .inl (Classical.byContradiction fun nm => ?_)
        rw [fr.keep q o e0 nm] at nq
        cases nq
    refine ⟨_, rfl, _, _, rfl, rfl, _, rfl, ?_⟩
    cases hcall with
    | begins ts _ hl hbb => exact iteT ⟨_, rfl, _, rfl, _, rfl, (changes (by decide) (out_one (l_begins s ts))).2⟩
    | empty_ a1 b1 n1 _ ha hb1 hn1 => exact iteT ⟨_, rfl, _, rfl, _, rfl, (changes (by decide) (out_one (l_empty s a1 b1 (some n1)))).2⟩
    | remove a1 b1 _ ha hb1 => exact iteT ⟨_, rfl, _, rfl, _, rfl, (changes (by decide) (out_one (l_empty s a1 b1 none))).2⟩
    | trip a1 b1 s1 t1 _ ha hb1 hs ht => exact iteT ⟨_, rfl, _, rfl, _, rfl, (changes (by decide) (out_one (l_trip s ⟨a1, b1, s1, t1⟩))).2⟩
    | drop j _ hj => exact iteT ⟨_, rfl, _, rfl, _, rfl, (changes (by decide) (out_one (l_drop s j))).2⟩
    | follow i j _ hi hj =>
      refine iteF ⟨_, rfl, rfl, _, rfl, iteT ?_⟩
      refine ⟨_, rfl, _, rfl, b, _, _, _, rfl, rfl, SqL.of hb, at_ 0 _ rfl, _, rfl, b, _, _, _, rfl, rfl, SqL.of hb, at_ 1 _ rfl, ?_⟩
      exact ⟨p, tl, rd, tr, s, m, i, j, rfl, PA, tells (p_follow s i j)⟩
    | units _ =>
      refine iteF ⟨_, rfl, rfl, _, rfl, iteF ⟨_, rfl, rfl, _, rfl, iteT ?_⟩⟩
      exact ⟨_, rfl, p, tl, rd, tr, s, m, rfl, PA, tells rfl⟩
    | why _ =>
      refine iteF ⟨_, rfl, rfl, _, rfl, iteF ⟨_, rfl, rfl, _, rfl, iteF ⟨_, rfl, rfl, _, rfl, iteT ?_⟩⟩⟩
      exact ⟨_, rfl, p, tl, rd, tr, s, m, rfl, PA, tells rfl⟩
    | daily _ =>
      refine iteF ⟨_, rfl, rfl, _, rfl, iteF ⟨_, rfl, rfl, _, rfl, iteF ⟨_, rfl, rfl, _, rfl, iteF ⟨_, rfl, rfl, _, rfl, iteT ?_⟩⟩⟩⟩
      exact ⟨_, rfl, p, tl, rd, tr, s, m, rfl, PA, tells rfl⟩
    | without j _ hj =>
      refine iteF ⟨_, rfl, rfl, _, rfl, iteF ⟨_, rfl, rfl, _, rfl, iteF ⟨_, rfl, rfl, _, rfl, iteF ⟨_, rfl, rfl, _, rfl, iteF ?_⟩⟩⟩⟩
      refine ⟨_, rfl, _, rfl, b, _, _, _, rfl, rfl, SqL.of hb, at_ 0 _ rfl, ?_⟩
      refine ⟨p, tl, rd, tr, s, m, j, rfl, PA, fun H' sm => ?_⟩
      refine ⟨(by show 1 ≤ sizeLine; decide), fun q nq => ?_⟩
      exact tells (p_without s j) _ q (sm.trans (same_new nq)) (sm.free nq) (by rw [upd_same, out_one (l_without s j)]; rfl)
end
end Tu
end
section
set_option Elab.async false
set_option linter.all false
set_option maxRecDepth 100000
namespace Tu
open PySem PySem.Spec PyProof.Rows L2
open PySem.W (Codec)
/-- a method of a class, a def of the top, as they stand -/
structure MethIn (K : PySem.W.Frag) (C : Addr) (m qual : Str) (st : Stmt) : Prop where
  ex : ∃ (f : Addr) (fd : FuncData), Meth K C m f ∧ Fun K m qual st f fd
theorem meth_mk {K : PySem.W.Frag} {C f : Addr} {m qual : Str} {st : Stmt} {od an : Option Addr} {sl : Array (Option Value)} {oc kV dc pm cd ct : Value} (a : PySem.W.findIn K (.ref C) m = some (some (.ref f))) (i : PySem.W.isFn K (.ref f) = true)
    (l : K.lookup f = some ⟨oc, od, .func (PySem.W.fnOf m qual (defArgs st) (defBody st) (defScope st) .none kV dc pm an cd ct), sl⟩) (c : PySem.W.codeIn K cd qual = true) (k : PySem.W.keepIn K (.ref f) = true) : MethIn K C m qual st := ⟨f, _, ⟨a, i, k⟩, fun_mk l c k⟩
structure DefIn (K : PySem.W.Frag) (x : Str) (st : Stmt) : Prop where
  ex : ∃ (f : Addr) (fd : FuncData), PySem.W.nsIn K mainGlobals x = some (some (.ref f)) ∧ Fun K x x st f fd
theorem def_mk {K : PySem.W.Frag} {f : Addr} {x : Str} {st : Stmt} {od an : Option Addr} {sl : Array (Option Value)} {oc kV dc pm cd ct : Value} (a : PySem.W.nsIn K mainGlobals x = some (some (.ref f)))
    (l : K.lookup f = some ⟨oc, od, .func (PySem.W.fnOf x x (defArgs st) (defBody st) (defScope st) .none kV dc pm an cd ct), sl⟩) (c : PySem.W.codeIn K cd x = true) (k : PySem.W.keepIn K (.ref f) = true) : DefIn K x st := ⟨f, _, a, fun_mk l c k⟩
/-- a whole number of the top -/
def IntIn (K : PySem.W.Frag) (x : Str) (i : Int) : Prop := ∃ t, PySem.W.nsIn K mainGlobals x = some (some (.int i t))
theorem int_mk {K : PySem.W.Frag} {x : Str} {i : Int} {t : Tok} (h : PySem.W.nsIn K mainGlobals x = some (some (.int i t))) : IntIn K x i := ⟨t, h⟩
theorem DefIn.at {P : Program} {w : World} {K : PySem.W.Frag} {mg : Str → Option Value} {base h : Heap} {x : Str} {st : Stmt} {k : Nat} {ps : List Str} {sp : Sp} (D : DefIn K x st) (X : K.In h) (G : h.Ns mainGlobals mg)
    (hb : ∀ f fd, Fun K x x st f fd → Binds K fd ps []) (ok : ∀ f fd, Fun K x x st f fd → FnOk P w K mg base CX0 k f fd ps sp) : FnAt P w K mg base x k ps sp := by
  obtain ⟨f, fd, a, F⟩ := D.ex
  exact ⟨f, fd, ok f fd F, hb f fd F, PySem.W.mg_of X G a, F.kp⟩
theorem MethIn.at {P : Program} {w : World} {K : PySem.W.Frag} {mg : Str → Option Value} {base : Heap} {C : Addr} {m qual : Str} {st : Stmt} {k : Nat} {ps : List Str} {sp : Sp} (D : MethIn K C m qual st)
    (hb : ∀ f fd, Fun K m qual st f fd → Binds K fd ps []) (ok : ∀ f fd, Fun K m qual st f fd → FnOk P w K mg base CX0 k f fd ps sp) : MethAt P w K mg base C m k ps sp := by
  obtain ⟨f, fd, M, F⟩ := D.ex
  exact ⟨f, fd, ok f fd F, hb f fd F, M⟩
theorem IntIn.at {K : PySem.W.Frag} {h : Heap} {mg : Str → Option Value} {x : Str} {i : Int} (I : IntIn K x i) (X : K.In h) (G : h.Ns mainGlobals mg) : ∃ t, mg x = some (.int i t) := by
  obtain ⟨t, e⟩ := I
  exact ⟨t, PySem.W.mg_of X G e⟩
theorem kdict_of {K : PySem.W.Frag} {a : Addr} {t1 u1 t2 u2 t3 u3 t4 u4 t5 u5 t6 u6 t7 u7 t8 u8 t9 u9 : Tok} {ep : Nat} (h : K.lookup a = some { cls := .type "dict", data := .dict #[⟨hashInt 1, .int 1 t1, .int 3 u1⟩, ⟨hashInt 2, .int 2 t2, .int 2 u2⟩, ⟨hashInt 3, .int 3 t3, .int 4 u3⟩, ⟨hashInt 4, .int 4 t4, .int 1 u4⟩, ⟨hashInt 5, .int 5 t5, .int 2 u5⟩, ⟨hashInt 6, .int 6 t6, .int 0 u6⟩, ⟨hashInt 7, .int 7 t7, .int 0 u7⟩, ⟨hashInt 8, .int 8 t8, .int 0 u8⟩, ⟨hashInt 9, .int 9 t9, .int 1 u9⟩] ep }) : KDict K a wholes :=
  ⟨_, _, ep, h, ⟨rfl, rfl, rfl⟩, rfl, .cons ⟨rfl, ⟨_, rfl⟩, ⟨_, rfl⟩⟩ (.cons ⟨rfl, ⟨_, rfl⟩, ⟨_, rfl⟩⟩ (.cons ⟨rfl, ⟨_, rfl⟩, ⟨_, rfl⟩⟩ (.cons ⟨rfl, ⟨_, rfl⟩, ⟨_, rfl⟩⟩ (.cons ⟨rfl, ⟨_, rfl⟩, ⟨_, rfl⟩⟩ (.cons ⟨rfl, ⟨_, rfl⟩, ⟨_, rfl⟩⟩ (.cons ⟨rfl, ⟨_, rfl⟩, ⟨_, rfl⟩⟩ (.cons ⟨rfl, ⟨_, rfl⟩, ⟨_, rfl⟩⟩ (.cons ⟨rfl, ⟨_, rfl⟩, ⟨_, rfl⟩⟩ .nil)))))))), by decide⟩
theorem all_mk {P : Program} {w : World} {K : PySem.W.Frag} {h : Heap} {mg : Str → Option Value} {fa C f1 aW : Addr} {fd1 : FuncData} (X : K.In h) (G : h.Ns mainGlobals mg) (hfa : mg "answers" = some (.ref fa))
    (aC : PySem.W.nsIn K mainGlobals "Plan" = some (some (.ref C))) (pg : PySem.W.plainGet K C Str.empty = true) (hd : PySem.W.hasDictIn K C = true) (po : PySem.W.plainOver K C = true) (sa : PySem.W.findIn K (.ref C) "__setattr__" = some (some (.builtin "object.__setattr__"))) (mk : PySem.W.makesIn K C = true) (kc : PySem.W.keepIn K (.ref C) = true)
    (nT : PySem.W.findIn K (.ref C) "turns" = some none) (nR : PySem.W.findIn K (.ref C) "runs" = some none) (nP : PySem.W.findIn K (.ref C) "trips" = some none)
    (a1 : PySem.W.findIn K (.ref C) "__init__" = some (some (.ref f1))) (i1 : PySem.W.isFn K (.ref f1) = true) (F1 : Fun K "__init__" "Plan.__init__" s_init f1 fd1)
    (aw : PySem.W.nsIn K mainGlobals "WHOLE_NUMBERS" = some (some (.ref aW))) (kw : KDict K aW wholes)
    (b_len : PySem.W.nsIn K mainGlobals "len" = some none)
    (b_max : PySem.W.nsIn K mainGlobals "max" = some none)
    (b_list : PySem.W.nsIn K mainGlobals "list" = some none)
    (b_min : PySem.W.nsIn K mainGlobals "min" = some none)
    (b_range : PySem.W.nsIn K mainGlobals "range" = some none)
    (b_enumerate : PySem.W.nsIn K mainGlobals "enumerate" = some none)
    (b_sorted : PySem.W.nsIn K mainGlobals "sorted" = some none)
    (c_MOST_STOPS : IntIn K "MOST_STOPS" 10)
    (c_MOST_TRIPS : IntIn K "MOST_TRIPS" 10)
    (c_LONGEST : IntIn K "LONGEST" 1440)
    (c_LAST_MINUTE : IntIn K "LAST_MINUTE" 10000)
    (c_OUT_OF_BOUNDS : IntIn K "OUT_OF_BOUNDS" (-1))
    (c_NO_SUCH : IntIn K "NO_SUCH" (-2))
    (c_FULL : IntIn K "FULL" (-5))
    (c_DAY : IntIn K "DAY" 1440)
    (c_NEVER : IntIn K "NEVER" (-6))
    (c_BEGINS : IntIn K "BEGINS" 0)
    (c_EMPTY : IntIn K "EMPTY" 1)
    (c_REMOVE : IntIn K "REMOVE" 2)
    (c_TRIP : IntIn K "TRIP" 3)
    (c_DROP : IntIn K "DROP" 4)
    (c_FOLLOW : IntIn K "FOLLOW" 5)
    (c_UNITS : IntIn K "UNITS" 6)
    (c_WHY : IntIn K "WHY" 7)
    (c_DAILY : IntIn K "DAILY" 8)
    (m_has_stops : MethIn K C "has_stops" "Plan.has_stops" s_has_stops)
    (m_has_trip : MethIn K C "has_trip" "Plan.has_trip" s_has_trip)
    (m_ready : MethIn K C "ready" "Plan.ready" s_ready)
    (m_run_refusal : MethIn K C "run_refusal" "Plan.run_refusal" s_run_refusal)
    (m_set_run : MethIn K C "set_run" "Plan.set_run" s_set_run)
    (m_remove_run : MethIn K C "remove_run" "Plan.remove_run" s_remove_run)
    (m_add_trip : MethIn K C "add_trip" "Plan.add_trip" s_add_trip)
    (m_drop_trip : MethIn K C "drop_trip" "Plan.drop_trip" s_drop_trip)
    (m_begin : MethIn K C "begin" "Plan.begin" s_begin)
    (d_days_later : DefIn K "days_later" s_days_later)
    (d_choices_behind : DefIn K "choices_behind" s_choices_behind)
    (d_daily_choices : DefIn K "daily_choices" s_daily_choices)
    (d_may_follow : DefIn K "may_follow" s_may_follow)
    (d_day_choices : DefIn K "day_choices" s_day_choices)
    (d_merged : DefIn K "merged" s_merged)
    (d_cheapest : DefIn K "cheapest" s_cheapest)
    (d_run_from : DefIn K "run_from" s_run_from)
    (d_unit_lists : DefIn K "unit_lists" s_unit_lists)
    (d_ring_lists : DefIn K "ring_lists" s_ring_lists)
    (d_size_of : DefIn K "size_of" s_size_of)
    (d_whole_sets : DefIn K "whole_sets" s_whole_sets)
    (d_fewest_sets : DefIn K "fewest_sets" s_fewest_sets)
    (d_with_lists : DefIn K "with_lists" s_with_lists)
    (d_follow : DefIn K "follow" s_follow)
    (d_units : DefIn K "units" s_units)
    (d_why : DefIn K "why" s_why)
    (d_daily : DefIn K "daily" s_daily)
    (d_without : DefIn K "without" s_without)
    (d_change : DefIn K "change" s_change)
    (d_end_of_call : DefIn K "end_of_call" s_end_of_call)
    (d_answer_of : DefIn K "answer_of" s_answer_of)
    (d_answers : DefIn K "answers" s_answers) :
    ∃ fd : FuncData, (∀ (s : Shared) (us : List Value), us.length = (["calls"] : List Str).length → BindsTo s fd ⟨us, []⟩ ((["calls"] : List Str).zip us)) ∧ ∀ base : Heap, K.In base → base.Ns mainGlobals mg → FnOk P w K mg base CX0 11 fa fd ["calls"] (spAns K) := by
  have T : Txt K mg C := { cl := ⟨pg, hd, po, sa⟩, nT := nT, nR := nR, nP := nP, b_len := PySem.W.mg_none_of X G b_len, b_max := PySem.W.mg_none_of X G b_max, b_list := PySem.W.mg_none_of X G b_list, b_min := PySem.W.mg_none_of X G b_min, b_range := PySem.W.mg_none_of X G b_range, b_enumerate := PySem.W.mg_none_of X G b_enumerate, b_sorted := PySem.W.mg_none_of X G b_sorted, c_MOST_STOPS := c_MOST_STOPS.at X G, c_MOST_TRIPS := c_MOST_TRIPS.at X G, c_LONGEST := c_LONGEST.at X G, c_LAST_MINUTE := c_LAST_MINUTE.at X G, c_OUT_OF_BOUNDS := c_OUT_OF_BOUNDS.at X G, c_NO_SUCH := c_NO_SUCH.at X G, c_FULL := c_FULL.at X G, c_DAY := c_DAY.at X G, c_NEVER := c_NEVER.at X G, c_BEGINS := c_BEGINS.at X G, c_EMPTY := c_EMPTY.at X G, c_REMOVE := c_REMOVE.at X G, c_TRIP := c_TRIP.at X G, c_DROP := c_DROP.at X G, c_FOLLOW := c_FOLLOW.at X G, c_UNITS := c_UNITS.at X G, c_WHY := c_WHY.at X G, c_DAILY := c_DAILY.at X G }
  obtain ⟨f, fd, a, F⟩ := d_answers.ex
  have e := hfa.symm.trans (PySem.W.mg_of X G a)
  cases e
  have b1 := F1.binds (ps := ["self"]) fun _ _ _ _ _ _ us hl => match us, hl with | [_], _ => rfl
  refine ⟨fd, fun s us hu => ?_, fun base _ _ => ?_⟩
  · obtain ⟨oc, od, kV, doc, pm, an, cdv, ct, osl, rfl, _, _⟩ := F.ex
    exact match us, hu with | [_], _ => .of_eq rfl
  · have M_Plan : MakeAt P w K mg base "Plan" C 1 (spInit C) := ⟨f1, fd1, ⟨mk, a1, i1, kc⟩, ok_init F1 T, b1, PySem.W.mg_of X G aC⟩
    have F_has_stops : MethAt P w K mg base C "has_stops" 1 ["self", "source", "target"] (spHas C) := m_has_stops.at (fun f fd F => F.binds (ps := ["self", "source", "target"]) fun _ _ _ _ _ _ us hl => match us, hl with | [_, _, _], _ => rfl) (fun f fd F => ok_has F T )
    have F_has_trip : MethAt P w K mg base C "has_trip" 1 ["self", "k"] (spHasT C) := m_has_trip.at (fun f fd F => F.binds (ps := ["self", "k"]) fun _ _ _ _ _ _ us hl => match us, hl with | [_, _], _ => rfl) (fun f fd F => ok_hasT F T )
    have F_ready : MethAt P w K mg base C "ready" 1 ["self", "one", "other"] (spReady C) := m_ready.at (fun f fd F => F.binds (ps := ["self", "one", "other"]) fun _ _ _ _ _ _ us hl => match us, hl with | [_, _, _], _ => rfl) (fun f fd F => ok_ready F T )
    have F_run_refusal : MethAt P w K mg base C "run_refusal" 2 ["self", "source", "target"] (spRef C) := m_run_refusal.at (fun f fd F => F.binds (ps := ["self", "source", "target"]) fun _ _ _ _ _ _ us hl => match us, hl with | [_, _, _], _ => rfl) (fun f fd F => ok_ref F T F_has_stops)
    have F_set_run : MethAt P w K mg base C "set_run" 3 ["self", "source", "target", "minutes"] (spSet C) := m_set_run.at (fun f fd F => F.binds (ps := ["self", "source", "target", "minutes"]) fun _ _ _ _ _ _ us hl => match us, hl with | [_, _, _, _], _ => rfl) (fun f fd F => ok_set F T F_run_refusal)
    have F_remove_run : MethAt P w K mg base C "remove_run" 3 ["self", "source", "target"] (spRem C) := m_remove_run.at (fun f fd F => F.binds (ps := ["self", "source", "target"]) fun _ _ _ _ _ _ us hl => match us, hl with | [_, _, _], _ => rfl) (fun f fd F => ok_rem F T F_run_refusal)
    have F_add_trip : MethAt P w K mg base C "add_trip" 2 ["self", "source", "target", "first", "last"] (spAdd C) := m_add_trip.at (fun f fd F => F.binds (ps := ["self", "source", "target", "first", "last"]) fun _ _ _ _ _ _ us hl => match us, hl with | [_, _, _, _, _], _ => rfl) (fun f fd F => ok_add F T F_has_stops)
    have F_drop_trip : MethAt P w K mg base C "drop_trip" 2 ["self", "k"] (spDrop C) := m_drop_trip.at (fun f fd F => F.binds (ps := ["self", "k"]) fun _ _ _ _ _ _ us hl => match us, hl with | [_, _], _ => rfl) (fun f fd F => ok_drop F T F_has_trip)
    have F_begin : MethAt P w K mg base C "begin" 1 ["self", "turns"] (spBegin C) := m_begin.at (fun f fd F => F.binds (ps := ["self", "turns"]) fun _ _ _ _ _ _ us hl => match us, hl with | [_, _], _ => rfl) (fun f fd F => ok_begin F T )
    have F_days_later : FnAt P w K mg base "days_later" 1 ["ready", "trip"] spDays := d_days_later.at X G (fun f fd F => F.binds (ps := ["ready", "trip"]) fun _ _ _ _ _ _ us hl => match us, hl with | [_, _], _ => rfl) (fun f fd F => ok_days F T )
    have F_choices_behind : FnAt P w K mg base "choices_behind" 2 ["plan", "trips", "one"] (spBehind C) := d_choices_behind.at X G (fun f fd F => F.binds (ps := ["plan", "trips", "one"]) fun _ _ _ _ _ _ us hl => match us, hl with | [_, _, _], _ => rfl) (fun f fd F => ok_behind F T F_ready F_days_later)
    have F_daily_choices : FnAt P w K mg base "daily_choices" 3 ["plan", "trips"] (spDaily C) := d_daily_choices.at X G (fun f fd F => F.binds (ps := ["plan", "trips"]) fun _ _ _ _ _ _ us hl => match us, hl with | [_, _], _ => rfl) (fun f fd F => ok_daily F T F_choices_behind)
    have F_may_follow : FnAt P w K mg base "may_follow" 4 ["plan", "trips"] (spMay C) := d_may_follow.at X G (fun f fd F => F.binds (ps := ["plan", "trips"]) fun _ _ _ _ _ _ us hl => match us, hl with | [_, _], _ => rfl) (fun f fd F => ok_may F T F_daily_choices)
    have F_day_choices : FnAt P w K mg base "day_choices" 5 ["plan", "trips"] (spDay C) := d_day_choices.at X G (fun f fd F => F.binds (ps := ["plan", "trips"]) fun _ _ _ _ _ _ us hl => match us, hl with | [_, _], _ => rfl) (fun f fd F => ok_day F T F_may_follow)
    have F_merged : FnAt P w K mg base "merged" 1 ["one", "other"] spMerged := d_merged.at X G (fun f fd F => F.binds (ps := ["one", "other"]) fun _ _ _ _ _ _ us hl => match us, hl with | [_, _], _ => rfl) (fun f fd F => ok_merged F T )
    have F_cheapest : FnAt P w K mg base "cheapest" 2 ["choices"] spCheap := d_cheapest.at X G (fun f fd F => F.binds (ps := ["choices"]) fun _ _ _ _ _ _ us hl => match us, hl with | [_], _ => rfl) (fun f fd F => ok_cheap F T F_merged)
    have F_run_from : FnAt P w K mg base "run_from" 1 ["row", "first"] spRun := d_run_from.at X G (fun f fd F => F.binds (ps := ["row", "first"]) fun _ _ _ _ _ _ us hl => match us, hl with | [_, _], _ => rfl) (fun f fd F => ok_run F T )
    have F_unit_lists : FnAt P w K mg base "unit_lists" 2 ["row"] spUnits := d_unit_lists.at X G (fun f fd F => F.binds (ps := ["row"]) fun _ _ _ _ _ _ us hl => match us, hl with | [_], _ => rfl) (fun f fd F => ok_units F T F_run_from)
    have F_ring_lists : FnAt P w K mg base "ring_lists" 2 ["row"] spRings := d_ring_lists.at X G (fun f fd F => F.binds (ps := ["row"]) fun _ _ _ _ _ _ us hl => match us, hl with | [_], _ => rfl) (fun f fd F => ok_rings F T F_run_from)
    have F_size_of : FnAt P w K mg base "size_of" 1 ["sets"] spSize := d_size_of.at X G (fun f fd F => F.binds (ps := ["sets"]) fun _ _ _ _ _ _ us hl => match us, hl with | [_], _ => rfl) (fun f fd F => ok_size F T )
    have F_whole_sets : FnAt P w K mg base "whole_sets" 1 ["followers", "number"] spWhole := d_whole_sets.at X G (fun f fd F => F.binds (ps := ["followers", "number"]) fun _ _ _ _ _ _ us hl => match us, hl with | [_, _], _ => rfl) (fun f fd F => ok_whole F T )
    have F_fewest_sets : FnAt P w K mg base "fewest_sets" 2 ["followers"] spFewest := d_fewest_sets.at X G (fun f fd F => F.binds (ps := ["followers"]) fun _ _ _ _ _ _ us hl => match us, hl with | [_], _ => rfl) (fun f fd F => ok_fewest F T F_whole_sets F_size_of)
    have F_with_lists : FnAt P w K mg base "with_lists" 1 ["number", "lists"] spWith := d_with_lists.at X G (fun f fd F => F.binds (ps := ["number", "lists"]) fun _ _ _ _ _ _ us hl => match us, hl with | [_, _], _ => rfl) (fun f fd F => ok_with F T )
    have F_follow : FnAt P w K mg base "follow" 2 ["plan", "i", "j"] (spFollow C) := d_follow.at X G (fun f fd F => F.binds (ps := ["plan", "i", "j"]) fun _ _ _ _ _ _ us hl => match us, hl with | [_, _, _], _ => rfl) (fun f fd F => ok_follow F T F_has_trip F_ready F_days_later F_with_lists)
    have F_units : FnAt P w K mg base "units" 6 ["plan"] (spAsk C .units) := d_units.at X G (fun f fd F => F.binds (ps := ["plan"]) fun _ _ _ _ _ _ us hl => match us, hl with | [_], _ => rfl) (fun f fd F => ok_units2 F T F_cheapest F_day_choices F_unit_lists F_with_lists)
    have F_why : FnAt P w K mg base "why" 5 ["plan"] (spAsk C .why) := d_why.at X G (fun f fd F => F.binds (ps := ["plan"]) fun _ _ _ _ _ _ us hl => match us, hl with | [_], _ => rfl) (fun f fd F => ok_why F T F_fewest_sets F_may_follow F_size_of F_with_lists)
    have F_daily : FnAt P w K mg base "daily" 4 ["plan"] (spAsk C .daily) := d_daily.at X G (fun f fd F => F.binds (ps := ["plan"]) fun _ _ _ _ _ _ us hl => match us, hl with | [_], _ => rfl) (fun f fd F => ok_daily2 F T F_cheapest F_daily_choices F_ring_lists F_with_lists)
    have F_without : FnAt P w K mg base "without" 6 ["plan", "k"] (spWithout C) := d_without.at X G (fun f fd F => F.binds (ps := ["plan", "k"]) fun _ _ _ _ _ _ us hl => match us, hl with | [_, _], _ => rfl) (fun f fd F => ok_without F T F_has_trip F_cheapest F_day_choices)
    have F_change : FnAt P w K mg base "change" 4 ["plan", "call", "numbers"] (spChange C) := d_change.at X G (fun f fd F => F.binds (ps := ["plan", "call", "numbers"]) fun _ _ _ _ _ _ us hl => match us, hl with | [_, _, _], _ => rfl) (fun f fd F => ok_change F T F_begin F_set_run F_remove_run F_add_trip F_drop_trip)
    have F_end_of_call : FnAt P w K mg base "end_of_call" 1 ["calls", "at"] (spEnd K) := d_end_of_call.at X G (fun f fd F => F.binds (ps := ["calls", "at"]) fun _ _ _ _ _ _ us hl => match us, hl with | [_, _], _ => rfl) (fun f fd F => ok_end F T ⟨aW, PySem.W.mg_of X G aw, kw⟩)
    have F_answer_of : FnAt P w K mg base "answer_of" 10 ["plan", "call", "numbers"] (spOf C) := d_answer_of.at X G (fun f fd F => F.binds (ps := ["plan", "call", "numbers"]) fun _ _ _ _ _ _ us hl => match us, hl with | [_, _, _], _ => rfl) (fun f fd F => ok_of F T F_change F_follow F_units F_why F_daily F_without)
    exact ok_ans F T M_Plan F_end_of_call F_answer_of
end Tu
open PySem PySem.W PyProof.Rows
set_option maxRecDepth 100000 in
set_option maxHeartbeats 0 in
theorem PySem.Challenge.cw_tripunits_s01_answers_holds : PySem.Challenge.rw_tripunits_s01_answers.Holds := by
  w_on; k_headS; (case hw => exact ⟨[.list [.int 0, .int 0]], by decide +kernel, by decide +kernel⟩)
  k_fillS
  refine L2.walk_specK (r := PySem.Challenge.rw_tripunits_s01_answers) (k := 11) (CX := L2.CX0) (ps := ["calls"]) (sp := Tu.spAns) (by decide +kernel) rfl rfl ⟨rfl, by decide, by decide⟩ (fun w h Y => PySem.W.kIn_of Y) ?F ?S (fun _ _ _ _ z => z)
  case F =>
    intro w mg fa h Y KX G hmg
    refine' Tu.all_mk KX G hmg ?aC ?pg ?hd ?po ?sa ?mk ?kc ?nT ?nR ?nP ?a1 ?i1 (L2.fun_mk (st := Tu.s_init) ?l1 ?c1 ?k1) ?aw (Tu.kdict_of ?kw) ?b_len ?b_max ?b_list ?b_min ?b_range ?b_enumerate ?b_sorted (Tu.int_mk ?c_MOST_STOPS) (Tu.int_mk ?c_MOST_TRIPS) (Tu.int_mk ?c_LONGEST) (Tu.int_mk ?c_LAST_MINUTE) (Tu.int_mk ?c_OUT_OF_BOUNDS) (Tu.int_mk ?c_NO_SUCH) (Tu.int_mk ?c_FULL) (Tu.int_mk ?c_DAY) (Tu.int_mk ?c_NEVER) (Tu.int_mk ?c_BEGINS) (Tu.int_mk ?c_EMPTY) (Tu.int_mk ?c_REMOVE) (Tu.int_mk ?c_TRIP) (Tu.int_mk ?c_DROP) (Tu.int_mk ?c_FOLLOW) (Tu.int_mk ?c_UNITS) (Tu.int_mk ?c_WHY) (Tu.int_mk ?c_DAILY) (Tu.meth_mk (st := Tu.s_has_stops) ?ma_has_stops ?mi_has_stops ?ml_has_stops ?mc_has_stops ?mk_has_stops) (Tu.meth_mk (st := Tu.s_has_trip) ?ma_has_trip ?mi_has_trip ?ml_has_trip ?mc_has_trip ?mk_has_trip) (Tu.meth_mk (st := Tu.s_ready) ?ma_ready ?mi_ready ?ml_ready ?mc_ready ?mk_ready) (Tu.meth_mk (st := Tu.s_run_refusal) ?ma_run_refusal ?mi_run_refusal ?ml_run_refusal ?mc_run_refusal ?mk_run_refusal) (Tu.meth_mk (st := Tu.s_set_run) ?ma_set_run ?mi_set_run ?ml_set_run ?mc_set_run ?mk_set_run) (Tu.meth_mk (st := Tu.s_remove_run) ?ma_remove_run ?mi_remove_run ?ml_remove_run ?mc_remove_run ?mk_remove_run) (Tu.meth_mk (st := Tu.s_add_trip) ?ma_add_trip ?mi_add_trip ?ml_add_trip ?mc_add_trip ?mk_add_trip) (Tu.meth_mk (st := Tu.s_drop_trip) ?ma_drop_trip ?mi_drop_trip ?ml_drop_trip ?mc_drop_trip ?mk_drop_trip) (Tu.meth_mk (st := Tu.s_begin) ?ma_begin ?mi_begin ?ml_begin ?mc_begin ?mk_begin) (Tu.def_mk (st := Tu.s_days_later) ?da_days_later ?dl_days_later ?dc_days_later ?dk_days_later) (Tu.def_mk (st := Tu.s_choices_behind) ?da_choices_behind ?dl_choices_behind ?dc_choices_behind ?dk_choices_behind) (Tu.def_mk (st := Tu.s_daily_choices) ?da_daily_choices ?dl_daily_choices ?dc_daily_choices ?dk_daily_choices) (Tu.def_mk (st := Tu.s_may_follow) ?da_may_follow ?dl_may_follow ?dc_may_follow ?dk_may_follow) (Tu.def_mk (st := Tu.s_day_choices) ?da_day_choices ?dl_day_choices ?dc_day_choices ?dk_day_choices) (Tu.def_mk (st := Tu.s_merged) ?da_merged ?dl_merged ?dc_merged ?dk_merged) (Tu.def_mk (st := Tu.s_cheapest) ?da_cheapest ?dl_cheapest ?dc_cheapest ?dk_cheapest) (Tu.def_mk (st := Tu.s_run_from) ?da_run_from ?dl_run_from ?dc_run_from ?dk_run_from) (Tu.def_mk (st := Tu.s_unit_lists) ?da_unit_lists ?dl_unit_lists ?dc_unit_lists ?dk_unit_lists) (Tu.def_mk (st := Tu.s_ring_lists) ?da_ring_lists ?dl_ring_lists ?dc_ring_lists ?dk_ring_lists) (Tu.def_mk (st := Tu.s_size_of) ?da_size_of ?dl_size_of ?dc_size_of ?dk_size_of) (Tu.def_mk (st := Tu.s_whole_sets) ?da_whole_sets ?dl_whole_sets ?dc_whole_sets ?dk_whole_sets) (Tu.def_mk (st := Tu.s_fewest_sets) ?da_fewest_sets ?dl_fewest_sets ?dc_fewest_sets ?dk_fewest_sets) (Tu.def_mk (st := Tu.s_with_lists) ?da_with_lists ?dl_with_lists ?dc_with_lists ?dk_with_lists) (Tu.def_mk (st := Tu.s_follow) ?da_follow ?dl_follow ?dc_follow ?dk_follow) (Tu.def_mk (st := Tu.s_units) ?da_units ?dl_units ?dc_units ?dk_units) (Tu.def_mk (st := Tu.s_why) ?da_why ?dl_why ?dc_why ?dk_why) (Tu.def_mk (st := Tu.s_daily) ?da_daily ?dl_daily ?dc_daily ?dk_daily) (Tu.def_mk (st := Tu.s_without) ?da_without ?dl_without ?dc_without ?dk_without) (Tu.def_mk (st := Tu.s_change) ?da_change ?dl_change ?dc_change ?dk_change) (Tu.def_mk (st := Tu.s_end_of_call) ?da_end_of_call ?dl_end_of_call ?dc_end_of_call ?dk_end_of_call) (Tu.def_mk (st := Tu.s_answer_of) ?da_answer_of ?dl_answer_of ?dc_answer_of ?dk_answer_of) (Tu.def_mk (st := Tu.s_answers) ?da_answers ?dl_answers ?dc_answers ?dk_answers)
    (case aC => k_is)
    (case pg => k_is)
    (case hd => k_is)
    (case po => k_is)
    (case sa => k_is)
    (case mk => k_is)
    (case kc => k_is)
    (case nT => k_is)
    (case nR => k_is)
    (case nP => k_is)
    (case a1 => k_is)
    (case i1 => k_is)
    (case l1 => k_is)
    (case c1 => k_is)
    (case k1 => k_is)
    (case aw => k_is)
    (case kw => k_is)
    (case b_len => k_is)
    (case b_max => k_is)
    (case b_list => k_is)
    (case b_min => k_is)
    (case b_range => k_is)
    (case b_enumerate => k_is)
    (case b_sorted => k_is)
    (case c_MOST_STOPS => k_is)
    (case c_MOST_TRIPS => k_is)
    (case c_LONGEST => k_is)
    (case c_LAST_MINUTE => k_is)
    (case c_OUT_OF_BOUNDS => k_is)
    (case c_NO_SUCH => k_is)
    (case c_FULL => k_is)
    (case c_DAY => k_is)
    (case c_NEVER => k_is)
    (case c_BEGINS => k_is)
    (case c_EMPTY => k_is)
    (case c_REMOVE => k_is)
    (case c_TRIP => k_is)
    (case c_DROP => k_is)
    (case c_FOLLOW => k_is)
    (case c_UNITS => k_is)
    (case c_WHY => k_is)
    (case c_DAILY => k_is)
    (case ma_has_stops => k_is)
    (case mi_has_stops => k_is)
    (case ml_has_stops => k_is)
    (case mc_has_stops => k_is)
    (case mk_has_stops => k_is)
    (case ma_has_trip => k_is)
    (case mi_has_trip => k_is)
    (case ml_has_trip => k_is)
    (case mc_has_trip => k_is)
    (case mk_has_trip => k_is)
    (case ma_ready => k_is)
    (case mi_ready => k_is)
    (case ml_ready => k_is)
    (case mc_ready => k_is)
    (case mk_ready => k_is)
    (case ma_run_refusal => k_is)
    (case mi_run_refusal => k_is)
    (case ml_run_refusal => k_is)
    (case mc_run_refusal => k_is)
    (case mk_run_refusal => k_is)
    (case ma_set_run => k_is)
    (case mi_set_run => k_is)
    (case ml_set_run => k_is)
    (case mc_set_run => k_is)
    (case mk_set_run => k_is)
    (case ma_remove_run => k_is)
    (case mi_remove_run => k_is)
    (case ml_remove_run => k_is)
    (case mc_remove_run => k_is)
    (case mk_remove_run => k_is)
    (case ma_add_trip => k_is)
    (case mi_add_trip => k_is)
    (case ml_add_trip => k_is)
    (case mc_add_trip => k_is)
    (case mk_add_trip => k_is)
    (case ma_drop_trip => k_is)
    (case mi_drop_trip => k_is)
    (case ml_drop_trip => k_is)
    (case mc_drop_trip => k_is)
    (case mk_drop_trip => k_is)
    (case ma_begin => k_is)
    (case mi_begin => k_is)
    (case ml_begin => k_is)
    (case mc_begin => k_is)
    (case mk_begin => k_is)
    (case da_days_later => k_is)
    (case dl_days_later => k_is)
    (case dc_days_later => k_is)
    (case dk_days_later => k_is)
    (case da_choices_behind => k_is)
    (case dl_choices_behind => k_is)
    (case dc_choices_behind => k_is)
    (case dk_choices_behind => k_is)
    (case da_daily_choices => k_is)
    (case dl_daily_choices => k_is)
    (case dc_daily_choices => k_is)
    (case dk_daily_choices => k_is)
    (case da_may_follow => k_is)
    (case dl_may_follow => k_is)
    (case dc_may_follow => k_is)
    (case dk_may_follow => k_is)
    (case da_day_choices => k_is)
    (case dl_day_choices => k_is)
    (case dc_day_choices => k_is)
    (case dk_day_choices => k_is)
    (case da_merged => k_is)
    (case dl_merged => k_is)
    (case dc_merged => k_is)
    (case dk_merged => k_is)
    (case da_cheapest => k_is)
    (case dl_cheapest => k_is)
    (case dc_cheapest => k_is)
    (case dk_cheapest => k_is)
    (case da_run_from => k_is)
    (case dl_run_from => k_is)
    (case dc_run_from => k_is)
    (case dk_run_from => k_is)
    (case da_unit_lists => k_is)
    (case dl_unit_lists => k_is)
    (case dc_unit_lists => k_is)
    (case dk_unit_lists => k_is)
    (case da_ring_lists => k_is)
    (case dl_ring_lists => k_is)
    (case dc_ring_lists => k_is)
    (case dk_ring_lists => k_is)
    (case da_size_of => k_is)
    (case dl_size_of => k_is)
    (case dc_size_of => k_is)
    (case dk_size_of => k_is)
    (case da_whole_sets => k_is)
    (case dl_whole_sets => k_is)
    (case dc_whole_sets => k_is)
    (case dk_whole_sets => k_is)
    (case da_fewest_sets => k_is)
    (case dl_fewest_sets => k_is)
    (case dc_fewest_sets => k_is)
    (case dk_fewest_sets => k_is)
    (case da_with_lists => k_is)
    (case dl_with_lists => k_is)
    (case dc_with_lists => k_is)
    (case dk_with_lists => k_is)
    (case da_follow => k_is)
    (case dl_follow => k_is)
    (case dc_follow => k_is)
    (case dk_follow => k_is)
    (case da_units => k_is)
    (case dl_units => k_is)
    (case dc_units => k_is)
    (case dk_units => k_is)
    (case da_why => k_is)
    (case dl_why => k_is)
    (case dc_why => k_is)
    (case dk_why => k_is)
    (case da_daily => k_is)
    (case dl_daily => k_is)
    (case dc_daily => k_is)
    (case dk_daily => k_is)
    (case da_without => k_is)
    (case dl_without => k_is)
    (case dc_without => k_is)
    (case dk_without => k_is)
    (case da_change => k_is)
    (case dl_change => k_is)
    (case dc_change => k_is)
    (case dk_change => k_is)
    (case da_end_of_call => k_is)
    (case dl_end_of_call => k_is)
    (case dc_end_of_call => k_is)
    (case dk_end_of_call => k_is)
    (case da_answer_of => k_is)
    (case dl_answer_of => k_is)
    (case dc_answer_of => k_is)
    (case dk_answer_of => k_is)
    (case da_answers => k_is)
    (case dl_answers => k_is)
    (case dc_answers => k_is)
    (case dk_answers => k_is)
  case S =>
    intro K H xs a hO hwi hask hx
    cases hx with
    | cons h1 h2 =>
      cases h2
      cases h1 with
      | lst hs ha =>
        have e := L2.ints_dw a.1 _ ha
        subst e
        exact ⟨_, a.1, rfl, hs, hO, hask, fun H' q hq => .lst (L2.SqL.of hq) (L2.dw_ints _)⟩
end
