import PyProof.Rows.All
import Wide.All
import OpenK.AllK
import Wide.FinOn
import PyProof.EqAt
import PyProof.EqKinds
import PyProof.TupleCall
import KE.BitLaws
import Open.SpecLaws
import KE.OsHead
import KE.OsGo
import KE.KMinBuiltin
import PyProof.ZipIter
import PyProof.Rows.CallKwBuiltin
import KE.KDictSum
import PyProof.Rows.SortWalk
import PyProof.Rows.SortShellAny
import PyKrab
import PyFlatLaws
import PySem.Challenge.RW_sumsweighed_s01_answers
section
set_option Elab.async false
set_option linter.all false
set_option maxRecDepth 100000
namespace L2
open PySem PySem.Spec PyProof.Rows
abbrev Key := Sum Int Str
def keyIs : Key → Value → Bool
  | .inl k, v => Value.isInt k v
  | .inr x, v => Value.isStrOf x v
def keyH (w : World) : Key → Int
  | .inl k => hashInt k
  | .inr x => hashStr w x
theorem keyIs_shape : ∀ {k : Key} {v : Value}, keyIs k v = true → (∃ i t, k = Sum.inl i ∧ v = Value.int i t) ∨ (∃ x t, k = Sum.inr x ∧ v = Value.str x t)
  | .inl i, v, h => by
    obtain ⟨t, e⟩ := Value.isInt_shape (k := i) (v := v) h
    exact .inl ⟨i, t, rfl, e⟩
  | .inr x, v, h => by
    obtain ⟨t, e⟩ := Value.isStrOf_shape (x := x) (v := v) h
    exact .inr ⟨x, t, rfl, e⟩
theorem keyIs_int (i : Int) (t : Tok) : keyIs (.inl i) (.int i t) = true := by simp [keyIs, Value.isInt]
theorem keyIs_str (x : Str) (t : Tok) : keyIs (.inr x) (.str x t) = true := by simp [keyIs, Value.isStrOf]
theorem key_ll (a b : Int) : decide ((Sum.inl a : Key) = Sum.inl b) = (a == b) := by
  by_cases e : a = b
  · subst e; simp
  · have h : ¬ (Sum.inl a : Key) = Sum.inl b := fun q => e (Sum.inl.inj q)
    rw [decide_eq_false h]
    exact (beq_eq_false_iff_ne.mpr e).symm
theorem key_rr (a b : Str) : decide ((Sum.inr a : Key) = Sum.inr b) = decide (a = b) := by
  by_cases e : a = b
  · subst e; simp
  · have h : ¬ (Sum.inr a : Key) = Sum.inr b := fun q => e (Sum.inr.inj q)
    rw [decide_eq_false h, decide_eq_false e]
theorem key_lr (a : Int) (b : Str) : decide ((Sum.inl a : Key) = Sum.inr b) = false := decide_eq_false (fun q => nomatch q)
theorem key_rl (a : Str) (b : Int) : decide ((Sum.inr a : Key) = Sum.inl b) = false := decide_eq_false (fun q => nomatch q)
def mixKind (prog : Program) (w : World) : PySem.KeyKind prog w Key where
  is := keyIs
  hash := keyH w
  inj := fun v a b ha hb => by
    rcases keyIs_shape ha with ⟨i, t, rfl, rfl⟩ | ⟨x, t, rfl, rfl⟩
    · rcases keyIs_shape hb with ⟨j, u, rfl, e⟩ | ⟨y, u, rfl, e⟩
      · injection e with e1 _; rw [e1]
      · exact nomatch e
    · rcases keyIs_shape hb with ⟨j, u, rfl, e⟩ | ⟨y, u, rfl, e⟩
      · exact nomatch e
      · injection e with e1 _; rw [e1]
  byValue := fun k v h => by
    rcases keyIs_shape h with ⟨i, t, rfl, rfl⟩ | ⟨x, t, rfl, rfl⟩ <;> rfl
  pyHash := fun hv h => by
    rcases keyIs_shape hv with ⟨i, t, rfl, rfl⟩ | ⟨x, t, rfl, rfl⟩
    · exact wpAny_pyHash_int h
    · exact wpAny_pyHash_str h
  eqBool := fun hu hv h => by
    rcases keyIs_shape hu with ⟨i, t, rfl, rfl⟩ | ⟨x, t, rfl, rfl⟩
    · rcases keyIs_shape hv with ⟨j, u, rfl, rfl⟩ | ⟨y, u, rfl, rfl⟩
      · rw [key_ll] at h; exact wpAny_eqBool_int h
      · rw [key_lr] at h; exact SeqAt.EqAt.int_str i t y u _ _ _ _ h
    · rcases keyIs_shape hv with ⟨j, u, rfl, rfl⟩ | ⟨y, u, rfl, rfl⟩
      · rw [key_rl] at h; exact SeqAt.EqAt.str_int x t j u _ _ _ _ h
      · rw [key_rr] at h; exact wpAny_eqBool_str h
  «strs» := fun k x t v h => by
    rcases keyIs_shape h with ⟨i, u, rfl, e⟩ | ⟨y, u, rfl, e⟩
    · exact nomatch e
    · injection e with e1 _
      subst e1
      cases v <;> rfl
theorem mixKind_int (prog : Program) (w : World) (i : Int) (t : Tok) : (mixKind prog w).is (.inl i) (.int i t) = true := keyIs_int i t
theorem mixKind_str (prog : Program) (w : World) (x : Str) (t : Tok) : (mixKind prog w).is (.inr x) (.str x t) = true := keyIs_str x t
end L2
namespace L2
open PySem PySem.Spec PyProof.Rows
inductive V where
  | non | bl (b : Bool) | int (i : Int) | str (x : Str) | byt (b : Array UInt8) | flt (b : UInt64) | ref (a : Addr) | ty (n : String)
  deriving DecidableEq
def RelV : V → Value → Prop
  | .non, u => u = Value.none
  | .bl b, u => u = Value.bool b
  | .int i, u => ∃ t, u = Value.int i t
  | .str x, u => ∃ t, u = Value.str x t
  | .byt b, u => ∃ t, u = Value.bytes b t
  | .flt b, u => ∃ t, u = Value.float b t
  | .ref a, u => u = Value.ref a
  | .ty n, u => u = Value.type n
abbrev Vals : List V → List Value → Prop := Paired RelV
theorem Vals.length {xs : List V} {us : List Value} (r : Vals xs us) : xs.length = us.length := Paired.length r
theorem Vals.get : ∀ {xs : List V} {us : List Value} {i : Nat} {x : V}, Vals xs us → xs[i]? = some x → ∃ u, us[i]? = some u ∧ RelV x u
  | _, _, _, _, .nil, e => by simp at e
  | _, _, 0, _, .cons r _, e => by simp at e; subst e; exact ⟨_, rfl, r⟩
  | _, _, i + 1, x, .cons _ t, e => by
    obtain ⟨u, h1, h2⟩ := Vals.get (i := i) (x := x) t (by simpa using e)
    exact ⟨u, by simpa using h1, h2⟩
theorem Vals.set {x : V} {u : Value} (r : RelV x u) : ∀ {xs : List V} {us : List Value} (i : Nat), Vals xs us → Vals (xs.set i x) (us.set i u)
  | _, _, _, .nil => .nil
  | _, _, 0, .cons _ t => .cons r t
  | _, _, i + 1, .cons q t => .cons q (Vals.set r i t)
theorem Vals.append : ∀ {xs ys : List V} {us ws : List Value}, Vals xs us → Vals ys ws → Vals (xs ++ ys) (us ++ ws)
  | _, _, _, _, .nil, s => s
  | _, _, _, _, .cons r t, s => .cons r (Vals.append t s)
theorem Vals.take : ∀ {xs : List V} {us : List Value} (n : Nat), Vals xs us → Vals (xs.take n) (us.take n)
  | _, _, 0, _ => .nil
  | _, _, _ + 1, .nil => .nil
  | _, _, n + 1, .cons r t => .cons r (Vals.take n t)
theorem Vals.drop : ∀ {xs : List V} {us : List Value} (n : Nat), Vals xs us → Vals (xs.drop n) (us.drop n)
  | _, _, 0, r => r
  | _, _, _ + 1, .nil => .nil
  | _, _, n + 1, .cons _ t => Vals.drop n t
def RelO : Option V → Option Value → Prop
  | some v, some u => RelV v u
  | none, none => True
  | _, _ => False
def KV {κ : Type} : List (κ × V) → List (κ × Value) → Prop := Paired fun (p : κ × V) (q : κ × Value) => p.1 = q.1 ∧ RelV p.2 q.2
def kV : Key → V
  | .inl i => .int i
  | .inr x => .str x
inductive HO where
  /-- a list -/
  | lst (xs : List V)
  /-- a tuple (never changes) -/
  | tup (xs : List V)
  /-- a dict whose keys are ints and texts; one whose keys are tuples of ints and texts (the empty one is both) -/
  | dK (kvs : List (Key × V)) | dT (kvs : List (List Key × V))
  /-- a set of ints: its members, its size -/
  | set (S : Int → Bool) (n : Nat)
  /-- an instance of the class at C, its dict at dx, its attributes -/
  | ins (C dx : Addr) (fs : List (Str × V))
  /-- the dict of the instance at x -/
  | own (x : Addr)
  /-- the dict of an exception -/
  | xd (fs : List (Str × V))
  /-- a bound method, f of x -/
  | met (f x : Addr)
  /-- a range object lo, lo + 1, .. below hi -/
  | rng (lo hi : Int)
  /-- a thing that is known to the object (the script; a dict while a loop walks it): read, never written while it is so -/
  | frz (o : Obj) (u : HO)
  /-- a code object's table -/
  | tbl (ps : Array Value)
  /-- any other thing, by what is true of its one object (a def of one's own: SetO a S n := HO.ext fun h => ..) -/
  | ext (φ : Heap → Prop)
abbrev Hp := Addr → Option HO
def upd (H : Hp) (a : Addr) (o : HO) : Hp := fun b => if b = a then some o else H b
theorem upd_same {H : Hp} {a : Addr} {o : HO} : upd H a o a = some o := by unfold upd; rw [if_pos rfl]
theorem upd_ne {H : Hp} {a b : Addr} {o : HO} (h : b ≠ a) : upd H a o b = H b := by unfold upd; rw [if_neg h]
theorem ne_of {H : Hp} {a b : Addr} {o u : HO} (h : H a = some o) (h' : H b = some u) (d : o ≠ u) : a ≠ b := by
  intro e; subst e; rw [h] at h'; exact d (Option.some.inj h')
theorem ne_of_none {H : Hp} {a b : Addr} {o : HO} (h : H a = some o) (h' : H b = none) : a ≠ b := by
  intro e; subst e; rw [h] at h'; cases h'
section
variable (P : Program) (w : World)
def ObjOk (H : Hp) (h : Heap) (a : Addr) : HO → Prop
  | .lst xs => xs.length ≤ sizeLine ∧ ∃ (its : List Value) (n : Nat), Vals xs its ∧ h.get? a = some { cls := .type "list", data := .seq its.toArray n }
  | .tup xs => xs.length ≤ sizeLine ∧ ∃ its : List Value, Vals xs its ∧ IsTup h a its.toArray
  | .dK kvs => kvs.length ≤ sizeLine ∧ (a == sysModules) = false ∧ ∃ vs, KV kvs vs ∧ h.DictOf (mixKind P w) a vs
  | .dT kvs => kvs.length ≤ sizeLine ∧ (a == sysModules) = false ∧ ∃ xs : List (List Key × Addr × Value),
      Paired (fun (p : List Key × V) (q : List Key × Addr × Value) => p.1 = q.1 ∧ H q.2.1 = some (.tup (p.1.map kV)) ∧ RelV p.2 q.2.2) kvs xs ∧
      ∃ o es ep, h.get? a = some o ∧ o.ExactDict ∧ o.data = .dict es ep ∧ es.toList = xs.map (entryOfKey (tupleKind (mixKind P w))) ∧ (xs.map (·.1)).Nodup
  | .set S n => h.SetOf (intKind P w) a S n
  | .ins C dx fs => H dx = some (.own a) ∧ fs.length ≤ 1000 ∧ dx ≠ a ∧ h.get? a = some (PySem.W.instObj C dx) ∧
      ∃ mA, h.Ns1 dx mA ∧ (∀ f, RelO (fs.lookup f) (mA f)) ∧ PySem.Within mA (fs.map (·.1))
  | .own _ => ∃ o, h.get? a = some o
  | .xd fs => ∃ mA, h.Ns1 a mA ∧ ∀ f, RelO (fs.lookup f) (mA f)
  | .rng lo hi => ∃ t u v, h.get? a = some { cls := .type "range", data := .fields #[.int lo t, .int hi u, .int 1 v] }
  | .frz o u => h.get? a = some o ∧ ObjOk H h a u
  | .tbl ps => h.get? a = some { cls := .none, data := .fields ps }
  | .met f x => h.get? a = some (PySem.W.methodObj (.ref f) (.ref x))
  | .ext φ => φ h ∧ (∃ o, h.get? a = some o) ∧ ∀ h1 h2 : Heap, φ h1 → (∀ o, h1.get? a = some o → h2.get? a = some o) → φ h2
def HOk (H : Hp) (h : Heap) : Prop := ∀ a o, H a = some o → ObjOk P w H h a o
end
section
variable {P : Program} {w : World} {H H' : Hp} {h h' : Heap} {a : Addr} {o : HO}
theorem ObjOk.lt (x : ObjOk P w H h a o) : a < h.objs.size := by
  cases o with
  | lst xs => obtain ⟨_, _, _, _, e⟩ := x; exact Heap.lt_size e
  | tup xs => obtain ⟨_, _, _, p⟩ := x; exact p.lt
  | dK kvs => obtain ⟨_, _, _, _, o, _, _, e, _⟩ := x; exact Heap.lt_size e
  | dT kvs => obtain ⟨_, _, _, _, o, _, _, e, _⟩ := x; exact Heap.lt_size e
  | set S n => obtain ⟨o, _, _, _, e, _⟩ := x; exact Heap.lt_size e
  | ins C dx fs => obtain ⟨_, _, _, e, _⟩ := x; exact Heap.lt_size e
  | own y => obtain ⟨_, e⟩ := x; exact Heap.lt_size e
  | xd fs => obtain ⟨_, ⟨_, _, _, e, _⟩, _⟩ := x; exact Heap.lt_size e
  | rng lo hi => obtain ⟨_, _, _, e⟩ := x; exact Heap.lt_size e
  | frz ob u => obtain ⟨e, _⟩ := x; exact Heap.lt_size e
  | tbl ps => exact Heap.lt_size (show h.get? a = some _ from x)
  | met f y => exact Heap.lt_size (show h.get? a = some _ from x)
  | ext φ => obtain ⟨_, ⟨_, e⟩, _⟩ := x; exact Heap.lt_size e
theorem Paired.mapP {α β : Type} {F G : α → β → Prop} : ∀ {l₁ : List α} {l₂ : List β}, Paired F l₁ l₂ → (∀ a b, F a b → G a b) → Paired G l₁ l₂
  | _, _, .nil, _ => .nil
  | _, _, .cons r t, f => .cons (f _ _ r) (Paired.mapP t f)
theorem ObjOk.stay (x : ObjOk P w H h a o) (k : ∀ b u, (b = a ∨ H b = some (.own a)) → h.get? b = some u → h'.get? b = some u)
    (ho : ∀ b, H b = some (.own a) → H' b = some (.own a)) (ht : ∀ b xs, H b = some (.tup xs) → H' b = some (.tup xs)) : ObjOk P w H' h' a o := by
  induction o with
  | lst xs => obtain ⟨z, its, n, r, e⟩ := x; exact ⟨z, its, n, r, k _ _ (.inl rfl) e⟩
  | tup xs => obtain ⟨z, its, r, ob, e, c⟩ := x; exact ⟨z, its, r, ob, k _ _ (.inl rfl) e, c⟩
  | dK kvs => obtain ⟨z, y, vs, r, ob, es, ep, e, c⟩ := x; exact ⟨z, y, vs, r, ob, es, ep, k _ _ (.inl rfl) e, c⟩
  | dT kvs =>
    obtain ⟨z, y, xs, r, ob, es, ep, e, c⟩ := x
    exact ⟨z, y, xs, Paired.mapP r fun p q z => ⟨z.1, ht _ _ z.2.1, z.2.2⟩, ob, es, ep, k _ _ (.inl rfl) e, c⟩
  | set S n => obtain ⟨ob, es, ep, t, e, c⟩ := x; exact ⟨ob, es, ep, t, k _ _ (.inl rfl) e, c⟩
  | ins C dx fs =>
    obtain ⟨d, z, ne, e, mA, ⟨od, es, ep, e2, c⟩, r⟩ := x
    exact ⟨ho _ d, z, ne, k _ _ (.inl rfl) e, mA, ⟨od, es, ep, k _ _ (.inr d) e2, c⟩, r⟩
  | own y => obtain ⟨ob, e⟩ := x; exact ⟨ob, k _ _ (.inl rfl) e⟩
  | xd fs => obtain ⟨mA, ⟨od, es, ep, e, c⟩, r⟩ := x; exact ⟨mA, ⟨od, es, ep, k _ _ (.inl rfl) e, c⟩, r⟩
  | rng lo hi => obtain ⟨t, u, v, e⟩ := x; exact ⟨t, u, v, k _ _ (.inl rfl) e⟩
  | frz ob u ih => obtain ⟨e, q⟩ := x; exact ⟨k _ _ (.inl rfl) e, ih q⟩
  | tbl ps =>
    have e : h.get? a = some { cls := .none, data := .fields ps } := x
    show h'.get? a = some { cls := .none, data := .fields ps }
    exact k a _ (.inl rfl) e
  | met f y =>
    have e : h.get? a = some (PySem.W.methodObj (.ref f) (.ref y)) := x
    show h'.get? a = some (PySem.W.methodObj (.ref f) (.ref y))
    exact k a _ (.inl rfl) e
  | ext φ => obtain ⟨p, ⟨o, e⟩, st⟩ := x; exact ⟨st _ _ p fun o q => k _ _ (.inl rfl) q, ⟨o, k _ _ (.inl rfl) e⟩, st⟩
theorem HOk.lt (x : HOk P w H h) (e : H a = some o) : a < h.objs.size := (x a o e).lt
theorem HOk.fresh (x : HOk P w H h) (e : h.objs.size ≤ a) : H a = none := by
  cases q : H a with
  | none => rfl
  | some u => exact absurd (Nat.lt_of_lt_of_le (x.lt q) e) (Nat.lt_irrefl _)
theorem HOk.kept (x : HOk P w H h) (k : ∀ b u, h.get? b = some u → h'.get? b = some u) : HOk P w H h' := fun a o e =>
  (x a o e).stay (fun b u _ q => k b u q) (fun _ q => q) fun _ _ q => q
theorem HOk.laid (x : HOk P w H h) (k : ∀ b u, h.get? b = some u → h'.get? b = some u) (hp : h.objs.size ≤ a) (new : ObjOk P w (upd H a o) h' a o) : HOk P w (upd H a o) h' := fun b u e => by
  have hn := x.fresh hp
  by_cases hb : b = a
  · subst hb; rw [upd_same] at e; cases e; exact new
  · rw [upd_ne hb] at e
    exact (x b u e).stay (fun c v _ q => k c v q) (fun c q => by rw [upd_ne (ne_of_none q hn)]; exact q) fun c xs q => by rw [upd_ne (ne_of_none q hn)]; exact q
end
def Rd (H : Hp) (a : Addr) (u : HO) : Prop := H a = some u ∨ ∃ o, H a = some (.frz o u)
theorem Rd.ok {P : Program} {w : World} {H : Hp} {h : Heap} {a : Addr} {u : HO} (r : Rd H a u) (x : HOk P w H h) : ObjOk P w H h a u := by
  rcases r with r | ⟨o, r⟩
  · exact x a u r
  · obtain ⟨_, q⟩ := x a _ r
    exact q
def Mut : Option HO → Prop
  | some (.lst _) => True
  | some (.dK _) => True
  | some (.dT _) => True
  | some (.set _ _) => True
  | some (.ins _ _ _) => True
  | some (.ext _) => True
  | _ => False
section
variable {P : Program} {w : World} {H : Hp} {h h' : Heap} {x e : Addr} {o' : HO}
theorem HOk.write (ok : HOk P w H h) (mu : Mut (H x)) (he : e = x ∨ H e = some (.own x)) (k : ∀ b u, b ≠ e → h.get? b = some u → h'.get? b = some u) (heo : ∃ u, h'.get? e = some u)
    (new : ObjOk P w (upd H x o') h' x o') : HOk P w (upd H x o') h' := fun b u q => by
  have nown : ∀ c y, H c = some (.own y) → c ≠ x := fun c y r z => by subst z; rw [r] at mu; exact mu
  have ntup : ∀ c xs, H c = some (.tup xs) → c ≠ x := fun c xs r z => by subst z; rw [r] at mu; exact mu
  by_cases hb : b = x
  · subst hb; rw [upd_same] at q; cases q; exact new
  · rw [upd_ne hb] at q
    by_cases hbe : b = e
    · have q' : H b = some (.own x) := by
        rcases he with z | z
        · exact absurd (hbe.trans z) hb
        · rw [hbe]; exact z
      rw [q] at q'; cases q'
      obtain ⟨v, hv⟩ := heo
      exact ⟨v, by rw [hbe]; exact hv⟩
    · refine (ok b u q).stay (fun c v hc r => k c v ?_ r) (fun c r => by rw [upd_ne (nown c b r)]; exact r) fun c xs r => by rw [upd_ne (ntup c xs r)]; exact r
      rcases hc with rfl | hc
      · exact hbe
      · rintro rfl
        rcases he with z | z
        · exact nown c b hc z
        · rw [hc] at z; cases z; exact hb rfl
end
structure Un (fs ex : List Addr) (H H' : Hp) (h h' : Heap) : Prop where
  keep : ∀ b o, h.get? b = some o → H b = none → b ∉ fs → b ∉ ex → h'.get? b = some o
  slot : ∀ b o, h.get? b = some o → H b = none → b ∈ fs → b ∉ ex → ∃ sl, h'.get? b = some { o with slots := sl }
  free : ∀ b o, h.get? b = some o → H b = none → b ∉ ex → H' b = none
  there : ∀ b o, h.get? b = some o → b ∉ ex → ∃ o', h'.get? b = some o'
  tups : ∀ b xs, H b = some (.tup xs) → H' b = some (.tup xs)
  frzs : ∀ b o u, H b = some (.frz o u) → H' b = some (.frz o u)
  tbls : ∀ b ps, H b = some (.tbl ps) → ∃ more, H' b = some (.tbl (ps ++ more))
section
variable {fs fs' ex ex' : List Addr} {H H1 H2 : Hp} {h h1 h2 h' : Heap} {a x e : Addr} {o : HO}
theorem Un.any (u : Un fs ex H H1 h h1) {b : Addr} {ob : Obj} (q : h.get? b = some ob) (n : H b = none) (hx : b ∉ ex) : ∃ sl, h1.get? b = some { ob with slots := sl } := by
  by_cases hb : b ∈ fs
  · exact u.slot b ob q n hb hx
  · exact ⟨ob.slots, u.keep b ob q n hb hx⟩
theorem Un.kept (k : ∀ b u, h.get? b = some u → h'.get? b = some u) : Un fs ex H H h h' :=
  ⟨fun b ob q _ _ _ => k b ob q, fun b ob q _ _ _ => ⟨ob.slots, k b ob q⟩, fun _ _ _ n _ => n, fun b ob q _ => ⟨ob, k b ob q⟩, fun _ _ q => q, fun _ _ _ q => q, fun _ ps q => ⟨#[], by rw [q]; simp⟩⟩
theorem Un.refl : Un fs ex H H h h := Un.kept fun _ _ q => q
theorem Un.laid (k : ∀ b u, h.get? b = some u → h'.get? b = some u) (hp : h.objs.size ≤ a) (hn : H a = none) : Un fs ex H (upd H a o) h h' where
  keep := fun b u q _ _ _ => k b u q
  slot := fun b u q _ _ _ => ⟨u.slots, k b u q⟩
  free := fun b u q n _ => by rw [upd_ne (Nat.ne_of_lt (Nat.lt_of_lt_of_le (Heap.lt_size q) hp))]; exact n
  there := fun b u q _ => ⟨u, k b u q⟩
  tups := fun b xs q => by rw [upd_ne (ne_of_none q hn)]; exact q
  frzs := fun b u xs q => by rw [upd_ne (ne_of_none q hn)]; exact q
  tbls := fun b ps q => ⟨#[], by rw [upd_ne (ne_of_none q hn), q]; simp⟩
theorem Un.write (mu : Mut (H x)) (he : e = x ∨ H e = some (.own x)) (k : ∀ b u, b ≠ e → h.get? b = some u → h'.get? b = some u) (heo : ∃ u, h'.get? e = some u) : Un fs ex H (upd H x o) h h' := by
  have hx : ∀ b, H b = none → b ≠ x := fun b n z => by subst z; rw [n] at mu; exact mu
  have hb : ∀ b, H b = none → b ≠ e := fun b n z => by
    subst z
    rcases he with r | r
    · exact hx b n r
    · rw [n] at r; cases r
  have hm : ∀ b u, H b = some u → ¬ Mut (some u) → b ≠ x := fun b u q nm z => by subst z; rw [q] at mu; exact nm mu
  refine ⟨fun b u q n _ _ => k b u (hb b n) q, fun b u q n _ _ => ⟨u.slots, k b u (hb b n) q⟩, fun b u q n _ => by rw [upd_ne (hx b n)]; exact n, fun b u q _ => ?_,
    fun b xs q => by rw [upd_ne (hm b _ q fun z => z)]; exact q, fun b u xs q => by rw [upd_ne (hm b _ q fun z => z)]; exact q, fun b ps q => ⟨#[], by rw [upd_ne (hm b _ q fun z => z), q]; simp⟩⟩
  by_cases hbe : b = e
  · subst hbe; exact heo
  · exact ⟨u, k b u hbe q⟩
end
def trk (h : Heap) (H : Hp) : List Addr := (List.range h.objs.size).filter fun a => (H a).isSome
def hidT (h : Heap) (H : Hp) : Heap := PySem.W.hideAll h (trk h H)
theorem hidT_size (h : Heap) (H : Hp) : (hidT h H).objs.size = h.objs.size := PySem.W.hideAll_size _ _
theorem hidT_get {h : Heap} {H : Hp} {b : Addr} {o : Obj} (e : h.get? b = some o) (n : H b = none) : (hidT h H).get? b = some o :=
  PySem.W.hideAll_get _ e fun hm => by
    have q : (H b).isSome = true := (List.mem_filter.mp hm).2
    rw [n] at q; simp at q
theorem of_hidT {h : Heap} {H : Hp} {b : Addr} {o : Obj} (e : (hidT h H).get? b = some o) : h.get? b = some o ∧ H b = none := by
  have e' : h.get? b = some o := PySem.W.of_hideAll (trk h H) e
  refine ⟨e', ?_⟩
  cases q : H b with
  | none => rfl
  | some x =>
    have hm : b ∈ trk h H := List.mem_filter.mpr ⟨List.mem_range.mpr (Heap.lt_size e'), by simp [q]⟩
    have z : (hidT h H).get? b = none := PySem.W.hideAll_none (trk h H) hm
    rw [z] at e; cases e
def allNews (g h : Heap) (L : Addr) : List (Addr × Obj) := (List.range h.objs.size).filterMap fun a => if a = L ∨ (g.get? a).isSome = true then none else (h.get? a).map fun o => (a, o)
theorem mem_allNews {g h : Heap} {L a : Addr} {o : Obj} (h1 : a ≠ L) (h2 : g.get? a = none) (h3 : h.get? a = some o) : (a, o) ∈ allNews g h L :=
  List.mem_filterMap.mpr ⟨a, List.mem_range.mpr (Heap.lt_size h3), by simp [h1, h2, h3]⟩
theorem of_mem_allNews {g h : Heap} {L : Addr} {p : Addr × Obj} (hp : p ∈ allNews g h L) : p.1 ≠ L ∧ g.get? p.1 = none ∧ h.get? p.1 = some p.2 := by
  obtain ⟨b, _, e⟩ := List.mem_filterMap.mp hp
  split at e
  · cases e
  · rename_i hn
    cases q : h.get? b with
    | none => rw [q] at e; simp at e
    | some u =>
      rw [q] at e
      simp only [Option.map_some, Option.some.injEq] at e
      subst e
      refine ⟨fun z => hn (.inl z), ?_, q⟩
      show g.get? b = none
      cases r : g.get? b with
      | none => rfl
      | some v => exact (hn (.inr (by simp [r]))).elim
theorem news_all {g h : Heap} {L : Addr} : News g L h (allNews g h L) := fun p hp => let ⟨a, b, c⟩ := of_mem_allNews hp; ⟨c, a, b⟩
end L2
namespace L2
open PySem PySem.Spec PyProof.Rows
structure Mod (K : PySem.W.Frag) (mg : Str → Option Value) (base : Heap) : Prop where
  kin : K.In base
  glob : base.Ns mainGlobals mg
  blt : ∃ mb, base.Ns builtinsNs mb ∧ ∀ x : Str, x ≠ "__name__" → mb x = bootBuiltins x
  nolimit : base.NoLimit
structure Cx where
  prog : Program
  w : World
  K : PySem.W.Frag
  mg : Str → Option Value
  base : Heap
  A : Around
  N : List Str
  s_0 : Shared
  H_0 : Hp
  env : Env
  outer : List Env
  stack : List Env
  ex : List Addr
  fn : Str → Bool
  calm : Bool
  pn : List (Addr × Obj)
  xe : Value → Shared → Prop
def frs (l : List Env) : List Addr := l.filterMap (·.frame)
abbrev Cx.fs (X : Cx) : List Addr := frs X.outer
def Vis (sc : Scope) (x : Str) : Prop := sc.names.lookup x = some .local ∨ sc.names.lookup x = some .cell ∨ sc.names.lookup x = some .free
def Loc (sc : Scope) (x : Str) : Prop := sc.names.lookup x = some .local ∨ sc.names.lookup x = some .cell
def Look (env : Env) (h : Heap) (m : Str → Option Value) (x : Str) (u : Value) : Prop :=
  (env.kindOf x = some .local ∧ m x = some u) ∨ ((env.kindOf x = some .cell ∨ env.kindOf x = some .free) ∧ ∃ c, env.cells.lookup x = some c ∧ h.IsCell c (some u))
structure Cx.Ok (X : Cx) : Prop where
  mod : Mod X.K X.mg X.base
  kind : X.env.scope.kind = .function
  glob : X.env.globals = mainGlobals
  blt : X.env.builtins = builtinsNs
  above : X.s_0.heap.objs.size ≤ X.env.locals
  inj : ∀ x y c, X.env.cells.lookup x = some c → X.env.cells.lookup y = some c → x = y
  has : ∀ x, (X.env.kindOf x = some .cell ∨ X.env.kindOf x = some .free) → ∃ c, X.env.cells.lookup x = some c
  cab : ∀ x c, X.fn x = true → X.env.cells.lookup x = some c → X.s_0.heap.objs.size ≤ c
  hd : X.calm = true → X.A.handled = none
  frames : X.A.frames = some X.stack
  stk : X.stack = X.outer ∨ (X.stack = X.env :: X.outer ∧ X.env.frame = some X.env.locals)
  exf : ∀ b ∈ X.ex, b ≠ X.env.locals ∧ ∀ x c, X.env.cells.lookup x = some c → c ≠ b
  bs : ∀ b o, X.base.get? b = some o → X.s_0.heap.get? b = some o ∧ X.H_0 b = none
  bsz : X.base.objs.size ≤ X.s_0.heap.objs.size
  noex : ∀ b o, X.base.get? b = some o → b ∉ X.ex
  exfs : ∀ b ∈ X.ex, b ∉ X.fs
  funs : X.s_0.heap.FunFrames X.base X.outer
  frf : ∀ b ∈ X.fs, X.H_0 b = none
structure Inv (X : Cx) (pins : List (Addr × Obj)) (σ : List (Option V)) (H : Hp) (s : Shared) : Prop where
  ok : X.Ok
  os : s.os = X.s_0.os
  bare : AllBare s.gens
  base : Un X.fs X.ex X.H_0 H X.s_0.heap s.heap
  loc : ∃ m, s.heap.Ns X.env.locals m ∧ ∀ (i : Nat) (x : Str) (v : V), X.N[i]? = some x → σ[i]? = some (some v) → Vis X.env.scope x → ∃ u, RelV v u ∧ Look X.env s.heap m x u
  cell : ∀ x c, X.env.cells.lookup x = some c → ∃ v, s.heap.IsCell c v
  free : H X.env.locals = none
  freeC : ∀ x c, X.env.cells.lookup x = some c → H c = none
  pin : ∀ p ∈ X.pn ++ pins, s.heap.get? p.1 = some p.2 ∧ H p.1 = none ∧ p.1 ≠ X.env.locals ∧ p.1 ∉ X.fs ∧ ∀ v, p.2.data ≠ .cell v
  hok : HOk X.prog X.w H s.heap
  len : σ.length = X.N.length
section
variable {X : Cx} {pins : List (Addr × Obj)} {σ : List (Option V)} {H H' : Hp} {s : Shared} {h' : Heap}
theorem Cx.Ok.nofr (ok : X.Ok) {b : Addr} {o : Obj} (e : X.base.get? b = some o) : b ∉ X.fs := fun hb => by
  have := (ok.funs.mem hb).1
  rw [e] at this; cases this
theorem Inv.bs (I : Inv X pins σ H s) : ∀ b o, X.base.get? b = some o → s.heap.get? b = some o ∧ H b = none := fun b o e =>
  ⟨I.base.keep b o (I.ok.bs b o e).1 (I.ok.bs b o e).2 (I.ok.nofr e) (I.ok.noex b o e), I.base.free b o (I.ok.bs b o e).1 (I.ok.bs b o e).2 (I.ok.noex b o e)⟩
theorem Inv.bk (I : Inv X pins σ H s) : ∀ b o, X.base.get? b = some o → s.heap.get? b = some o := fun b o e => (I.bs b o e).1
theorem Inv.mod (I : Inv X pins σ H s) : Mod X.K X.mg X.base := I.ok.mod
theorem Inv.kIn (I : Inv X pins σ H s) : X.K.In s.heap := I.ok.mod.kin.keeps I.bk
theorem Inv.fr (I : Inv X pins σ H s) : ∃ m, Fr X.base X.env.locals s.heap m :=
  let ⟨m, hn, _⟩ := I.loc
  ⟨m, hn, I.bk, Nat.le_trans I.ok.bsz I.ok.above⟩
theorem Inv.lt (I : Inv X pins σ H s) : X.env.locals < s.heap.objs.size := let ⟨_, hn, _⟩ := I.loc; hn.lt
theorem Inv.sz (I : Inv X pins σ H s) : X.s_0.heap.objs.size ≤ s.heap.objs.size := Nat.le_trans I.ok.above (Nat.le_of_lt I.lt)
theorem Inv.nofs (I : Inv X pins σ H s) {a : Addr} (h : s.heap.objs.size ≤ a) : a ∉ X.fs := fun hb => by
  obtain ⟨_, o, ho, _⟩ := I.ok.funs.mem hb
  exact absurd (Nat.lt_of_lt_of_le (Heap.lt_size ho) (Nat.le_trans I.sz h)) (Nat.lt_irrefl _)
theorem Inv.cne (I : Inv X pins σ H s) : ∀ x c, X.env.cells.lookup x = some c → c ≠ X.env.locals := fun x c e z => by
  obtain ⟨v, o, ho, hd⟩ := I.cell x c e
  obtain ⟨m, ⟨o', es, ep, ho', hd', _⟩, _⟩ := I.loc
  rw [z, ho'] at ho; cases ho; rw [hd'] at hd; cases hd
theorem Inv.funs (I : Inv X pins σ H s) : s.heap.FunFrames X.base X.outer := by
  have all : ∀ (l : List Env), (∀ b ∈ frs l, b ∈ X.fs) → X.s_0.heap.FunFrames X.base l → s.heap.FunFrames X.base l := by
    intro l
    induction l with
    | nil => intro _ _; trivial
    | cons env r ih =>
      intro hs hl
      obtain ⟨hk, ⟨L, o, hf, hn, ho, hd⟩, hr⟩ := hl
      have hL : L ∈ X.fs := hs L (by unfold frs; rw [List.filterMap_cons, hf]; exact List.mem_cons_self)
      obtain ⟨sl, e⟩ := I.base.slot L o ho (I.ok.frf L hL) hL fun z => I.ok.exfs L z hL
      exact ⟨hk, ⟨L, _, hf, hn, e, hd⟩, ih (fun b hb => hs b (by unfold frs; rw [List.filterMap_cons, hf]; exact List.mem_cons_of_mem _ hb)) hr⟩
  exact all X.outer (fun _ hb => hb) I.ok.funs
theorem Inv.stack (I : Inv X pins σ H s) : s.heap.FunFrames X.base X.stack := by
  rcases I.ok.stk with e | ⟨e, hf⟩
  · rw [e]; exact I.funs
  · rw [e]
    obtain ⟨m, hn, _⟩ := I.loc
    refine .cons (by rw [I.ok.kind]; decide) hf hn ?_ I.funs
    exact Heap.get?_none_of_le (Nat.le_trans I.ok.bsz I.ok.above)
theorem Inv.stkSub (I : Inv X pins σ H s) : ∀ b ∈ frs X.stack, b ∈ X.env.locals :: X.fs := fun b hb => by
  rcases I.ok.stk with e | ⟨e, hf⟩
  · rw [e] at hb; exact List.mem_cons_of_mem _ hb
  · rw [e] at hb
    unfold frs at hb
    rw [List.filterMap_cons, hf] at hb
    exact hb
theorem Inv.stkFree (I : Inv X pins σ H s) : ∀ b ∈ frs X.stack, H b = none := fun b hb => by
  rcases List.mem_cons.mp (I.stkSub b hb) with e | hb
  · rw [e]; exact I.free
  · obtain ⟨_, o, ho, _⟩ := I.ok.funs.mem hb
    exact I.base.free b o ho (I.ok.frf b hb) fun z => I.ok.exfs b z hb
theorem Inv.step {g' : Array GenState} {t' : Nat} {d' : Drawn} {ch : List Addr} (I : Inv X pins σ H s)
    (hch : ∀ b ∈ ch, (b ∈ X.ex ∨ X.s_0.heap.objs.size ≤ b) ∧ b ≠ X.env.locals ∧ (∀ x c, X.env.cells.lookup x = some c → c ≠ b) ∧ ∀ p ∈ X.pn ++ pins, p.1 ≠ b)
    (keep : ∀ b o, b ≠ X.env.locals → b ∉ X.fs → b ∉ ch → s.heap.get? b = some o → H b = none → h'.get? b = some o)
    (slot : ∀ b o, b ≠ X.env.locals → b ∈ X.fs → b ∉ ch → s.heap.get? b = some o → H b = none → ∃ sl, h'.get? b = some { o with slots := sl }) (free : ∀ b o, b ∉ ch → s.heap.get? b = some o → H b = none → H' b = none)
    (there : ∀ b o, b ∉ ch → s.heap.get? b = some o → ∃ o', h'.get? b = some o')
    (tups : ∀ b xs, H b = some (.tup xs) → H' b = some (.tup xs)) (frzs : ∀ b o u, H b = some (.frz o u) → H' b = some (.frz o u)) (tbls : ∀ b ps, H b = some (.tbl ps) → ∃ more, H' b = some (.tbl (ps ++ more)))
    (ns : ∀ m, s.heap.Ns X.env.locals m → h'.Ns X.env.locals m) (hok : HOk X.prog X.w H' h') (hg : AllBare g') :
    Inv X pins σ H' { s with heap := h', gens := g', drawn := d', toks := t' } := by
  have neL : ∀ b o, X.s_0.heap.get? b = some o → b ≠ X.env.locals := fun b o e => Nat.ne_of_lt (Nat.lt_of_lt_of_le (Heap.lt_size e) I.ok.above)
  have neC : ∀ b o, X.s_0.heap.get? b = some o → b ∉ X.ex → b ∉ ch := fun b o e hx hb => by
    rcases (hch b hb).1 with z | z
    · exact hx z
    · exact absurd (Nat.lt_of_lt_of_le (Heap.lt_size e) z) (Nat.lt_irrefl _)
  have cellK : ∀ x c, X.env.cells.lookup x = some c → ∀ v, s.heap.IsCell c v → h'.IsCell c v := fun x c e v ⟨o, ho, hd⟩ => by
    have nch : c ∉ ch := fun z => (hch c z).2.2.1 x c e rfl
    by_cases hc : c ∈ X.fs
    · obtain ⟨sl, q⟩ := slot c o (I.cne x c e) hc nch ho (I.freeC x c e)
      exact ⟨_, q, hd⟩
    · exact ⟨o, keep c o (I.cne x c e) hc nch ho (I.freeC x c e), hd⟩
  refine ⟨I.ok, I.os, hg, ⟨fun b o e n hb hx => ?_, fun b o e n hb hx => ?_, fun b o e n hx => ?_, fun b o e hx => ?_, fun b xs e => tups b xs (I.base.tups b xs e), fun b o xs e => frzs b o xs (I.base.frzs b o xs e), fun b ps e => ?_⟩, ?_, fun x c e => ?_, ?_, fun x c e => ?_, fun p hp => ?_, hok, I.len⟩
  · exact keep b o (neL b o e) hb (neC b o e hx) (I.base.keep b o e n hb hx) (I.base.free b o e n hx)
  · obtain ⟨sl, e1⟩ := I.base.slot b o e n hb hx
    obtain ⟨sl', e2⟩ := slot b _ (neL b o e) hb (neC b o e hx) e1 (I.base.free b o e n hx)
    exact ⟨sl', e2⟩
  · obtain ⟨o', e1⟩ := I.base.there b o e hx
    exact free b o' (neC b o e hx) e1 (I.base.free b o e n hx)
  · obtain ⟨o', e1⟩ := I.base.there b o e hx
    exact there b o' (neC b o e hx) e1
  · obtain ⟨m1, e1⟩ := I.base.tbls b ps e
    obtain ⟨m2, e2⟩ := tbls b _ e1
    exact ⟨m1 ++ m2, by rw [e2, Array.append_assoc]⟩
  · obtain ⟨m, hn, hl⟩ := I.loc
    refine ⟨m, ns m hn, fun i x v e1 e2 e3 => ?_⟩
    obtain ⟨u, r, l⟩ := hl i x v e1 e2 e3
    refine ⟨u, r, ?_⟩
    rcases l with l | ⟨k, c, e, z⟩
    · exact .inl l
    · exact .inr ⟨k, c, e, cellK x c e _ z⟩
  · obtain ⟨v, z⟩ := I.cell x c e
    exact ⟨v, cellK x c e v z⟩
  · obtain ⟨m, ⟨o, _, _, ho, _⟩, _⟩ := I.loc
    exact free _ o (fun z => (hch _ z).2.1 rfl) ho I.free
  · obtain ⟨v, o, ho, hd⟩ := I.cell x c e
    exact free c o (fun z => (hch c z).2.2.1 x c e rfl) ho (I.freeC x c e)
  · obtain ⟨e, n, ne, nf, d⟩ := I.pin p hp
    have nch : p.1 ∉ ch := fun z => (hch p.1 z).2.2.2 p hp rfl
    exact ⟨keep p.1 p.2 ne nf nch e n, free p.1 p.2 nch e n, ne, nf, d⟩
theorem Inv.un {t' : Nat} (I : Inv X pins σ H s) (u : Un X.fs [] H H' s.heap h') (hok : HOk X.prog X.w H' h') : Inv X pins σ H' { s with heap := h', toks := t' } := by
  obtain ⟨m, ⟨o, es, ep, ho, r⟩, _⟩ := id I.loc
  obtain ⟨sl, hL⟩ := u.any ho I.free (by simp)
  exact I.step (g' := s.gens) (d' := s.drawn) (ch := []) (fun _ z => nomatch z) (fun b o _ hb _ e n => u.keep b o e n hb (by simp)) (fun b o _ hb _ e n => u.slot b o e n hb (by simp)) (fun b o _ e n => u.free b o e n (by simp)) (fun b o _ e => u.there b o e (by simp)) u.tups u.frzs u.tbls (fun m' hm => by
    obtain ⟨o', es', ep', ho', r'⟩ := hm
    rw [ho] at ho'; cases ho'
    exact ⟨_, es', ep', hL, r'⟩) hok I.bare
theorem Inv.call {g' : Array GenState} {t' : Nat} {d' : Drawn} {ch : List Addr} (I : Inv X pins σ H s) (u : Un (frs X.stack) ch H H' s.heap h') (hok : HOk X.prog X.w H' h') (hg : AllBare g')
    (hch : ∀ b ∈ ch, (b ∈ X.ex ∨ X.s_0.heap.objs.size ≤ b) ∧ b ≠ X.env.locals ∧ (∀ x c, X.env.cells.lookup x = some c → c ≠ b) ∧ ∀ p ∈ X.pn ++ pins, p.1 ≠ b) :
    Inv X pins σ H' { s with heap := h', gens := g', drawn := d', toks := t' } := by
  obtain ⟨m, ⟨o, es, ep, ho, r⟩, _⟩ := id I.loc
  obtain ⟨sl, hL⟩ := u.any ho I.free fun z => (hch _ z).2.1 rfl
  exact I.step (ch := ch) hch (fun b o hL hb hc e n => u.keep b o e n (fun z => (List.mem_cons.mp (I.stkSub b z)).elim hL hb) hc) (fun b o _ _ hc e n => u.any e n hc) (fun b o hc e n => u.free b o e n hc) (fun b o hc e => u.there b o e hc) u.tups u.frzs u.tbls (fun m' hm => by
    obtain ⟨o', es', ep', ho', r'⟩ := hm
    rw [ho] at ho'; cases ho'
    exact ⟨_, es', ep', hL, r'⟩) hok hg
theorem Inv.turned {t' : Nat} {it : Addr} (I : Inv X pins σ H s) (k : ∀ b o, b ≠ it → s.heap.get? b = some o → h'.get? b = some o) (hn : H it = none) (hL : it ≠ X.env.locals)
    (h1 : it ∈ X.ex ∨ X.s_0.heap.objs.size ≤ it) (h2 : ∀ x c, X.env.cells.lookup x = some c → c ≠ it) (h3 : ∀ p ∈ X.pn ++ pins, p.1 ≠ it) : Inv X pins σ H { s with heap := h', toks := t' } := by
  have nit : ∀ b u, H b = some u → b ≠ it := fun b u e z => by rw [z, hn] at e; cases e
  refine I.step (g' := s.gens) (d' := s.drawn) (ch := [it]) (fun b hb => ?_) (fun b o _ _ hc e _ => k b o (fun z => hc (by simp [z])) e) (fun b o _ _ hc e _ => ⟨o.slots, k b o (fun z => hc (by simp [z])) e⟩) (fun _ _ _ _ n => n)
    (fun b o hc e => ⟨o, k b o (fun z => hc (by simp [z])) e⟩) (fun _ _ e => e) (fun _ _ _ e => e) (fun b ps e => ⟨#[], by rw [e]; simp⟩) (fun m hm => ?_) (fun b u e => ?_) I.bare
  · have e : b = it := by simpa using hb
    subst e
    exact ⟨h1, hL, h2, h3⟩
  · obtain ⟨o, es, ep, ho, r⟩ := hm
    exact ⟨o, es, ep, k _ o (Ne.symm hL) ho, r⟩
  · refine (I.hok b u e).stay (fun c v hc q => k c v ?_ q) (fun _ q => q) fun _ _ q => q
    rcases hc with z | z
    · rw [z]; exact nit b u e
    · exact nit c _ z
theorem Inv.tok (I : Inv X pins σ H s) (t : Nat) : Inv X pins σ H { s with toks := t } := I.un (h' := s.heap) (t' := t) Un.refl I.hok
theorem Inv.kept {t' : Nat} (I : Inv X pins σ H s) (k : ∀ b u, s.heap.get? b = some u → h'.get? b = some u) : Inv X pins σ H { s with heap := h', toks := t' } := I.un (Un.kept k) (I.hok.kept k)
theorem Inv.laid {a : Addr} {o : HO} {t' : Nat} (I : Inv X pins σ H s) (k : ∀ b u, s.heap.get? b = some u → h'.get? b = some u) (hp : s.heap.objs.size ≤ a) (new : ObjOk X.prog X.w (upd H a o) h' a o) :
    Inv X pins σ (upd H a o) { s with heap := h', toks := t' } := I.un (Un.laid k hp (I.hok.fresh hp)) (I.hok.laid k hp new)
theorem Inv.write {x e : Addr} {o : HO} {t' : Nat} (I : Inv X pins σ H s) (mu : Mut (H x)) (he : e = x ∨ H e = some (.own x)) (k : ∀ b u, b ≠ e → s.heap.get? b = some u → h'.get? b = some u) (heo : ∃ u, h'.get? e = some u)
    (new : ObjOk X.prog X.w (upd H x o) h' x o) : Inv X pins σ (upd H x o) { s with heap := h', toks := t' } := I.un (Un.write mu he k heo) (I.hok.write mu he k heo new)
theorem Inv.weak {σ' : List (Option V)} (I : Inv X pins σ H s) (hl : σ'.length = σ.length) (w : ∀ (i : Nat) v, σ'[i]? = some (some v) → σ[i]? = some (some v)) : Inv X pins σ' H s :=
  ⟨I.ok, I.os, I.bare, I.base, let ⟨m, hn, hl'⟩ := I.loc; ⟨m, hn, fun i x v e1 e2 e3 => hl' i x v e1 (w i v e2) e3⟩, I.cell, I.free, I.freeC, I.pin, I.hok, hl.trans I.len⟩
theorem Inv.pins_of {pins' : List (Addr × Obj)} (I : Inv X pins σ H s) (h : ∀ p ∈ pins', s.heap.get? p.1 = some p.2 ∧ H p.1 = none ∧ p.1 ≠ X.env.locals ∧ p.1 ∉ X.fs ∧ ∀ v, p.2.data ≠ .cell v) : Inv X pins' σ H s :=
  ⟨I.ok, I.os, I.bare, I.base, I.loc, I.cell, I.free, I.freeC, fun p hp => (List.mem_append.mp hp).elim (fun z => I.pin p (List.mem_append_left _ z)) (h p), I.hok, I.len⟩
theorem nodup_ix {N : List Str} (hN : N.Nodup) {i j : Nat} {x : Str} (a : N[i]? = some x) (b : N[j]? = some x) : i = j := by
  obtain ⟨h1, e1⟩ := List.getElem?_eq_some_iff.mp a
  obtain ⟨h2, e2⟩ := List.getElem?_eq_some_iff.mp b
  exact (List.getElem_inj hN).mp (e1.trans e2.symm)
theorem store_ok2 {M : Model} {A : Around} {E : Value → Shared → Prop} {i : Nat} {x : Str} {v : V} {u : Value} {Q : Unit → Shared → Prop} (I : Inv X pins σ H s) (hN : X.N.Nodup) (hi : X.N[i]? = some x) (hx : Loc X.env.scope x) (r : RelV v u)
    (h : ∀ s', Inv X pins (σ.set i (some v)) H s' → (∃ a, Heap.SameBut a s.heap s'.heap ∧ (a = X.env.locals ∨ X.env.cells.lookup x = some a)) → Q () s') (hf : X.fn x = true ∨ X.env.scope.names.lookup x = some .local := by first | exact .inl rfl | exact .inr rfl | assumption) : wpAny M A (storeName X.env x u) Q E s := by
  obtain ⟨m, hn, hl⟩ := id I.loc
  have hcls : (X.env.scope.kind == .class || (X.env.scope.kind == .module && X.env.locals != X.env.globals)) = false := by rw [I.ok.kind]; rfl
  have hiσ : i < σ.length := by rw [I.len]; exact (List.getElem?_eq_some_iff.mp hi).1
  have cne := I.cne
  have tracked : ∀ {a : Addr} {h' : Heap}, (∃ o, s.heap.get? a = some o ∧ H a = none) → Heap.SameBut a s.heap h' → HOk X.prog X.w H h' := fun {a h'} ha hs b ob e => by
    obtain ⟨_, _, hfree⟩ := ha
    refine (I.hok b ob e).stay (fun c w' hc q => (hs.2 c ?_).trans q) (fun _ q => q) fun _ _ q => q
    rintro rfl
    rcases hc with rfl | hc
    · rw [hfree] at e; cases e
    · rw [hfree] at hc; cases hc
  rcases hx with hk | hk
  · refine wpAny_storeName_local hk hn (fun h' hn' hs => ?_) hcls
    obtain ⟨oL, _, _, hoL, _⟩ := id hn
    refine h _ ⟨I.ok, I.os, I.bare, ⟨fun b o e n hb hx => ?_, fun b o e n hb hx => ?_, I.base.free, fun b o e hx => ?_, I.base.tups, I.base.frzs, I.base.tbls⟩, ⟨_, hn', fun j y v' e1 e2 e3 => ?_⟩, fun y c e => ?_, I.free, I.freeC, fun p hp => ?_, tracked ⟨oL, hoL, I.free⟩ hs, by simpa using I.len⟩ ⟨_, hs, .inl rfl⟩
    · exact (hs.2 b (Nat.ne_of_lt (Nat.lt_of_lt_of_le (Heap.lt_size e) I.ok.above))).trans (I.base.keep b o e n hb hx)
    · obtain ⟨sl, e1⟩ := I.base.slot b o e n hb hx
      exact ⟨sl, (hs.2 b (Nat.ne_of_lt (Nat.lt_of_lt_of_le (Heap.lt_size e) I.ok.above))).trans e1⟩
    · obtain ⟨o', e1⟩ := I.base.there b o e hx
      exact ⟨o', (hs.2 b (Nat.ne_of_lt (Nat.lt_of_lt_of_le (Heap.lt_size e) I.ok.above))).trans e1⟩
    · by_cases hj : j = i
      · subst hj
        rw [hi] at e1; cases e1
        rw [List.getElem?_set_self hiσ] at e2
        cases e2
        exact ⟨u, r, .inl ⟨hk, by simp⟩⟩
      · rw [List.getElem?_set_ne (Ne.symm hj)] at e2
        obtain ⟨u', r', q⟩ := hl j y v' e1 e2 e3
        refine ⟨u', r', ?_⟩
        rcases q with ⟨k, e⟩ | ⟨k, c, e, z⟩
        · refine .inl ⟨k, ?_⟩
          have : y ≠ x := fun e => hj (nodup_ix hN e1 (e ▸ hi))
          simp [this, e]
        · exact .inr ⟨k, c, e, z.sameBut hs (cne y c e)⟩
    · obtain ⟨w', z⟩ := I.cell y c e
      exact ⟨w', z.sameBut hs (cne y c e)⟩
    · obtain ⟨e, n, ne, nf, d⟩ := I.pin p hp
      exact ⟨(hs.2 p.1 ne).trans e, n, ne, nf, d⟩
  · have hfn : X.fn x = true := by
      rcases hf with z | z
      · exact z
      · rw [z] at hk; cases hk
    obtain ⟨c, hc⟩ := I.ok.has x (.inl hk)
    obtain ⟨w', z⟩ := I.cell x c hc
    refine wpAny_storeName_cell I.ok.kind hk hc z (fun h' hc' hs => ?_)
    obtain ⟨oc, hoc, hocd⟩ := id z
    refine h { s with heap := h' } ⟨I.ok, I.os, I.bare, ⟨fun b o e n hb hx => ?_, fun b o e n hb hx => ?_, I.base.free, fun b o e hx => ?_, I.base.tups, I.base.frzs, I.base.tbls⟩, ⟨m, hn.sameBut hs (Ne.symm (cne x c hc)), fun j y v' e1 e2 e3 => ?_⟩, fun y c' e => ?_, I.free, I.freeC, fun p hp => ?_, tracked ⟨oc, hoc, I.freeC x c hc⟩ hs, by simpa using I.len⟩ ⟨c, hs, .inr hc⟩
    · exact (hs.2 b (Nat.ne_of_lt (Nat.lt_of_lt_of_le (Heap.lt_size e) (I.ok.cab x c hfn hc)))).trans (I.base.keep b o e n hb hx)
    · obtain ⟨sl, e1⟩ := I.base.slot b o e n hb hx
      exact ⟨sl, (hs.2 b (Nat.ne_of_lt (Nat.lt_of_lt_of_le (Heap.lt_size e) (I.ok.cab x c hfn hc)))).trans e1⟩
    · obtain ⟨o', e1⟩ := I.base.there b o e hx
      exact ⟨o', (hs.2 b (Nat.ne_of_lt (Nat.lt_of_lt_of_le (Heap.lt_size e) (I.ok.cab x c hfn hc)))).trans e1⟩
    · by_cases hj : j = i
      · subst hj
        rw [hi] at e1; cases e1
        rw [List.getElem?_set_self hiσ] at e2
        cases e2
        exact ⟨u, r, .inr ⟨.inl hk, c, hc, hc'⟩⟩
      · rw [List.getElem?_set_ne (Ne.symm hj)] at e2
        obtain ⟨u', r', q⟩ := hl j y v' e1 e2 e3
        refine ⟨u', r', ?_⟩
        rcases q with q | ⟨k, c', e, z'⟩
        · exact .inl q
        · refine .inr ⟨k, c', e, z'.sameBut hs ?_⟩
          rintro rfl
          exact hj (nodup_ix hN e1 (I.ok.inj _ _ _ e hc ▸ hi))
    · by_cases hcc : c' = c
      · subst hcc; exact ⟨_, hc'⟩
      · obtain ⟨w2, z2⟩ := I.cell y c' e
        exact ⟨w2, z2.sameBut hs hcc⟩
    · obtain ⟨e, n, ne, nf, d⟩ := I.pin p hp
      refine ⟨(hs.2 p.1 ?_).trans e, n, ne, nf, d⟩
      intro q
      rw [q, hoc] at e
      have q' : oc = p.2 := Option.some.inj e
      exact d w' (by rw [← q']; exact hocd)
theorem store_ok {M : Model} {A : Around} {E : Value → Shared → Prop} {i : Nat} {x : Str} {v : V} {u : Value} {Q : Unit → Shared → Prop} (I : Inv X pins σ H s) (hN : X.N.Nodup) (hi : X.N[i]? = some x) (hx : Loc X.env.scope x) (r : RelV v u)
    (h : ∀ s', Inv X pins (σ.set i (some v)) H s' → Q () s') (hf : X.fn x = true ∨ X.env.scope.names.lookup x = some .local := by first | exact .inl rfl | exact .inr rfl | assumption) : wpAny M A (storeName X.env x u) Q E s :=
  store_ok2 I hN hi hx r (fun s' I' _ => h s' I') hf
theorem Inv.call' {s' : Shared} {ch : List Addr} (I : Inv X pins σ H s) (ho : s'.os = s.os) (u : Un (frs X.stack) ch H H' s.heap s'.heap) (hok : HOk X.prog X.w H' s'.heap) (hg : AllBare s'.gens)
    (hch : ∀ b ∈ ch, (b ∈ X.ex ∨ X.s_0.heap.objs.size ≤ b) ∧ b ≠ X.env.locals ∧ (∀ x c, X.env.cells.lookup x = some c → c ≠ b) ∧ ∀ p ∈ X.pn ++ pins, p.1 ≠ b) : Inv X pins σ H' s' := by
  obtain ⟨h', g', d', t', o'⟩ := s'
  have e : o' = s.os := ho
  subst e
  exact I.call (g' := g') (t' := t') (d' := d') u hok hg hch
end
abbrev XK := Value → Option Addr → Hp → Prop
abbrev St := List (Option V)
abbrev VK := V → Hp → Prop
abbrev TE := St → Hp → VK → Prop
abbrev TT := St → Hp → (Bool → Hp → Prop) → Prop
abbrev TA := St → Hp → (List V → Hp → Prop) → Prop
structure Ends where
  nx : St → Hp → Prop
  rt : VK
  bk : St → Hp → Prop := fun _ _ => False
  ct : St → Hp → Prop := fun _ _ => False
abbrev TS := Ends → St → Hp → Prop
def EP (X : Cx) (pins : List (Addr × Obj)) (σ : St) (Q : VK) (u : Value) (s' : Shared) : Prop := ∃ v H', Inv X pins σ H' s' ∧ RelV v u ∧ Q v H'
def TP (X : Cx) (pins : List (Addr × Obj)) (σ : St) (Q : Bool → Hp → Prop) (b : Bool) (s' : Shared) : Prop := ∃ H', Inv X pins σ H' s' ∧ Q b H'
def AP (X : Cx) (pins : List (Addr × Obj)) (σ : St) (Q : List V → Hp → Prop) (us : List Value) (s' : Shared) : Prop := ∃ vs H', Inv X pins σ H' s' ∧ Vals vs us ∧ Q vs H'
def SP (X : Cx) (pins : List (Addr × Obj)) (D : Ends) (f : Flow) (s' : Shared) : Prop :=
  match f with
  | .next => ∃ σ' H', Inv X pins σ' H' s' ∧ D.nx σ' H'
  | .brk => ∃ σ' H', Inv X pins σ' H' s' ∧ D.bk σ' H'
  | .cont => ∃ σ' H', Inv X pins σ' H' s' ∧ D.ct σ' H'
  | .ret u => ∃ v σ' H', Inv X pins σ' H' s' ∧ RelV v u ∧ D.rt v H'
def PE (X : Cx) (e : Expr) (t : TE) : Prop :=
  ∀ (pins : List (Addr × Obj)) (s : Shared) (σ : St) (H : Hp) (Q : VK), Inv X pins σ H s → t σ H Q → wpAny (model X.prog X.w) X.A (eval e X.env) (EP X pins σ Q) X.xe s
def PT (X : Cx) (e : Expr) (t : TT) : Prop :=
  ∀ (pins : List (Addr × Obj)) (s : Shared) (σ : St) (H : Hp) (Q : Bool → Hp → Prop), Inv X pins σ H s → t σ H Q → wpAny (model X.prog X.w) X.A (isTrue e X.env (eval e X.env)) (TP X pins σ Q) X.xe s
def PW (X : Cx) (e : Expr) (t : TT) : Prop :=
  ∀ (whole : Sem Value) (pins : List (Addr × Obj)) (s : Shared) (σ : St) (H : Hp) (Q : Bool → Hp → Prop), Inv X pins σ H s → t σ H Q → wpAny (model X.prog X.w) X.A (isTrue e X.env whole) (TP X pins σ Q) X.xe s
theorem PW.pt {X : Cx} {e : Expr} {t : TT} (h : PW X e t) : PT X e t := h _
def PA (X : Cx) (es : List Expr) (t : TA) : Prop :=
  ∀ (pos : Pos) (pins : List (Addr × Obj)) (s : Shared) (σ : St) (H : Hp) (Q : List V → Hp → Prop), Inv X pins σ H s → t σ H Q → wpAny (model X.prog X.w) X.A (spliced (backTo pos (starEach es X.env))) (AP X pins σ Q) X.xe s
def PS (X : Cx) (st : Stmt) (t : TS) : Prop :=
  ∀ (pins : List (Addr × Obj)) (s : Shared) (σ : St) (H : Hp) (D : Ends), Inv X pins σ H s → t D σ H → wpAny (model X.prog X.w) X.A (exec st X.env) (SP X pins D) X.xe s
def PSs (X : Cx) (st : List Stmt) (t : TS) : Prop :=
  ∀ (pins : List (Addr × Obj)) (s : Shared) (σ : St) (H : Hp) (D : Ends), Inv X pins σ H s → t D σ H → wpAny (model X.prog X.w) X.A (execs st X.env) (SP X pins D) X.xe s
theorem thn {α : Type} {t : Sem α} {Q Q' : α → Shared → Prop} {M : Model} {A : Around} {E : Value → Shared → Prop} {s : Shared} (h : wpAny M A t Q E s) (hQ : ∀ a s, Q a s → Q' a s) : wpAny M A t Q' E s := wpAny_mono h hQ fun _ _ x => x
end L2
namespace L2
open PySem PySem.Spec PyProof.Rows
section
variable {X : Cx}
def tVar (i : Nat) : TE := fun σ H Q => ∃ v, σ[i]? = some (some v) ∧ Q v H
def tC (v : V) : TE := fun _ H Q => Q v H
theorem pe_var {i : Nat} {x : Str} {pos : Pos} (hN : X.N[i]? = some x) (hv : Vis X.env.scope x) (hd : (x == ("__debug__" : Str)) = false := by decide) (hcd : (x == ("__classdict__" : Str)) = false := by decide) : PE X (.Name x pos) (tVar i) := by
  intro pins s σ H Q I h
  obtain ⟨v, e, h⟩ := h
  obtain ⟨m, hn, hl⟩ := I.loc
  obtain ⟨u, r, l⟩ := hl i x v hN e hv
  have fin : EP X pins σ Q u s := ⟨v, H, I, r, h⟩
  rcases l with ⟨hk, hm⟩ | ⟨hk, c, hc, hcell⟩
  · exact wpAny_Name (wpAny_loadName_local I.ok.kind hk hn hm fin) hd
  · rcases hk with hk | hk
    · exact wpAny_Name (wpAny_loadName_cell I.ok.kind hk hc hcell fin) hd
    · exact wpAny_Name (wpAny_loadName_free I.ok.kind hk hc hcell fin hcd) hd
theorem pe_int {i j pos} : PE X (.Constant (.int i) j pos) (tC (.int i)) := fun _ _ _ H _ I h => wpAny_Constant_int ⟨.int i, H, I.tok _, ⟨_, rfl⟩, h⟩
theorem pe_bl {b j pos} : PE X (.Constant (.bool b) j pos) (tC (.bl b)) := fun _ _ _ H _ I h => Constant_bool ⟨.bl b, H, I, rfl, h⟩
def Gl (X : Cx) (x : Str) : Prop := X.env.kindOf x = some .globalImplicit
theorem ld_glob {E : Value → Shared → Prop} {pins : List (Addr × Obj)} {s : Shared} {σ : St} {H : Hp} {x : Str} {u : Value} {pos : Pos} {Q : Value → Shared → Prop} (I : Inv X pins σ H s) (hg : Gl X x) (hm : X.mg x = some u) (h : Q u s)
    (hd : (x == ("__debug__" : Str)) = false := by decide) : wpAny (model X.prog X.w) X.A (eval (.Name x pos) X.env) Q E s :=
  Calls.Name_function_global I.ok.kind hg (Calls.loadGlobal_global (by rw [I.ok.glob]; exact I.mod.glob.keeps I.bk) hm h) hd
theorem ld_blt {E : Value → Shared → Prop} {pins : List (Addr × Obj)} {s : Shared} {σ : St} {H : Hp} {x : Str} {u : Value} {pos : Pos} {Q : Value → Shared → Prop} (I : Inv X pins σ H s) (hg : Gl X x) (hm : X.mg x = none) (hv : bootBuiltins x = some u) (h : Q u s)
    (hn : x ≠ "__name__" := by decide) (hd : (x == ("__debug__" : Str)) = false := by decide) : wpAny (model X.prog X.w) X.A (eval (.Name x pos) X.env) Q E s := by
  obtain ⟨mb, h1, h2⟩ := I.mod.blt
  exact Calls.Name_function_global I.ok.kind hg (Calls.loadGlobal_builtin (by rw [I.ok.glob]; exact I.mod.glob.keeps I.bk) hm (by rw [I.ok.blt]; exact h1.keeps I.bk) ((h2 x hn).trans hv) h) hd
theorem pe_glob {x : Str} {v : V} {u : Value} {pos : Pos} (hg : Gl X x) (hm : X.mg x = some u) (r : RelV v u) (hd : (x == ("__debug__" : Str)) = false := by decide) : PE X (.Name x pos) (tC v) :=
  fun _ _ _ H _ I h => ld_glob I hg hm ⟨v, H, I, r, h⟩ hd
variable {a b : Expr} {ta tb : TE} {pos : Pos}
def tB (t : TE) : TT := fun σ H Q => t σ H fun x H1 => ∃ c, x = .bl c ∧ Q c H1
theorem pt_val {e : Expr} {t : TE} (h : PE X e t) (he : ∀ whole, isTrue e X.env whole = (do let v ← whole; standAt e.pos; holding [v] (truthy v)) := by intro _; rfl) : PT X e (tB t) := by
  intro pins s σ H Q I hw
  refine isTrue_plain (thn (h pins s σ H _ I hw) fun v s1 ⟨x, H1, I1, r1, q1⟩ => ?_) (he _)
  obtain ⟨d, rfl, q⟩ := q1
  cases r1
  exact wpAny_truthy_bool ⟨H1, I1, q⟩
variable {tA tB' : TT} {rest : List Expr}
def tAnd (t u : TT) : TT := fun σ H Q => t σ H fun c H1 => if c = true then u σ H1 Q else Q false H1
def tNot (t : TT) : TT := fun σ H Q => t σ H fun c H1 => Q (!c) H1
theorem pw_and1 (ha : PT X a tA) : PW X (.BoolOp .And [a] pos) tA := by
  intro wh pins s σ H Q I h
  refine isTrue_and (thn (ha pins s σ H Q I h) fun c s1 e => ?_)
  cases c with
  | true => exact isTrue_and_nil e
  | false => exact e
theorem pw_and (ha : PT X a tA) (hb : PW X (.BoolOp .And (b :: rest) pos) tB') : PW X (.BoolOp .And (a :: b :: rest) pos) (tAnd tA tB') := by
  intro wh pins s σ H Q I h
  refine isTrue_and (thn (ha pins s σ H _ I h) fun c s1 ⟨H1, I1, q1⟩ => ?_)
  cases c with
  | true => exact hb wh pins s1 σ H1 Q I1 q1
  | false => exact ⟨H1, I1, q1⟩
theorem pt_not (ha : PT X a tA) : PT X (.UnaryOp .Not a pos) (tNot tA) := by
  intro pins s σ H Q I h
  exact isTrue_not (ha pins s σ H (fun c H1 => Q (!c) H1) I h)
def tAndV (ta tb : TE) : TE := fun σ H Q => ta σ H fun x H1 => ∃ c, x = .bl c ∧ if c = true then tb σ H1 Q else Q (.bl false) H1
def tOrV (ta tb : TE) : TE := fun σ H Q => ta σ H fun x H1 => ∃ c, x = .bl c ∧ if c = true then Q (.bl true) H1 else tb σ H1 Q
theorem pe_one {op} {t : TE} (h : PE X a t) : PE X (.BoolOp op [a] pos) t := fun pins s σ H Q I hw => BoolOp_one (h pins s σ H Q I hw)
theorem pe_and (ha : PE X a ta) (hb : PE X (.BoolOp .And (b :: rest) pos) tb) : PE X (.BoolOp .And (a :: b :: rest) pos) (tAndV ta tb) := by
  intro pins s σ H Q I h
  refine BoolOp_and (thn (ha pins s σ H _ I h) fun v s1 ⟨x, H1, I1, r1, q1⟩ => ?_)
  obtain ⟨c, rfl, q1⟩ := q1
  cases r1
  refine wpAny_truthy_bool ?_
  cases c with
  | true => exact hb pins s1 σ H1 Q I1 q1
  | false => exact ⟨.bl false, H1, I1, rfl, q1⟩
theorem pe_or (ha : PE X a ta) (hb : PE X (.BoolOp .Or (b :: rest) pos) tb) : PE X (.BoolOp .Or (a :: b :: rest) pos) (tOrV ta tb) := by
  intro pins s σ H Q I h
  refine BoolOp_or (thn (ha pins s σ H _ I h) fun v s1 ⟨x, H1, I1, r1, q1⟩ => ?_)
  obtain ⟨c, rfl, q1⟩ := q1
  cases r1
  refine wpAny_truthy_bool ?_
  cases c with
  | false => exact hb pins s1 σ H1 Q I1 q1
  | true => exact ⟨.bl true, H1, I1, rfl, q1⟩
def tIf (t : TT) (ta tb : TE) : TE := fun σ H Q => t σ H fun c H1 => if c = true then ta σ H1 Q else tb σ H1 Q
theorem pe_ifExp {c : Expr} (hc : PT X c tA) (ha : PE X a ta) (hb : PE X b tb) : PE X (.IfExp c a b pos) (tIf tA ta tb) := by
  intro pins s σ H Q I h
  refine wpAny_IfExp (thn (hc pins s σ H _ I h) fun d s1 ⟨H1, I1, q1⟩ => ?_)
  cases d with
  | true => exact ha pins s1 σ H1 Q I1 q1
  | false => exact hb pins s1 σ H1 Q I1 q1
end
end L2
namespace L2
open PySem PySem.Spec PyProof.Rows
def SqL (K : PySem.W.Frag) (H : Hp) (a : Addr) (xs : List V) : Prop :=
  Rd H a (.lst xs) ∨
    ∃ (o : Obj) (its : Array Value) (n : Nat), K.lookup a = some o ∧ o.cls = .type "list" ∧ o.dict = none ∧ o.data = .seq its n ∧ its.size ≤ sizeLine ∧ Vals xs its.toList
def SqT (K : PySem.W.Frag) (H : Hp) (a : Addr) (xs : List V) : Prop :=
  Rd H a (.tup xs) ∨
    ∃ (o : Obj) (its : Array Value) (n : Nat), K.lookup a = some o ∧ o.cls = .type "tuple" ∧ o.data = .seq its n ∧ its.size ≤ sizeLine ∧ Vals xs its.toList
def absV : Value → Option V
  | .none => some .non
  | .bool b => some (.bl b)
  | .int i _ => some (.int i)
  | .str x _ => some (.str x)
  | .bytes b _ => some (.byt b)
  | .float b _ => some (.flt b)
  | .ref a => some (.ref a)
  | .type n => some (.ty n)
  | _ => none
theorem RelV.abs {x : V} {u : Value} (r : RelV x u) : absV u = some x := by
  cases x with
  | non => cases r; rfl
  | bl _ => cases r; rfl
  | int _ => obtain ⟨t, rfl⟩ := r; rfl
  | str _ => obtain ⟨t, rfl⟩ := r; rfl
  | byt _ => obtain ⟨t, rfl⟩ := r; rfl
  | flt _ => obtain ⟨t, rfl⟩ := r; rfl
  | ref _ => cases r; rfl
  | ty _ => cases r; rfl
theorem RelV.inj {x y : V} {u : Value} (r : RelV x u) (q : RelV y u) : x = y := Option.some.inj (r.abs.symm.trans q.abs)
theorem Vals.inj : ∀ {xs ys : List V} {us : List Value}, Vals xs us → Vals ys us → xs = ys
  | _, _, _, .nil, .nil => rfl
  | _, _, _, .cons r t, .cons r' t' => by rw [r.inj r', Vals.inj t t']
section
variable {X : Cx} {pins : List (Addr × Obj)} {σ : St} {H : Hp} {s : Shared} {a : Addr} {xs ys : List V}
theorem SqL.of {K : PySem.W.Frag} (h : H a = some (.lst xs)) : SqL K H a xs := .inl (.inl h)
theorem SqT.of {K : PySem.W.Frag} (h : H a = some (.tup xs)) : SqT K H a xs := .inl (.inl h)
theorem Inv.list (I : Inv X pins σ H s) (h : SqL X.K H a xs) : ∃ its : List Value, Vals xs its ∧ PlainL s.heap a its.toArray ∧ xs.length ≤ sizeLine := by
  rcases h with h | ⟨o, its, n, hk, hc, hd, hs, hz, r⟩
  · obtain ⟨z, its, n, r, e⟩ := h.ok I.hok
    exact ⟨its, r, ⟨_, n, e, rfl, rfl, rfl⟩, z⟩
  · refine ⟨its.toList, r, ⟨o, n, I.kIn a o hk, hc, hd, by simpa using hs⟩, ?_⟩
    have e := r.length
    simp only [Array.length_toList] at e
    omega
theorem Inv.tuple (I : Inv X pins σ H s) (h : SqT X.K H a xs) : ∃ its : List Value, Vals xs its ∧ IsTup s.heap a its.toArray ∧ xs.length ≤ sizeLine := by
  rcases h with h | ⟨o, its, n, hk, hc, hs, hz, r⟩
  · obtain ⟨z, its, r, p⟩ := h.ok I.hok
    exact ⟨its, r, p, z⟩
  · refine ⟨its.toList, r, ⟨o, I.kIn a o hk, hc, n, by simpa using hs⟩, ?_⟩
    have e := r.length
    simp only [Array.length_toList] at e
    omega
theorem Inv.list_inj (I : Inv X pins σ H s) (h : SqL X.K H a xs) (h' : SqL X.K H a ys) : xs = ys := by
  obtain ⟨its, r, ⟨o, n, e, _, _, d⟩, _⟩ := I.list h
  obtain ⟨its', r', ⟨o', n', e', _, _, d'⟩, _⟩ := I.list h'
  rw [e] at e'; cases e'
  rw [d] at d'
  injection d' with d1 _
  have : its = its' := by simpa using congrArg Array.toList d1
  subst this
  exact r.inj r'
end
abbrev Cx.wish (X : Cx) (E : Value → Shared → Prop) : Cx := { X with xe := E }
abbrev Cx.nox (X : Cx) : Cx := X.wish fun _ _ => False
theorem Cx.Ok.wish {X : Cx} (ok : X.Ok) (E : Value → Shared → Prop) : (X.wish E).Ok :=
  ⟨ok.mod, ok.kind, ok.glob, ok.blt, ok.above, ok.inj, ok.has, ok.cab, ok.hd, ok.frames, ok.stk, ok.exf, ok.bs, ok.bsz, ok.noex, ok.exfs, ok.funs, ok.frf⟩
theorem Cx.Ok.unwish {X : Cx} {E : Value → Shared → Prop} (ok : (X.wish E).Ok) : X.Ok :=
  ⟨ok.mod, ok.kind, ok.glob, ok.blt, ok.above, ok.inj, ok.has, ok.cab, ok.hd, ok.frames, ok.stk, ok.exf, ok.bs, ok.bsz, ok.noex, ok.exfs, ok.funs, ok.frf⟩
section
variable {X : Cx} {pins : List (Addr × Obj)} {σ : St} {H : Hp} {s : Shared} {E : Value → Shared → Prop}
theorem Inv.wish (I : Inv X pins σ H s) (E : Value → Shared → Prop) : Inv (X.wish E) pins σ H s := ⟨I.ok.wish E, I.os, I.bare, I.base, I.loc, I.cell, I.free, I.freeC, I.pin, I.hok, I.len⟩
theorem Inv.unwish (I : Inv (X.wish E) pins σ H s) : Inv X pins σ H s := ⟨I.ok.unwish, I.os, I.bare, I.base, I.loc, I.cell, I.free, I.freeC, I.pin, I.hok, I.len⟩
theorem SP.unwish {D : Ends} {f : Flow} {s' : Shared} (h : SP (X.wish E) pins D f s') : SP X pins D f s' := by
  cases f with
  | next => obtain ⟨σ', H', I, q⟩ := h; exact ⟨σ', H', I.unwish, q⟩
  | brk => obtain ⟨σ', H', I, q⟩ := h; exact ⟨σ', H', I.unwish, q⟩
  | cont => obtain ⟨σ', H', I, q⟩ := h; exact ⟨σ', H', I.unwish, q⟩
  | ret u => obtain ⟨v, σ', H', I, r, q⟩ := h; exact ⟨v, σ', H', I.unwish, r, q⟩
theorem PSs.nox {st : List Stmt} {t : TS} (h : PSs X.nox st t) : PSs X st t := fun pins s σ H D I hw =>
  wpAny_mono (h pins s σ H D (I.wish _) hw) (fun _ _ q => q.unwish) fun _ _ z => False.elim z
end
section
variable {X : Cx} {st : Stmt} {rest : List Stmt} {t u : TS} {e : Expr} {te : TE} {pos : Pos}
def tNext : TS := fun D σ H => D.nx σ H
def tSeq (t u : TS) : TS := fun D σ H => t { D with nx := u D } σ H
theorem pss_nil : PSs X [] tNext := fun _ _ σ H _ I h => wpAny_execs_nil ⟨σ, H, I, h⟩
theorem pss_cons (h1 : PS X st t) (h2 : PSs X rest u) : PSs X (st :: rest) (tSeq t u) := by
  intro pins s σ H D I h
  refine wpAny_execs_cons (thn (h1 pins s σ H { D with nx := u D } I h) fun f s1 q => ?_)
  cases f with
  | next =>
    obtain ⟨σ', H', I', q⟩ := q
    exact h2 pins s1 σ' H' D I' q
  | ret v => exact q
  | brk => exact q
  | cont => exact q
theorem pss_one (h1 : PS X st t) : PSs X [st] t := by
  intro pins s σ H D I h
  refine wpAny_execs_cons (thn (h1 pins s σ H D I h) fun f s1 q => ?_)
  cases f with
  | next => exact wpAny_execs_nil q
  | ret v => exact q
  | brk => exact q
  | cont => exact q
theorem Inv.quiet {pins : List (Addr × Obj)} {σ : St} {H : Hp} {s : Shared} (I : Inv X pins σ H s) : interactive X.env = false := by simp [interactive, I.ok.kind]
def tDrop (te : TE) : TS := fun D σ H => te σ H fun _ H1 => D.nx σ H1
theorem ps_expr (he : PE X e te) (hs : swapsWith e none pos.line X.env = pure false := by rfl) : PS X (.Expr e pos) (tDrop te) := by
  intro pins s σ H D I h
  exact wpAny_Expr_any (thn (he pins s σ H _ I h) fun v s1 ⟨x, H1, I1, r1, q1⟩ => ⟨σ, H1, I1, q1⟩) I.quiet hs
def tRet (te : TE) : TS := fun D σ H => te σ H D.rt
theorem ps_ret (he : PE X e te) : PS X (.Return (some e) pos) (tRet te) := by
  intro pins s σ H D I h
  exact wpAny_Return_some (thn (he pins s σ H _ I h) fun v s1 ⟨x, H1, I1, r1, q1⟩ => ⟨x, σ, H1, I1, r1, q1⟩)
def tIfS (c : TT) (t u : TS) : TS := fun D σ H => c σ H fun b H1 => if b = true then t D σ H1 else u D σ H1
theorem ps_if {c : Expr} {a b : List Stmt} {tc : TT} (hc : PT X c tc) (ha : PSs X a t) (hb : PSs X b u) : PS X (.If c a b pos) (tIfS tc t u) := by
  intro pins s σ H D I h
  refine wpAny_If (thn (hc pins s σ H _ I h) fun d s1 ⟨H1, I1, q1⟩ => ?_)
  cases d with
  | true => exact ha pins s1 σ H1 D I1 q1
  | false => exact hb pins s1 σ H1 D I1 q1
end
abbrev TG := V → St → Hp → (St → Hp → Prop) → Prop
abbrev TGs := List V → St → Hp → (St → Hp → Prop) → Prop
def PG (X : Cx) (target : Expr) (t : TG) : Prop :=
  ∀ (pins : List (Addr × Obj)) (s : Shared) (σ : St) (H : Hp) (v : V) (u : Value) (Q : St → Hp → Prop), Inv X pins σ H s → RelV v u → t v σ H Q →
    wpAny (model X.prog X.w) X.A (assign target X.env u) (fun _ s' => ∃ σ' H', Inv X pins σ' H' s' ∧ Q σ' H') X.xe s
def PGs (X : Cx) (ts : List Expr) (t : TGs) : Prop :=
  ∀ (pins : List (Addr × Obj)) (s : Shared) (σ : St) (H : Hp) (vs : List V) (us : List Value) (Q : St → Hp → Prop), Inv X pins σ H s → Vals vs us → t vs σ H Q →
    wpAny (model X.prog X.w) X.A (assignInOrder ((assignEach ts X.env).map (·.2)) us) (fun _ s' => ∃ σ' H', Inv X pins σ' H' s' ∧ Q σ' H') X.xe s
abbrev TSet := V → V → V → Hp → (Hp → Prop) → Prop
def PSet (X : Cx) (t : TSet) : Prop :=
  ∀ (pins : List (Addr × Obj)) (s : Shared) (σ : St) (H : Hp) (o i v : V) (ov iv u : Value) (Q : Hp → Prop), Inv X pins σ H s → RelV o ov → RelV i iv → RelV v u → t o i v H Q →
    wpAny (model X.prog X.w) X.A (setItem ov iv u) (fun _ s' => ∃ H', Inv X pins σ H' s' ∧ Q H') X.xe s
abbrev TIp := V → V → Hp → VK → Prop
def PIp (X : Cx) (op : Operator) (t : TIp) : Prop :=
  ∀ (pins : List (Addr × Obj)) (s : Shared) (σ : St) (H : Hp) (x y : V) (v u : Value) (Q : VK), Inv X pins σ H s → RelV x v → RelV y u → t x y H Q →
    wpAny (model X.prog X.w) X.A (inplaceOp op v u) (EP X pins σ Q) X.xe s
section
variable {X : Cx} {pos : Pos}
def gName (i : Nat) : TG := fun v σ H Q => Q (σ.set i (some v)) H
theorem pg_name {i : Nat} {x : Str} (hN : X.N.Nodup) (hi : X.N[i]? = some x) (hx : Loc X.env.scope x) (hf : X.fn x = true ∨ X.env.scope.names.lookup x = some .local := by first | exact .inl rfl | exact .inr rfl | assumption) : PG X (.Name x pos) (gName i) := by
  intro pins s σ H v u Q I r h
  exact wpAny_assign_Name (store_ok I hN hi hx r (fun s' I' => ⟨_, H, I', h⟩) hf)
def gNil : TGs := fun vs σ H Q => vs = [] ∧ Q σ H
def gCons (t : TG) (u : TGs) : TGs := fun vs σ H Q => ∃ v r, vs = v :: r ∧ t v σ H fun σ' H' => u r σ' H' Q
theorem pgs_nil : PGs X [] gNil := by
  intro pins s σ H vs us Q I r h
  obtain ⟨e, h⟩ := h
  subst e
  cases r
  exact assignInOrder_nil ⟨σ, H, I, h⟩
theorem pgs_cons {e : Expr} {es : List Expr} {t : TG} {u : TGs} (h1 : PG X e t) (h2 : PGs X es u)
    (hs : (assignEach (e :: es) X.env).map (·.2) = assign e X.env :: (assignEach es X.env).map (·.2) := by rfl) : PGs X (e :: es) (gCons t u) := by
  intro pins s σ H vs us Q I r h
  obtain ⟨v, vr, e1, h⟩ := h
  subst e1
  cases r with
  | cons r rr =>
    rw [hs]
    refine assignInOrder_cons (thn (h1 pins s σ H _ _ _ I r h) fun _ s1 ⟨σ1, H1, I1, q1⟩ => ?_)
    exact h2 pins s1 σ1 H1 _ _ Q I1 rr q1
def gTup (K : PySem.W.Frag) (n : Nat) (t : TGs) : TG := fun v σ H Q => ∃ a xs, v = .ref a ∧ SqT K H a xs ∧ xs.length = n ∧ t xs σ H Q
theorem pg_tup {es : List Expr} {k : Nat} {t : TGs} {n : Nat} (hc : X.calm = true) (h : PGs X es t)
    (hn : (assignEach es X.env).length = n := by rfl) (hst : (assignEach es X.env).findIdx? (·.1) = none := by rfl) : PG X (.Tuple es k pos) (gTup X.K n t) := by
  intro pins s σ H v u Q I r hw
  obtain ⟨a, xs, e1, hq, hl, hw⟩ := hw
  subst e1
  cases r
  obtain ⟨its, rv, ht, hz⟩ := I.tuple hq
  refine assign_Tuple_tuple (I.ok.hd hc) ht (by simp [hn, ← hl, rv.length]) hst fun h' hx => ?_
  have I1 : Inv X pins σ H { s with heap := h' } := I.kept (t' := s.toks) fun b o e => hx b o (Nat.ne_of_lt (Heap.lt_size e)) e
  exact h pins _ σ H xs _ Q I1 (by simpa using rv) hw
def tAsg (te : TE) (g : TG) : TS := fun D σ H => te σ H fun x H1 => g x σ H1 D.nx
theorem ps_set {i : Nat} {x : Str} {e : Expr} {te : TE} {pos' : Pos} (hN : X.N.Nodup) (hi : X.N[i]? = some x) (hx : Loc X.env.scope x) (he : PE X e te) (hs : swapsWith e (some (.Name x pos')) pos.line X.env = pure false := by rfl) (hf : X.fn x = true ∨ X.env.scope.names.lookup x = some .local := by first | exact .inl rfl | exact .inr rfl | assumption) :
    PS X (.Assign [.Name x pos'] e pos) (tAsg te (gName i)) := by
  intro pins s σ H D I h
  refine wpAny_Assign_Name (thn (he pins s σ H _ I h) fun v s1 ⟨y, H1, I1, r1, q1⟩ => ?_) hs
  exact store_ok I1 hN hi hx r1 (fun s2 I2 => ⟨_, H1, I2, q1⟩) hf
def tAugS (to ti te : TE) (tget : V → V → Hp → VK → Prop) (tip : TIp) (tset : TSet) : TS := fun D σ H => to σ H fun o H1 => ti σ H1 fun i H2 => tget o i H2 fun x H3 => te σ H3 fun y H4 => tip x y H4 fun z H5 => tset o i z H5 fun H6 => D.nx σ H6
def PGet (X : Cx) (t : V → V → Hp → VK → Prop) : Prop :=
  ∀ (pins : List (Addr × Obj)) (s : Shared) (σ : St) (H : Hp) (o i : V) (ov iv : Value) (Q : VK), Inv X pins σ H s → RelV o ov → RelV i iv → t o i H Q →
    wpAny (model X.prog X.w) X.A (getItem ov iv) (EP X pins σ Q) X.xe s
theorem ps_augS {o i e : Expr} {to ti te : TE} {tget : V → V → Hp → VK → Prop} {tip : TIp} {tset : TSet} {op : Operator} {tpos : Pos} (ho : PE X o to) (hi : PE X i ti) (hg : PGet X tget) (he : PE X e te) (hp : PIp X op tip) (hs : PSet X tset)
    (ha : ∀ ov iv new, augStore i ov iv new = (do holding [new, ov, iv] (setItem ov iv new); release [new, ov, iv] []; pure .next) := by intros; rfl) : PS X (.AugAssign (.Subscript o i tpos) op e pos) (tAugS to ti te tget tip tset) := by
  intro pins s σ H D I h
  refine wpAny_AugAssign_SubscriptAny (thn (ho pins s σ H _ I h) fun ov s1 ⟨x1, H1, I1, r1, q1⟩ => ?_) ha
  refine thn (hi pins s1 σ H1 _ I1 q1) fun iv s2 ⟨x2, H2, I2, r2, q2⟩ => ?_
  refine thn (hg pins s2 σ H2 x1 x2 ov iv _ I2 r1 r2 q2) fun old s3 ⟨x3, H3, I3, r3, q3⟩ => ?_
  refine thn (he pins s3 σ H3 _ I3 q3) fun v s4 ⟨x4, H4, I4, r4, q4⟩ => ?_
  refine thn (hp pins s4 σ H4 x3 x4 old v _ I4 r3 r4 q4) fun new s5 ⟨x5, H5, I5, r5, q5⟩ => ?_
  exact thn (hs pins s5 σ H5 x1 x2 x5 ov iv new _ I5 r1 r2 r5 q5) fun _ s6 ⟨H6, I6, q6⟩ => ⟨σ, H6, I6, q6⟩
def ipI (f : Int → Int → Int) : TIp := fun x y H Q => ∃ i j, x = .int i ∧ y = .int j ∧ Q (.int (f i j)) H
theorem ip_add : PIp X .Add (ipI fun i j => i + j) := by
  intro pins s σ H x y v u Q I r1 r2 h
  obtain ⟨i, j, e1, e2, q⟩ := h
  subst e1; subst e2
  obtain ⟨t, rfl⟩ := r1
  obtain ⟨t', rfl⟩ := r2
  exact iadd_int ⟨.int _, H, I.tok _, ⟨_, rfl⟩, q⟩
end
section
variable {X : Cx} {pos : Pos}
def tWhile (c : TT) (tb : TS) : TS := fun D σ H => ∃ W : Nat → St → Hp → Prop, (∃ m, W m σ H) ∧ ∀ m σ H, W m σ H →
  c σ H fun b H1 => if b = true then ∃ N : St → Hp → Prop, (∀ σ' H', N σ' H' → ∃ m', m' < m ∧ W m' σ' H') ∧ tb { D with nx := N, ct := N, bk := D.nx } σ H1 else D.nx σ H1
theorem ps_while {c : Expr} {body : List Stmt} {tc : TT} {tb : TS} (hp : PassesOwn (model X.prog X.w) X.A X.env X.xe) (hc : PT X c tc) (hb : PSs X body tb) : PS X (.While c body [] pos) (tWhile tc tb) := by
  intro pins s σ H D I h
  obtain ⟨W, ⟨m0, w0⟩, turn⟩ := h
  refine wpAny_While (codeAny_whileLoop (fun n s' => ∃ σ' H', Inv X pins σ' H' s' ∧ W n σ' H') ?_ m0 ⟨σ, H, I, w0⟩)
  rintro n s1 ⟨σ1, H1, I1, w1⟩
  refine wpAny_passesOwn hp (thn (hc pins s1 σ1 H1 _ I1 (turn n σ1 H1 w1)) fun b s2 ⟨H2, I2, q2⟩ => ?_)
  cases b with
  | true =>
    obtain ⟨N, hN, q2⟩ := q2
    rw [if_pos rfl]
    refine wpAny_passesOwn hp (thn (hb pins s2 σ1 H2 _ I2 q2) fun f s3 q3 => ?_)
    cases f with
    | next =>
      obtain ⟨σ3, H3, I3, n3⟩ := q3
      obtain ⟨m', hm, w3⟩ := hN σ3 H3 n3
      exact ⟨m', hm, σ3, H3, I3, w3⟩
    | cont =>
      obtain ⟨σ3, H3, I3, n3⟩ := q3
      obtain ⟨m', hm, w3⟩ := hN σ3 H3 n3
      exact ⟨m', hm, σ3, H3, I3, w3⟩
    | brk => exact q3
    | ret v => exact q3
  | false =>
    rw [if_neg Bool.false_ne_true]
    exact wpAny_execs_nil ⟨σ1, H2, I2, q2⟩
end
structure It where
  go : Nat → Hp → Prop
  yld : Nat → Hp → V → Hp → Prop
  stop : Nat → Hp → Prop
def FpOk (X : Cx) (pins : List (Addr × Obj)) (H : Hp) (b : Addr) : Prop :=
  H b = none ∧ b ≠ X.env.locals ∧ b ∉ X.fs ∧ (b ∈ X.ex ∨ X.s_0.heap.objs.size ≤ b) ∧ (∀ x c, X.env.cells.lookup x = some c → c ≠ b) ∧ ∀ p ∈ X.pn ++ pins, p.1 ≠ b
theorem Inv.fpOk {X : Cx} {pins : List (Addr × Obj)} {σ : St} {H H' : Hp} {s : Shared} {b : Addr} (I : Inv X pins σ H s) (hb : s.heap.objs.size ≤ b) (hn : H' b = none) : FpOk X pins H' b := by
  refine ⟨hn, Nat.ne_of_gt (Nat.lt_of_lt_of_le I.lt hb), I.nofs hb, .inr (Nat.le_trans I.sz hb), fun x c e z => ?_, fun p hp z => ?_⟩
  · obtain ⟨v, q⟩ := I.cell x c e
    exact absurd (Nat.lt_of_lt_of_le q.lt (by rw [z]; exact hb)) (Nat.lt_irrefl _)
  · exact absurd (Nat.lt_of_lt_of_le (Heap.lt_size (I.pin p hp).1) (by rw [z]; exact hb)) (Nat.lt_irrefl _)
structure Turn (P : Program) (w : World) (K : PySem.W.Frag) (tg : Expr) (J : It) (fp : List Addr) (it : Addr) (tn : Nat → Heap → Prop) : Prop where
  mem : it ∈ fp
  obj : ∀ i h, tn i h → ∀ b ∈ fp, ∃ o, h.get? b = some o ∧ ∀ v, o.data ≠ .cell v
  keep : ∀ i h h', tn i h → (∀ b ∈ fp, ∀ o, h.get? b = some o → h'.get? b = some o) → tn i h'
  item : ∀ (X : Cx), X.prog = P → X.w = w → X.K = K → X.calm = true → ∀ (i : Nat) (pins : List (Addr × Obj)) (s : Shared) (σ : St) (H : Hp) (E : Value → Shared → Prop), Inv X pins σ H s → (∀ b ∈ fp, FpOk X pins H b) → tn i s.heap → J.go i H →
    wpAny (model P w) X.A (pyNext (.ref it)) (fun r s1 => ∃ u, r = some u ∧
      wpAny (model P w) X.A (letOwnedTupleGo tg (.ref it) u) (fun _ s2 => ∃ x H', Inv X pins σ H' s2 ∧ RelV x u ∧ J.yld i H x H' ∧ tn (i + 1) s2.heap ∧ ∀ b ∈ fp, H' b = none) E s1) E s
  done : ∀ (X : Cx), X.prog = P → X.w = w → X.K = K → X.calm = true → ∀ (i : Nat) (pins : List (Addr × Obj)) (s : Shared) (σ : St) (H : Hp) (E : Value → Shared → Prop), Inv X pins σ H s → (∀ b ∈ fp, FpOk X pins H b) → tn i s.heap → J.stop i H →
    wpAny (model P w) X.A (pyNext (.ref it)) (fun r s1 => r = none ∧ Inv X pins σ H s1) E s
  self : ∀ (A : Around) (i : Nat) (s : Shared) (Q : Value → Shared → Prop) (E : Value → Shared → Prop), tn i s.heap → Q (.ref it) s → wpAny (model P w) A (pyIter (.ref it)) Q E s
abbrev TI := St → Hp → (It → Hp → Prop) → Prop
def PIE (X : Cx) (pins : List (Addr × Obj)) (σ : St) (tg : Expr) (R : It → Hp → Prop) (itv : Value) (s2 : Shared) : Prop :=
  ∃ (it : Addr) (fp : List Addr) (tn : Nat → Heap → Prop) (J : It) (H' : Hp), itv = .ref it ∧ Inv X pins σ H' s2 ∧ Turn X.prog X.w X.K tg J fp it tn ∧ tn 0 s2.heap ∧ (∀ b ∈ fp, FpOk X pins H' b) ∧ R J H'
def PI (X : Cx) (tg iter : Expr) (wi : TI) : Prop :=
  ∀ (pins : List (Addr × Obj)) (s : Shared) (σ : St) (H : Hp) (R : It → Hp → Prop), Inv X pins σ H s → wi σ H R →
    wpAny (model X.prog X.w) X.A (eval iter X.env) (fun v s1 => wpAny (model X.prog X.w) X.A (pyIter v) (PIE X pins σ tg R) X.xe s1) X.xe s
theorem go_of {M : Model} {A : Around} {E : Value → Shared → Prop} {s : Shared} {tg : Expr} {it : Addr} {u : Value} {o : Obj} {n : String} {vs : Array Value} {Q : Unit → Shared → Prop} (ho : s.heap.get? it = some o) (hc : o.cls = .type n) (hd : o.data = .fields vs)
    (hn : ["enumerate", "zip", "dict_itemiterator", "dict_reverseitemiterator", "odict_iterator", "itertools.zip_longest", "itertools.pairwise"].contains n = false) (hQ : Q () s) : wpAny M A (letOwnedTupleGo tg (.ref it) u) Q E s := by
  unfold letOwnedTupleGo
  cases tg <;> first
    | exact wpAny_pure hQ
    | (cases u <;> first
        | exact wpAny_pure hQ
        | (refine wpAny_bind (wpAny_load ho ?_)
           rw [hc, hd]
           show wpAny M A (if (["enumerate", "zip", "dict_itemiterator", "dict_reverseitemiterator", "odict_iterator", "itertools.zip_longest", "itertools.pairwise"].contains n && vs[0]? == some (rawInt _)) = true then _ else _) Q E s
           rw [if_neg (by intro h; rw [hn, Bool.false_and] at h; cases h)]
           exact wpAny_pure hQ))
def Itl (K : PySem.W.Frag) (a : Addr) : It :=
  ⟨fun i H => ∃ xs x, SqL K H a xs ∧ xs[i]? = some x, fun i H x H' => H' = H ∧ ∀ xs, SqL K H a xs → xs[i]? = some x, fun i H => ∃ xs, SqL K H a xs ∧ xs.length ≤ i⟩
def Itr (lo : Int) (n : Nat) : It := ⟨fun i _ => i < n, fun i H x H' => H' = H ∧ x = .int (lo + i), fun i _ => n ≤ i⟩
theorem turn_list {P : Program} {w : World} {K : PySem.W.Frag} {tg : Expr} (a it : Addr) : Turn P w K tg (Itl K a) [it] it (fun i h => h.IsListIter it a i) where
  mem := by simp
  obj := fun i h st b hb => by
    have e : b = it := by simpa using hb
    subst e
    obtain ⟨o, e, c, d⟩ := st
    exact ⟨o, e, fun v z => by rw [d] at z; cases z⟩
  keep := fun i h h' st k => st.at fun o e => k it (by simp) o e
  item := by
    intro X hP hw hK hc i pins s σ H E I hf st hg
    subst hP hw hK
    obtain ⟨xs, x, hq, hx⟩ := hg
    obtain ⟨its, rv, p, hz⟩ := I.list hq
    obtain ⟨u, hu, ru⟩ := rv.get hx
    obtain ⟨f0, f1, f2, f3, f4, f5⟩ := hf it (by simp)
    refine wpAny_pyNext_list_item st p.isList (x := u) (by simpa using hu) fun h' st' sb => ?_
    have I1 : Inv X pins σ H { s with heap := h' } := I.turned (t' := s.toks) (fun b o hb e => (sb.2 b hb).trans e) f0 f1 f3 f4 f5
    obtain ⟨o, e, c, d⟩ := id st'
    exact ⟨u, rfl, go_of (s := { s with heap := h' }) e c d (by decide) ⟨x, H, I1, ru, ⟨rfl, fun ys hy => by rw [I.list_inj hy hq]; exact hx⟩, st', fun b hb => (hf b hb).1⟩⟩
  done := by
    intro X hP hw hK hc i pins s σ H E I hf st hg
    subst hP hw hK
    obtain ⟨xs, hq, hx⟩ := hg
    obtain ⟨its, rv, p, hz⟩ := I.list hq
    obtain ⟨f0, f1, f2, f3, f4, f5⟩ := hf it (by simp)
    have hl := rv.length
    exact wpAny_pyNext_list_end (I.ok.hd hc) st p.isList (by simp; omega) fun h' eb => ⟨rfl, I.turned (t' := s.toks) (fun b o hb e => eb b o hb e) f0 f1 f3 f4 f5⟩
  self := fun _ _ _ _ _ st h => wpAny_pyIter_listiter st h
theorem turn_range {P : Program} {w : World} {K : PySem.W.Frag} {tg : Expr} (it : Addr) (lo : Int) (n : Nat) : Turn P w K tg (Itr lo n) [it] it (fun i h => IsRangeIter h it (lo + (i : Nat) * 1) ((n : Int) - (i : Nat)) 1) where
  mem := by simp
  obj := fun i h st b hb => by
    have e : b = it := by simpa using hb
    subst e
    exact ⟨_, st, fun v z => by
      have z' : Data.fields _ = Data.cell v := z
      cases z'⟩
  keep := fun i h h' st k => k it (by simp) _ st
  item := by
    intro X hP hw hK hc i pins s σ H E I hf st hg
    subst hP hw hK
    obtain ⟨f0, f1, f2, f3, f4, f5⟩ := hf it (by simp)
    have W := Walks.range (prog := X.prog) (w := X.w) (I.ok.hd hc) it lo 1 n
    refine W.item i s _ _ hg st fun v h' tk hv st' kk => ?_
    obtain ⟨t, rfl⟩ := hv
    have I1 : Inv X pins σ H { s with heap := h', toks := tk } := I.turned (fun b o hb e => kk b o (by simpa using hb) e) f0 f1 f3 f4 f5
    refine ⟨_, rfl, go_of (s := { s with heap := h', toks := tk }) (n := "range_iterator") st' rfl rfl (by decide) ⟨.int (lo + i), H, I1, ⟨t, ?_⟩, ⟨rfl, rfl⟩, st', fun b hb => (hf b hb).1⟩⟩
    rw [Int.mul_one]
  done := by
    intro X hP hw hK hc i pins s σ H E I hf st hg
    subst hP hw hK
    obtain ⟨f0, f1, f2, f3, f4, f5⟩ := hf it (by simp)
    exact wpAny_pyNext_range_end (I.ok.hd hc) st (by have : n ≤ i := hg; omega) fun h' eb => ⟨rfl, I.turned (t' := s.toks) (fun b o hb e => eb b o hb e) f0 f1 f3 f4 f5⟩
  self := fun _ _ _ _ _ st h => wpAny_pyIter_rangeiter st h
end L2
namespace L2
open PySem PySem.Spec PyProof.Rows
section
variable {X : Cx} {tg : Expr}
def iList (K : PySem.W.Frag) (tl : TE) : TI := fun σ H R => tl σ H fun x H1 => ∃ a, x = .ref a ∧ (∃ xs, SqL K H1 a xs) ∧ R (Itl K a) H1
theorem pi_list {l : Expr} {tl : TE} (hl : PE X l tl) : PI X tg l (iList X.K tl) := by
  intro pins s σ H R I h
  refine thn (hl pins s σ H _ I h) fun v s1 ⟨x, H1, I1, r1, q1⟩ => ?_
  obtain ⟨a, e, ⟨xs, hq⟩, q⟩ := q1
  subst e
  cases r1
  obtain ⟨its, rv, p, hz⟩ := I1.list hq
  refine wpAny_pyIter_list p.isList ?_
  refine ⟨s1.heap.objs.size, [s1.heap.objs.size], _, _, H1, rfl, I1.kept (t' := s1.toks) fun b o e => Heap.get?_push_of_some _ e, turn_list a _, ⟨_, Heap.get?_push_size _ rfl, rfl, rfl⟩, fun b hb => ?_, q⟩
  have e : b = s1.heap.objs.size := by simpa using hb
  subst e
  exact I1.fpOk (Nat.le_refl _) (I1.hok.fresh (Nat.le_refl _))
theorem range_it {pins : List (Addr × Obj)} {σ : St} {H : Hp} {s : Shared} {R : It → Hp → Prop} {E : Value → Shared → Prop} {lo hi : Int} {t u v : Tok} {tk : Nat} (I : Inv X pins σ H s) (h1 : -(2 ^ 62) ≤ lo) (h2 : lo < 2 ^ 62) (h3 : -(2 ^ 62) ≤ hi) (h4 : hi < 2 ^ 62)
    (q : R (Itr lo (hi - lo).toNat) H) : wpAny (model X.prog X.w) X.A (pyIter (.ref s.heap.objs.size)) (PIE X pins σ tg R) E { s with heap := s.heap.push { cls := .type "range", data := .fields #[.int lo t, .int hi u, .int 1 v] }, toks := tk } := by
  refine wpAny_pyIter_range (IsRange.new ..) (small_one h1 h2 h3 h4) ?_
  have I1 : Inv X pins σ H { s with heap := s.heap.push { cls := .type "range", data := .fields #[.int lo t, .int hi u, .int 1 v] }, toks := tk } := I.kept fun b o e => Heap.get?_push_of_some _ e
  refine ⟨(s.heap.push { cls := .type "range", data := .fields #[.int lo t, .int hi u, .int 1 v] }).objs.size, [(s.heap.push { cls := .type "range", data := .fields #[.int lo t, .int hi u, .int 1 v] }).objs.size], _, _, H, rfl,
    I1.kept (t' := tk) fun b o e => Heap.get?_push_of_some _ e, turn_range _ lo (hi - lo).toNat, ?_, fun b hb => ?_, q⟩
  · have e1 : lo + ((0 : Nat) : Int) * 1 = lo := by simp
    have e2 : (((hi - lo).toNat : Nat) : Int) - ((0 : Nat) : Int) = Builtin.Range.rangeSize lo hi 1 := by rw [rangeSize_one]; split <;> omega
    show IsRangeIter _ _ (lo + ((0 : Nat) : Int) * 1) ((((hi - lo).toNat : Nat) : Int) - ((0 : Nat) : Int)) 1
    rw [e1, e2]
    exact Heap.get?_push_size _ rfl
  · have e : b = (s.heap.push { cls := .type "range", data := .fields #[.int lo t, .int hi u, .int 1 v] }).objs.size := by simpa using hb
    subst e
    exact I1.fpOk (Nat.le_refl _) (I1.hok.fresh (Nat.le_refl _))
def iRng1 (ta : TA) : TI := fun σ H R => ta σ H fun vs H1 => ∃ j : Int, vs = [.int j] ∧ -(2 ^ 62) ≤ j ∧ j < 2 ^ 62 ∧ R (Itr 0 j.toNat) H1
def iRng2 (ta : TA) : TI := fun σ H R => ta σ H fun vs H1 => ∃ i j : Int, vs = [.int i, .int j] ∧ (-(2 ^ 62) ≤ i ∧ i < 2 ^ 62 ∧ -(2 ^ 62) ≤ j ∧ j < 2 ^ 62) ∧ R (Itr i (j - i).toNat) H1
theorem pi_range1 {a : Expr} {ta : TA} {p pos : Pos} (hg : Gl X "range") (hm : X.mg "range" = none) (ha : PA X [a] ta) (hs : starEach [a] X.env = [(false, eval a X.env)] := by rfl) : PI X tg (.Call (.Name "range" p) [a] [] pos) (iRng1 ta) := by
  intro pins s σ H R I h
  refine Call_ (ld_blt I hg hm boot_range (PyProof.Rows.callWith_type1 (thn (ha pos pins s σ H _ I h) fun us s1 ⟨vs, H1, I1, r1, q1⟩ => ?_) hs rfl))
  obtain ⟨j, e, q1, q2, q⟩ := q1
  subst e
  cases r1 with
  | cons r rr =>
    cases rr
    obtain ⟨t, rfl⟩ := r
    exact call_range_1 (range_it I1 (by omega) (by omega) q1 q2 (by simpa using q))
theorem pi_range2 {a b : Expr} {ta : TA} {p pos : Pos} (hg : Gl X "range") (hm : X.mg "range" = none) (ha : PA X [a, b] ta) (hs : starEach [a, b] X.env = [(false, eval a X.env), (false, eval b X.env)] := by rfl) (hs2 : starEach [b] X.env = [(false, eval b X.env)] := by rfl) :
    PI X tg (.Call (.Name "range" p) [a, b] [] pos) (iRng2 ta) := by
  intro pins s σ H R I h
  refine Call_ (ld_blt I hg hm boot_range (PyProof.Rows.callWith_type1 (thn (ha pos pins s σ H _ I h) fun us s1 ⟨vs, H1, I1, r1, q1⟩ => ?_) (by rw [hs, hs2]) (by rw [hs2]; rfl)))
  obtain ⟨i, j, e, ⟨q1, q2, q3, q4⟩, q⟩ := q1
  subst e
  cases r1 with
  | cons r rr =>
    cases rr with
    | cons r' rr =>
      cases rr
      obtain ⟨t, rfl⟩ := r
      obtain ⟨t', rfl⟩ := r'
      exact call_range_2 (range_it I1 q1 q2 q3 q4 q)
def tFor (wi : TI) (g : TG) (tb : TS) : TS := fun D σ H => wi σ H fun J H1 => ∃ W : Nat → Nat → St → Hp → Prop, (∃ m, W 0 m σ H1) ∧ ∀ i m σ H, W i m σ H →
  (J.stop i H ∧ D.nx σ H) ∨ (J.go i H ∧ ∃ N : St → Hp → Prop, (∀ σ' H', N σ' H' → ∃ m', m' < m ∧ W (i + 1) m' σ' H') ∧ ∀ x H', J.yld i H x H' → g x σ H' fun σ2 H2 => tb { D with nx := N, ct := N, bk := D.nx } σ2 H2)
def pinsAt (fp : List Addr) (h : Heap) : List (Addr × Obj) := fp.filterMap fun b => (h.get? b).map fun o => (b, o)
theorem mem_pinsAt {fp : List Addr} {h : Heap} {b : Addr} {o : Obj} (hb : b ∈ fp) (e : h.get? b = some o) : (b, o) ∈ pinsAt fp h := List.mem_filterMap.mpr ⟨b, hb, by rw [e]; rfl⟩
theorem of_pinsAt {fp : List Addr} {h : Heap} {p : Addr × Obj} (hp : p ∈ pinsAt fp h) : p.1 ∈ fp ∧ h.get? p.1 = some p.2 := by
  obtain ⟨b, hb, e⟩ := List.mem_filterMap.mp hp
  cases q : h.get? b with
  | none => rw [q] at e; cases e
  | some o =>
    rw [q] at e
    have e' : (b, o) = p := Option.some.inj e
    subst e'
    exact ⟨hb, q⟩
theorem Inv.pinned {pins : List (Addr × Obj)} {σ : St} {H : Hp} {s : Shared} {fp : List Addr} (I : Inv X pins σ H s) (hf : ∀ b ∈ fp, FpOk X pins H b) (ho : ∀ b ∈ fp, ∃ o, s.heap.get? b = some o ∧ ∀ v, o.data ≠ .cell v) : Inv X (pins ++ pinsAt fp s.heap) σ H s :=
  I.pins_of fun p hp => (List.mem_append.mp hp).elim (fun z => I.pin p (List.mem_append_right _ z)) fun z => by
    obtain ⟨hb, e⟩ := of_pinsAt z
    obtain ⟨f0, f1, f2, _⟩ := hf p.1 hb
    obtain ⟨o, e', d⟩ := ho p.1 hb
    rw [e] at e'; cases e'
    exact ⟨e, f0, f1, f2, d⟩
theorem Inv.unpinned {pins pl : List (Addr × Obj)} {σ : St} {H : Hp} {s : Shared} (I : Inv X (pins ++ pl) σ H s) : Inv X pins σ H s := I.pins_of fun p hp => I.pin p (List.mem_append_right _ (List.mem_append_left _ hp))
theorem ps_for {iter : Expr} {body : List Stmt} {wi : TI} {g : TG} {tb : TS} {pos : Pos} (hp : PassesOwn (model X.prog X.w) X.A X.env X.xe) (hc : X.calm = true) (hi : PI X tg iter wi) (hg : PG X tg g) (hb : PSs X body tb)
    (hs : ∀ x, foldedSetIterable iter X.env x = pure x := by intro _; rfl) : PS X (.For tg iter body [] pos) (tFor wi g tb) := by
  intro pins s σ H D I h
  refine wpAny_For (thn (hi pins s σ H _ I h) fun v s1 h1 => thn h1 fun itv s2 h2 => ?_) hs
  obtain ⟨it, fp, tn, J, H2, e, I2, T, st2, f2, W, ⟨m0, w0⟩, turn⟩ := h2
  subst e
  -- what stays true of the iterator's objects through the loop
  have stat : ∀ {H' : Hp}, (∀ b ∈ fp, H' b = none) → ∀ b ∈ fp, FpOk X pins H' b := fun hn b hb => ⟨hn b hb, (f2 b hb).2⟩
  refine codeAny_forLoop_any (fun n s' => ∃ i σ' H', Inv X pins σ' H' s' ∧ tn i s'.heap ∧ (∀ b ∈ fp, H' b = none) ∧ W i n σ' H') ?_ m0 ⟨0, σ, H2, I2, st2, fun b hb => (f2 b hb).1, w0⟩
  rintro n s3 ⟨i, σ3, H3, I3, st3, fr3, w3⟩
  rcases turn i n σ3 H3 w3 with ⟨stop, qn⟩ | ⟨go, N, hN, step⟩
  · refine wpAny_passesOwn hp (thn (T.done X rfl rfl rfl hc i pins s3 σ3 H3 X.xe I3 (stat fr3) st3 stop) fun r s4 ⟨hr, I4⟩ => ?_)
    subst hr
    exact wpAny_execs_nil ⟨σ3, H3, I4, qn⟩
  · refine wpAny_passesOwn hp (thn (T.item X rfl rfl rfl hc i pins s3 σ3 H3 X.xe I3 (stat fr3) st3 go) fun r s4 ⟨u, hr, h4⟩ => ?_)
    subst hr
    refine wpAny_passesOwn hp (thn h4 fun _ s5 ⟨x, H5, I5, r5, y5, st5, fr5⟩ => ?_)
    have I5' := I5.pinned (stat fr5) (T.obj _ _ st5)
    refine wpAny_passesOwn hp (thn (hg _ s5 σ3 H5 x u _ I5' r5 (step x H5 y5)) fun _ s6 ⟨σ6, H6, I6, q6⟩ => ?_)
    refine wpAny_passesOwn hp (thn (hb _ s6 σ6 H6 _ I6 q6) fun f s7 q7 => ?_)
    have again : ∀ {σ7 : St} {H7 : Hp}, Inv X (pins ++ pinsAt fp s5.heap) σ7 H7 s7 → N σ7 H7 → ∃ m, m < n ∧ ∃ i σ' H', Inv X pins σ' H' s7 ∧ tn i s7.heap ∧ (∀ b ∈ fp, H' b = none) ∧ W i m σ' H' := fun {σ7 H7} I7 n7 => by
      obtain ⟨m', hm, w7⟩ := hN σ7 H7 n7
      refine ⟨m', hm, i + 1, σ7, H7, I7.unpinned, T.keep _ _ _ st5 fun b hb o e => (I7.pin (b, o) (List.mem_append_right _ (List.mem_append_right _ (mem_pinsAt hb e)))).1, fun b hb => ?_, w7⟩
      obtain ⟨o, e, d⟩ := T.obj _ _ st5 b hb
      exact (I7.pin (b, o) (List.mem_append_right _ (List.mem_append_right _ (mem_pinsAt hb e)))).2.1
    cases f with
    | next => obtain ⟨σ7, H7, I7, n7⟩ := q7; exact again I7 n7
    | cont => obtain ⟨σ7, H7, I7, n7⟩ := q7; exact again I7 n7
    | brk => obtain ⟨σ7, H7, I7, q7⟩ := q7; exact ⟨σ7, H7, I7.unpinned, q7⟩
    | ret v => obtain ⟨x7, σ7, H7, I7, r7, q7⟩ := q7; exact ⟨x7, σ7, H7, I7.unpinned, r7, q7⟩
end
theorem for_list {K : PySem.W.Frag} {a : Addr} {xs : List V} {g : TG} {tb : TS} {D : Ends} {σ : St} {H : Hp} (Pv : Nat → St → Hp → Prop) (h0 : Pv 0 σ H) (hl : ∀ i σ H, i ≤ xs.length → Pv i σ H → SqL K H a xs)
    (hs : ∀ i x σ H, xs[i]? = some x → Pv i σ H → g x σ H fun σ2 H2 => tb { D with nx := Pv (i + 1), ct := Pv (i + 1), bk := D.nx } σ2 H2) (hd : ∀ σ H, Pv xs.length σ H → D.nx σ H) :
    ∃ W : Nat → Nat → St → Hp → Prop, (∃ m, W 0 m σ H) ∧ ∀ i m σ H, W i m σ H →
      ((Itl K a).stop i H ∧ D.nx σ H) ∨ ((Itl K a).go i H ∧ ∃ N : St → Hp → Prop, (∀ σ' H', N σ' H' → ∃ m', m' < m ∧ W (i + 1) m' σ' H') ∧ ∀ x H', (Itl K a).yld i H x H' → g x σ H' fun σ2 H2 => tb { D with nx := N, ct := N, bk := D.nx } σ2 H2) := by
  refine ⟨fun i m σ H => m = xs.length - i ∧ i ≤ xs.length ∧ Pv i σ H, ⟨xs.length, by simp, Nat.zero_le _, h0⟩, ?_⟩
  rintro i m σ H ⟨rfl, hi, p⟩
  have q := hl i σ H hi p
  by_cases hlt : i < xs.length
  · refine .inr ⟨⟨xs, xs[i], q, by simp [hlt]⟩, Pv (i + 1), fun σ' H' p' => ⟨xs.length - (i + 1), by omega, rfl, hlt, p'⟩, fun x H' y => ?_⟩
    obtain ⟨e, y⟩ := y
    subst e
    exact hs i x σ _ (y xs q) p
  · have e : i = xs.length := by omega
    subst e
    exact .inl ⟨⟨xs, q, Nat.le_refl _⟩, hd σ H p⟩
theorem for_range {lo : Int} {n : Nat} {g : TG} {tb : TS} {D : Ends} {σ : St} {H : Hp} (Pv : Nat → St → Hp → Prop) (h0 : Pv 0 σ H)
    (hs : ∀ i σ H, i < n → Pv i σ H → g (.int (lo + i)) σ H fun σ2 H2 => tb { D with nx := Pv (i + 1), ct := Pv (i + 1), bk := D.nx } σ2 H2) (hd : ∀ σ H, Pv n σ H → D.nx σ H) :
    ∃ W : Nat → Nat → St → Hp → Prop, (∃ m, W 0 m σ H) ∧ ∀ i m σ H, W i m σ H →
      ((Itr lo n).stop i H ∧ D.nx σ H) ∨ ((Itr lo n).go i H ∧ ∃ N : St → Hp → Prop, (∀ σ' H', N σ' H' → ∃ m', m' < m ∧ W (i + 1) m' σ' H') ∧ ∀ x H', (Itr lo n).yld i H x H' → g x σ H' fun σ2 H2 => tb { D with nx := N, ct := N, bk := D.nx } σ2 H2) := by
  refine ⟨fun i m σ H => m = n - i ∧ i ≤ n ∧ Pv i σ H, ⟨n, by simp, Nat.zero_le _, h0⟩, ?_⟩
  rintro i m σ H ⟨rfl, hi, p⟩
  by_cases hlt : i < n
  · refine .inr ⟨hlt, Pv (i + 1), fun σ' H' p' => ⟨n - (i + 1), by omega, rfl, hlt, p'⟩, fun x H' y => ?_⟩
    obtain ⟨e, y⟩ := y
    subst e y
    exact hs i σ _ hlt p
  · have e : i = n := by omega
    subst e
    exact .inl ⟨Nat.le_refl _, hd σ H p⟩
theorem while_by {c : TT} {tb : TS} {D : Ends} {σ : St} {H : Hp} (Pv : St → Hp → Prop) (μ : St → Hp → Nat) (h0 : Pv σ H)
    (hs : ∀ σ H, Pv σ H → c σ H fun b H1 => if b = true then tb { D with nx := fun σ' H' => Pv σ' H' ∧ μ σ' H' < μ σ H, ct := fun σ' H' => Pv σ' H' ∧ μ σ' H' < μ σ H, bk := D.nx } σ H1 else D.nx σ H1)
    (mono : ∀ σ H Q Q', (∀ b H1, Q b H1 → Q' b H1) → c σ H Q → c σ H Q') : tWhile c tb D σ H := by
  refine ⟨fun m σ H => m = μ σ H ∧ Pv σ H, ⟨_, rfl, h0⟩, ?_⟩
  rintro m σ H ⟨rfl, p⟩
  refine mono σ H _ _ (fun b H1 q => ?_) (hs σ H p)
  cases b with
  | true => exact ⟨_, fun σ' H' ⟨p', l⟩ => ⟨_, l, rfl, p'⟩, q⟩
  | false => exact q
end L2
namespace L2
open PySem PySem.Spec PyProof.Rows
abbrev R2 := V → V → Hp → VK → Prop
def OpR (X : Cx) (f : Value → Value → Sem Value) (r : R2) : Prop :=
  ∀ (pins : List (Addr × Obj)) (s : Shared) (σ : St) (H : Hp) (x y : V) (v u : Value) (Q : VK), Inv X pins σ H s → RelV x v → RelV y u → r x y H Q →
    wpAny (model X.prog X.w) X.A (f v u) (EP X pins σ Q) X.xe s
def CallR (X : Cx) (f : Value) (r : List V → Hp → VK → Prop) : Prop :=
  ∀ (pins : List (Addr × Obj)) (s : Shared) (σ : St) (H : Hp) (xs : List V) (us : List Value) (Q : VK), Inv X pins σ H s → Vals xs us → r xs H Q →
    wpAny (model X.prog X.w) X.A (call f us) (EP X pins σ Q) X.xe s
def tOp (r : R2) (ta tb : TE) : TE := fun σ H Q => ta σ H fun x H1 => tb σ H1 fun y H2 => r x y H2 Q
def rI (C : Int → Int → Prop) (g : Int → Int → V) : R2 := fun x y H Q => ∃ i j, x = .int i ∧ y = .int j ∧ C i j ∧ Q (g i j) H
def rI0 (g : Int → Int → V) : R2 := fun x y H Q => ∃ i j, x = .int i ∧ y = .int j ∧ Q (g i j) H
section
variable {X : Cx} {a b c : Expr} {ta tb tc : TE} {pos : Pos}
theorem binT (ha : PE X a ta) (hb : PE X b tb) {pins : List (Addr × Obj)} {s : Shared} {σ : St} {H : Hp} {R : V → V → Hp → Prop} (I : Inv X pins σ H s)
    (h : ta σ H fun x H1 => tb σ H1 fun y H2 => R x y H2) {Q : Value → Shared → Prop} {f : Value → Value → Sem Value}
    (hf : ∀ v u s2 x y H2, Inv X pins σ H2 s2 → RelV x v → RelV y u → R x y H2 → wpAny (model X.prog X.w) X.A (f v u) Q X.xe s2) :
    wpAny (model X.prog X.w) X.A (eval a X.env) (fun v s₁ => wpAny (model X.prog X.w) X.A (eval b X.env) (fun u s₂ => wpAny (model X.prog X.w) X.A (f v u) Q X.xe s₂) X.xe s₁) X.xe s := by
  refine thn (ha pins s σ H _ I h) fun v s1 ⟨x, H1, I1, r1, q1⟩ => ?_
  refine thn (hb pins s1 σ H1 _ I1 q1) fun u s2 ⟨y, H2, I2, r2, q2⟩ => ?_
  exact hf v u s2 x y H2 I2 r1 r2 q2
theorem pe_op {op : Operator} {r : R2} (ho : OpR X (binaryOp op) r) (ha : PE X a ta) (hb : PE X b tb) : PE X (.BinOp a op b pos) (tOp r ta tb) := by
  intro pins s σ H Q I h
  exact wpAny_BinOp (binT ha hb I h fun v u s2 x y H2 I2 rx ry q => ho pins s2 σ H2 x y v u Q I2 rx ry q)
theorem opI {f : Value → Value → Sem Value} {C : Int → Int → Prop} {g : Int → Int → Int}
    (rule : ∀ (i j : Int) (t u : Tok) (s : Shared) (Q : Value → Shared → Prop) (E : Value → Shared → Prop), C i j → Q (.int (g i j) s.toks) { s with toks := s.toks + 1 } → wpAny (model X.prog X.w) X.A (f (.int i t) (.int j u)) Q E s) :
    OpR X f (rI C fun i j => .int (g i j)) := by
  intro pins s σ H x y v u Q I rx ry h
  obtain ⟨i, j, rfl, rfl, hc, q⟩ := h
  obtain ⟨t, rfl⟩ := rx
  obtain ⟨t', rfl⟩ := ry
  exact rule i j t t' s _ _ hc ⟨.int (g i j), H, I.tok _, ⟨_, rfl⟩, q⟩
theorem opI0 {f : Value → Value → Sem Value} {g : Int → Int → Int}
    (rule : ∀ (i j : Int) (t u : Tok) (s : Shared) (Q : Value → Shared → Prop) (E : Value → Shared → Prop), Q (.int (g i j) s.toks) { s with toks := s.toks + 1 } → wpAny (model X.prog X.w) X.A (f (.int i t) (.int j u)) Q E s) :
    OpR X f (rI0 fun i j => .int (g i j)) := by
  intro pins s σ H x y v u Q I rx ry h
  obtain ⟨i, j, rfl, rfl, q⟩ := h
  obtain ⟨t, rfl⟩ := rx
  obtain ⟨t', rfl⟩ := ry
  exact rule i j t t' s _ _ ⟨.int (g i j), H, I.tok _, ⟨_, rfl⟩, q⟩
theorem opB0 {f : Value → Value → Sem Value} {g : Int → Int → Bool}
    (rule : ∀ (i j : Int) (t u : Tok) (s : Shared) (Q : Value → Shared → Prop) (E : Value → Shared → Prop), Q (.bool (g i j)) s → wpAny (model X.prog X.w) X.A (f (.int i t) (.int j u)) Q E s) :
    OpR X f (rI0 fun i j => .bl (g i j)) := by
  intro pins s σ H x y v u Q I rx ry h
  obtain ⟨i, j, rfl, rfl, q⟩ := h
  obtain ⟨t, rfl⟩ := rx
  obtain ⟨t', rfl⟩ := ry
  exact rule i j t t' s _ _ ⟨.bl (g i j), H, I, rfl, q⟩
def CPow (i j : Int) : Prop := 0 ≤ j ∧ j ≤ 1000000 ∧ i.natAbs < 2 ^ 64
def CMul (i j : Int) : Prop := (-(2 ^ 64) < i ∧ i < 2 ^ 64) ∨ (-(2 ^ 64) < j ∧ j < 2 ^ 64)
theorem CMul.ok {i j : Int} (h : CMul i j) : IntMulOk i j := by
  rcases h with ⟨h1, h2⟩ | ⟨h1, h2⟩
  · exact .of_left (intBits_le_64 h1 h2)
  · exact .of_right (intBits_le_64 h1 h2)
theorem op_add : OpR X (binaryOp .Add) (rI0 fun i j => .int (i + j)) := opI0 fun _ _ _ _ _ _ _ q => add_int q
theorem op_sub : OpR X (binaryOp .Sub) (rI0 fun i j => .int (i - j)) := opI0 fun _ _ _ _ _ _ _ q => sub_int q
theorem op_mul : OpR X (binaryOp .Mult) (rI CMul fun i j => .int (i * j)) := opI fun _ _ _ _ _ _ _ hc q => mul_int q hc.ok
theorem op_shl : OpR X (binaryOp .LShift) (rI CPow fun i j => .int (i * 2 ^ j.toNat)) := opI fun _ _ _ _ _ _ _ hc q => lshift_int_small hc.1 hc.2.1 hc.2.2 q
theorem op_and : OpR X (binaryOp .BitAnd) (rI0 fun i j => .int (Builtin.bitAnd i j)) := opI0 fun _ _ _ _ _ _ _ q => and_int q
end
def scal : V → V → Bool
  | .non, .non => true | .non, .int _ => true | .int _, .non => true | .non, .bl _ => true | .bl _, .non => true | .non, .str _ => true | .str _, .non => true
  | .int _, .int _ => true | .bl _, .bl _ => true | .str _, .str _ => true | .byt _, .byt _ => true
  | .int _, .str _ => true | .str _, .int _ => true | .bl _, .str _ => true | .str _, .bl _ => true
  | _, _ => false
def rEq : R2 := fun x y H Q => scal x y = true ∧ Q (.bl (decide (x = y))) H
def rNe : R2 := fun x y H Q => scal x y = true ∧ Q (.bl (!decide (x = y))) H
theorem dec_int {i j : Int} : decide (V.int i = V.int j) = (i == j) := by
  rw [Bool.eq_iff_iff]
  simp
theorem dec_bl {i j : Bool} : decide (V.bl i = V.bl j) = (i == j) := by
  rw [Bool.eq_iff_iff]
  simp
theorem dec_str {i j : Str} : decide (V.str i = V.str j) = (i == j) := by
  rw [Bool.eq_iff_iff]
  simp
theorem dec_byt {i j : Array UInt8} : decide (V.byt i = V.byt j) = (i.toList == j.toList) := by
  rw [Bool.eq_iff_iff]
  cases i
  cases j
  simp
section
variable {X : Cx} {a b c : Expr} {ta tb tc : TE} {pos : Pos}
theorem fin_bl {pins : List (Addr × Obj)} {σ : St} {H : Hp} {s : Shared} {Q : VK} {k k' : Bool} (I : Inv X pins σ H s) (q : Q (.bl k) H) (e : k = k') : EP X pins σ Q (.bool k') s := by
  subst e
  exact ⟨.bl k, H, I, rfl, q⟩
theorem op_eq : OpR X (compareOp .Eq) rEq := by
  intro pins s σ H x y v u Q I rx ry h
  obtain ⟨hs, q⟩ := h
  cases x with
  | non =>
    cases rx
    cases y with
    | non => cases ry; exact PySem.EqNone.eq_none_none (fin_bl I q (by simp))
    | bl j => cases ry; exact PySem.EqNone.eq_none_bool (fin_bl I q (by simp))
    | int j => obtain ⟨t', rfl⟩ := ry; exact PySem.EqNone.eq_none_int (fin_bl I q (by simp))
    | str j => obtain ⟨t', rfl⟩ := ry; exact PySem.EqNone.eq_none_str (fin_bl I q (by simp))
    | _ => exact absurd (show false = true from hs) Bool.false_ne_true
  | bl i =>
    cases rx
    cases y with
    | non => cases ry; exact PySem.EqNone.eq_bool_none (fin_bl I q (by simp))
    | bl j => cases ry; exact eq_bool (fin_bl I q dec_bl)
    | str j => obtain ⟨t', rfl⟩ := ry; exact PySem.EqMixed.eq_bool_str (fin_bl I q (by simp))
    | _ => exact absurd (show false = true from hs) Bool.false_ne_true
  | int i =>
    obtain ⟨t, rfl⟩ := rx
    cases y with
    | non => cases ry; exact PySem.EqNone.eq_int_none (fin_bl I q (by simp))
    | int j => obtain ⟨t', rfl⟩ := ry; exact eq_int (fin_bl I q dec_int)
    | str j => obtain ⟨t', rfl⟩ := ry; exact PySem.EqMixed.eq_int_str (fin_bl I q (by simp))
    | _ => exact absurd (show false = true from hs) Bool.false_ne_true
  | str i =>
    obtain ⟨t, rfl⟩ := rx
    cases y with
    | non => cases ry; exact PySem.EqNone.eq_str_none (fin_bl I q (by simp))
    | bl j => cases ry; exact PySem.EqMixed.eq_str_bool (fin_bl I q (by simp))
    | int j => obtain ⟨t', rfl⟩ := ry; exact PySem.EqMixed.eq_str_int (fin_bl I q (by simp))
    | str j => obtain ⟨t', rfl⟩ := ry; exact eq_str (fin_bl I q dec_str)
    | _ => exact absurd (show false = true from hs) Bool.false_ne_true
  | byt i =>
    obtain ⟨t, rfl⟩ := rx
    cases y with
    | byt j => obtain ⟨t', rfl⟩ := ry; exact PySem.W.eq_bytes (fin_bl I q dec_byt)
    | _ => exact absurd (show false = true from hs) Bool.false_ne_true
  | _ => cases y <;> exact absurd (show false = true from hs) Bool.false_ne_true
theorem op_ne : OpR X (compareOp .NotEq) rNe := by
  intro pins s σ H x y v u Q I rx ry h
  obtain ⟨hs, q⟩ := h
  cases x with
  | non =>
    cases rx
    cases y with
    | non => cases ry; exact PySem.EqNone.ne_none_none (fin_bl I q (by simp))
    | bl j => cases ry; exact PySem.EqNone.ne_none_bool (fin_bl I q (by simp))
    | int j => obtain ⟨t', rfl⟩ := ry; exact PySem.EqNone.ne_none_int (fin_bl I q (by simp))
    | str j => obtain ⟨t', rfl⟩ := ry; exact PySem.EqNone.ne_none_str (fin_bl I q (by simp))
    | _ => exact absurd (show false = true from hs) Bool.false_ne_true
  | bl i =>
    cases rx
    cases y with
    | non => cases ry; exact PySem.EqNone.ne_bool_none (fin_bl I q (by simp))
    | bl j => cases ry; exact ne_bool (fin_bl I q (congrArg not dec_bl))
    | str j => obtain ⟨t', rfl⟩ := ry; exact PySem.EqMixed.ne_bool_str (fin_bl I q (by simp))
    | _ => exact absurd (show false = true from hs) Bool.false_ne_true
  | int i =>
    obtain ⟨t, rfl⟩ := rx
    cases y with
    | non => cases ry; exact PySem.EqNone.ne_int_none (fin_bl I q (by simp))
    | int j => obtain ⟨t', rfl⟩ := ry; exact ne_int (fin_bl I q (congrArg not dec_int))
    | str j => obtain ⟨t', rfl⟩ := ry; exact PySem.EqMixed.ne_int_str (fin_bl I q (by simp))
    | _ => exact absurd (show false = true from hs) Bool.false_ne_true
  | str i =>
    obtain ⟨t, rfl⟩ := rx
    cases y with
    | non => cases ry; exact PySem.EqNone.ne_str_none (fin_bl I q (by simp))
    | bl j => cases ry; exact PySem.EqMixed.ne_str_bool (fin_bl I q (by simp))
    | int j => obtain ⟨t', rfl⟩ := ry; exact PySem.EqMixed.ne_str_int (fin_bl I q (by simp))
    | str j => obtain ⟨t', rfl⟩ := ry; exact ne_str (fin_bl I q (congrArg not dec_str))
    | _ => exact absurd (show false = true from hs) Bool.false_ne_true
  | byt i =>
    obtain ⟨t, rfl⟩ := rx
    cases y with
    | byt j => obtain ⟨t', rfl⟩ := ry; exact PySem.W.ne_bytes (fin_bl I q (congrArg not dec_byt))
    | _ => exact absurd (show false = true from hs) Bool.false_ne_true
  | _ => cases y <;> exact absurd (show false = true from hs) Bool.false_ne_true
theorem op_lt : OpR X (compareOp .Lt) (rI0 fun i j => .bl (decide (i < j))) := opB0 fun _ _ _ _ _ _ _ q => lt_int q
theorem op_le : OpR X (compareOp .LtE) (rI0 fun i j => .bl (decide (i ≤ j))) := opB0 fun _ _ _ _ _ _ _ q => le_int q
theorem op_gt : OpR X (compareOp .Gt) (rI0 fun i j => .bl (decide (j < i))) := opB0 fun _ _ _ _ _ _ _ q => gt_int q
theorem op_ge : OpR X (compareOp .GtE) (rI0 fun i j => .bl (decide (j ≤ i))) := opB0 fun _ _ _ _ _ _ _ q => ge_int q
theorem nomark (b : Expr) {op : CmpOp} (h : op ≠ .In := by decide) (h2 : op ≠ .NotIn := by decide) : behindInMarks op b = false := by
  have e1 : (op == CmpOp.In) = false := by cases op <;> first | rfl | exact absurd rfl h
  have e2 : (op == CmpOp.NotIn) = false := by cases op <;> first | rfl | exact absurd rfl h2
  cases b <;> simp [behindInMarks, e1, e2]
theorem pe_cmpR {op : CmpOp} {r : R2} (ho : OpR X (compareOp op) r) (ha : PE X a ta) (hb : PE X b tb) (hm : behindInMarks op b = false) : PE X (.Compare a [op] [b] pos) (tOp r ta tb) := by
  intro pins s σ H Q I h
  exact wpAny_Compare1 (binT ha hb I h fun v u s2 x y H2 I2 rx ry q => ho pins s2 σ H2 x y v u Q I2 rx ry q) hm
def tTest (t : TE) : TT := fun σ H Q => t σ H fun x H' => ∃ k, x = .bl k ∧ Q k H'
theorem pt_cmpR {op : CmpOp} {r : R2} (ho : OpR X (compareOp op) r) (ha : PE X a ta) (hb : PE X b tb) (hm : behindInMarks op b = false) : PT X (.Compare a [op] [b] pos) (tTest (tOp r ta tb)) := by
  intro pins s σ H Q I h
  refine wpAny_isTrue_Compare1 (thn (ha pins s σ H _ I h) fun v s1 ⟨x, H1, I1, r1, q1⟩ => thn (hb pins s1 σ H1 _ I1 q1) fun u s2 ⟨y, H2, I2, r2, q2⟩ =>
    thn (ho pins s2 σ H2 x y v u _ I2 r1 r2 q2) fun c s3 ⟨z, H3, I3, r3, k, e, q3⟩ => ?_) hm
  subst e
  cases r3
  exact wpAny_truthy_bool ⟨H3, I3, q3⟩
def tChain (r r' : R2) (ta tb tc : TE) : TE := fun σ H Q => ta σ H fun x H1 => tb σ H1 fun y H2 => r x y H2 fun z H3 => ∃ k, z = .bl k ∧
  (if k = true then tc σ H3 fun w' H4 => r' y w' H4 Q else Q (.bl false) H3)
theorem pe_chain {op op' : CmpOp} {r r' : R2} (ho : OpR X (compareOp op) r) (ho' : OpR X (compareOp op') r') (ha : PE X a ta) (hb : PE X b tb) (hc : PE X c tc)
    (hm : lastMarks [op, op'] [b, c] = false := by with_unfolding_all rfl) : PE X (.Compare a [op, op'] [b, c] pos) (tChain r r' ta tb tc) := by
  intro pins s σ H Q I h
  refine Compare_chain (thn (ha pins s σ H _ I h) fun v s1 ⟨x, H1, I1, r1, q1⟩ => chain_link (thn (hb pins s1 σ H1 _ I1 q1) fun u s2 ⟨y, H2, I2, r2, q2⟩ =>
    thn (ho pins s2 σ H2 x y v u _ I2 r1 r2 q2) fun d s3 ⟨z, H3, I3, r3, k, e, q3⟩ => ?_)) hm
  subst e
  cases r3
  refine wpAny_truthy_bool ?_
  cases k with
  | false => exact ite_ff ⟨.bl false, H3, I3, rfl, q3⟩
  | true => exact ite_tt (chain_last (thn (hc pins s3 σ H3 _ I3 q3) fun w' s4 ⟨z', H4, I4, r4, q4⟩ => ho' pins s4 σ H4 y z' u w' Q I4 r2 r4 q4))
theorem pt_chain {op op' : CmpOp} {r r' : R2} (ho : OpR X (compareOp op) r) (ho' : OpR X (compareOp op') r') (ha : PE X a ta) (hb : PE X b tb) (hc : PE X c tc)
    (hm : lastMarks [op, op'] [b, c] = false := by with_unfolding_all rfl) : PT X (.Compare a [op, op'] [b, c] pos) (tTest (tChain r r' ta tb tc)) := by
  intro pins s σ H Q I h
  refine isTrue_chain (thn (ha pins s σ H _ I h) fun v s1 ⟨x, H1, I1, r1, q1⟩ => test_link (thn (hb pins s1 σ H1 _ I1 q1) fun u s2 ⟨y, H2, I2, r2, q2⟩ =>
    thn (ho pins s2 σ H2 x y v u _ I2 r1 r2 q2) fun d s3 ⟨z, H3, I3, r3, k, e, q3⟩ => ?_)) hm
  subst e
  cases r3
  refine wpAny_truthy_bool ?_
  cases k with
  | false =>
    obtain ⟨k', e', q'⟩ := q3
    cases e'
    exact ite_ff ⟨H3, I3, q'⟩
  | true =>
    refine ite_tt (test_last (thn (hc pins s3 σ H3 _ I3 q3) fun w' s4 ⟨z', H4, I4, r4, q4⟩ => thn (ho' pins s4 σ H4 y z' u w' _ I4 r2 r4 q4) fun d' s5 ⟨z2, H5, I5, r5, k2, e2, q5⟩ => ?_))
    subst e2
    cases r5
    exact wpAny_truthy_bool ⟨H5, I5, q5⟩
theorem line63 : (sizeLine : Nat) < 2 ^ 63 := by rw [sizeLine_eq]; decide
theorem vals1 {x : V} {us : List Value} (r : Vals [x] us) : ∃ u, us = [u] ∧ RelV x u := by
  cases r with
  | cons r1 r2 => cases r2; exact ⟨_, rfl, r1⟩
end
end L2
namespace L2
open PySem PySem.Spec PyProof.Rows
structure ObjM (h : Heap) (x dx C : Addr) (mA : Str → Option Value) : Prop where
  obj : h.get? x = some (PySem.W.instObj C dx)
  ns : h.Ns1 dx mA
  ne : dx ≠ x
theorem lookIn_ns {h : Heap} {dx : Addr} {mA : Str → Option Value} (n : h.Ns1 dx mA) : ∃ od, h.get? dx = some od ∧ ∀ name, PySem.W.lookIn name od = some (mA name) := by
  obtain ⟨o, es, ep, ho, hd, hk, _, hm⟩ := n
  refine ⟨o, ho, fun name => ?_⟩
  have e := hm name
  unfold nsFind findBy at e
  rw [← Array.find?_toList] at e
  unfold PySem.W.lookIn
  rw [hd]
  dsimp only
  split
  · rename_i y q
    rw [q] at e
    exact congrArg some e
  · rename_i q
    rw [q] at e
    have a : es.toList.any (·.refKey) = false := by
      rw [List.any_eq_false]
      intro y hy
      obtain ⟨z, t, hkey⟩ := hk y (Array.mem_toList_iff.mp hy)
      simp [DictEntry.refKey, hkey]
    have a' : ¬ es.toList.any (·.refKey) = true := by rw [a]; exact Bool.false_ne_true
    rw [if_neg a']
    exact congrArg some e
theorem ObjM.look {h : Heap} {x dx C : Addr} {mA : Str → Option Value} (I : ObjM h x dx C mA) : ∃ od, PySem.W.InstAt h x (PySem.W.instObj C dx) C (some od) ∧ ∀ name, PySem.W.lookIn name od = some (mA name) :=
  let ⟨od, ho, hl⟩ := lookIn_ns I.ns
  ⟨od, ⟨I.obj, rfl, rfl, ho⟩, hl⟩
section
variable {prog : Program} {w : World} {A : Around} {E : Value → Shared → Prop} {s : Shared} {K : PySem.W.Frag} {x dx C f : Addr} {mA : Str → Option Value} {name : Str} {v : Value}
theorem get_map {expr : Bool} {Q : Value → Shared → Prop} (X : K.In s.heap) (I : ObjM s.heap x dx C mA) (hg : PySem.W.plainGet K C name = true) (hh : PySem.W.hasDictIn K C = true)
    (ha : PySem.W.findIn K (.ref C) name = some none) (hv : mA name = some v) (hv' : PySem.W.handedIn v = true) (h : Q v { s with toks := s.toks + 1 }) :
    wpAny (model prog w) A (getAttr (.ref x) name expr) Q E s := by
  obtain ⟨od, J, hl⟩ := I.look
  exact PySem.W.get_value X J (PySem.W.plainGet_of hg).1 (PySem.W.findObj_own hh ha rfl (by rw [hl, hv])) hv' h
theorem set_map {ns : List Str} {Q : Unit → Shared → Prop} (X : K.In s.heap) (I : ObjM s.heap x dx C mA)
    (hs : PySem.W.findIn K (.ref C) "__setattr__" = some (some (.builtin "object.__setattr__"))) (hp : PySem.W.plainOver K C = true) (ht : PySem.W.takerIn K C name = some none) (hh : PySem.W.hasDictIn K C = true)
    (hw : PySem.Within mA ns) (hsz : ns.length ≤ sizeLine)
    (h : ∀ h', ObjM h' x dx C (fun y => if y = name then some v else mA y) → Heap.SameBut dx s.heap h' → Q () { s with heap := h', toks := s.toks + 2 }) :
    wpAny (model prog w) A (setAttr (.ref x) name v) Q E s := by
  obtain ⟨od, J, hl⟩ := I.look
  refine PySem.W.set_plain X J hs (PySem.W.osa_open (s := { s with toks := s.toks + 1 }) (r := none) X J hp ht fun b => ?_)
  obtain ⟨cd, hc, hd'⟩ := PySem.W.any_some hh
  have hx : s.heap.get? x = some ⟨.ref C, some dx, .plain, #[]⟩ := I.obj
  refine wpAny_bind (wpAny_pure (wpAny_bind (wpAny_bind (wpAny_loadPart hx (wpAny_bind (PySem.W.Looks.here (s := { s with toks := s.toks + 1 }) (PySem.W.looks_clsIn X hc) ?_))))))
  rw [hd']
  refine wpAny_pure (a := some dx) (wpAny_bind (wpAny_pure (wpAny_bind ?_)))
  refine wpAny_nsSet1 (s := { s with toks := s.toks + 1 }) I.ns fun h' hn2 hs2 => ?_
  obtain ⟨oD, esD, epD, hoD, hdD, hcD⟩ := hn2.count (PySem.Within.cons name v hw)
  refine wpAny_bind (wpAny_lookBehind hoD (by rw [hdD]; exact pastItsLine_dict (Nat.le_trans hcD (by rw [List.length_cons]; omega))) ?_)
  exact wpAny_pure (h _ ⟨(hs2.2 _ (Ne.symm I.ne)).trans I.obj, hn2, I.ne⟩ hs2)
theorem make_map {R : Result → Shared → Prop} {vs : List Value} {kw : List (Str × Value)} (X : K.In s.heap) (hm : PySem.W.makesIn K C = true)
    (hi : PySem.W.findIn K (.ref C) "__init__" = some (some (.ref f))) (hf : PySem.W.typeIn K (.ref f) = some (.type "function"))
    (h : codeAny (model prog w) (A.under (.builtin "type.__call__" ⟨.ref C :: vs, kw⟩)) (.call (.ref f) ⟨.ref (s.heap.objs.size + 1) :: vs, kw⟩) (PySem.W.InitBack (s.heap.objs.size + 1) R)
      { s with heap := (s.heap.push PySem.W.emptyDict).push (PySem.W.instObj C s.heap.objs.size) }) :
    codeAny (model prog w) A (.call (.ref C) ⟨vs, kw⟩) R s := by
  obtain ⟨hh, g, d, t, os⟩ := s
  exact PySem.W.make_core (PySem.W.makes_of X hm) (PySem.W.looks_findIn X hi) (fun self => PySem.W.bind_fn X self hf) (.inl rfl) h
end
def putF (f : Str) (v : V) : List (Str × V) → List (Str × V)
  | [] => [(f, v)]
  | (g, x) :: r => if g = f then (g, v) :: r else (g, x) :: putF f v r
theorem lookup_putF (f g : Str) (v : V) : ∀ fs : List (Str × V), (putF f v fs).lookup g = if g = f then some v else fs.lookup g
  | [] => by
    show List.lookup g [(f, v)] = _
    by_cases h : g = f
    · have hb : (g == f) = true := beq_iff_eq.mpr h
      simp only [List.lookup, hb, if_pos h]
    · have hb : (g == f) = false := beq_eq_false_iff_ne.mpr h
      simp only [List.lookup, hb, if_neg h]
  | (k, x) :: r => by
    have ih := lookup_putF f g v r
    rw [show putF f v ((k, x) :: r) = (if k = f then (k, v) :: r else (k, x) :: putF f v r) from rfl]
    by_cases hk : k = f
    · rw [if_pos hk]
      by_cases h : g = k
      · have hb : (g == k) = true := beq_iff_eq.mpr h
        simp only [List.lookup, hb, if_pos (h.trans hk)]
      · have hb : (g == k) = false := beq_eq_false_iff_ne.mpr h
        simp only [List.lookup, hb, if_neg (fun e : g = f => h (e.trans hk.symm))]
    · rw [if_neg hk]
      by_cases h : g = k
      · have hb : (g == k) = true := beq_iff_eq.mpr h
        simp only [List.lookup, hb, if_neg (fun e : g = f => hk (h.symm.trans e))]
      · have hb : (g == k) = false := beq_eq_false_iff_ne.mpr h
        simp only [List.lookup, hb]
        exact ih
theorem keys_putF (f : Str) (v : V) : ∀ fs : List (Str × V), f ∈ (putF f v fs).map (·.1) ∧ ∀ g, g ∈ fs.map (·.1) → g ∈ (putF f v fs).map (·.1)
  | [] => ⟨by simp [putF], fun g h => by simp at h⟩
  | (k, x) :: r => by
    obtain ⟨i1, i2⟩ := keys_putF f v r
    rw [show putF f v ((k, x) :: r) = (if k = f then (k, v) :: r else (k, x) :: putF f v r) from rfl]
    by_cases hk : k = f
    · rw [if_pos hk]
      subst hk
      exact ⟨by simp, fun g h => by simpa using h⟩
    · rw [if_neg hk]
      refine ⟨?_, fun g h => ?_⟩
      · rw [List.map_cons]
        exact List.mem_cons_of_mem _ i1
      · rw [List.map_cons] at h ⊢
        rcases List.mem_cons.mp h with e | e
        · exact List.mem_cons.mpr (.inl e)
        · exact List.mem_cons_of_mem _ (i2 g e)
theorem length_putF (f : Str) (v : V) : ∀ fs : List (Str × V), (putF f v fs).length ≤ fs.length + 1
  | [] => by simp [putF]
  | (k, x) :: r => by
    have ih := length_putF f v r
    rw [show putF f v ((k, x) :: r) = (if k = f then (k, v) :: r else (k, x) :: putF f v r) from rfl]
    by_cases hk : k = f
    · rw [if_pos hk, List.length_cons, List.length_cons]; omega
    · rw [if_neg hk, List.length_cons, List.length_cons]; omega
theorem RelO.some_of {v : V} {o : Option Value} (r : RelO (some v) o) : ∃ u, o = some u ∧ RelV v u := by
  cases o with
  | none => exact (show False from r).elim
  | some u => exact ⟨u, rfl, r⟩
theorem handed_of {v : V} {u : Value} (r : RelV v u) : PySem.W.handedIn u = true := by
  cases v with
  | non => cases (show u = Value.none from r); rfl
  | bl b => cases (show u = Value.bool b from r); rfl
  | int i => obtain ⟨t, e⟩ := (show ∃ t, u = Value.int i t from r); cases e; rfl
  | str x => obtain ⟨t, e⟩ := (show ∃ t, u = Value.str x t from r); cases e; rfl
  | byt b => obtain ⟨t, e⟩ := (show ∃ t, u = Value.bytes b t from r); cases e; rfl
  | flt b => obtain ⟨t, e⟩ := (show ∃ t, u = Value.float b t from r); cases e; rfl
  | ref a => cases (show u = Value.ref a from r); rfl
  | ty n => cases (show u = Value.type n from r); rfl
section
variable {P : Program} {w : World} {H H' : Hp} {h h' : Heap} {a C dx : Addr} {fs fs' : List (Str × V)}
theorem ins_get (hok : HOk P w H h) (e : H a = some (.ins C dx fs)) : ∃ mA, ObjM h a dx C mA ∧ (∀ f, RelO (fs.lookup f) (mA f)) ∧ PySem.Within mA (fs.map (·.1)) ∧ fs.length ≤ 1000 ∧ H dx = some (.own a) := by
  obtain ⟨d, z, ne, ob, mA, n, r, q⟩ := (show ObjOk P w H h a (.ins C dx fs) from hok a _ e)
  exact ⟨mA, ⟨ob, n, ne⟩, r, q, z, d⟩
end
structure Cls (K : PySem.W.Frag) (C : Addr) : Prop where
  pg : PySem.W.plainGet K C Str.empty = true
  hd : PySem.W.hasDictIn K C = true
  po : PySem.W.plainOver K C = true
  sa : PySem.W.findIn K (.ref C) "__setattr__" = some (some (.builtin "object.__setattr__"))
theorem Cls.get {K : PySem.W.Frag} {C : Addr} (c : Cls K C) (f : Str) : PySem.W.plainGet K C f = true := c.pg
def NoAttr (K : PySem.W.Frag) (C : Addr) (f : Str) : Prop := PySem.W.findIn K (.ref C) f = some none
theorem NoAttr.taker {K : PySem.W.Frag} {C : Addr} {f : Str} (n : NoAttr K C f) : PySem.W.takerIn K C f = some none := by
  unfold PySem.W.takerIn
  rw [show PySem.W.findIn K (.ref C) f = some none from n]
  rfl
section
variable {X : Cx} {pins : List (Addr × Obj)} {σ : St} {H : Hp} {s : Shared} {a C dx : Addr} {fs : List (Str × V)} {f : Str} {v : V} {A : Around} {E : Value → Shared → Prop}
theorem getattr_ok {b : Bool} {Q : Value → Shared → Prop} (I : Inv X pins σ H s) (e : H a = some (.ins C dx fs)) (c : Cls X.K C) (n : NoAttr X.K C f) (l : fs.lookup f = some v)
    (h : ∀ u s', Inv X pins σ H s' → RelV v u → Q u s') : wpAny (model X.prog X.w) A (getAttr (.ref a) f b) Q E s := by
  obtain ⟨mA, O, r, _, _, _⟩ := ins_get I.hok e
  obtain ⟨u, hu, ru⟩ := RelO.some_of (v := v) (o := mA f) (by rw [← l]; exact r f)
  exact get_map I.kIn O (c.get f) c.hd n hu (handed_of ru) (h u _ (I.tok _) ru)
theorem setattr_ok {y : V} {u : Value} {Q : Unit → Shared → Prop} (I : Inv X pins σ H s) (e : H a = some (.ins C dx fs)) (c : Cls X.K C) (n : NoAttr X.K C f) (hl : fs.length < 1000) (ry : RelV y u)
    (h : ∀ s', Inv X pins σ (upd H a (.ins C dx (putF f y fs))) s' → Q () s') : wpAny (model X.prog X.w) A (setAttr (.ref a) f u) Q E s := by
  obtain ⟨mA, O, r, wi, _, ho⟩ := ins_get I.hok e
  have hz : (fs.map (·.1)).length ≤ sizeLine := by rw [List.length_map, sizeLine_eq]; omega
  refine set_map I.kIn O c.sa c.po n.taker c.hd wi hz fun h' O' sb => h _ ?_
  have hd : ∃ o, h'.get? dx = some o := let ⟨o, _, _, e', _⟩ := O'.ns; ⟨o, e'⟩
  refine I.write (x := a) (e := dx) (by rw [e]; exact True.intro) (.inr ho) (fun b q hb z => (sb.2 b hb).trans z) hd ?_
  refine ⟨by rw [upd_ne O.ne]; exact ho, ?_, O.ne, O'.obj, _, O'.ns, fun g => ?_, fun g hg => ?_⟩
  · have := length_putF f y fs; omega
  · show RelO ((putF f y fs).lookup g) (if g = f then some u else mA g)
    rw [lookup_putF]
    by_cases q : g = f
    · rw [if_pos q, if_pos q]; exact ry
    · rw [if_neg q, if_neg q]; exact r g
  · by_cases q : g = f
    · rw [q]; exact (keys_putF f y fs).1
    · refine (keys_putF f y fs).2 g (wi g fun z => hg ?_)
      show (if g = f then some u else mA g) = none
      rw [if_neg q]; exact z
theorem Inv.made (I : Inv X pins σ H s) : Inv X pins σ (upd (upd H s.heap.objs.size (.own (s.heap.objs.size + 1))) (s.heap.objs.size + 1) (.ins C s.heap.objs.size []))
    { s with heap := (s.heap.push PySem.W.emptyDict).push (PySem.W.instObj C s.heap.objs.size) } := by
  have e1 : (s.heap.push PySem.W.emptyDict).get? s.heap.objs.size = some PySem.W.emptyDict := Heap.get?_push_size s.heap rfl
  have e2 : ((s.heap.push PySem.W.emptyDict).push (PySem.W.instObj C s.heap.objs.size)).get? (s.heap.objs.size + 1) = some (PySem.W.instObj C s.heap.objs.size) := by
    have := Heap.get?_push_size (s.heap.push PySem.W.emptyDict) (o := PySem.W.instObj C s.heap.objs.size) rfl
    rwa [Heap.size_push] at this
  have e3 : (s.heap.push PySem.W.emptyDict).Ns s.heap.objs.size (fun _ => none) := ⟨PySem.W.emptyDict, #[], _, e1, rfl, (fun e he => absurd he (by simp)), fun _ => rfl⟩
  have I1 := I.laid (a := s.heap.objs.size) (o := .own (s.heap.objs.size + 1)) (h' := s.heap.push PySem.W.emptyDict) (t' := s.toks) (fun b u q => Heap.get?_push_of_some _ q) (Nat.le_refl _) ⟨_, e1⟩
  refine I1.laid (a := s.heap.objs.size + 1) (o := .ins C s.heap.objs.size []) (t' := s.toks) (fun b u q => Heap.get?_push_of_some _ q) (Nat.le_of_eq (Heap.size_push _ _)) ?_
  have ne : s.heap.objs.size ≠ s.heap.objs.size + 1 := Nat.ne_of_lt (Nat.lt_succ_self _)
  refine ⟨by rw [upd_ne ne, upd_same], Nat.zero_le _, ne, e2, fun _ => none, (Heap.Ns1.of_empty e3).at fun o q => Heap.get?_push_of_some _ q, fun _ => True.intro, fun y hy => absurd rfl hy⟩
theorem attr_of {prog : Program} {w : World} {env : Env} {e : Expr} {f : Str} {pos : Pos} {s : Shared} {Q : Value → Shared → Prop} (hb : attributeBase e f env (eval e env) = eval e env)
    (h : wpAny (model prog w) A (eval e env) (fun o s₁ => wpAny (model prog w) A (getAttr o f true) Q E s₁) E s) : wpAny (model prog w) A (eval (.Attribute e f pos) env) Q E s :=
  Attribute_any_ h (by rw [arm_eval_Attribute, hb])
end
def tFld (K : PySem.W.Frag) (ta : TE) (f : Str) : TE := fun σ H Q => ta σ H fun x H1 => ∃ a C dx fs v, x = .ref a ∧ H1 a = some (.ins C dx fs) ∧ Cls K C ∧ NoAttr K C f ∧ fs.lookup f = some v ∧ Q v H1
def sFld (K : PySem.W.Frag) (ta tv : TE) (f : Str) : TS := fun D σ H => tv σ H fun y H1 => ta σ H1 fun x H2 => ∃ a C dx fs, x = .ref a ∧ H2 a = some (.ins C dx fs) ∧ Cls K C ∧ NoAttr K C f ∧ fs.length < 1000 ∧
  D.nx σ (upd H2 a (.ins C dx (putF f y fs)))
section
variable {X : Cx} {o e value : Expr} {f : Str} {pos pos' tpos : Pos} {ta tv : TE}
theorem pe_fld (he : PE X e ta) (hb : attributeBase e f X.env (eval e X.env) = eval e X.env) : PE X (.Attribute e f pos) (tFld X.K ta f) := by
  intro pins s σ H Q I h
  refine attr_of hb (thn (he pins s σ H _ I h) fun u s1 ⟨x, H1, I1, rx, a, C, dx, fs, v, ex, ea, c, n, l, q⟩ => ?_)
  subst ex
  obtain rfl : u = Value.ref a := rx
  exact getattr_ok I1 ea c n l fun u' s2 I2 ru => ⟨v, H1, I2, ru, q⟩
theorem ps_fld (ha : PE X o ta) (hv : PE X value tv) (hs : swapsWith value (some (.Attribute o f pos')) pos.line X.env = pure false) : PS X (.Assign [.Attribute o f pos'] value pos) (sFld X.K ta tv f) := by
  intro pins s σ H D I h
  refine plainObj_wpAny_Assign_Attribute (thn (hv pins s σ H _ I h) fun u s1 ⟨y, H1, I1, ry, q⟩ => thn (ha pins s1 σ H1 _ I1 q) fun ov s2 ⟨x, H2, I2, rx, a, C, dx, fs, ex, ea, c, n, l, q2⟩ => ?_) hs
  subst ex
  obtain rfl : ov = Value.ref a := rx
  exact setattr_ok I2 ea c n l ry fun s3 I3 => ⟨σ, _, I3, q2⟩
end
section
variable {X : Cx} {pins : List (Addr × Obj)} {σ : St} {H : Hp} {s : Shared} {A : Around} {E : Value → Shared → Prop} {Q : Value → Shared → Prop} {c : Value} {b : Bool}
end
end L2
namespace L2
open PySem PySem.Spec PyProof.Rows
structure Room (k : Nat) (A : Around) : Prop where
  hd : A.handled = none
  dp : A.depth + 3 * k + 5 < recursionLimit
  un : A.units + 16 * k + 200 < cLine
theorem Room.mono {j k : Nat} {A : Around} (r : Room k A) (h : j ≤ k) : Room j A := ⟨r.hd, by have := r.dp; omega, by have := r.un; omega⟩
theorem Room.deeper {k : Nat} {A : Around} (r : Room (k + 1) A) (env : Env) : Room k (A.deeper env) :=
  ⟨r.hd, by have := r.dp; show A.depth + 1 + 3 * k + 5 < _; omega, by have := r.un; show A.units + 3 + 16 * k + 200 < _; omega⟩
theorem make_depth {A : Around} {C : Addr} {us : List Value} {kw : List (Str × Value)} : (A.under (.builtin "type.__call__" ⟨.ref C :: us, kw⟩)).depth = A.depth + 1 := by
  first | rfl | simp [Around.under, Code.weight, Code.isCreation, Code.isGuard, Code.isCaller, Code.frames, Code.isFrame, guardIds]
theorem make_units {A : Around} {C : Addr} {us : List Value} {kw : List (Str × Value)} : (A.under (.builtin "type.__call__" ⟨.ref C :: us, kw⟩)).units = A.units + 1 := by
  first | rfl | simp [Around.under, Code.cUnits, Code.frames, Code.isFrame]
theorem Room.make {k : Nat} {A : Around} (r : Room (k + 1) A) (C : Addr) (us : List Value) (kw : List (Str × Value)) : Room k (A.under (.builtin "type.__call__" ⟨.ref C :: us, kw⟩)) :=
  ⟨r.hd, by have := r.dp; rw [make_depth]; omega, by have := r.un; rw [make_units]; omega⟩
theorem Room.depth {k : Nat} {A : Around} (r : Room k A) : A.depth < recursionLimit := by have := r.dp; omega
theorem Room.units {k : Nat} {A : Around} (r : Room k A) : A.units + 64 < cLine := by have := r.un; omega
def tNil : TA := fun _ H Q => Q [] H
def tCons (ta : TE) (tr : TA) : TA := fun σ H Q => ta σ H fun x H1 => tr σ H1 fun xs H2 => Q (x :: xs) H2
section
variable {X : Cx} {e : Expr} {es : List Expr} {te : TE} {t : TA} {pos : Pos}
theorem pa_nil : PA X [] tNil := fun _ _ _ _ H Q I h => Calls.spliced_nil ⟨[], H, I, .nil, h⟩
theorem pa_cons (ha : PE X e te) (hr : PA X es t) (hs : starEach (e :: es) X.env = (false, eval e X.env) :: starEach es X.env := by rfl) : PA X (e :: es) (tCons te t) := by
  intro pos pins s σ H Q I h
  rw [hs]
  show wpAny _ _ (spliced ((false, eval e X.env) :: backTo pos (starEach es X.env))) _ _ s
  refine Calls.spliced_cons (thn (ha pins s σ H _ I h) fun u s1 ⟨x, H1, I1, r1, q1⟩ => ?_)
  exact thn (hr pos pins s1 σ H1 _ I1 q1) fun us s2 ⟨xs, H2, I2, r2, q2⟩ => ⟨x :: xs, H2, I2, .cons r1 r2, q2⟩
def tTup (t : TA) : TE := fun σ H Q => t σ H fun xs H1 => xs.length ≤ sizeLine ∧ ∀ p, H1 p = none → Q (.ref p) (upd H1 p (.tup xs))
def tLst (t : TA) : TE := fun σ H Q => t σ H fun xs H1 => xs.length ≤ sizeLine ∧ ∀ p, H1 p = none → Q (.ref p) (upd H1 p (.lst xs))
theorem pe_tup {x1} (h : PA X es t) : PE X (.Tuple es x1 pos) (tTup t) := by
  intro pins s σ H Q I hq
  refine wpAny_Tuple_spliced (thn (h pos pins s σ H _ I hq) fun us s1 ⟨xs, H1, I1, r, z, q⟩ => ⟨by rw [← r.length]; exact z, ?_⟩)
  have hf : H1 s1.heap.objs.size = none := I1.hok.fresh (Nat.le_refl _)
  refine ⟨.ref s1.heap.objs.size, upd H1 s1.heap.objs.size (.tup xs), I1.laid (t' := s1.toks) (fun b u e => Heap.get?_push_of_some _ e) (Nat.le_refl _) ?_, rfl, q _ hf⟩
  exact ⟨z, us, r, ⟨_, Heap.get?_push_size _ rfl, rfl, _, rfl⟩⟩
theorem pe_lst (h : PA X es t) : PE X (.List es pos) (tLst t) := by
  intro pins s σ H Q I hq
  refine wpAny_List_spliced (thn (h pos pins s σ H _ I hq) fun us s1 ⟨xs, H1, I1, r, z, q⟩ => ⟨by rw [← r.length]; exact z, ?_⟩)
  have hf : H1 s1.heap.objs.size = none := I1.hok.fresh (Nat.le_refl _)
  refine ⟨.ref s1.heap.objs.size, upd H1 s1.heap.objs.size (.lst xs), I1.laid (t' := s1.toks) (fun b u e => Heap.get?_push_of_some _ e) (Nat.le_refl _) ?_, rfl, q _ hf⟩
  exact ⟨z, us, 0, r, Heap.get?_push_size _ rfl⟩
end
abbrev Sp := List V → Hp → VK → XK → Prop
abbrev CXT := List Env → Hp → Shared → XK → Value → Shared → Prop
structure Env0 (P : Program) (w : World) (K : PySem.W.Frag) (mg : Str → Option Value) (base : Heap) (A : Around) (outer : List Env) (s : Shared) (H : Hp) : Prop where
  frames : A.frames = some outer
  mod : Mod K mg base
  bs : ∀ b o, base.get? b = some o → s.heap.get? b = some o ∧ H b = none
  bsz : base.objs.size ≤ s.heap.objs.size
  funs : s.heap.FunFrames base outer
  frf : ∀ b ∈ frs outer, H b = none
  hok : HOk P w H s.heap
  bare : AllBare s.gens
def CE (outer : List Env) (P : Program) (w : World) (H : Hp) (s : Shared) (Q : VK) (u : Value) (s' : Shared) : Prop :=
  ∃ v H', s'.os = s.os ∧ AllBare s'.gens ∧ Un (frs outer) [] H H' s.heap s'.heap ∧ HOk P w H' s'.heap ∧ RelV v u ∧ Q v H'
def CR (CX : CXT) (outer : List Env) (P : Program) (w : World) (H : Hp) (s : Shared) (Q : VK) (E : XK) (r : Result) (s' : Shared) : Prop :=
  match r with
  | .ok (.ret u) => CE outer P w H s Q u s'
  | .ok _ => False
  | .error e => CX outer H s E e s'
structure FnOk (P : Program) (w : World) (K : PySem.W.Frag) (mg : Str → Option Value) (base : Heap) (CX : CXT) (k : Nat) (f : Addr) (fd : FuncData) (ps : List Str) (sp : Sp) : Prop where
  len : ∀ vs H Q E, sp vs H Q E → vs.length = ps.length
  run : ∀ (A : Around) (outer : List Env) (s : Shared) (H : Hp) (args : Args) (us : List Value) (vs : List V) (Q : VK) (E : XK), Room k A → Env0 P w K mg base A outer s H → BindsTo s fd args (ps.zip us) → Vals vs us → sp vs H Q E →
    codeAny (model P w) A (.call (.ref f) args) (CR CX outer P w H s Q E) s
theorem FnOk.mono {P : Program} {w : World} {K : PySem.W.Frag} {mg : Str → Option Value} {base : Heap} {CX : CXT} {j k : Nat} {f : Addr} {fd : FuncData} {ps : List Str} {sp : Sp} (F : FnOk P w K mg base CX j f fd ps sp) (h : j ≤ k) :
    FnOk P w K mg base CX k f fd ps sp := ⟨F.len, fun A outer s H args us vs Q E hr => F.run A outer s H args us vs Q E (hr.mono h)⟩
theorem Env0.make {P : Program} {w : World} {K : PySem.W.Frag} {mg : Str → Option Value} {base : Heap} {A : Around} {outer : List Env} {s : Shared} {H : Hp} (e : Env0 P w K mg base A outer s H) (C : Addr) (us : List Value) (kw : List (Str × Value)) :
    Env0 P w K mg base (A.under (.builtin "type.__call__" ⟨.ref C :: us, kw⟩)) outer s H := ⟨by first | exact e.frames | (simpa [Around.under, Code.envs, Code.isFrame, pushEnvs] using e.frames), e.mod, e.bs, e.bsz, e.funs, e.frf, e.hok, e.bare⟩
section
variable {X : Cx} {pins : List (Addr × Obj)} {σ : St} {H : Hp} {s s' : Shared}
theorem Inv.env0 (I : Inv X pins σ H s) : Env0 X.prog X.w X.K X.mg X.base X.A X.stack s H :=
  ⟨I.ok.frames, I.ok.mod, I.bs, Nat.le_trans I.ok.bsz I.sz, I.stack, I.stkFree, I.hok, I.bare⟩
theorem Inv.after {Q : VK} {u : Value} (I : Inv X pins σ H s) (h : CE X.stack X.prog X.w H s Q u s') : EP X pins σ Q u s' := by
  obtain ⟨v, H', os, bare, un, hok, r, q⟩ := h
  obtain ⟨hh, g, d, t, os'⟩ := s'
  obtain rfl : os' = s.os := os
  exact ⟨v, H', I.call (h' := hh) (g' := g) (d' := d) (t' := t) (ch := []) un hok bare (fun b z => absurd z (by simp)), r, q⟩
end
def tCall (sp : Sp) (dvs : List V) (E : XK) (t : TA) : TE := fun σ H Q => t σ H fun vs H1 => sp (vs ++ dvs) H1 Q E
def tMake (C : Addr) (sp : Sp) (dvs : List V) (E : XK) (t : TA) : TE := fun σ H Q => t σ H fun vs H1 => ∀ x dx, H1 x = none → H1 dx = none → dx ≠ x →
  sp (.ref x :: (vs ++ dvs)) (upd (upd H1 dx (.own x)) x (.ins C dx [])) (fun v H2 => v = .non ∧ Q (.ref x) H2) E
def Binds (K : PySem.W.Frag) (fd : FuncData) (ps : List Str) (ds : List Value) : Prop :=
  ∀ (s : Shared) (us : List Value), K.In s.heap → (us ++ ds).length = ps.length → BindsTo s fd ⟨us, []⟩ (ps.zip (us ++ ds))
theorem Binds.all {K : PySem.W.Frag} {fd : FuncData} {ps : List Str} (h : ∀ us : List Value, us.length = ps.length → bindArgs fd ⟨us, []⟩ = pure (ps.zip us)) : Binds K fd ps [] := fun s us _ hl => by
  rw [List.append_nil] at hl ⊢
  exact .of_eq (h us hl)
def Passes (CX : CXT) (X : Cx) (E : XK) : Prop := ∀ (pins : List (Addr × Obj)) (σ : St) (H : Hp) (s : Shared) (e : Value) (s' : Shared), Inv X pins σ H s → CX X.stack H s E e s' → X.xe e s'
section
variable {X : Cx} {CX : CXT} {k : Nat} {f C : Addr} {fd : FuncData} {ps : List Str} {sp : Sp} {dvs : List V} {ds : List Value} {E : XK} {x m : Str} {p pos apos : Pos} {e o : Expr} {es : List Expr} {ta : TE} {t : TA}
theorem run_fn {pins : List (Addr × Obj)} {σ : St} {H : Hp} {s : Shared} {Q : VK} {us : List Value} {vs : List V} (F : FnOk X.prog X.w X.K X.mg X.base CX k f fd ps sp) (hr : Room k X.A) (hb : Binds X.K fd ps ds) (hd : Vals dvs ds) (hx : Passes CX X E)
    (I : Inv X pins σ H s) (r : Vals vs us) (h : sp (vs ++ dvs) H Q E) : wpAny (model X.prog X.w) X.A (call (.ref f) us) (EP X pins σ Q) X.xe s := by
  have r2 : Vals (vs ++ dvs) (us ++ ds) := r.append hd
  have hl : (us ++ ds).length = ps.length := by rw [← r2.length]; exact F.len _ _ _ _ h
  refine wpAny_call (codeAny_mono (F.run X.A X.stack s H ⟨us, []⟩ (us ++ ds) (vs ++ dvs) Q E hr I.env0 (hb s us I.kIn hl) r2 h) fun r s' hq => ?_)
  cases r with
  | error e => exact hx pins σ H s e s' I hq
  | ok fl =>
    cases fl with
    | ret u => exact I.after hq
    | next => exact False.elim hq
    | brk => exact False.elim hq
    | cont => exact False.elim hq
theorem pe_call (F : FnOk X.prog X.w X.K X.mg X.base CX k f fd ps sp) (hr : Room k X.A) (hg : Gl X x) (hm : X.mg x = some (.ref f)) (hk : PySem.W.keepIn X.K (.ref f) = true) (hb : Binds X.K fd ps ds) (hd : Vals dvs ds) (hx : Passes CX X E)
    (ha : PA X (e :: es) t) (hdb : (x == ("__debug__" : Str)) = false := by decide) (he : starEach (e :: es) X.env = (false, eval e X.env) :: starEach es X.env := by rfl) (hpl : (backTo pos (starEach es X.env)).any (·.1) = false := by rfl) :
    PE X (.Call (.Name x p) (e :: es) [] pos) (tCall sp dvs E t) := by
  intro pins s σ H Q I h
  refine wpAny_Call_Name_kw (ld_glob I hg hm ?_ hdb)
  refine PySem.W.callWith_K (h₀ := X.base) I.ok.mod.kin hk (thn (ha pos pins s σ H _ I h) fun us s1 ⟨vs, H1, I1, r, q⟩ => ⟨I1.kIn, ?_⟩) he hpl
  exact run_fn F hr hb hd hx I1 r q
structure Mk (K : PySem.W.Frag) (C f : Addr) : Prop where
  makes : PySem.W.makesIn K C = true
  init : PySem.W.findIn K (.ref C) "__init__" = some (some (.ref f))
  fn : PySem.W.isFn K (.ref f) = true
  kp : PySem.W.keepIn K (.ref C) = true
theorem run_make {pins : List (Addr × Obj)} {σ : St} {H : Hp} {s : Shared} {Q : VK} {us : List Value} {vs : List V} (M : Mk X.K C f) (F : FnOk X.prog X.w X.K X.mg X.base CX k f fd ps sp) (hr : Room (k + 1) X.A) (hb : Binds X.K fd ps ds) (hd : Vals dvs ds)
    (hx : Passes CX X E) (I : Inv X pins σ H s) (r : Vals vs us)
    (h : ∀ x dx, H x = none → H dx = none → dx ≠ x → sp (.ref x :: (vs ++ dvs)) (upd (upd H dx (.own x)) x (.ins C dx [])) (fun v H2 => v = .non ∧ Q (.ref x) H2) E) :
    wpAny (model X.prog X.w) X.A (call (.ref C) us) (EP X pins σ Q) X.xe s := by
  have hq := h (s.heap.objs.size + 1) s.heap.objs.size (I.hok.fresh (Nat.le_succ _)) (I.hok.fresh (Nat.le_refl _)) (Nat.ne_of_lt (Nat.lt_succ_self _))
  have I2 := Inv.made (C := C) I
  have r2 : Vals (V.ref (s.heap.objs.size + 1) :: (vs ++ dvs)) (Value.ref (s.heap.objs.size + 1) :: (us ++ ds)) := .cons rfl (r.append hd)
  have hl : (Value.ref (s.heap.objs.size + 1) :: us ++ ds).length = ps.length := by
    have e := r2.length
    rw [F.len _ _ _ _ hq] at e
    exact e.symm
  refine wpAny_call (make_map (f := f) I.kIn M.makes M.init (beq_iff_eq.mp M.fn) (codeAny_mono (F.run _ X.stack _ _ ⟨Value.ref (s.heap.objs.size + 1) :: us, []⟩ (Value.ref (s.heap.objs.size + 1) :: (us ++ ds)) _ _ E (hr.make C us [])
    (I2.env0.make C us []) (hb _ (Value.ref (s.heap.objs.size + 1) :: us) I2.kIn hl) r2 hq) fun r s' hq' => ?_))
  cases r with
  | error e => exact hx pins σ _ _ e s' I2 hq'
  | ok fl =>
    cases fl with
    | ret u =>
      obtain ⟨v, H', I3, rv, ev, q3⟩ := I2.after hq'
      subst ev
      exact ⟨rv, ⟨V.ref (s.heap.objs.size + 1), H', I3, rfl, q3⟩⟩
    | next => exact False.elim hq'
    | brk => exact False.elim hq'
    | cont => exact False.elim hq'
theorem pe_make0 (M : Mk X.K C f) (F : FnOk X.prog X.w X.K X.mg X.base CX k f fd ps sp) (hr : Room (k + 1) X.A) (hg : Gl X x) (hm : X.mg x = some (.ref C)) (hb : Binds X.K fd ps ds) (hd : Vals dvs ds) (hx : Passes CX X E)
    (hdb : (x == ("__debug__" : Str)) = false := by decide) : PE X (.Call (.Name x p) [] [] pos) (tMake C sp dvs E tNil) := by
  intro pins s σ H Q I h
  refine wpAny_Call_Name_kw (ld_glob I hg hm ?_ hdb)
  exact PySem.W.callWith_K0 I.kIn M.kp (run_make (us := []) M F hr hb hd hx I .nil h)
end
section
variable {X : Cx} {CX : CXT} {k : Nat} {f C : Addr} {fd : FuncData} {ps ks : List Str} {sp : Sp} {E : XK} {x m : Str} {p pos apos kpos : Pos} {e o : Expr} {es : List Expr} {kws : List Keyword} {te ta : TE} {t tk : TA} {nm : Option Str}
variable {g : List Value → List Value → List Value} {gV : List V → List V → List V}
end
structure FnScope (N P : List Str) (sc : Scope) : Prop where
  kind : sc.kind = .function
  co : sc.isCoroutine = false
  gen : sc.isGenerator = false
  nd : N.Nodup
  pre : N.take P.length = P
  par : ∀ x ∈ P, sc.names.lookup x = some .local ∨ sc.names.lookup x = some .cell
  nofree : ∀ y ∈ sc.names, y.2 ≠ .free
theorem bindL_out {kindOf : Str → Option NameKind} {x : Str} : ∀ {binds : List (Str × Value)} {m : Str → Option Value}, (∀ v, (x, v) ∉ binds) → bindL kindOf binds m x = m x
  | [], _, _ => rfl
  | (n, v) :: r, m, h => by
    unfold bindL
    rw [bindL_out fun w hw => h w (List.mem_cons_of_mem _ hw)]
    split
    · have : x ≠ n := by rintro rfl; exact h v List.mem_cons_self
      simp [this]
    · rfl
theorem bindC_out {kindOf : Str → Option NameKind} {x : Str} : ∀ {binds : List (Str × Value)} {m : Str → Option Value}, (∀ v, (x, v) ∉ binds) → bindC kindOf binds m x = m x
  | [], _, _ => rfl
  | (n, v) :: r, m, h => by
    unfold bindC
    rw [bindC_out fun w hw => h w (List.mem_cons_of_mem _ hw)]
    split
    · rfl
    · have : x ≠ n := by rintro rfl; exact h v List.mem_cons_self
      simp [this]
theorem bindL_get {kindOf : Str → Option NameKind} {x : Str} {v : Value} : ∀ {P : List Str} {vs : List Value} {i : Nat} {m : Str → Option Value}, P.Nodup → P[i]? = some x → vs[i]? = some v → kindOf x = some .local →
    bindL kindOf (P.zip vs) m x = some v
  | [], _, _, _, _, h, _, _ => by simp at h
  | _ :: _, [], _, _, _, _, h, _ => by simp at h
  | p :: P, w :: vs, 0, m, nd, h1, h2, hk => by
    simp at h1 h2; subst h1; subst h2
    show bindL kindOf ((p, w) :: P.zip vs) m p = _
    unfold bindL
    rw [bindL_out fun v hv => (List.nodup_cons.mp nd).1 (List.of_mem_zip hv).1, if_pos hk]
    simp
  | p :: P, w :: vs, i + 1, m, nd, h1, h2, hk => by
    show bindL kindOf ((p, w) :: P.zip vs) m x = _
    unfold bindL
    exact bindL_get (i := i) (List.nodup_cons.mp nd).2 (by simpa using h1) (by simpa using h2) hk
theorem bindC_get {kindOf : Str → Option NameKind} {x : Str} {v : Value} : ∀ {P : List Str} {vs : List Value} {i : Nat} {m : Str → Option Value}, P.Nodup → P[i]? = some x → vs[i]? = some v → kindOf x ≠ some .local →
    bindC kindOf (P.zip vs) m x = some v
  | [], _, _, _, _, h, _, _ => by simp at h
  | _ :: _, [], _, _, _, _, h, _ => by simp at h
  | p :: P, w :: vs, 0, m, nd, h1, h2, hk => by
    simp at h1 h2; subst h1; subst h2
    show bindC kindOf ((p, w) :: P.zip vs) m p = _
    unfold bindC
    rw [bindC_out fun v hv => (List.nodup_cons.mp nd).1 (List.of_mem_zip hv).1, if_neg hk]
    simp
  | p :: P, w :: vs, i + 1, m, nd, h1, h2, hk => by
    show bindC kindOf ((p, w) :: P.zip vs) m x = _
    unfold bindC
    exact bindC_get (i := i) (List.nodup_cons.mp nd).2 (by simpa using h1) (by simpa using h2) hk
def start (N : List Str) (vs : List V) : St := vs.map some ++ List.replicate (N.length - vs.length) none
def cxOf (CX : CXT) (P : Program) (w : World) (K : PySem.W.Frag) (mg : Str → Option Value) (base : Heap) (N : List Str) (qual : Str) (scope : Scope) (f : Addr) (cd : Value) (A : Around) (outer : List Env) (s : Shared) (H : Hp) (E : XK) : Cx where
  prog := P
  w := w
  K := K
  mg := mg
  base := base
  A := A.deeper (envOfC qual scope s.heap.objs.size f cd)
  N := N
  s_0 := s
  H_0 := H
  env := envOfC qual scope s.heap.objs.size f cd
  outer := outer
  stack := envOfC qual scope s.heap.objs.size f cd :: outer
  ex := []
  calm := true
  fn := fun _ => true
  pn := []
  xe := fun e s' => wpAny (model P w) (A.deeper (envOfC qual scope s.heap.objs.size f cd)) (leaving (envOfC qual scope s.heap.objs.size f cd) e) (fun _ s'' => CX outer H s E e s'') (fun e' s'' => CX outer H s E e' s'') s'
theorem cell_has {sc : Scope} {n : Nat} {x : Str} (h : sc.names.lookup x = some .cell) : ∃ c, (cellsFrom n sc.names []).lookup x = some c := by
  have q := PySem.W.cellsFrom_some sc.names n [] (.inl h)
  exact Option.isSome_iff_exists.mp q
theorem inv_start {CX : CXT} {P : Program} {w : World} {K : PySem.W.Frag} {mg : Str → Option Value} {base : Heap} {N ps : List Str} {qual : Str} {scope : Scope} {f : Addr} {cd : Value} {A : Around} {outer : List Env} {s s1 : Shared} {H : Hp} {E : XK} {us : List Value} {vs : List V}
    (S : FnScope N ps scope) (hd : A.handled = none) (e0 : Env0 P w K mg base A outer s H) (hl : vs.length = ps.length) (r : Vals vs us)
    (x : InCallC s s.heap.objs.size (bindL (envOfC qual scope s.heap.objs.size f cd).kindOf (ps.zip us) fun _ => none) (cellsFrom (s.heap.objs.size + 1) scope.names []) (bindC (envOfC qual scope s.heap.objs.size f cd).kindOf (ps.zip us) fun _ => none) s1) :
    Inv (cxOf CX P w K mg base N qual scope f cd A outer s H E) [] (start N vs) H s1 := by
  have hpl : ps.length ≤ N.length := by have := congrArg List.length S.pre; rw [List.length_take] at this; omega
  obtain ⟨h1, tk, rfl, hk⟩ := x.done
  have noA : ∀ b : Addr, b ∉ (cxOf CX P w K mg base N qual scope f cd A outer s H E).ex := fun b z => absurd (show b ∈ ([] : List Addr) from z) (by simp)
  refine ⟨⟨e0.mod, S.kind, rfl, rfl, Nat.le_refl _, fun y z c h1 h2 => ?_, fun y hy => ?_, fun y c _ h => ?_, fun _ => hd, Around.frames_deeper e0.frames, .inr ⟨rfl, rfl⟩, fun b z => absurd z (noA b), e0.bs, e0.bsz, fun b _ _ => noA b, fun b z => absurd z (noA b), e0.funs, e0.frf⟩,
    rfl, e0.bare, Un.kept hk, ⟨_, x.toInCall.ns, fun i y v h1 h2 h3 => ?_⟩, fun y c h => ⟨_, x.cell y c h⟩, e0.hok.fresh (Nat.le_refl _), fun y c h => ?_, fun p hp => absurd (show p ∈ ([] : List (Addr × Obj)) from hp) (by simp), e0.hok.kept hk, ?_⟩
  · exact name_of_addr x.apart (PySem.mem_of_lookup h1) (PySem.mem_of_lookup h2)
  · have hy : scope.names.lookup y = some .cell ∨ scope.names.lookup y = some .free := hy
    rcases hy with hy | hy
    · exact cell_has hy
    · exact absurd rfl (S.nofree _ (PySem.mem_of_lookup hy))
  · exact Nat.le_of_lt (x.above y c (PySem.mem_of_lookup h))
  · have hi : i < vs.length := by
      unfold start at h2
      by_cases hi : i < vs.length
      · exact hi
      · rw [List.getElem?_append_right (by simpa using hi)] at h2
        rw [List.getElem?_replicate] at h2
        split at h2 <;> cases h2
    have ha : vs[i]? = some v := by
      unfold start at h2
      rw [List.getElem?_append_left (by simpa using hi), List.getElem?_map] at h2
      cases e : vs[i]? with
      | none => rw [e] at h2; cases h2
      | some a => rw [e] at h2; cases h2; rfl
    obtain ⟨u, hu, rv⟩ := r.get ha
    have hp : ps[i]? = some y := by
      rw [← S.pre, List.getElem?_take_of_lt (by omega)]; exact h1
    have ndP : ps.Nodup := by rw [← S.pre]; exact S.nd.sublist (List.take_sublist _ _)
    refine ⟨u, rv, ?_⟩
    rcases S.par y (List.mem_of_getElem? hp) with k | k
    · exact .inl ⟨k, bindL_get ndP hp hu k⟩
    · obtain ⟨c, e⟩ := cell_has (n := s.heap.objs.size + 1) k
      refine .inr ⟨.inl k, c, e, ?_⟩
      have q := x.cell y c e
      rw [bindC_get ndP hp hu (by show scope.names.lookup y ≠ _; rw [k]; decide)] at q
      exact q
  · exact e0.hok.fresh (Nat.le_of_lt (x.above y c (PySem.mem_of_lookup h)))
  · unfold start
    show _ = N.length
    rw [List.length_append, List.length_map, List.length_replicate]
    omega
theorem fn_of {CX : CXT} {P : Program} {w : World} {K : PySem.W.Frag} {mg : Str → Option Value} {base : Heap} {k : Nat} {f : Addr} {name qual : Str} {params : Arguments} {body : List Stmt} {scope : Scope} {dV kV doc pm cdv ct oc : Value} {an od : Option Addr}
    {osl : Array (Option Value)} {N ps : List Str} {sp : Sp} (lk : K.lookup f = some ⟨oc, od, .func (PySem.W.fnOf name qual params body scope dV kV doc pm an cdv ct), osl⟩) (hcd : PySem.W.codeIn K cdv qual = true) (S : FnScope N ps scope)
    (len : ∀ vs H Q E, sp vs H Q E → vs.length = ps.length)
    (hbody : ∀ (A : Around) (outer : List Env) (s : Shared) (H : Hp) (vs : List V) (Q : VK) (E : XK), Room k (A.deeper (envOfC qual scope s.heap.objs.size f cdv)) → sp vs H Q E →
      ∃ t, PSs (cxOf CX P w K mg base N qual scope f cdv A outer s H E) body t ∧ t { nx := fun _ H' => Q .non H', rt := Q } (start N vs) H) :
    FnOk P w K mg base CX (k + 1) f (PySem.W.fnOf name qual params body scope dV kV doc pm an cdv ct) ps sp := by
  refine ⟨len, fun A outer s H args us vs Q E hr e0 hb r hsp => ?_⟩
  have hl := len _ _ _ _ hsp
  have KX : K.In s.heap := e0.mod.kin.keeps fun b o e => (e0.bs b o e).1
  have lim : s.heap.NoLimit := e0.mod.nolimit.keeps fun b o e => (e0.bs b o e).1
  have hkind : ∀ y ∈ ps.zip us, scope.names.lookup y.1 = some .local ∨ (scope.names.lookup y.1 = some .cell ∧ ((cellsFrom (s.heap.objs.size + 1) scope.names []).lookup y.1).isSome = true) := fun ⟨n, v⟩ hy => by
    rcases S.par n (List.of_mem_zip hy).1 with q | q
    · exact .inl q
    · exact .inr ⟨q, PySem.W.cellsFrom_some _ _ _ (.inl q)⟩
  refine codeAny_call_function hr.depth (KX _ _ lk) rfl S.co S.gen rfl (PySem.W.codeRec_of KX hcd) (hb _ _ _ _ ?_)
  refine wpAny_newFunctionEnv_cells S.kind hkind fun env he s1 x => ?_
  subst he
  refine ⟨lim.keeps x.toInCall.keep, codeAny_func ?_⟩
  obtain ⟨t, ht, hq⟩ := hbody A outer s H vs Q E (hr.deeper _) hsp
  have I : Inv (cxOf CX P w K mg base N qual scope f cdv A outer s H E) [] (start N vs) H s1 := inv_start S hr.hd e0 hl r x
  refine wpAny_mono (ht [] s1 (start N vs) H _ I hq) (fun fl s' hs => ?_) fun e s' hs => hs
  have fin : ∀ {σ' : St} {H' : Hp} {v : V} {u : Value}, Inv (cxOf CX P w K mg base N qual scope f cdv A outer s H E) [] σ' H' s' → RelV v u → Q v H' → CE outer P w H s Q u s' :=
    fun {σ' H' v u} J rv q => ⟨v, H', J.os, J.bare, J.base, J.hok, rv, q⟩
  cases fl with
  | ret u =>
    obtain ⟨v, σ', H', J, rv, q⟩ := hs
    exact fin J rv q
  | next =>
    obtain ⟨σ', H', J, q⟩ := hs
    exact fin (v := V.non) (u := Value.none) J rfl q
  | brk =>
    obtain ⟨_, _, _, q⟩ := hs
    exact False.elim q
  | cont =>
    obtain ⟨_, _, _, q⟩ := hs
    exact False.elim q
end L2
namespace L2
open PySem PySem.Spec PyProof.Rows
section
variable {X : Cx} {x : Str} {p pos : Pos} {e : Expr} {es : List Expr} {t : TA} {id T : String} {r : List V → Hp → VK → Prop}
def tCB (r : List V → Hp → VK → Prop) (t : TA) : TE := fun σ H Q => t σ H fun vs H1 => r vs H1 Q
theorem pe_callB (hc : CallR X (.builtin id) r) (hg : Gl X x) (hm : X.mg x = none) (hv : bootBuiltins x = some (.builtin id)) (ha : PA X (e :: es) t) (hn : x ≠ "__name__" := by decide) (hdb : (x == ("__debug__" : Str)) = false := by decide)
    (he : starEach (e :: es) X.env = (false, eval e X.env) :: starEach es X.env := by rfl) (hpl : (backTo pos (starEach es X.env)).any (·.1) = false := by rfl) : PE X (.Call (.Name x p) (e :: es) [] pos) (tCB r t) := by
  intro pins s σ H Q I h
  refine wpAny_Call_Name_kw (ld_blt I hg hm hv ?_ hn hdb)
  exact PyProof.Rows.callWith_builtin1 (thn (ha pos pins s σ H _ I h) fun us s1 ⟨vs, H1, I1, r1, q1⟩ => hc pins s1 σ H1 vs us Q I1 r1 q1) he hpl
theorem pe_callTy (hc : CallR X (.type T) r) (hg : Gl X x) (hm : X.mg x = none) (hv : bootBuiltins x = some (.type T)) (ha : PA X (e :: es) t) (hn : x ≠ "__name__" := by decide) (hdb : (x == ("__debug__" : Str)) = false := by decide)
    (he : starEach (e :: es) X.env = (false, eval e X.env) :: starEach es X.env := by rfl) (hpl : (backTo pos (starEach es X.env)).any (·.1) = false := by rfl) : PE X (.Call (.Name x p) (e :: es) [] pos) (tCB r t) := by
  intro pins s σ H Q I h
  refine wpAny_Call_Name_kw (ld_blt I hg hm hv ?_ hn hdb)
  exact PyProof.Rows.callWith_type1 (thn (ha pos pins s σ H _ I h) fun us s1 ⟨vs, H1, I1, r1, q1⟩ => hc pins s1 σ H1 vs us Q I1 r1 q1) he hpl
end
end L2
namespace HT
open PySem PyProof.Rows
section
open PySem.SeqAt
open PySem.AutoSeq1 (wpAny_loadPart')
open PySem.MeetsSeq PySem.MeetsSeq2 PySem.MeetsSeq3
end
section
variable {prog : Program} {w : World} {A : Around} {E : Value → Shared → Prop} {s : Shared}
def sIx (n d : Nat) : Option Int → Nat
  | none => d
  | some v => if v < 0 then (v + (n : Int)).toNat else min v.toNat n
theorem sIx_nat (n d k : Nat) : sIx n d (some (k : Int)) = min k n := by
  show (if (k : Int) < 0 then ((k : Int) + (n : Int)).toNat else min (k : Int).toNat n) = min k n
  rw [if_neg (by omega), Int.toNat_natCast]
end
end HT
namespace L2
open PySem PySem.Spec PyProof.Rows
abbrev TO := St → Hp → (Option Int → Hp → Prop) → Prop
def PO (X : Cx) (e : Option Expr) (t : TO) : Prop :=
  ∀ (pins : List (Addr × Obj)) (s : Shared) (σ : St) (H : Hp) (Q : Option Int → Hp → Prop), Inv X pins σ H s → t σ H Q →
    wpAny (model X.prog X.w) X.A (evalPart e X.env) (fun u s' => ∃ o H', Inv X pins σ H' s' ∧ IsPart u o ∧ Q o H') X.xe s
def tNoPart : TO := fun _ H Q => Q none H
def tPart (t : TE) : TO := fun σ H Q => t σ H fun x H1 => ∃ i, x = .int i ∧ Q (some i) H1
section
variable {X : Cx} {e : Expr} {te : TE} {lo hi : Option Expr} {tl th : TO} {pos p2 : Pos}
theorem po_none : PO X none tNoPart := by
  intro pins s σ H Q I h
  rw [evalPart_none]
  exact wpAny_pure ⟨none, H, I, .none, h⟩
theorem po_some (h : PE X e te) : PO X (some e) (tPart te) := by
  intro pins s σ H Q I hw
  rw [evalPart_some]
  refine thn (h pins s σ H _ I hw) fun u s1 ⟨x, H1, I1, r1, q1⟩ => ?_
  obtain ⟨i, rfl, q⟩ := q1
  obtain ⟨t, rfl⟩ := r1
  exact ⟨some i, H1, I1, .int i t, q⟩
def SlR (X : Cx) (r : V → Option Int → Option Int → Hp → VK → Prop) : Prop :=
  ∀ (pins : List (Addr × Obj)) (s : Shared) (σ : St) (H : Hp) (x : V) (v vl vu : Value) (lo hi : Option Int) (sl : Addr) (Q : VK), Inv X pins σ H s → RelV x v → s.heap.IsSliceOf sl vl vu .none → IsPart vl lo → IsPart vu hi → r x lo hi H Q →
    ∃ T id, typeLookup (.type T) "__getitem__" = pure (some (.builtin id)) ∧ s.TypeIs v T ∧ wpAny (model X.prog X.w) X.A (getItem v (.ref sl)) (EP X pins σ Q) X.xe s
def tSl (r : V → Option Int → Option Int → Hp → VK → Prop) (te : TE) (tl th : TO) : TE := fun σ H Q => te σ H fun x H1 => tl σ H1 fun l H2 => th σ H2 fun u H3 => r x l u H3 Q
theorem pe_slice {r : V → Option Int → Option Int → Hp → VK → Prop} (hr : SlR X r) (he : PE X e te) (hl : PO X lo tl) (hu : PO X hi th) : PE X (.Subscript e (.Slice lo hi none p2) pos) (tSl r te tl th) := by
  intro pins s σ H Q I h
  refine Subscript_ (thn (he pins s σ H _ I h) fun v s1 ⟨x, H1, I1, r1, q1⟩ => ?_)
  refine wpAny_Slice (thn (hl pins s1 σ H1 _ I1 q1) fun vl s2 ⟨l, H2, I2, pl, q2⟩ => thn (hu pins s2 σ H2 _ I2 q2) fun vu s3 ⟨u, H3, I3, pu, q3⟩ => ?_)
  rw [evalPart_none]
  refine wpAny_pure ?_
  have I4 : Inv X pins σ H3 { s3 with heap := s3.heap.push { cls := .type "slice", data := .fields #[vl, vu, .none] } } := I3.kept (t' := s3.toks) fun b ob q => Heap.get?_push_of_some _ q
  obtain ⟨T, id, hT, ht, hg⟩ := hr pins { s3 with heap := s3.heap.push { cls := .type "slice", data := .fields #[vl, vu, .none] } } σ H3 x v vl vu l u s3.heap.objs.size Q I4 r1 (Heap.IsSliceOf.new ..) pl pu q3
  show wpAny (model X.prog X.w) X.A (subscriptTail e (.Slice lo hi none p2) v (.ref s3.heap.objs.size)) (EP X pins σ Q) X.xe { s3 with heap := s3.heap.push { cls := .type "slice", data := .fields #[vl, vu, .none] } }
  exact tail_any (ops := [.ref s3.heap.objs.size, v]) ht hT hg (by with_unfolding_all rfl)
def cutV (xs : List V) (lo hi : Option Int) : List V := (xs.drop (HT.sIx xs.length 0 lo)).take (HT.sIx xs.length xs.length hi - HT.sIx xs.length 0 lo)
theorem cutV_length (xs : List V) (lo hi : Option Int) : (cutV xs lo hi).length ≤ xs.length := by
  unfold cutV
  rw [List.length_take, List.length_drop]
  omega
end
end L2
namespace L2
open PySem PySem.Spec PyProof.Rows
def ixN (n : Nat) (i : Int) : Option Nat := if 0 ≤ i then (if i < n then some i.toNat else none) else if -(n : Int) ≤ i then some (i + n).toNat else none
def atI {α : Type} (xs : List α) (i : Int) : Option α := (ixN xs.length i).bind fun j => xs[j]?
theorem ixN_seq {n : Nat} {i : Int} {j : Nat} (h : ixN n i = some j) : seqIndex? i n = some j ∧ j < n ∧ -(n : Int) ≤ i ∧ i < n := by
  unfold ixN at h
  by_cases h0 : 0 ≤ i
  · rw [if_pos h0] at h
    by_cases h1 : i < n
    · rw [if_pos h1] at h
      have e : i.toNat = j := Option.some.inj h
      exact ⟨by rw [seqIndex_of h0 h1, e], by omega, by omega, h1⟩
    · rw [if_neg h1] at h; cases h
  · rw [if_neg h0] at h
    by_cases h1 : -(n : Int) ≤ i
    · rw [if_pos h1] at h
      have e : (i + n).toNat = j := Option.some.inj h
      exact ⟨by rw [seqIndex_neg (by omega) h1, e], by omega, h1, by omega⟩
    · rw [if_neg h1] at h; cases h
theorem atI_get {α : Type} {xs : List α} {i : Int} {v : α} (h : atI xs i = some v) : ∃ j, seqIndex? i xs.length = some j ∧ xs[j]? = some v ∧ j < xs.length ∧ -(xs.length : Int) ≤ i ∧ i < xs.length := by
  unfold atI at h
  cases e : ixN xs.length i with
  | none => rw [e] at h; cases h
  | some j =>
    rw [e] at h
    obtain ⟨h1, h2, h3, h4⟩ := ixN_seq e
    exact ⟨j, h1, h, h2, h3, h4⟩
theorem atI_nat {α : Type} {xs : List α} {j : Nat} {v : α} (h : xs[j]? = some v) : atI xs (j : Int) = some v := by
  have hj : j < xs.length := (List.getElem?_eq_some_iff.mp h).1
  have e : ixN xs.length (j : Int) = some j := by
    unfold ixN
    rw [if_pos (by omega), if_pos (by omega)]; simp
  unfold atI; rw [e]; exact h
def PlainIx (b : Expr) : Prop := ∀ o i, subscripted b false o i = operate [o, i] (getItem o i)
def IxR (X : Cx) (r : R2) : Prop :=
  ∀ (value slice : Expr) (pins : List (Addr × Obj)) (s : Shared) (σ : St) (H : Hp) (x y : V) (v u : Value) (Q : VK), Inv X pins σ H s → RelV x v → RelV y u → r x y H Q →
    subscripted slice false v u = operate [v, u] (getItem v u) → wpAny (model X.prog X.w) X.A (subscriptTail value slice v u) (EP X pins σ Q) X.xe s
def MtR (X : Cx) (id : String) (r : V → List V → Hp → VK → Prop) : Prop :=
  ∀ (pins : List (Addr × Obj)) (s : Shared) (σ : St) (H : Hp) (x : V) (xs : List V) (v : Value) (us : List Value) (Q : VK), Inv X pins σ H s → RelV x v → Vals xs us → r x xs H Q →
    wpAny (model X.prog X.w) X.A (call (.builtin id) (v :: us)) (EP X pins σ Q) X.xe s
section
variable {X : Cx} {a b : Expr} {ta tb : TE} {pos : Pos}
theorem IxR.or {r r' : R2} (h : IxR X r) (h' : IxR X r') : IxR X (fun x y H Q => r x y H Q ∨ r' x y H Q) := by
  intro value slice pins s σ H x y v u Q I rx ry q hs
  rcases q with q | q
  · exact h value slice pins s σ H x y v u Q I rx ry q hs
  · exact h' value slice pins s σ H x y v u Q I rx ry q hs
theorem pe_ix {r : R2} (hr : IxR X r) (ha : PE X a ta) (hb : PE X b tb) (hs : PlainIx b) : PE X (.Subscript a b pos) (tOp r ta tb) := by
  intro pins s σ H Q I h
  exact Subscript_ (binT ha hb I h fun v u s2 x y H2 I2 rx ry q => hr a b pins s2 σ H2 x y v u Q I2 rx ry q (hs _ _))
def rIxL (K : PySem.W.Frag) : R2 := fun x y H Q => ∃ p xs i v, x = .ref p ∧ y = .int i ∧ SqL K H p xs ∧ atI xs i = some v ∧ Q v H
def rIxT (K : PySem.W.Frag) : R2 := fun x y H Q => ∃ p xs i v, x = .ref p ∧ y = .int i ∧ SqT K H p xs ∧ atI xs i = some v ∧ Q v H
theorem ix_list : IxR X (rIxL X.K) := by
  intro value slice pins s σ H x y v u Q I rx ry h hs
  obtain ⟨p, xs, i, z, rfl, rfl, hq, he, q⟩ := h
  cases rx
  obtain ⟨t, rfl⟩ := ry
  obtain ⟨its, r, pl, hz⟩ := I.list hq
  obtain ⟨j, h1, h2, h3, h4, h5⟩ := atI_get he
  obtain ⟨w, ew, rw'⟩ := r.get h2
  have hl := r.length
  have hn := line63
  have fin : EP X pins σ Q w s := ⟨z, H, I, rw', q⟩
  by_cases h0 : 0 ≤ i
  · have hj : i.toNat = j := by
      rw [seqIndex_of h0 h5] at h1
      exact Option.some.inj h1
    exact item_listR pl.isList h0 (by omega) (by rw [hj]; simpa using ew) fin hs
  · have hj : (i + (its.toArray.size : Int)).toNat = j := by
      rw [seqIndex_neg (by omega) h4] at h1
      rw [List.size_toArray, ← hl]
      exact Option.some.inj h1
    exact subscriptTail_builtinR (x := w) pl.isList.typeIs slot_list_getitem.lookup
      (wpAny_getItem_list_neg (Q := fun r s' => r = w ∧ EP X pins σ Q r s') pl.isList (by omega) (by rw [List.size_toArray] <;> omega) (by omega) (by rw [hj]; simpa using ew) ⟨rfl, fin⟩) hs
theorem ix_tup : IxR X (rIxT X.K) := by
  intro value slice pins s σ H x y v u Q I rx ry h hs
  obtain ⟨p, xs, i, z, rfl, rfl, hq, he, q⟩ := h
  cases rx
  obtain ⟨t, rfl⟩ := ry
  obtain ⟨its, r, pl, hz⟩ := I.tuple hq
  obtain ⟨j, h1, h2, h3, h4, h5⟩ := atI_get he
  obtain ⟨w, ew, rw'⟩ := r.get h2
  have hl := r.length
  have hn := line63
  have fin : EP X pins σ Q w s := ⟨z, H, I, rw', q⟩
  exact subscriptTail_builtinR (x := w) pl.typeIs slot_tuple_getitem.lookup
    (getItem_tuple (j := j) (Q := fun r s' => r = w ∧ EP X pins σ Q r s') pl (by omega) (by omega) (by rw [List.size_toArray, ← hl]; exact h1) (by simpa using ew) ⟨rfl, fin⟩) hs
theorem mapSeq_set (its : List Value) (n j : Nat) (u : Value) : Obj.mapSeq (·.setIfInBounds j u) { cls := .type "list", data := .seq its.toArray n } = { cls := .type "list", data := .seq (its.set j u).toArray n } := by
  simp [Obj.mapSeq]
theorem Inv.lst {pins : List (Addr × Obj)} {σ : St} {H : Hp} {s : Shared} {p : Addr} {xs : List V} (I : Inv X pins σ H s) (h : H p = some (.lst xs)) :
    ∃ (its : List Value) (n : Nat), Vals xs its ∧ s.heap.get? p = some { cls := .type "list", data := .seq its.toArray n } ∧ xs.length ≤ sizeLine := by
  obtain ⟨z, its, n, r, e⟩ := I.hok p _ h
  exact ⟨its, n, r, e, z⟩
theorem Inv.lstUpd {pins : List (Addr × Obj)} {σ : St} {H : Hp} {s : Shared} {p : Addr} {xs ys : List V} {its its' : List Value} {n n' : Nat} {f : Obj → Obj} (I : Inv X pins σ H s) (h : H p = some (.lst xs))
    (ho : s.heap.get? p = some { cls := .type "list", data := .seq its.toArray n }) (hf : f { cls := .type "list", data := .seq its.toArray n } = { cls := .type "list", data := .seq its'.toArray n' }) (r : Vals ys its') (hz : ys.length ≤ sizeLine) (t : Nat) :
    Inv X pins σ (upd H p (.lst ys)) { s with heap := s.heap.update p f, toks := t } := by
  have e : (s.heap.update p f).get? p = some { cls := .type "list", data := .seq its'.toArray n' } := by
    rw [Heap.get?_update_self f ho (by rw [hf] <;> rfl), hf]
  refine I.write (x := p) (e := p) (by rw [h]; trivial) (.inl rfl) (fun b u hb q => (Heap.get?_update_other _ _ (Ne.symm hb)).trans q) ⟨_, e⟩ ?_
  exact ⟨hz, its', n', r, e⟩
def rSetL : V → V → V → Hp → (Hp → Prop) → Prop := fun o i v H Q => ∃ p xs k j, o = .ref p ∧ i = .int k ∧ H p = some (.lst xs) ∧ ixN xs.length k = some j ∧ Q (upd H p (.lst (xs.set j v)))
theorem set_list : PSet X rSetL := by
  intro pins s σ H o i v ov iv u Q I ro ri rv h
  obtain ⟨p, xs, k, j, rfl, rfl, hp, hj, q⟩ := h
  cases ro
  obtain ⟨t, rfl⟩ := ri
  obtain ⟨its, n, r, ho, hz⟩ := I.lst hp
  obtain ⟨h1, h2, h3, h4⟩ := ixN_seq hj
  have hl := r.length
  have hn := line63
  have I' : Inv X pins σ (upd H p (.lst (xs.set j v))) { s with heap := s.heap.update p (Obj.mapSeq (·.setIfInBounds j u)) } :=
    I.lstUpd hp ho (mapSeq_set its n j u) (r.set rv j) (by rw [List.length_set]; exact hz) s.toks
  by_cases h0 : 0 ≤ k
  · have hk : k.toNat = j := by
      rw [seqIndex_of h0 h4] at h1
      exact Option.some.inj h1
    exact PySem.W.ki_setAt ho h0 (by omega) (by rw [List.size_toArray, ← hl]; exact h4) (by rw [hk]; exact ⟨_, I', q⟩)
  · have hk : (k + (its.toArray.size : Int)).toNat = j := by
      rw [seqIndex_neg (by omega) h3] at h1
      rw [List.size_toArray, ← hl]
      exact Option.some.inj h1
    exact PySem.W.ki_setBack ho (by omega) (by rw [List.size_toArray, ← hl]; exact h3) (by omega) (by rw [hk]; exact ⟨_, I', q⟩)
theorem slice_bounds (lo hi : Option Int) (n : Nat) : (sliceBounds lo hi none n).1 = ((HT.sIx n 0 lo : Nat) : Int) ∧ (sliceBounds lo hi none n).2.1 = ((HT.sIx n n hi : Nat) : Int) ∧ (sliceBounds lo hi none n).2.2 = 1 := by
  refine ⟨?_, ?_, rfl⟩
  · cases lo with
    | none => simp [sliceBounds, HT.sIx]
    | some i =>
      simp only [sliceBounds, HT.sIx, Option.getD_none, show (1 : Int) > 0 by decide, if_true]
      by_cases h : i < 0
      · simp only [h, if_true] <;> omega
      · simp only [h, if_false] <;> omega
  · cases hi with
    | none => simp [sliceBounds, HT.sIx]
    | some i =>
      simp only [sliceBounds, HT.sIx, Option.getD_none, show (1 : Int) > 0 by decide, if_true]
      by_cases h : i < 0
      · simp only [h, if_true] <;> omega
      · simp only [h, if_false] <;> omega
theorem slicePick_cut (its : List Value) (lo hi : Option Int) : slicePick its.toArray lo hi none = ((its.drop (HT.sIx its.length 0 lo)).take (HT.sIx its.length its.length hi - HT.sIx its.length 0 lo)).toArray := by
  obtain ⟨h1, h2, h3⟩ := slice_bounds lo hi its.toArray.size
  unfold slicePick
  rw [h1, h2, h3]
  simp only [sliceRange_one, pick_run, List.size_toArray] <;> rfl
def rSlL (K : PySem.W.Frag) : V → Option Int → Option Int → Hp → VK → Prop := fun x lo hi H Q => ∃ a xs, x = .ref a ∧ SqL K H a xs ∧ ∀ p, H p = none → Q (.ref p) (upd H p (.lst (cutV xs lo hi)))
theorem sl_list : SlR X (rSlL X.K) := by
  intro pins s σ H x v vl vu lo hi sl Q I rx hs pl pu h
  obtain ⟨a, xs, rfl, hx, q⟩ := h
  cases rx
  obtain ⟨its, r, ht, hz⟩ := I.list hx
  have hlen := r.length
  refine ⟨"list", _, slot_list_getitem.lookup, ht.isList.typeIs, ?_⟩
  refine wpAny_getItem_list_slice ht.isList hs pl pu .none (by simp) ?_ (by rw [List.size_toArray] <;> omega)
  rw [slicePick_cut, ← hlen]
  refine ⟨.ref s.heap.objs.size, _, I.laid (t' := s.toks) (o := .lst (cutV xs lo hi)) (fun b ob q => Heap.get?_push_of_some _ q) (Nat.le_refl _) ?_, rfl, q _ (I.hok.fresh (Nat.le_refl _))⟩
  exact ⟨Nat.le_trans (cutV_length xs lo hi) hz, _, 0, (r.drop (HT.sIx xs.length 0 lo)).take (HT.sIx xs.length xs.length hi - HT.sIx xs.length 0 lo), Heap.get?_push_size _ rfl⟩
def flatV : V → Bool
  | .non => true
  | .bl _ => true
  | .int _ => true
  | .str _ => true
  | _ => false
def eqV : V → V → Bool
  | .non, .non => true
  | .bl a, .bl b => a == b
  | .bl a, .int b => (if a then 1 else 0) == b
  | .int a, .bl b => a == (if b then 1 else 0)
  | .int a, .int b => a == b
  | .str a, .str b => a == b
  | _, _ => false
theorem eqAt_V {A : Around} {s : Shared} {y x : V} {u v : Value} (ry : RelV y u) (rx : RelV x v) (fy : flatV y = true) (fx : flatV x = true) : SeqAt.EqAt A s u v (eqV y x) := by
  cases y with
  | non =>
    cases ry
    cases x with
    | non => cases rx; exact SeqAt.EqAt.same _
    | bl b => cases rx; exact SeqAt.EqAt.none_bool b
    | int b => obtain ⟨t, rfl⟩ := rx; exact SeqAt.EqAt.none_int b t
    | str b => obtain ⟨t, rfl⟩ := rx; exact SeqAt.EqAt.none_str b t
    | _ => exact absurd (show false = true from fx) Bool.false_ne_true
  | bl a =>
    cases ry
    cases x with
    | non => cases rx; exact SeqAt.EqAt.bool_none a
    | bl b => cases rx; exact SeqAt.EqAt.bool_bool a b
    | int b => obtain ⟨t, rfl⟩ := rx; exact SeqAt.EqAt.bool_int a b t
    | str b => obtain ⟨t, rfl⟩ := rx; exact SeqAt.EqAt.bool_str a b t
    | _ => exact absurd (show false = true from fx) Bool.false_ne_true
  | int a =>
    obtain ⟨t', rfl⟩ := ry
    cases x with
    | non => cases rx; exact SeqAt.EqAt.int_none a t'
    | bl b => cases rx; exact SeqAt.EqAt.int_bool a t' b
    | int b => obtain ⟨t, rfl⟩ := rx; exact SeqAt.EqAt.int_int a t' b t
    | str b => obtain ⟨t, rfl⟩ := rx; exact SeqAt.EqAt.int_str a t' b t
    | _ => exact absurd (show false = true from fx) Bool.false_ne_true
  | str a =>
    obtain ⟨t', rfl⟩ := ry
    cases x with
    | non => cases rx; exact SeqAt.EqAt.str_none a t'
    | bl b => cases rx; exact SeqAt.EqAt.str_bool a t' b
    | int b => obtain ⟨t, rfl⟩ := rx; exact SeqAt.EqAt.str_int a t' b t
    | str b => obtain ⟨t, rfl⟩ := rx; exact SeqAt.EqAt.str_str a t' b t
    | _ => exact absurd (show false = true from fx) Bool.false_ne_true
  | _ => exact absurd (show false = true from fy) Bool.false_ne_true
def eqU (x : V) (u : Value) : Bool := match u with
  | .none => eqV .non x
  | .bool b => eqV (.bl b) x
  | .int i _ => eqV (.int i) x
  | .str z _ => eqV (.str z) x
  | _ => false
theorem eqU_of {x y : V} {u : Value} (r : RelV y u) (f : flatV y = true) : eqU x u = eqV y x := by
  cases y with
  | non => cases r; rfl
  | bl b => cases r; rfl
  | int i => obtain ⟨t, rfl⟩ := r; rfl
  | str z => obtain ⟨t, rfl⟩ := r; rfl
  | _ => exact absurd (show false = true from f) Bool.false_ne_true
theorem any_eqU {x : V} : ∀ {xs : List V} {us : List Value}, Vals xs us → xs.all flatV = true → us.any (eqU x) = xs.any fun y => eqV y x
  | _, _, .nil, _ => rfl
  | y :: xs, u :: us, .cons r t, f => by
    rw [List.all_cons, Bool.and_eq_true] at f
    rw [List.any_cons, List.any_cons, eqU_of r f.1, any_eqU t f.2]
theorem mem_eqAt {A : Around} {s : Shared} {x : V} {v : Value} (rx : RelV x v) (fx : flatV x = true) : ∀ {xs : List V} {us : List Value}, Vals xs us → xs.all flatV = true → ∀ u ∈ us, SeqAt.EqAt A s u v (eqU x u)
  | _, _, .nil, _ => fun u hu => by cases hu
  | y :: xs, u :: us, .cons r t, f => fun u' hu => by
    rw [List.all_cons, Bool.and_eq_true] at f
    rcases List.mem_cons.mp hu with rfl | hu
    · rw [eqU_of r f.1]; exact eqAt_V r rx f.1 fx
    · exact mem_eqAt rx fx t f.2 u' hu
def inV (x : V) (xs : List V) : Bool := xs.any fun y => eqV y x
def rIn (K : PySem.W.Frag) (neg : Bool) : R2 := fun x y H Q => ∃ p xs, y = .ref p ∧ (SqL K H p xs ∨ SqT K H p xs) ∧ flatV x = true ∧ xs.all flatV = true ∧ Q (.bl (if neg then !inV x xs else inV x xs)) H
theorem op_notIn_seq : OpR X (compareOp .NotIn) (rIn X.K true) := by
  intro pins s σ H x y v u Q I rx ry h
  obtain ⟨p, xs, rfl, hq, fx, fs, q⟩ := h
  cases ry
  rcases hq with hq | hq
  · obtain ⟨its, r, pl, hz⟩ := I.list hq
    refine SeqAt.notIn_listAt (eqU x) pl.isList (fun w hw => mem_eqAt rx fx r fs w (by simpa using hw)) ⟨.bl _, H, I, rfl, ?_⟩
    rw [show its.toArray.any (eqU x) = its.any (eqU x) by simp, any_eqU r fs]
    exact q
  · obtain ⟨its, r, pl, hz⟩ := I.tuple hq
    refine SeqAt.notIn_tupleAt (eqU x) pl (fun w hw => mem_eqAt rx fx r fs w (by simpa using hw)) ⟨.bl _, H, I, rfl, ?_⟩
    rw [show its.toArray.any (eqU x) = its.any (eqU x) by simp, any_eqU r fs]
    exact q
theorem call_len_seq : CallR X (.builtin "len") (fun xs H Q => ∃ p ys, xs = [.ref p] ∧ (SqL X.K H p ys ∨ SqT X.K H p ys) ∧ Q (.int ys.length) H) := by
  intro pins s σ H xs us Q I r h
  obtain ⟨p, ys, rfl, hq, q⟩ := h
  obtain ⟨u, rfl, rx⟩ := vals1 r
  cases rx
  have hn := line63
  rcases hq with hq | hq
  · obtain ⟨its, r', pl, hz⟩ := I.list hq
    have hlen := r'.length
    exact Calls.call_len_list pl.isList (by simp only [List.size_toArray] <;> omega) ⟨.int ys.length, H, I.tok _, ⟨s.toks + 1, by rw [List.size_toArray, hlen]⟩, q⟩
  · obtain ⟨its, r', pl, hz⟩ := I.tuple hq
    have hlen := r'.length
    exact len_tuple pl (by simp only [List.size_toArray] <;> omega) ⟨.int ys.length, H, I.tok _, ⟨s.toks + 1, by rw [List.size_toArray, hlen]⟩, q⟩
theorem call_tuple_of : CallR X (.type "tuple") (fun xs H Q => ∃ p ys, xs = [.ref p] ∧ ((SqL X.K H p ys ∧ ∀ l, H l = none → Q (.ref l) (upd H l (.tup ys))) ∨ (SqT X.K H p ys ∧ Q (.ref p) H))) := by
  intro pins s σ H xs us Q I r h
  obtain ⟨p, ys, rfl, h⟩ := h
  obtain ⟨u, rfl, rx⟩ := vals1 r
  cases rx
  rcases h with ⟨hq, q⟩ | ⟨hq, q⟩
  · obtain ⟨its, r', pl, hz⟩ := I.list hq
    have hlen := r'.length
    refine call_tuple_list pl.isList (fun h' kp => ?_) (by simp only [List.size_toArray] <;> omega)
    have I1 : Inv X pins σ H { s with heap := h' } := I.kept (t' := s.toks) kp
    have I2 : Inv X pins σ (upd H h'.objs.size (.tup ys)) { s with heap := h'.push { cls := .type "tuple", data := .seq its.toArray } } :=
      I1.laid (t' := s.toks) (fun b o e => Heap.get?_push_of_some _ e) (Nat.le_refl _) (show ObjOk X.prog X.w _ _ _ (.tup ys) from ⟨hz, its, r', IsTup.new _ _⟩)
    exact ⟨.ref h'.objs.size, _, I2, rfl, q _ (I1.hok.fresh (Nat.le_refl _))⟩
  · obtain ⟨its, r', pl, hz⟩ := I.tuple hq
    exact call_tuple_same pl ⟨.ref p, H, I, rfl, q⟩
def tyV (K : PySem.W.Frag) (T : String) (x : V) (H : Hp) : Prop := match x with
  | .str _ => T = "str"
  | .int _ => T = "int"
  | .ref p => (T = "list" ∧ ∃ xs, SqL K H p xs) ∨ (T = "tuple" ∧ ∃ o, K.lookup p = some o ∧ o.cls = .type "tuple" ∧ o.dict = none) ∨
      (T = "dict" ∧ ((∃ kvs, H p = some (.dK kvs)) ∨ ∃ kvs, H p = some (.dT kvs))) ∨ (T = "set" ∧ ∃ S n, H p = some (.set S n))
  | _ => False
theorem tyV_is {pins : List (Addr × Obj)} {σ : St} {H : Hp} {s : Shared} {T : String} {x : V} {v : Value} (I : Inv X pins σ H s) (r : RelV x v) (ty : tyV X.K T x H) :
    s.TypeIs v T ∧ ∀ a, v = .ref a → ∃ ob, s.heap.get? a = some ob ∧ ob.dict = none := by
  cases x with
  | str z =>
    obtain ⟨t, rfl⟩ := r
    cases (show T = "str" from ty)
    exact ⟨typeIs_str s z t, fun _ e => nomatch e⟩
  | int i =>
    obtain ⟨t, rfl⟩ := r
    cases (show T = "int" from ty)
    exact ⟨typeIs_int s i t, fun _ e => nomatch e⟩
  | ref p =>
    cases r
    rcases ty with ⟨rfl, xs, hq⟩ | ⟨rfl, o, hk, hc, hd⟩ | ⟨rfl, hk⟩ | ⟨rfl, S, n, hk⟩
    · obtain ⟨its, _, pl, _⟩ := I.list hq
      refine ⟨pl.isList.typeIs, fun a e => ?_⟩
      cases e
      obtain ⟨o, n, e, c, hd, _⟩ := pl
      exact ⟨o, e, hd⟩
    · refine ⟨⟨o, I.kIn p o hk, hc⟩, fun a e => ?_⟩
      cases e
      exact ⟨o, I.kIn _ o hk, hd⟩
    · have z : ∃ o, s.heap.get? p = some o ∧ o.ExactDict := by
        rcases hk with ⟨kvs, hk⟩ | ⟨kvs, hk⟩
        · obtain ⟨_, _, _, _, o, _, _, e, ex, _⟩ := I.hok p _ hk
          exact ⟨o, e, ex⟩
        · obtain ⟨_, _, _, _, o, _, _, e, ex, _⟩ := I.hok p _ hk
          exact ⟨o, e, ex⟩
      obtain ⟨o, e, ex⟩ := z
      refine ⟨⟨o, e, ex.1⟩, fun a e2 => ?_⟩
      cases e2
      exact ⟨o, e, ex.2.1⟩
    · obtain ⟨o, _, _, _, e, ex, _⟩ := I.hok p _ hk
      refine ⟨⟨o, e, ex.1⟩, fun a e2 => ?_⟩
      cases e2
      exact ⟨o, e, ex.2.1⟩
  | _ => exact False.elim ty
def tBM (K : PySem.W.Frag) (T : String) (r : V → List V → Hp → VK → Prop) (to : TE) (t : TA) : TE := fun σ H Q => to σ H fun x H1 => tyV K T x H1 ∧ t σ H1 fun xs H2 => r x xs H2 Q
variable {o e : Expr} {es : List Expr} {to : TE} {t : TA} {name : Str} {apos cpos : Pos} {T id : String} {r : V → List V → Hp → VK → Prop}
theorem pe_bm (pa : PlainAttrs T) (slot : Slot T name id) (hty : typeOf (.builtin id) = pure (.type "method_descriptor")) (hm : MtR X id r) (ho : PE X o to) (ha : PA X (e :: es) t)
    (hbase : attributeBase o name X.env (eval o X.env) = eval o X.env := by rfl)
    (hfew : ((backTo cpos (starEach (e :: es) X.env)).all (fun x => !x.1) && (backToKw cpos (keywordEach [] X.env)).all (fun x => x.1.isSome)
      && decide ((e :: es).length + ([] : List Keyword).length + (if ([] : List Keyword).isEmpty then 0 else 1) < 30)) = true := by rfl)
    (hline : (apos.endLine == cpos.line) = true := by rfl) (hs : starEach (e :: es) X.env = (false, eval e X.env) :: starEach es X.env := by rfl) (hplain : (backTo cpos (starEach es X.env)).any (·.1) = false := by rfl) :
    PE X (.Call (.Attribute o name apos) (e :: es) [] cpos) (tBM X.K T r to t) := by
  intro pins s σ H Q I h
  refine wpAny_Call_method_late hbase hfew hline rfl (thn (ho pins s σ H _ I h) fun v s1 ⟨x, H1, I1, r1, ty, q1⟩ => ?_)
  obtain ⟨h1, h2⟩ := tyV_is I1 r1 ty
  refine ⟨T, id, pa, slot, hty, h1, h2, ?_⟩
  have hA := ha cpos pins s1 σ H1 _ I1 q1
  rw [hs] at hA ⊢
  refine Calls.callWith_builtin (by show (false || (backTo cpos (starEach es X.env)).any (·.1)) = false; rw [hplain] <;> rfl) (Calls.evalArgs_plain ?_)
  exact thn hA fun us s2 ⟨vs, H2, I2, r2, q2⟩ => hm pins s2 σ H2 x vs v us Q I2 r1 r2 q2
end
end L2
namespace L2
open PySem PySem.Spec PyProof.Rows
def MtM (X : Cx) (id : String) (r : V → List V → Hp → VK → Prop) : Prop :=
  ∀ (pins : List (Addr × Obj)) (s : Shared) (σ : St) (H : Hp) (x : V) (xs : List V) (v : Value) (us : List Value) (Q : VK), Inv X pins σ H s → RelV x v → Vals xs us → r x xs H Q →
    wpAny (model X.prog X.w) X.A (call (.builtin id) (v :: us)) (EP X pins σ Q) X.xe s
theorem Vals.one : ∀ {x : V} {us : List Value}, Vals [x] us → ∃ u, us = [u] ∧ RelV x u
  | _, _, .cons r .nil => ⟨_, rfl, r⟩
theorem Vals.eraseIdx : ∀ {xs : List V} {us : List Value} (i : Nat), Vals xs us → Vals (xs.eraseIdx i) (us.eraseIdx i)
  | _, _, _, .nil => .nil
  | _, _, 0, .cons _ t => t
  | _, _, i + 1, .cons r t => .cons r (Vals.eraseIdx i t)
theorem Vals.rep {xs : List V} {us : List Value} (h : Vals xs us) : ∀ k : Nat, Vals (List.replicate k xs).flatten (List.replicate k us).flatten
  | 0 => .nil
  | k + 1 => by
    rw [List.replicate_succ, List.replicate_succ, List.flatten_cons, List.flatten_cons]
    exact Vals.append h (Vals.rep h k)
theorem len_erase {α : Type} : ∀ (l : List α) (i : Nat), (l.eraseIdx i).length ≤ l.length
  | [], _ => Nat.le_refl _
  | _ :: _, 0 => Nat.le_succ _
  | _ :: r, i + 1 => Nat.succ_le_succ (len_erase r i)
theorem foldl_rep (its : List Value) : ∀ (k : Nat) (acc : List Value),
    List.foldl (fun x1 x2 => x1 ++ x2) acc.toArray (List.replicate k its.toArray) = (acc ++ (List.replicate k its).flatten).toArray
  | 0, acc => by simp
  | k + 1, acc => by
    have e : acc.toArray ++ its.toArray = (acc ++ its).toArray := by simp
    have e2 : (acc ++ its) ++ (List.replicate k its).flatten = acc ++ (List.replicate (k + 1) its).flatten := by
      rw [List.replicate_succ, List.flatten_cons, List.append_assoc]
    rw [← e2, ← foldl_rep its k (acc ++ its), ← e, List.replicate_succ, List.foldl_cons]
section
variable {X : Cx} {pins : List (Addr × Obj)} {σ : St} {H : Hp} {s : Shared} {l b : Addr} {xs ys zs : List V}
theorem Inv.lset {its its' : List Value} {n : Nat} {f : Array Value → Array Value} {t' : Nat} (I : Inv X pins σ H s) (hH : H l = some (.lst xs))
    (e : s.heap.get? l = some { cls := .type "list", data := .seq its.toArray n }) (hf : f its.toArray = its'.toArray) (hv : Vals ys its') (hz : ys.length ≤ sizeLine) :
    Inv X pins σ (upd H l (.lst ys)) { s with heap := s.heap.update l (Obj.mapSeq f), toks := t' } := by
  have q := PySem.IsL.update e f
  rw [hf] at q
  refine I.write (x := l) (e := l) (by rw [hH]; exact trivial) (.inl rfl) (fun b' u hb hu => (Heap.get?_update_other s.heap (Obj.mapSeq f) (Ne.symm hb)).trans hu) ⟨_, q⟩ ?_
  exact ⟨hz, its', _, hv, q⟩
theorem Inv.lnew {its : List Value} {t' : Nat} (I : Inv X pins σ H s) (hv : Vals ys its) (hz : ys.length ≤ sizeLine) :
    Inv X pins σ (upd H s.heap.objs.size (.lst ys)) { s with heap := s.heap.push { cls := .type "list", data := .seq its.toArray }, toks := t' } :=
  I.laid (fun _ _ q => Heap.get?_push_of_some _ q) (Nat.le_refl _) ⟨hz, its, 0, hv, Heap.get?_push_size _ rfl⟩
theorem Inv.fresh (I : Inv X pins σ H s) : H s.heap.objs.size = none := I.hok.fresh (Nat.le_refl _)
theorem Inv.lstM (I : Inv X pins σ H s) (hH : H l = some (.lst xs)) : xs.length ≤ sizeLine ∧ ∃ (its : List Value) (n : Nat), Vals xs its ∧ xs.length = its.length ∧ s.heap.get? l = some { cls := .type "list", data := .seq its.toArray n } := by
  obtain ⟨z, its, n, r, e⟩ := I.hok l _ hH
  exact ⟨z, its, n, r, r.length, e⟩
theorem notLongL {n : Nat} (h : n ≤ sizeLine) : Builtin.List.listTooLong n = false := by
  unfold Builtin.List.listTooLong
  exact decide_eq_false (by omega)
end
section
variable {X : Cx}
def rAppend : V → List V → Hp → VK → Prop := fun x vs H Q => ∃ l xs y, x = .ref l ∧ vs = [y] ∧ H l = some (.lst xs) ∧ xs.length < sizeLine ∧ Q .non (upd H l (.lst (xs ++ [y])))
theorem mt_append : MtM X "list.append" rAppend := by
  intro pins s σ H x vs v us Q I rx rv h
  obtain ⟨l, xs, y, rfl, rfl, hH, hz, q⟩ := h
  cases rx
  obtain ⟨u, rfl, ru⟩ := rv.one
  obtain ⟨z, its, n, r, hl, e⟩ := I.lstM hH
  refine call_meets F.slot_list_append ⟨_, e, rfl⟩ F.entry_list_append (F.args_list_append_2 _ _) (PySem.list_append l its.toArray n u (by rw [List.size_toArray]; omega)) ⟨e, ?_⟩
  refine ⟨.non, _, I.lset (its' := its ++ [u]) hH e (by simp) (r.append (.cons ru .nil)) ?_, rfl, q⟩
  rw [List.length_append, List.length_singleton]
  omega
def rExtend : V → List V → Hp → VK → Prop := fun x vs H Q => ∃ l b xs zs, x = .ref l ∧ vs = [.ref b] ∧ H l = some (.lst xs) ∧ H b = some (.lst zs) ∧ xs.length + zs.length ≤ sizeLine ∧ Q .non (upd H l (.lst (xs ++ zs)))
theorem mt_extend : MtM X "list.extend" rExtend := by
  intro pins s σ H x vs v us Q I rx rv h
  obtain ⟨l, b, xs, zs, rfl, rfl, hH, hB, hz, q⟩ := h
  cases rx
  obtain ⟨u, rfl, ru⟩ := rv.one
  cases ru
  obtain ⟨z, its, n, r, hl, e⟩ := I.lstM hH
  obtain ⟨z2, its2, n2, r2, hl2, e2⟩ := I.lstM hB
  have hsz : its.toArray.size + its2.toArray.size ≤ sizeLine := by rw [List.size_toArray, List.size_toArray]; omega
  have hlong : ¬ (!its.toArray.isEmpty && Builtin.List.listTooLong (its.toArray.size + its2.toArray.size)) = true := by
    rw [notLongL hsz, Bool.and_false]
    exact Bool.false_ne_true
  refine call_meets F.slot_list_extend ⟨_, e, rfl⟩ F.entry_list_extend (F.args_list_extend_2 _ _)
    (AutoSeq1.list_extend_list_list_0 l its.toArray n b its2.toArray n2 hlong (by rw [List.size_toArray]; omega) (by omega)) ⟨e, e2, ?_⟩
  refine ⟨.non, _, I.lset (its' := its ++ its2) hH e (by simp) (r.append r2) ?_, rfl, q⟩
  rw [List.length_append]
  omega
def rPopAt : V → List V → Hp → VK → Prop := fun x vs H Q => ∃ l xs i k y, x = .ref l ∧ vs = [.int i] ∧ H l = some (.lst xs) ∧ -(2 ^ 63) ≤ i ∧ i < 2 ^ 63 ∧ seqIndex? i xs.length = some k ∧ xs[k]? = some y ∧ Q y (upd H l (.lst (xs.eraseIdx k)))
theorem mt_popAt : MtM X "list.pop" rPopAt := by
  intro pins s σ H x vs v us Q I rx rv h
  obtain ⟨l, xs, i, k, y, rfl, rfl, hH, h1, h2, hk, hy, q⟩ := h
  cases rx
  obtain ⟨u, rfl, ru⟩ := rv.one
  obtain ⟨t, rfl⟩ := ru
  obtain ⟨z, its, n, r, hl, e⟩ := I.lstM hH
  obtain ⟨w, hw, rw'⟩ := r.get hy
  refine call_meets F.slot_list_pop ⟨_, e, rfl⟩ F.entry_list_pop (F.args_list_pop_2 _ _)
    (MeetsSeq.list_pop_at l its.toArray n i t k w (fitsIndex_both h1 h2) (by rw [List.size_toArray, ← hl]; exact hk) (by rw [← Array.getElem?_toList]; exact hw) (by rw [List.size_toArray]; omega)) ⟨e, ?_⟩
  refine ⟨y, _, I.lset (its' := its.eraseIdx k) hH e ?_ (r.eraseIdx k) ?_, rw', q⟩
  · show its.toArray.eraseIdxIfInBounds k = (its.eraseIdx k).toArray
    rw [List.eraseIdxIfInBounds_toArray]
  · have := len_erase xs k
    omega
def rCat : R2 := fun x y H Q => ∃ l b xs zs, x = .ref l ∧ y = .ref b ∧ H l = some (.lst xs) ∧ H b = some (.lst zs) ∧ xs.length + zs.length ≤ sizeLine ∧ ∀ p, H p = none → Q (.ref p) (upd H p (.lst (xs ++ zs)))
theorem op_cat : OpR X (binaryOp .Add) rCat := by
  intro pins s σ H x y v u Q I rx ry h
  obtain ⟨l, b, xs, zs, rfl, rfl, hH, hB, hz, q⟩ := h
  cases rx
  cases ry
  obtain ⟨z, its, n, r, hl, e⟩ := I.lstM hH
  obtain ⟨z2, its2, n2, r2, hl2, e2⟩ := I.lstM hB
  refine PySem.P.add_list e e2 ?_ (by rw [List.size_toArray, List.size_toArray]; omega)
  have ea : its.toArray ++ its2.toArray = (its ++ its2).toArray := by simp
  rw [ea]
  exact ⟨.ref _, _, I.lnew (t' := s.toks) (r.append r2) (by rw [List.length_append]; omega), rfl, q _ I.fresh⟩
def rRep : R2 := fun x y H Q => ∃ l k xs, x = .ref l ∧ y = .int k ∧ H l = some (.lst xs) ∧ -(2 ^ 63) ≤ k ∧ k < 2 ^ 63 ∧ xs.length * k.toNat ≤ sizeLine ∧
  ∀ p, H p = none → Q (.ref p) (upd H p (.lst (List.replicate k.toNat xs).flatten))
theorem len_rep {α : Type} (xs : List α) (k : Nat) : (List.replicate k xs).flatten.length = k * xs.length := by
  induction k with
  | zero => simp
  | succ k ih => rw [List.replicate_succ, List.flatten_cons, List.length_append, ih, Nat.succ_mul, Nat.add_comm]
theorem op_rep : OpR X (binaryOp .Mult) rRep := by
  intro pins s σ H x y v u Q I rx ry h
  obtain ⟨l, k, xs, rfl, rfl, hH, h1, h2, hz, q⟩ := h
  cases rx
  obtain ⟨t, rfl⟩ := ry
  obtain ⟨z, its, n, r, hl, e⟩ := I.lstM hH
  have hlen : its.toArray.size * k.toNat ≤ sizeLine := by rw [List.size_toArray, ← hl]; exact hz
  have hcap : ¬ its.toArray.size * k.toNat > (2 ^ 63 - 1) / 8 := by
    have : (sizeLine : Nat) ≤ (2 ^ 63 - 1) / 8 := by decide
    omega
  have hfit : ¬ (!Builtin.List.listFitsIndex k) = true := by
    rw [fitsIndex_both h1 h2]
    exact Bool.false_ne_true
  have hlong : ¬ Builtin.List.listTooLong (its.toArray.size * k.toNat) = true := by
    rw [notLongL hlen]
    exact Bool.false_ne_true
  have hnew : List.foldl (fun x1 x2 => x1 ++ x2) #[] (List.replicate (if its.toArray.isEmpty = true then 0 else k.toNat) its.toArray) = (List.replicate k.toNat its).flatten.toArray := by
    have f0 : ∀ m : Nat, List.foldl (fun x1 x2 => x1 ++ x2) #[] (List.replicate m its.toArray) = (List.replicate m its).flatten.toArray := fun m => by
      have := foldl_rep its m []
      rw [List.nil_append] at this
      exact this
    rw [f0]
    cases its with
    | nil => simp
    | cons a r' => rw [if_neg (by simp)]
  refine wpAny_binaryOp_repeat_ref (T := "list") (U := "int") (by decide) ⟨_, e, rfl⟩ (fun s' => typeIs_int s' k t) noFill_list_mul F.fills_int_mul F.slot_int_rmul repeat_list F.slot_int_index.lookup
    (call_meets F.slot_int_rmul (typeIs_int s k t) F.entry_int_rmul (F.args_int_rmul_2 _ _) (int___rmul___int_list k t l its.toArray n)
      ⟨e, rfl, ⟨_, e, rfl⟩, call_meets F.slot_list_mul ⟨_, e, rfl⟩ F.entry_list_mul (F.args_list_mul_2 _ _) (AutoListH.list___mul___list_int_3 l its.toArray n k t hfit hcap hlong) ⟨e, ?_⟩⟩)
  rw [hnew]
  exact ⟨.ref _, _, I.lnew (t' := s.toks) (r.rep k.toNat) (by rw [len_rep, Nat.mul_comm]; exact hz), rfl, q _ I.fresh⟩
end
section
variable {prog : Program} {w : World} {A : Around} {E : Value → Shared → Prop} {s : Shared}
set_option maxRecDepth 100000 in
end
section
variable {X : Cx}
end
end L2
namespace L2
open PySem PySem.Spec PyProof.Rows
theorem Vals.ints : ∀ {ns : List Int} {us : List Value}, Vals (ns.map V.int) us → IntsAre us ns
  | [], us, h => by
    rw [List.map_nil] at h
    cases h
    exact IntsAre.nil
  | n :: ns, us, h => by
    rw [List.map_cons] at h
    cases h with
    | cons r t =>
      obtain ⟨k, rfl⟩ := r
      exact IntsAre.cons n k (Vals.ints t)
theorem vals_of_ints : ∀ {us : List Value} {ns : List Int}, IntsAre us ns → Vals (ns.map V.int) us
  | _, _, .nil => by rw [List.map_nil]; exact Paired.nil
  | _, _, .cons n t h => by rw [List.map_cons]; exact Paired.cons (show RelV (V.int n) (Value.int n t) from ⟨t, rfl⟩) (vals_of_ints h)
theorem Vals.bls : ∀ {bs : List Bool} {us : List Value}, Vals (bs.map V.bl) us → us = bs.map Value.bool
  | [], us, h => by
    rw [List.map_nil] at h
    cases h
    rfl
  | b :: bs, us, h => by
    rw [List.map_cons] at h
    cases h with
    | cons r t =>
      cases r
      rw [Vals.bls t, List.map_cons]
theorem Vals.ref1 {a : Addr} {us : List Value} (r : Vals [V.ref a] us) : us = [Value.ref a] := by
  cases r with
  | cons r t =>
    cases t
    cases r
    rfl
section
variable {prog : Program} {w : World} {A : Around} {E : Value → Shared → Prop} {s : Shared} {l : Addr} {its : List Value} {ns : List Int} {Q : Value → Shared → Prop}
theorem sum_raw (hh : A.handled = none) (hl : s.heap.IsList l its.toArray) (hi : IntsAre its ns)
    (h : ∀ h' tk t', (∀ b o, s.heap.get? b = some o → h'.get? b = some o) → Q (.int ns.sum t') { s with heap := h', toks := tk }) : wpAny (model prog w) A (call (.builtin "sum") [.ref l]) Q E s := by
  obtain ⟨xs, e⟩ := hi.allInts.items
  have hn : numsOf (intItems xs).toList = ns := by rw [← e]; exact hi.numsOf
  rw [nums_intItems] at hn
  rw [e] at hl
  refine PySem.sum_intListG hh hl fun h' tk t' hk => ?_
  have := h h' tk t' hk
  rw [preSum_eq, List.take_of_length_le (by simp), hn]; exact this
theorem max_raw (hh : A.handled = none) (hl : s.heap.IsList l its.toArray) (hi : IntsAre its ns) (hne : 0 < ns.length)
    (h : ∀ h' tk M t', (∀ b o, s.heap.get? b = some o → h'.get? b = some o) → M ∈ ns → (∀ a, a ∈ ns → a ≤ M) → Q (.int M t') { s with heap := h', toks := tk }) : wpAny (model prog w) A (call (.builtin "max") [.ref l]) Q E s := by
  obtain ⟨xs, e⟩ := hi.allInts.items
  have hn : numsOf (intItems xs).toList = ns := by rw [← e]; exact hi.numsOf
  rw [nums_intItems] at hn
  subst hn
  rw [e] at hl
  have hsz : 0 < xs.size := by simpa using hne
  refine PySem.max_intList hh hl hsz fun v h' tk hv hk => ?_
  obtain ⟨t, rfl⟩ := intItems_at hv
  obtain ⟨h1, h2⟩ := argBest_gt (numAt xs) (xs.size - 1)
  refine h h' tk _ t hk ?_ fun a ha => ?_
  · rw [numAt_eq]; exact PySem.getD_mem (by rw [List.length_map, Array.length_toList]; omega)
  · obtain ⟨j, hj, rfl⟩ := mem_getD ha
    rw [List.length_map, Array.length_toList] at hj
    rw [← numAt_eq]; exact h2 j (by omega)
theorem min_raw (hh : A.handled = none) (hl : s.heap.IsList l its.toArray) (hi : IntsAre its ns) (hne : 0 < ns.length)
    (h : ∀ h' tk M t', (∀ b o, s.heap.get? b = some o → h'.get? b = some o) → M ∈ ns → (∀ a, a ∈ ns → M ≤ a) → Q (.int M t') { s with heap := h', toks := tk }) : wpAny (model prog w) A (call (.builtin "min") [.ref l]) Q E s := by
  obtain ⟨xs, e⟩ := hi.allInts.items
  have hn : numsOf (intItems xs).toList = ns := by rw [← e]; exact hi.numsOf
  rw [nums_intItems] at hn
  subst hn
  rw [e] at hl
  have hsz : 0 < xs.size := by simpa using hne
  refine PySem.min_intList hh hl hsz fun v h' tk hv hk => ?_
  obtain ⟨t, rfl⟩ := intItems_at hv
  obtain ⟨h1, h2⟩ := argBest_lt (numAt xs) (xs.size - 1)
  refine h h' tk _ t hk ?_ fun a ha => ?_
  · rw [numAt_eq]; exact PySem.getD_mem (by rw [List.length_map, Array.length_toList]; omega)
  · obtain ⟨j, hj, rfl⟩ := mem_getD ha
    rw [List.length_map, Array.length_toList] at hj
    rw [← numAt_eq]; exact h2 j (by omega)
end
section
variable {X : Cx}
def rSum (K : PySem.W.Frag) : List V → Hp → VK → Prop := fun vs H Q => ∃ (a : Addr) (ns : List Int), vs = [V.ref a] ∧ SqL K H a (ns.map V.int) ∧ Q (.int ns.sum) H
def rMax (K : PySem.W.Frag) : List V → Hp → VK → Prop := fun vs H Q => ∃ (a : Addr) (ns : List Int), vs = [V.ref a] ∧ SqL K H a (ns.map V.int) ∧ 0 < ns.length ∧ ∀ m, m ∈ ns → (∀ y, y ∈ ns → y ≤ m) → Q (.int m) H
def rMin (K : PySem.W.Frag) : List V → Hp → VK → Prop := fun vs H Q => ∃ (a : Addr) (ns : List Int), vs = [V.ref a] ∧ SqL K H a (ns.map V.int) ∧ 0 < ns.length ∧ ∀ m, m ∈ ns → (∀ y, y ∈ ns → m ≤ y) → Q (.int m) H
theorem cr_sum (hc : X.calm = true) : CallR X (.builtin "sum") (rSum X.K) := by
  intro pins s σ H vs us Q I r h
  obtain ⟨a, ns, rfl, hs, q⟩ := h
  obtain ⟨its, rv, hl, _⟩ := I.list hs
  rw [Vals.ref1 r]
  exact sum_raw (I.ok.hd hc) hl.isList rv.ints fun h' tk t' hk => ⟨.int _, H, I.kept hk, ⟨_, rfl⟩, q⟩
theorem cr_max (hc : X.calm = true) : CallR X (.builtin "max") (rMax X.K) := by
  intro pins s σ H vs us Q I r h
  obtain ⟨a, ns, rfl, hs, hne, q⟩ := h
  obtain ⟨its, rv, hl, _⟩ := I.list hs
  rw [Vals.ref1 r]
  exact max_raw (I.ok.hd hc) hl.isList rv.ints hne fun h' tk m t' hk h1 h2 => ⟨.int _, H, I.kept hk, ⟨_, rfl⟩, q m h1 h2⟩
theorem cr_min (hc : X.calm = true) : CallR X (.builtin "min") (rMin X.K) := by
  intro pins s σ H vs us Q I r h
  obtain ⟨a, ns, rfl, hs, hne, q⟩ := h
  obtain ⟨its, rv, hl, _⟩ := I.list hs
  rw [Vals.ref1 r]
  exact min_raw (I.ok.hd hc) hl.isList rv.ints hne fun h' tk m t' hk h1 h2 => ⟨.int _, H, I.kept hk, ⟨_, rfl⟩, q m h1 h2⟩
end
section
variable {X : Cx}
end
section
variable {X : Cx}
end
theorem iter_any {prog : Program} {w : World} {A : Around} {E : Value → Shared → Prop} {s : Shared} {l : Addr} {items : Array Value} {Q : Value → Shared → Prop} (hl : s.heap.IsList l items)
    (h : ∀ s₂ : Shared, s₂ = { s with heap := s.heap.push { cls := .type "list_iterator", data := .fields #[.ref l, .int 0 0] } } →
      (s₂.heap.IsListIter s.heap.objs.size l 0 ∧ s₂.heap.IsList l items) → l ≠ s.heap.objs.size → Q (.ref s.heap.objs.size) s₂) : wpAny (model prog w) A (pyIter (.ref l)) Q E s := by
  have hlt : l < s.heap.objs.size := by obtain ⟨_, e, _⟩ := hl; exact Heap.lt_size e
  exact wpAny_pyIter_list hl (h _ rfl ⟨⟨_, Heap.get?_push_size _ rfl, rfl, rfl⟩, hl.push _⟩ (Nat.ne_of_lt hlt))
theorem truth_bools {prog : Program} {w : World} {A : Around} {bs : List Bool} {its : List Value} (e : its = bs.map Value.bool) :
    TruthOf prog w A (fun i v => its.toArray[i]? = some v) (fun i => bs.getD i false) := fun i v s Q E hv hq => by
  have hv' : its[i]? = some v := by simpa using hv
  rw [e, List.getElem?_map] at hv'
  obtain ⟨b, hb, rfl⟩ := Option.map_eq_some_iff.mp hv'
  have hg : bs.getD i false = b := by rw [List.getD_eq_getElem?_getD, hb] <;> rfl
  have hq' : Q (bs.getD i false) s := hq
  rw [hg] at hq'
  exact wpAny_truthy_bool hq'
theorem any_range : ∀ bs : List Bool, (List.range bs.length).any (fun i => bs.getD i false) = bs.any id
  | [] => rfl
  | b :: bs => by
    rw [List.length_cons, List.range_succ_eq_map, List.any_cons, List.any_map, List.any_cons, ← any_range bs]
    all_goals rfl
theorem all_range : ∀ bs : List Bool, (List.range bs.length).all (fun i => bs.getD i false) = bs.all id
  | [] => rfl
  | b :: bs => by
    rw [List.length_cons, List.range_succ_eq_map, List.all_cons, List.all_map, List.all_cons, ← all_range bs]
    all_goals rfl
section
variable {X : Cx}
def rAny (K : PySem.W.Frag) : List V → Hp → VK → Prop := fun vs H Q => ∃ (a : Addr) (bs : List Bool), vs = [V.ref a] ∧ SqL K H a (bs.map V.bl) ∧ Q (.bl (bs.any id)) H
def rAll (K : PySem.W.Frag) : List V → Hp → VK → Prop := fun vs H Q => ∃ (a : Addr) (bs : List Bool), vs = [V.ref a] ∧ SqL K H a (bs.map V.bl) ∧ Q (.bl (bs.all id)) H
theorem cr_any (hc : X.calm = true) : CallR X (.builtin "any") (rAny X.K) := by
  intro pins s σ H vs us Q I r h
  obtain ⟨a, bs, rfl, hs, q⟩ := h
  obtain ⟨its, rv, hl, _⟩ := I.list hs
  rw [Vals.ref1 r]
  have hb := rv.bls
  refine call_any_walk (iter_any hl.isList fun s₂ e2 st hne => ?_)
  subst e2
  refine ⟨_, _, _, _, _, _, _, rfl, Walks.list (A := X.A.in1) (I.ok.hd hc) _ a hne its.toArray, st, truth_bools hb, fun h' tk hk => ?_⟩
  refine ⟨.bl _, H, I.kept fun b o eo => hk b o (fun hmem => ?_) (Heap.get?_push_of_some _ eo), ?_, q⟩
  · rcases List.mem_cons.mp hmem with e1 | hmem
    · exact absurd (e1 ▸ Heap.lt_size eo) (Nat.lt_irrefl _)
    · cases hmem
  · show Value.bool _ = Value.bool _
    rw [← any_range, hb, List.size_toArray, List.length_map]
theorem cr_all (hc : X.calm = true) : CallR X (.builtin "all") (rAll X.K) := by
  intro pins s σ H vs us Q I r h
  obtain ⟨a, bs, rfl, hs, q⟩ := h
  obtain ⟨its, rv, hl, _⟩ := I.list hs
  rw [Vals.ref1 r]
  have hb := rv.bls
  refine call_all_walk (iter_any hl.isList fun s₂ e2 st hne => ?_)
  subst e2
  refine ⟨_, _, _, _, _, _, _, rfl, Walks.list (A := X.A.in1) (I.ok.hd hc) _ a hne its.toArray, st, truth_bools hb, fun h' tk hk => ?_⟩
  refine ⟨.bl _, H, I.kept fun b o eo => hk b o (fun hmem => ?_) (Heap.get?_push_of_some _ eo), ?_, q⟩
  · rcases List.mem_cons.mp hmem with e1 | hmem
    · exact absurd (e1 ▸ Heap.lt_size eo) (Nat.lt_irrefl _)
    · cases hmem
  · show Value.bool _ = Value.bool _
    rw [← all_range, hb, List.size_toArray, List.length_map]
end
section
variable {X : Cx} {pins : List (Addr × Obj)} {σ : St} {H : Hp} {s : Shared}
end
section
variable {X : Cx}
end
end L2
namespace L2
open PySem PySem.Spec PyProof.Rows
abbrev CellAt (h : Heap) (c : Addr) (v : Option Value) : Prop := h.IsCell c v
def relS (scope sc : Scope) : Scope :=
  { scope with names := scope.names.map fun (n, k) => if (k == .free && sc.kind == .function && sc.names.lookup n == some .cell) then (n, .cell) else (n, k) }
def cloFrom (cells : List (Str × Addr)) : List (Str × NameKind) → List (Str × Addr) → List (Str × Addr)
  | [], acc => acc
  | (n, k) :: r, acc => if k == .free then cloFrom cells r ((n, (cells.lookup n).getD 0) :: acc) else cloFrom cells r acc
theorem closure_loop (env : Env) (f : Str × NameKind → List (Str × Addr) → Sem (ForInStep (List (Str × Addr))))
    (hf : ∀ n k c, f (n, k) c = if k == .free then (do let a ← cellOf env n; pure (.yield ((n, a) :: c))) else pure (.yield c)) :
    ∀ (names : List (Str × NameKind)) (acc : List (Str × Addr)), (∀ y ∈ names, y.2 = .free → ∃ c, env.cells.lookup y.1 = some c) → forIn names acc f = pure (cloFrom env.cells names acc)
  | [], acc, _ => by rw [List.forIn_nil]; rfl
  | (n, k) :: r, acc, h => by
    rw [List.forIn_cons, hf]
    have ih := fun acc => closure_loop env f hf r acc fun y hy => h y (List.mem_cons_of_mem _ hy)
    unfold cloFrom
    by_cases hk : (k == NameKind.free) = true
    · rw [if_pos hk, if_pos hk]
      obtain ⟨c, hc⟩ := h (n, k) List.mem_cons_self (by simpa using hk)
      have e : cellOf env n = pure c := by unfold cellOf; rw [hc]
      rw [e]
      have e2 : (env.cells.lookup n).getD 0 = c := by rw [hc]; rfl
      rw [e2]
      exact ih _
    · rw [if_neg hk, if_neg hk]
      exact ih _
theorem closure_ok {scope : Scope} {env : Env} (h : ∀ y ∈ scope.names, y.2 = .free → ∃ c, env.cells.lookup y.1 = some c) : closureFor scope env = pure (cloFrom env.cells scope.names []) := by
  simp only [closureFor]
  rw [closure_loop env _ (fun n k c => rfl) scope.names [] h]
  rfl
theorem mem_lookup {α : Type} : ∀ {l : List (Str × α)} {n : Str} {c : α}, (n, c) ∈ l → ∃ c', l.lookup n = some c'
  | (k, v) :: r, n, c, h => by
    rw [List.lookup_cons]
    cases hb : n == k with
    | true => exact ⟨_, rfl⟩
    | false =>
      rcases List.mem_cons.mp h with e | h
      · cases e; simp at hb
      · exact mem_lookup h
theorem cloFrom_mem {cells : List (Str × Addr)} : ∀ {names : List (Str × NameKind)} {acc : List (Str × Addr)} {n : Str} {c : Addr}, (n, c) ∈ cloFrom cells names acc → (n, c) ∈ acc ∨ ((n, .free) ∈ names ∧ c = (cells.lookup n).getD 0)
  | [], _, _, _, h => .inl h
  | (m, k) :: r, acc, n, c, h => by
    unfold cloFrom at h
    split at h
    · rename_i hk
      have hk : k = .free := by simpa using hk
      rcases cloFrom_mem h with h | ⟨h1, h2⟩
      · rcases List.mem_cons.mp h with e | h
        · cases e; exact .inr ⟨hk ▸ List.mem_cons_self, rfl⟩
        · exact .inl h
      · exact .inr ⟨List.mem_cons_of_mem _ h1, h2⟩
    · rcases cloFrom_mem h with h | ⟨h1, h2⟩
      · exact .inl h
      · exact .inr ⟨List.mem_cons_of_mem _ h1, h2⟩
theorem cloFrom_acc {cells : List (Str × Addr)} : ∀ {names : List (Str × NameKind)} {acc : List (Str × Addr)} {p : Str × Addr}, p ∈ acc → p ∈ cloFrom cells names acc
  | [], _, _, h => h
  | (m, k) :: r, acc, p, h => by
    unfold cloFrom
    split
    · exact cloFrom_acc (List.mem_cons_of_mem _ h)
    · exact cloFrom_acc h
theorem cloFrom_has {cells : List (Str × Addr)} : ∀ {names : List (Str × NameKind)} {acc : List (Str × Addr)} {n : Str}, (n, .free) ∈ names → (n, (cells.lookup n).getD 0) ∈ cloFrom cells names acc
  | (m, k) :: r, acc, n, h => by
    unfold cloFrom
    rcases List.mem_cons.mp h with e | h
    · cases e
      exact cloFrom_acc List.mem_cons_self
    · split
      · exact cloFrom_has h
      · exact cloFrom_has h
theorem cells_mem : ∀ {names : List (Str × NameKind)} {h : Heap} {acc : List (Str × Addr)} {x : Str} {c : Addr}, (x, c) ∈ cellsFrom h.objs.size names acc →
    (x, c) ∈ acc ∨ ((x, .cell) ∈ names ∧ h.objs.size ≤ c ∧ CellAt (pushCells h names) c none)
  | [], _, _, _, _, h => .inl h
  | (n, k) :: r, h, acc, x, c, hm => by
    unfold cellsFrom at hm
    unfold pushCells
    split at hm
    · rename_i hk
      rw [if_pos hk]
      have hk : k = .cell := by simpa using hk
      rw [← Heap.size_push h { cls := .type "cell", data := .cell none }] at hm
      rcases cells_mem hm with hm | ⟨h1, h2, h3⟩
      · rcases List.mem_cons.mp hm with e | hm
        · cases e
          exact .inr ⟨hk ▸ List.mem_cons_self, Nat.le_refl _, _, pushCells_keeps r _ _ _ (Heap.get?_push_size _ rfl), rfl⟩
        · exact .inl hm
      · rw [Heap.size_push] at h2
        exact .inr ⟨List.mem_cons_of_mem _ h1, Nat.le_of_succ_le h2, h3⟩
    · rename_i hk
      rw [if_neg hk]
      rcases cells_mem hm with hm | ⟨h1, h2, h3⟩
      · exact .inl hm
      · exact .inr ⟨List.mem_cons_of_mem _ h1, h2, h3⟩
theorem cells_acc : ∀ {names : List (Str × NameKind)} {n : Nat} {acc : List (Str × Addr)} {p : Str × Addr}, p ∈ acc → p ∈ cellsFrom n names acc
  | [], _, _, _, h => h
  | (m, k) :: r, n, acc, p, h => by
    unfold cellsFrom
    split
    · exact cells_acc (List.mem_cons_of_mem _ h)
    · exact cells_acc h
theorem cells_has : ∀ {names : List (Str × NameKind)} {n : Nat} {acc : List (Str × Addr)} {x : Str}, (x, .cell) ∈ names → ∃ c, (x, c) ∈ cellsFrom n names acc
  | (m, k) :: r, n, acc, x, h => by
    unfold cellsFrom
    rcases List.mem_cons.mp h with e | h
    · cases e
      exact ⟨n, cells_acc List.mem_cons_self⟩
    · split
      · exact cells_has h
      · exact cells_has h
theorem cells_inj : ∀ {names : List (Str × NameKind)} {h : Heap} {acc : List (Str × Addr)} {x y : Str} {c : Addr}, (∀ p ∈ acc, p.2 < h.objs.size) → (∀ x y c, (x, c) ∈ acc → (y, c) ∈ acc → x = y) →
    (x, c) ∈ cellsFrom h.objs.size names acc → (y, c) ∈ cellsFrom h.objs.size names acc → x = y
  | [], _, _, _, _, _, _, hi, h1, h2 => hi _ _ _ h1 h2
  | (n, k) :: r, h, acc, x, y, c, hl, hi, h1, h2 => by
    unfold cellsFrom at h1 h2
    split at h1
    · rename_i hk
      rw [if_pos hk] at h2
      rw [← Heap.size_push h { cls := .type "cell", data := .cell none }] at h1 h2
      refine cells_inj (h := h.push _) (fun p hp => ?_) (fun x y c a b => ?_) h1 h2
      · rw [Heap.size_push]
        rcases List.mem_cons.mp hp with rfl | hp
        · exact Nat.lt_succ_self _
        · exact Nat.lt_succ_of_lt (hl p hp)
      · rcases List.mem_cons.mp a with e | a <;> rcases List.mem_cons.mp b with e' | b
        · cases e; cases e'; rfl
        · cases e; exact absurd (hl _ b) (Nat.lt_irrefl _)
        · cases e'; exact absurd (hl _ a) (Nat.lt_irrefl _)
        · exact hi _ _ _ a b
    · rename_i hk
      rw [if_neg hk] at h2
      exact cells_inj hl hi h1 h2
theorem newEnv_comp {M : Model} {A : Around} {E : Value → Shared → Prop} {s : Shared} {scope : Scope} {globals : Addr} {closure : List (Str × Addr)} {qual : Str} {func : Option Addr} {code : Value} {around : Env} {builtins : Addr} {Q : Env → Shared → Prop}
    (h : Q (newEnv scope s.heap.objs.size globals (cellsFrom (s.heap.objs.size + 1) scope.names closure) qual func code (some around) builtins)
      { s with heap := pushCells (s.heap.push { cls := .type "dict", data := .dict #[] }) scope.names }) :
    wpAny M A (newFunctionEnv scope globals closure [] qual func code (some around) builtins) Q E s := by
  simp only [newFunctionEnv, Option.isSome_some, if_true]
  refine wpAny_bind (wpAny_alloc ?_)
  refine wpAny_bind (wpAny_layCells _ (fun n k c => rfl) scope.names closure _ _ ?_)
  rw [show ({ s with heap := s.heap.push { cls := .type "dict", data := .dict #[] } } : Shared).heap.objs.size = s.heap.objs.size + 1 from Heap.size_push ..]
  rw [List.forIn_nil]
  exact wpAny_bind (wpAny_pure (wpAny_pure h))
theorem lookup_relS {sc : Scope} : ∀ {names : List (Str × NameKind)} {x : Str} {k : NameKind},
    (names.map fun (n, k) => if (k == NameKind.free && sc.kind == .function && sc.names.lookup n == some .cell) then (n, NameKind.cell) else (n, k)).lookup x = some k →
    ∃ k', names.lookup x = some k' ∧ (k = k' ∨ (k' = .free ∧ k = .cell))
  | [], _, _, h => by simp at h
  | (n, k₀) :: r, x, k, h => by
    have ih := @lookup_relS sc r x k
    have h' : List.lookup x ((if (k₀ == NameKind.free && sc.kind == .function && sc.names.lookup n == some .cell) = true then (n, NameKind.cell) else (n, k₀)) :: (r.map _)) = some k := h
    cases hx : x == n with
    | true =>
      simp only [List.lookup_cons, hx]
      by_cases hc : (k₀ == NameKind.free && sc.kind == .function && sc.names.lookup n == some .cell) = true
      · rw [if_pos hc] at h'
        simp only [List.lookup_cons, hx] at h'
        cases h'
        simp only [Bool.and_eq_true, beq_iff_eq] at hc
        exact ⟨k₀, rfl, .inr ⟨hc.1.1, rfl⟩⟩
      · rw [if_neg hc] at h'
        simp only [List.lookup_cons, hx] at h'
        cases h'
        exact ⟨_, rfl, .inl rfl⟩
    | false =>
      simp only [List.lookup_cons, hx]
      by_cases hc : (k₀ == NameKind.free && sc.kind == .function && sc.names.lookup n == some .cell) = true
      · rw [if_pos hc] at h'
        simp only [List.lookup_cons, hx] at h'
        exact ih h'
      · rw [if_neg hc] at h'
        simp only [List.lookup_cons, hx] at h'
        exact ih h'
structure BlkOk (N : List Str) (sc scope : Scope) (own : List (Str × Nat)) : Prop where
  kind : scope.kind = .function
  uniq : ∀ y ∈ scope.names, scope.names.lookup y.1 = some y.2
  ix : ∀ p ∈ own, N[p.2]? = some p.1
  free : ∀ y ∈ scope.names, y.2 = .free → sc.names.lookup y.1 = some .cell ∨ sc.names.lookup y.1 = some .free
  own : ∀ y ∈ scope.names, y.2 = .local ∨ y.2 = .cell → y.1 ∈ own.map (·.1) ∨ y.1 ∉ N
def wipe (σ : St) : List Nat → St
  | [] => σ
  | v :: vs => (wipe σ vs).set v none
theorem wipe_length (σ : St) : ∀ vs : List Nat, (wipe σ vs).length = σ.length
  | [] => rfl
  | v :: vs => by unfold wipe; rw [List.length_set, wipe_length σ vs]
theorem wipe_some {σ : St} {i : Nat} {x : V} : ∀ {vs : List Nat}, (wipe σ vs)[i]? = some (some x) → σ[i]? = some (some x) ∧ i ∉ vs
  | [], h => ⟨h, by simp⟩
  | v :: vs, h => by
    unfold wipe at h
    by_cases hi : v = i
    · subst hi
      by_cases hv : v < (wipe σ vs).length
      · rw [List.getElem?_set_self hv] at h; cases h
      · rw [List.getElem?_eq_none (by simpa using hv)] at h; cases h
    · rw [List.getElem?_set_ne hi] at h
      obtain ⟨h1, h2⟩ := wipe_some h
      exact ⟨h1, by simp only [List.mem_cons, not_or]; exact ⟨fun e => hi e.symm, h2⟩⟩
abbrev Cx.blk (X : Cx) (s : Shared) (H : Hp) (scope : Scope) (cenv : Env) (fp : List Addr) : Cx := { X with s_0 := s, H_0 := H, env := cenv, outer := X.stack, ex := fp, fn := fun x => scope.names.lookup x == some .cell, pn := [], xe := fun _ _ => False }
section
variable {X : Cx} {pins : List (Addr × Obj)} {σ : St} {H : Hp} {s : Shared}
theorem block_start {scope : Scope} {own : List (Str × Nat)} {fp : List Addr} (I : Inv X pins σ H s) (ok : BlkOk X.N X.env.scope scope own) (hN : X.N.Nodup) (hfp : ∀ b ∈ fp, FpOk X pins H b ∧ b < s.heap.objs.size) :
    Inv (X.blk s H scope (compEnvC scope (cellsFrom (s.heap.objs.size + 1) scope.names (cloFrom X.env.cells scope.names [])) s.heap.objs.size X.env) fp) [] (wipe σ (own.map (·.2))) H { s with heap := pushCells (s.heap.push { cls := .type "dict", data := .dict #[] }) scope.names } := by
  have hfree : ∀ y ∈ scope.names, y.2 = .free → ∃ c, X.env.cells.lookup y.1 = some c := fun y hy e => by
    rcases ok.free y hy e with k | k
    · exact I.ok.has _ (.inl k)
    · exact I.ok.has _ (.inr k)
  generalize hcenv : compEnvC scope (cellsFrom (s.heap.objs.size + 1) scope.names (cloFrom X.env.cells scope.names [])) s.heap.objs.size X.env = cenv
  have kp : ∀ b o, s.heap.get? b = some o → (pushCells (s.heap.push { cls := .type "dict", data := .dict #[] }) scope.names).get? b = some o := fun b o e => pushCells_keeps _ _ _ _ (Heap.get?_push_of_some _ e)
  have hL : cenv.locals = s.heap.objs.size := by rw [← hcenv]; rfl
  have hcl : cenv.cells = cellsFrom (s.heap.objs.size + 1) scope.names (cloFrom X.env.cells scope.names []) := by rw [← hcenv]; rfl
  have hsc : cenv.scope = relS scope X.env.scope := by rw [← hcenv]; rfl
  rw [← Heap.size_push s.heap { cls := .type "dict", data := .dict #[] }] at hcl
  have cm : ∀ {y c}, (y, c) ∈ cloFrom X.env.cells scope.names [] → X.env.cells.lookup y = some c ∧ c < s.heap.objs.size := fun {y c} hm => by
    rcases cloFrom_mem hm with hm | ⟨h1, rfl⟩
    · cases hm
    · obtain ⟨c, hc⟩ := hfree _ h1 rfl
      rw [hc]
      obtain ⟨w, z⟩ := I.cell _ _ hc
      exact ⟨rfl, z.lt⟩
  have mem : ∀ {y c}, cenv.cells.lookup y = some c → (X.env.cells.lookup y = some c ∧ c < s.heap.objs.size) ∨ (s.heap.objs.size + 1 ≤ c ∧ CellAt (pushCells (s.heap.push { cls := .type "dict", data := .dict #[] }) scope.names) c none) := fun {y c} e => by
    rw [hcl] at e
    rcases cells_mem (PySem.mem_of_lookup e) with hm | ⟨_, h2, h3⟩
    · exact .inl (cm hm)
    · rw [Heap.size_push] at h2; exact .inr ⟨h2, h3⟩
  have look : ∀ {y}, scope.names.lookup y = some .free → ∃ c, cenv.cells.lookup y = some c ∧ X.env.cells.lookup y = some c := fun {y} hl => by
    have hy : (y, NameKind.free) ∈ scope.names := PySem.mem_of_lookup hl
    obtain ⟨c', e'⟩ := mem_lookup (cells_acc (names := scope.names) (n := (s.heap.push { cls := .type "dict", data := .dict #[] }).objs.size) (cloFrom_has (cells := X.env.cells) (acc := []) hy))
    rw [← hcl] at e'
    refine ⟨c', e', ?_⟩
    rw [hcl] at e'
    rcases cells_mem (PySem.mem_of_lookup e') with hm | ⟨h1, _, _⟩
    · exact (cm hm).1
    · have := ok.uniq _ h1
      rw [hl] at this; cases this
  have okB : (X.blk s H scope cenv fp).Ok := by
    refine ⟨I.ok.mod, by show cenv.scope.kind = _; rw [hsc]; exact ok.kind, by show cenv.globals = _; rw [← hcenv]; exact I.ok.glob, by show cenv.builtins = _; rw [← hcenv]; exact I.ok.blt, by show s.heap.objs.size ≤ cenv.locals; rw [hL]; exact Nat.le_refl _,
      fun y z c e1 e2 => ?_, fun y hy => ?_, fun y c z e => ?_, I.ok.hd, I.ok.frames, .inl rfl, fun b hb => ⟨?_, fun y c e z => ?_⟩, I.bs, Nat.le_trans I.ok.bsz I.sz, fun b o e hb => ?_, fun b hb z => ?_, I.stack, I.stkFree⟩
    · have e1 : cenv.cells.lookup y = some c := e1
      have e2 : cenv.cells.lookup z = some c := e2
      rw [hcl] at e1 e2
      refine cells_inj (fun p hp => ?_) (fun y z c a b => I.ok.inj y z c (cm a).1 (cm b).1) (PySem.mem_of_lookup e1) (PySem.mem_of_lookup e2)
      rw [Heap.size_push]
      exact Nat.lt_succ_of_lt (cm (y := p.1) (c := p.2) hp).2
    · show ∃ c, cenv.cells.lookup y = some c
      have key : ∀ k, cenv.kindOf y = some k → (k = .cell ∨ k = .free) → ∃ c, cenv.cells.lookup y = some c := fun k hk hk' => by
        unfold Env.kindOf at hk
        rw [hsc] at hk
        obtain ⟨k', e, r⟩ := lookup_relS hk
        have : k' = .cell ∨ k' = .free := by
          rcases r with rfl | ⟨rfl, _⟩
          · exact hk'
          · exact .inr rfl
        rcases this with rfl | rfl
        · obtain ⟨c, hm⟩ := cells_has (n := (s.heap.push { cls := .type "dict", data := .dict #[] }).objs.size) (acc := cloFrom X.env.cells scope.names []) (PySem.mem_of_lookup e)
          obtain ⟨c', e'⟩ := mem_lookup hm
          exact ⟨c', by rw [hcl]; exact e'⟩
        · obtain ⟨c, h1, _⟩ := look e
          exact ⟨c, h1⟩
      rcases hy with hy | hy
      · exact key _ hy (.inl rfl)
      · exact key _ hy (.inr rfl)
    · have z : (scope.names.lookup y == some NameKind.cell) = true := z
      have z : scope.names.lookup y = some .cell := by simpa using z
      have e : cenv.cells.lookup y = some c := e
      rw [hcl] at e
      rcases cells_mem (PySem.mem_of_lookup e) with hm | ⟨_, h2, _⟩
      · rcases cloFrom_mem hm with hm | ⟨h1, _⟩
        · cases hm
        · have q := ok.uniq _ h1
          rw [z] at q; cases q
      · rw [Heap.size_push] at h2
        exact Nat.le_of_succ_le h2
    · show b ≠ cenv.locals
      rw [hL]; exact Nat.ne_of_lt (hfp b hb).2
    · have e : cenv.cells.lookup y = some c := e
      rcases mem e with ⟨h1, _⟩ | ⟨h1, _⟩
      · exact (hfp b hb).1.2.2.2.2.1 y c h1 z
      · have h2 : s.heap.objs.size + 1 ≤ b := by rw [← z]; exact h1
        exact absurd (Nat.lt_of_lt_of_le (hfp b hb).2 (Nat.le_of_succ_le h2)) (Nat.lt_irrefl _)
    · rcases (hfp b hb).1.2.2.2.1 with z | z
      · exact I.ok.noex b o e z
      · exact absurd (Nat.lt_of_lt_of_le (Heap.lt_size e) (Nat.le_trans I.ok.bsz z)) (Nat.lt_irrefl _)
    · rcases List.mem_cons.mp (I.stkSub b z) with z | z
      · exact (hfp b hb).1.2.1 z
      · exact (hfp b hb).1.2.2.1 z
  refine ⟨okB, rfl, I.bare, Un.kept kp, ⟨fun _ => none, ?_, fun i y av e1 e2 e3 => ?_⟩, fun y c e => ?_, ?_, fun y c e => ?_, fun p hp => ?_, I.hok.kept kp, by rw [wipe_length]; exact I.len⟩
  · show Heap.Ns _ cenv.locals _
    rw [hL]
    exact Heap.Ns.keeps (Heap.Ns.new ..) fun b o e => pushCells_keeps _ _ _ _ e
  · obtain ⟨e2, hne⟩ := wipe_some e2
    have hfr : scope.names.lookup y = some .free ∧ (cenv.kindOf y = some .cell ∨ cenv.kindOf y = some .free) := by
      have key : ∀ k, cenv.scope.names.lookup y = some k → k = .local ∨ k = .cell ∨ k = .free → scope.names.lookup y = some .free ∧ (cenv.kindOf y = some .cell ∨ cenv.kindOf y = some .free) := fun k hk hk' => by
        have hk0 := hk
        rw [hsc] at hk
        obtain ⟨k', e, r⟩ := lookup_relS hk
        have no : ¬ (k' = .local ∨ k' = .cell) := fun hh => by
          rcases ok.own _ (PySem.mem_of_lookup e) hh with e' | e'
          · obtain ⟨p, hp, hpy⟩ := List.mem_map.mp e'
            have e3 := ok.ix p hp
            have : p.1 = y := hpy
            rw [this] at e3
            exact hne (List.mem_map.mpr ⟨p, hp, nodup_ix hN e3 e1⟩)
          · exact e' (List.mem_of_getElem? e1)
        rcases r with rfl | ⟨rfl, rfl⟩
        · rcases hk' with rfl | rfl | rfl
          · exact absurd (.inl rfl) no
          · exact absurd (.inr rfl) no
          · exact ⟨e, .inr hk0⟩
        · exact ⟨e, .inl hk0⟩
      have e3 : Vis cenv.scope y := e3
      rcases e3 with e3 | e3 | e3
      · exact key _ e3 (.inl rfl)
      · exact key _ e3 (.inr (.inl rfl))
      · exact key _ e3 (.inr (.inr rfl))
    obtain ⟨m, hn, hl⟩ := I.loc
    have hvis : Vis X.env.scope y := (ok.free _ (PySem.mem_of_lookup hfr.1) rfl).elim (fun k => .inr (.inl k)) (fun k => .inr (.inr k))
    obtain ⟨w, r, q⟩ := hl i y av e1 e2 hvis
    refine ⟨w, r, .inr ⟨hfr.2, ?_⟩⟩
    obtain ⟨c, h1, h2⟩ := look hfr.1
    rcases q with ⟨k, _⟩ | ⟨_, c', e', z⟩
    · have k : X.env.scope.names.lookup y = some .local := k
      rcases ok.free _ (PySem.mem_of_lookup hfr.1) rfl with k' | k' <;> rw [show X.env.scope.names.lookup y = _ from k'] at k <;> cases k
    · rw [h2] at e'; cases e'
      exact ⟨c, h1, z.keeps kp⟩
  · have e : cenv.cells.lookup y = some c := e
    rcases mem e with ⟨h1, _⟩ | ⟨_, z⟩
    · obtain ⟨w, z⟩ := I.cell y c h1
      exact ⟨w, z.keeps kp⟩
    · exact ⟨_, z⟩
  · show H cenv.locals = none
    rw [hL]; exact I.hok.fresh (Nat.le_refl _)
  · have e : cenv.cells.lookup y = some c := e
    rcases mem e with ⟨h1, _⟩ | ⟨h1, _⟩
    · exact I.freeC y c h1
    · exact I.hok.fresh (Nat.le_of_succ_le h1)
  · exact absurd (show p ∈ ([] : List (Addr × Obj)) ++ [] from hp) (by simp)
theorem app_ok {E : Value → Shared → Prop} {D : Addr} {xs : List V} {y : V} {v : Value} {Q : Value → Shared → Prop} (I : Inv X pins σ H s) (hD : H D = some (.lst xs)) (hz : xs.length < sizeLine) (r : RelV y v)
    (h : ∀ s', Inv X pins σ (upd H D (.lst (xs ++ [y]))) s' → Q .none s') : wpAny (model X.prog X.w) X.A (call (.builtin "list.append") [.ref D, v]) Q E s := by
  obtain ⟨hz', its, n, ri, e⟩ := I.hok D _ hD
  have hl := ri.length
  refine append_at (hsz := by rw [List.size_toArray]; omega) e fun h' sb ho' => ?_
  refine h { s with heap := h' } (I.write (t' := s.toks) (by rw [hD]; trivial) (.inl rfl) (fun b u hb q => (sb.2 b hb).trans q) ⟨_, ho'⟩ ⟨by rw [List.length_append]; exact hz, its ++ [v], n + 1, ri.append (.cons r .nil), ?_⟩)
  rw [ho']
  simp
def PTs (X : Cx) (ifs : List Expr) (t : TT) : Prop :=
  ∀ (pins : List (Addr × Obj)) (s : Shared) (σ : St) (H : Hp) (Q : Bool → Hp → Prop), Inv X pins σ H s → t σ H Q →
    wpAny (model X.prog X.w) X.A (forIn ifs true fun c r => if r = true then do let ok ← isTrue c X.env (eval c X.env); pure (ForInStep.yield ok) else pure (ForInStep.yield r)) (TP X pins σ Q) X.xe s
def tYes : TT := fun _ H Q => Q true H
theorem pts_nil : PTs X [] tYes := fun _ _ _ H _ I h => wpAny_tests_nil ⟨H, I, h⟩
theorem pts_one {c : Expr} {t : TT} (h : PT X c t) : PTs X [c] t := fun pins s σ H Q I hw => wpAny_tests_one (h pins s σ H Q I hw)
end
theorem thnF {α : Type} {t : Sem α} {Q Q' : α → Shared → Prop} {M : Model} {A : Around} {E : Value → Shared → Prop} {s : Shared} (h : wpAny M A t Q (fun _ _ => False) s) (hQ : ∀ a s, Q a s → Q' a s) : wpAny M A t Q' E s := wpAny_mono h hQ fun _ _ z => False.elim z
theorem compLoop_any {prog : Program} {w : World} {A : Around} {R : Result → Shared → Prop} {s : Shared} {elt target iter : Expr} {ifs : List Expr} {scope : Scope} {pos : Pos} {it acc : Value} {env : Env} (I : Nat → Shared → Prop)
    (turn : ∀ n s, I n s → wpAny (model prog w) A (pyNext it) (fun r s₁ => match r with
      | none => R (.ok .next) s₁
      | some v => wpAny (model prog w) A (letOwnedTupleGo target it v) (fun _ s₁' => wpAny (model prog w) A (assign target env v) (fun _ s₂ =>
          wpAny (model prog w) A (forIn ifs true fun c r => if r = true then do let ok ← isTrue c env (eval c env); pure (ForInStep.yield ok) else pure (ForInStep.yield r)) (fun ok s₃ =>
            if ok = true then wpAny (model prog w) A (eval elt env) (fun x s₄ =>
              wpAny (model prog w) A (call (.builtin "list.append") [acc, x]) (fun _ s₅ => ∃ m, m < n ∧ I m s₅) (notedBy (model prog w) A env fun e s' => R (.error e) s') s₄) (notedBy (model prog w) A env fun e s' => R (.error e) s') s₃
            else ∃ m, m < n ∧ I m s₃) (notedBy (model prog w) A env fun e s' => R (.error e) s') s₂) (notedBy (model prog w) A env fun e s' => R (.error e) s') s₁') (notedBy (model prog w) A env fun e s' => R (.error e) s') s₁) (notedBy (model prog w) A env fun e s' => R (.error e) s') s)
    (n : Nat) (h : I n s) :
    codeAny (model prog w) A (.compLoop (.ListComp elt [⟨target, iter, ifs, 0⟩] scope pos) 0 it acc env) R s := by
  refine codeAny_loop rfl I (fun n s hI => ?_) n h
  show wpAny _ A ((compTurn (.ListComp elt [⟨target, iter, ifs, 0⟩] scope pos) 0 it acc env).onRaise (fun x => do noteFrame x env; theTreesLotGoes x)) _ _ s
  refine wpAny_noted ?_
  rw [compTurn_list]
  refine wpAny_bind (wpAny_standAt (wpAny_bind (wpAny_mono (turn n s hI) (fun r s₁ h₁ => ?_) fun _ _ h' => h')))
  cases r with
  | none => exact wpAny_pure h₁
  | some v =>
    refine wpAny_bind (wpAny_mono h₁ (fun _ s₁' h₁' => ?_) fun _ _ h' => h')
    refine wpAny_bind (wpAny_mono h₁' (fun _ s₂ h₂ => wpAny_bind (wpAny_mono h₂ (fun ok s₃ h₃ => ?_) fun _ _ h' => h')) fun _ _ h' => h')
    cases ok with
    | false => exact wpAny_pure ⟨rfl, h₃⟩
    | true =>
      exact wpAny_bind (wpAny_bind (wpAny_mono h₃ (fun x s₄ h₄ => wpAny_bind (wpAny_mono h₄ (fun _ s₅ h₅ => wpAny_pure (wpAny_pure ⟨rfl, h₅⟩)) fun _ _ h' => h')) fun _ _ h' => h'))
section
variable {X : Cx}
def tLc (wi : TI) (g : TG) (tt : TT) (te : TE) (vs : List Nat) : TE := fun σ H Q => wi σ H fun J H1 => ∀ D, H1 D = none → ∃ W : Nat → Nat → Hp → Prop, (∃ m, W 0 m (upd H1 D (.lst []))) ∧ ∀ i m H, W i m H →
  (J.stop i H ∧ Q (.ref D) H) ∨ (J.go i H ∧ ∃ Nx : Hp → Prop, (∀ H', Nx H' → ∃ m', m' < m ∧ W (i + 1) m' H') ∧ ∀ x H', J.yld i H x H' → g x (wipe σ vs) H' fun σ2 H2 => wipe σ2 vs = wipe σ vs ∧ tt σ2 H2 fun b H3 =>
    if b = true then te σ2 H3 fun y H4 => ∃ acc, H4 D = some (.lst acc) ∧ acc.length < sizeLine ∧ Nx (upd H4 D (.lst (acc ++ [y]))) else Nx H3)
theorem lc_core {pins : List (Addr × Obj)} {s : Shared} {σ : St} {H : Hp} {Q : VK} {elt tg iter : Expr} {ifs : List Expr} {scope : Scope} {own : List (Str × Nat)} {pos pos' : Pos} {wi : TI} {g : TG} {tt : TT} {te : TE} {use : Option (Value → Sem Unit)} {Qf : Value → Shared → Prop}
    (hc : X.calm = true) (hN : X.N.Nodup) (I : Inv X pins σ H s) (hi : PI X tg iter wi) (ok : BlkOk X.N X.env.scope scope own)
    (hg : ∀ (s : Shared) (H : Hp) (C : Addr) (cl : List (Str × Addr)) (fp : List Addr), PG (X.blk s H scope (compEnvC scope cl C X.env) fp) tg g) (ht : ∀ (s : Shared) (H : Hp) (C : Addr) (cl : List (Str × Addr)) (fp : List Addr), PTs (X.blk s H scope (compEnvC scope cl C X.env) fp) ifs tt)
    (he : ∀ (s : Shared) (H : Hp) (C : Addr) (cl : List (Str × Addr)) (fp : List Addr), PE (X.blk s H scope (compEnvC scope cl C X.env) fp) elt te) (hs : ∀ x, foldedSetIterable iter X.env x = pure x)
    (h : tLc wi g tt te (own.map (·.2)) σ H Q)
    (hRR : ∀ D C s' m H', Inv X pins σ H' s' → Q (.ref D) H' → s'.heap.Ns C m → FpOk X pins H' C → compPost (model X.prog X.w) X.A X.xe use Qf (.ref D) C (.ok .next) s') :
    wpAny (model X.prog X.w) X.A (comprehension (.ListComp elt [⟨tg, iter, ifs, 0⟩] scope pos) scope X.env pos' (newList []) false (eval iter X.env) use) Qf X.xe s := by
  have hfree : ∀ y ∈ scope.names, y.2 = .free → ∃ c, X.env.cells.lookup y.1 = some c := fun y hy e => by
    rcases ok.free y hy e with k | k
    · exact I.ok.has _ (.inl k)
    · exact I.ok.has _ (.inr k)
  refine wpAny_comprehension_free (use := use) rfl hs (closure_ok hfree) ok.kind (fun y hy e => by rw [ok.uniq y hy, e])
    (thn (hi pins s σ H _ I h) fun xv s1 hx => thn hx fun itv s2 h2 => ?_)
  obtain ⟨it, fp, tn, J, H2, e, I2, T, st2, f2, q⟩ := h2
  subst e
  refine wpAny_newObj_type (newEnv_comp ?_) (by show 0 ≤ sizeLine; decide)
  generalize hD : s2.heap.objs.size = D
  have hDn : H2 D = none := I2.hok.fresh (Nat.le_of_eq hD)
  obtain ⟨W, ⟨m0, w0⟩, turn⟩ := q D hDn
  -- the new list
  generalize hs3 : ({ s2 with heap := s2.heap.push { cls := .type "list", data := .seq ([] : List Value).toArray } } : Shared) = s3
  have I3 : Inv X pins σ (upd H2 D (.lst [])) s3 := by
    rw [← hs3]
    refine I2.laid (t' := s2.toks) (fun b o e => Heap.get?_push_of_some _ e) (Nat.le_of_eq hD) ⟨Nat.zero_le _, [], 0, .nil, ?_⟩
    rw [← hD]
    exact Heap.get?_push_size _ rfl
  have h3 : s3.heap = s2.heap.push { cls := .type "list", data := .seq ([] : List Value).toArray } := by rw [← hs3]
  have sz : ∀ b ∈ fp, b < s2.heap.objs.size := fun b hb => by
    obtain ⟨o, e, _⟩ := T.obj _ _ st2 b hb
    exact Heap.lt_size e
  have f3 : ∀ b ∈ fp, FpOk X pins (upd H2 D (.lst [])) b ∧ b < s3.heap.objs.size := fun b hb => by
    have hlt := sz b hb
    refine ⟨⟨?_, (f2 b hb).2⟩, by rw [h3, Heap.size_push]; exact Nat.lt_succ_of_lt hlt⟩
    rw [upd_ne (by rw [← hD]; exact Nat.ne_of_lt hlt)]
    exact (f2 b hb).1
  have st3 : tn 0 s3.heap := T.keep _ _ _ st2 fun b _ o e => by rw [h3]; exact Heap.get?_push_of_some _ e
  have I4 := block_start I3 ok hN f3
  have pg := hg s3 (upd H2 D (.lst [])) s3.heap.objs.size (cellsFrom (s3.heap.objs.size + 1) scope.names (cloFrom X.env.cells scope.names [])) fp
  have pt := ht s3 (upd H2 D (.lst [])) s3.heap.objs.size (cellsFrom (s3.heap.objs.size + 1) scope.names (cloFrom X.env.cells scope.names [])) fp
  have pe := he s3 (upd H2 D (.lst [])) s3.heap.objs.size (cellsFrom (s3.heap.objs.size + 1) scope.names (cloFrom X.env.cells scope.names [])) fp
  show codeAny _ _ (.compStart (.ListComp elt [⟨tg, iter, ifs, 0⟩] scope pos) 0 (.ref it) (.ref D) (compEnvC scope (cellsFrom (s3.heap.objs.size + 1) scope.names (cloFrom X.env.cells scope.names [])) s3.heap.objs.size X.env)) (compPost (model X.prog X.w) X.A X.xe use Qf (.ref D) s3.heap.objs.size) { s3 with heap := pushCells (s3.heap.push { cls := .type "dict", data := .dict #[] }) scope.names }
  have nfp : ∀ b ∈ fp, (upd H2 D (.lst [])) b = none := fun b hb => (f3 b hb).1.1
  generalize hce : compEnvC scope (cellsFrom (s3.heap.objs.size + 1) scope.names (cloFrom X.env.cells scope.names [])) s3.heap.objs.size X.env = ce at I4 pg pt pe ⊢
  have cL : ce.locals = s3.heap.objs.size := by subst hce; rfl
  generalize hH3 : upd H2 D (.lst []) = H3 at I3 I4 pg pt pe w0 nfp f3
  generalize hs4 : ({ s3 with heap := pushCells (s3.heap.push { cls := .type "dict", data := .dict #[] }) scope.names } : Shared) = s4 at I4 ⊢
  have st4 : tn 0 s4.heap := T.keep _ _ _ st3 fun b _ o e => by rw [← hs4]; exact pushCells_keeps _ _ _ _ (Heap.get?_push_of_some _ e)
  have stat : ∀ {σ' : St} {H' : Hp} {s' : Shared}, Inv (X.blk s3 H3 scope ce fp) [] σ' H' s' → (∀ b ∈ fp, H' b = none) → ∀ b ∈ fp, FpOk (X.blk s3 H3 scope ce fp) [] H' b := fun {σ' H' s'} I' hn b hb =>
    ⟨hn b hb, (I'.ok.exf b hb).1, I'.ok.exfs b hb, .inl hb, fun x c e => (I'.ok.exf b hb).2 x c e, fun p hp => absurd (show p ∈ ([] : List (Addr × Obj)) ++ [] from hp) (by simp)⟩
  have loop : codeAny (model X.prog X.w) X.A (.compLoop (.ListComp elt [⟨tg, iter, ifs, 0⟩] scope pos) 0 (.ref it) (.ref D) ce) (compPost (model X.prog X.w) X.A X.xe use Qf (.ref D) s3.heap.objs.size) s4 := by
    refine compLoop_any (fun n s' => ∃ i H', Inv (X.blk s3 H3 scope ce fp) [] (wipe σ (own.map (·.2))) H' s' ∧ tn i s'.heap ∧ (∀ b ∈ fp, H' b = none) ∧ W i n H') ?_ m0 ⟨0, H3, I4, st4, nfp, w0⟩
    rintro n s5 ⟨i, H5, I5, st5, n5, w5⟩
    rcases turn i n H5 w5 with ⟨stop, qq⟩ | ⟨go, Nx, hNx, step⟩
    · have td := T.done (X.blk s3 H3 scope ce fp) rfl rfl rfl hc i [] s5 _ H5 (fun _ _ => False) I5 (stat I5 n5) st5 stop
      refine thnF td fun r s6 ⟨hr, I6⟩ => ?_
      subst hr
      -- back in the def's context
      have I7 : Inv X pins σ H5 s6 := I3.call' (ch := fp) I6.os I6.base I6.hok I6.bare fun b hb => ⟨(f3 b hb).1.2.2.2.1, (f3 b hb).1.2.1, (f3 b hb).1.2.2.2.2.1, (f3 b hb).1.2.2.2.2.2⟩
      have nC : H5 s3.heap.objs.size = none := by
        have z : H5 ce.locals = none := I6.free
        rw [cL] at z
        exact z
      obtain ⟨m, hn, _⟩ := I6.loc
      have hn : s6.heap.Ns ce.locals m := hn
      rw [cL] at hn
      exact hRR D s3.heap.objs.size s6 m H5 I7 qq hn (I3.fpOk (Nat.le_refl _) nC)
    · have ti := T.item (X.blk s3 H3 scope ce fp) rfl rfl rfl hc i [] s5 _ H5 (fun _ _ => False) I5 (stat I5 n5) st5 go
      refine thnF ti fun r s6 ⟨u, hr, h6⟩ => ?_
      subst hr
      refine thnF h6 fun _ s7 ⟨x, H7, I7, r7, y7, st7, n7⟩ => ?_
      have I7' := I7.pinned (stat I7 n7) (T.obj _ _ st7)
      refine thnF (pg _ s7 _ H7 x u _ I7' r7 (step x H7 y7)) fun _ s8 ⟨σ8, H8, I8, hw8, q8⟩ => ?_
      refine thnF (pt _ s8 σ8 H8 _ I8 q8) fun b s9 ⟨H9, I9, q9⟩ => ?_
      -- the turn's end
      have fin : ∀ {s' : Shared} {H' : Hp}, Inv (X.blk s3 H3 scope ce fp) ([] ++ pinsAt fp s7.heap) σ8 H' s' → Nx H' → ∃ m, m < n ∧ ∃ i H', Inv (X.blk s3 H3 scope ce fp) [] (wipe σ (own.map (·.2))) H' s' ∧ tn i s'.heap ∧ (∀ b ∈ fp, H' b = none) ∧ W i m H' := fun {s' H'} I' nx => by
        obtain ⟨m', hm, w'⟩ := hNx H' nx
        have pin' : ∀ b ∈ fp, ∀ o, s7.heap.get? b = some o → s'.heap.get? b = some o ∧ H' b = none := fun b hb o e =>
          let z := I'.pin (b, o) (List.mem_append_right _ (List.mem_append_right _ (mem_pinsAt hb e)))
          ⟨z.1, z.2.1⟩
        have hl : (wipe σ (own.map (·.2))).length = σ8.length := by rw [← hw8, wipe_length]
        refine ⟨m', hm, i + 1, H', (I'.unpinned (pins := [])).weak hl (fun j v e => ?_), T.keep _ _ _ st7 fun b hb o e => (pin' b hb o e).1, fun b hb => ?_, w'⟩
        · rw [← hw8] at e
          exact (wipe_some e).1
        · obtain ⟨o, e, _⟩ := T.obj _ _ st7 b hb
          exact (pin' b hb o e).2
      cases b with
      | false =>
        simp only [Bool.false_eq_true, if_false] at q9 ⊢
        exact fin I9 q9
      | true =>
        simp only [if_true] at q9 ⊢
        refine thnF (pe _ s9 σ8 H9 _ I9 q9) fun z s10 ⟨yv, H10, I10, r10, acc, hD10, hz10, nx⟩ => ?_
        exact app_ok (X := X.blk s3 H3 scope ce fp) I10 hD10 hz10 r10 fun s11 I11 => fin I11 nx
  exact codeAny_compStart_list loop (T.self X.A 0 _ _ _ st4 loop)
theorem pe_lc {elt tg iter : Expr} {ifs : List Expr} {scope : Scope} {own : List (Str × Nat)} {pos : Pos} {wi : TI} {g : TG} {tt : TT} {te : TE} (hc : X.calm = true) (hN : X.N.Nodup) (hi : PI X tg iter wi) (ok : BlkOk X.N X.env.scope scope own)
    (hg : ∀ (s : Shared) (H : Hp) (C : Addr) (cl : List (Str × Addr)) (fp : List Addr), PG (X.blk s H scope (compEnvC scope cl C X.env) fp) tg g) (ht : ∀ (s : Shared) (H : Hp) (C : Addr) (cl : List (Str × Addr)) (fp : List Addr), PTs (X.blk s H scope (compEnvC scope cl C X.env) fp) ifs tt)
    (he : ∀ (s : Shared) (H : Hp) (C : Addr) (cl : List (Str × Addr)) (fp : List Addr), PE (X.blk s H scope (compEnvC scope cl C X.env) fp) elt te) (hs : ∀ x, foldedSetIterable iter X.env x = pure x := by intro _; rfl) :
    PE X (.ListComp elt [⟨tg, iter, ifs, 0⟩] scope pos) (tLc wi g tt te (own.map (·.2))) := by
  intro pins s σ H Q I h
  rw [eval_ListComp]
  refine lc_core hc hN I hi ok hg ht he hs h fun D C s' m H' I' q hn f => ⟨m, hn, fun h'' sb => ?_⟩
  obtain ⟨f0, f1, f2, f3, f4, f5⟩ := f
  exact ⟨.ref D, H', I'.turned (t' := s'.toks) (fun b o hb e => (sb.2 b hb).trans e) f0 f1 f3 f4 f5, rfl, q⟩
theorem ps_setLc {i : Nat} {y : Str} {py : Pos} {elt tg iter : Expr} {ifs : List Expr} {scope : Scope} {own : List (Str × Nat)} {pos spos : Pos} {wi : TI} {g : TG} {tt : TT} {te : TE} (hc : X.calm = true) (hN : X.N.Nodup) (hy : X.N[i]? = some y) (hyl : X.env.scope.names.lookup y = some .local)
    (hsw : swapsWith (.ListComp elt [⟨tg, iter, ifs, 0⟩] scope pos) (some (.Name y py)) spos.line X.env = pure true) (hi : PI X tg iter wi) (ok : BlkOk X.N X.env.scope scope own)
    (hg : ∀ (s : Shared) (H : Hp) (C : Addr) (cl : List (Str × Addr)) (fp : List Addr), PG (X.blk s H scope (compEnvC scope cl C X.env) fp) tg g) (ht : ∀ (s : Shared) (H : Hp) (C : Addr) (cl : List (Str × Addr)) (fp : List Addr), PTs (X.blk s H scope (compEnvC scope cl C X.env) fp) ifs tt)
    (he : ∀ (s : Shared) (H : Hp) (C : Addr) (cl : List (Str × Addr)) (fp : List Addr), PE (X.blk s H scope (compEnvC scope cl C X.env) fp) elt te) (hs : ∀ x, foldedSetIterable iter X.env x = pure x := by intro _; rfl) :
    PS X (.Assign [.Name y py] (.ListComp elt [⟨tg, iter, ifs, 0⟩] scope pos) spos) (tAsg (tLc wi g tt te (own.map (·.2))) (gName i)) := by
  intro pins s σ H D I h
  rw [exec_Assign_Name_used _ _ _ _ hsw]
  refine wpAny_bind (wpAny_standAt (wpAny_bind ?_))
  show wpAny _ X.A (do let _ ← comprehension (.ListComp elt [⟨tg, iter, ifs, 0⟩] scope pos) scope X.env (firstIterPos [⟨tg, iter, ifs, 0⟩] pos) (newList []) false (eval iter X.env) (some (assign (.Name y py) X.env))) _ _ s
  have h : tLc wi g tt te (own.map (·.2)) σ H (fun x H1 => gName i x σ H1 D.nx) := h
  refine wpAny_bind (thn (lc_core (Qf := fun _ s' => SP X pins D .next s') hc hN I hi ok hg ht he hs h fun L C s' m H' I' q hn f => ?_) fun _ s' hq => wpAny_pure (wpAny_pure hq))
  show wpAny _ _ (assign (.Name y py) X.env (.ref L)) _ _ _
  refine wpAny_assign_Name (store_ok2 (v := V.ref L) I' hN hy (.inl hyl) rfl (fun s2 I2 ⟨a, sb, ha⟩ => ?_) (.inr hyl))
  obtain ⟨f0, f1, f2, f3, f4, f5⟩ := f
  have haC : C ≠ a := by
    rcases ha with z | z
    · rw [z]; exact f1
    · exact fun e => f4 y a z e.symm
  refine ⟨m, hn.sameBut sb haC, fun h3 sb3 => ?_⟩
  exact ⟨_, H', I2.turned (t' := s2.toks) (fun b o hb e => (sb3.2 b hb).trans e) f0 f1 f3 f4 f5, q⟩
theorem sw_true {elt : Expr} {gs : List Comprehension} {scope : Scope} {pos py : Pos} {y : Str} {l : Nat} {env : Env} (hk : env.scope.kind = .function) (hy : env.scope.names.lookup y = some .local) (hl : (py.line == pos.line) = true)
    (ha : (scope.names.any fun (n, k) => n == y && (k == .local || k == .cell)) = false) : swapsWith (.ListComp elt gs scope pos) (some (.Name y py)) l env = pure true := by
  have ky : env.kindOf y = some .local := hy
  have hb : env.blockKind = .function := by unfold Env.blockKind; rw [hk]; rfl
  unfold swapsWith
  simp only [hb, ky, ha, Expr.pos, hl]
  rfl
end
theorem lc_range {lo : Int} {n : Nat} {g : TG} {tt : TT} {te : TE} {vs : List Nat} {σ : St} {H1 : Hp} {D : Addr} {Qd : Hp → Prop} (Pv : Nat → Hp → Prop) (h0 : Pv 0 (upd H1 D (.lst [])))
    (hs : ∀ i H, i < n → Pv i H → g (.int (lo + i)) (wipe σ vs) H fun σ2 H2 => wipe σ2 vs = wipe σ vs ∧ tt σ2 H2 fun b H3 =>
      if b = true then te σ2 H3 fun y H4 => ∃ acc, H4 D = some (.lst acc) ∧ acc.length < sizeLine ∧ Pv (i + 1) (upd H4 D (.lst (acc ++ [y]))) else Pv (i + 1) H3) (hd : ∀ H, Pv n H → Qd H) :
    ∃ W : Nat → Nat → Hp → Prop, (∃ m, W 0 m (upd H1 D (.lst []))) ∧ ∀ i m H, W i m H →
      ((Itr lo n).stop i H ∧ Qd H) ∨ ((Itr lo n).go i H ∧ ∃ Nx : Hp → Prop, (∀ H', Nx H' → ∃ m', m' < m ∧ W (i + 1) m' H') ∧ ∀ x H', (Itr lo n).yld i H x H' → g x (wipe σ vs) H' fun σ2 H2 => wipe σ2 vs = wipe σ vs ∧ tt σ2 H2 fun b H3 =>
        if b = true then te σ2 H3 fun y H4 => ∃ acc, H4 D = some (.lst acc) ∧ acc.length < sizeLine ∧ Nx (upd H4 D (.lst (acc ++ [y]))) else Nx H3) := by
  refine ⟨fun i m H => m = n - i ∧ i ≤ n ∧ Pv i H, ⟨n, by simp, Nat.zero_le _, h0⟩, ?_⟩
  rintro i m H ⟨rfl, hi, p⟩
  by_cases hlt : i < n
  · refine .inr ⟨hlt, Pv (i + 1), fun H' p' => ⟨n - (i + 1), by omega, rfl, hlt, p'⟩, fun x H' y => ?_⟩
    obtain ⟨e, y⟩ := y
    subst e y
    exact hs i _ hlt p
  · have e : i = n := by omega
    subst e
    exact .inl ⟨Nat.le_refl _, hd H p⟩
theorem lc_list {K : PySem.W.Frag} {a : Addr} {xs : List V} {g : TG} {tt : TT} {te : TE} {vs : List Nat} {σ : St} {H1 : Hp} {D : Addr} {Qd : Hp → Prop} (Pv : Nat → Hp → Prop) (h0 : Pv 0 (upd H1 D (.lst []))) (hl : ∀ i H, i ≤ xs.length → Pv i H → SqL K H a xs)
    (hs : ∀ i x H, xs[i]? = some x → Pv i H → g x (wipe σ vs) H fun σ2 H2 => wipe σ2 vs = wipe σ vs ∧ tt σ2 H2 fun b H3 =>
      if b = true then te σ2 H3 fun y H4 => ∃ acc, H4 D = some (.lst acc) ∧ acc.length < sizeLine ∧ Pv (i + 1) (upd H4 D (.lst (acc ++ [y]))) else Pv (i + 1) H3) (hd : ∀ H, Pv xs.length H → Qd H) :
    ∃ W : Nat → Nat → Hp → Prop, (∃ m, W 0 m (upd H1 D (.lst []))) ∧ ∀ i m H, W i m H →
      ((Itl K a).stop i H ∧ Qd H) ∨ ((Itl K a).go i H ∧ ∃ Nx : Hp → Prop, (∀ H', Nx H' → ∃ m', m' < m ∧ W (i + 1) m' H') ∧ ∀ x H', (Itl K a).yld i H x H' → g x (wipe σ vs) H' fun σ2 H2 => wipe σ2 vs = wipe σ vs ∧ tt σ2 H2 fun b H3 =>
        if b = true then te σ2 H3 fun y H4 => ∃ acc, H4 D = some (.lst acc) ∧ acc.length < sizeLine ∧ Nx (upd H4 D (.lst (acc ++ [y]))) else Nx H3) := by
  refine ⟨fun i m H => m = xs.length - i ∧ i ≤ xs.length ∧ Pv i H, ⟨xs.length, by simp, Nat.zero_le _, h0⟩, ?_⟩
  rintro i m H ⟨rfl, hi, p⟩
  have q := hl i H hi p
  by_cases hlt : i < xs.length
  · refine .inr ⟨⟨xs, xs[i], q, by simp [hlt]⟩, Pv (i + 1), fun H' p' => ⟨xs.length - (i + 1), by omega, rfl, hlt, p'⟩, fun x H' y => ?_⟩
    obtain ⟨e, y⟩ := y
    subst e
    exact hs i x _ (y xs q) p
  · have e : i = xs.length := by omega
    subst e
    exact .inl ⟨⟨xs, q, Nat.le_refl _⟩, hd H p⟩
def blkC (N : List Str) (sc scope : Scope) (own : List (Str × Nat)) : Bool :=
  (match scope.kind with | .function => true | _ => false) && (scope.names.all fun y => decide (scope.names.lookup y.1 = some y.2)) && (own.all fun p => decide (N[p.2]? = some p.1)) &&
    (scope.names.all fun y => match y.2 with
      | .free => (match sc.names.lookup y.1 with | some .cell => true | some .free => true | _ => false)
      | .local => decide (y.1 ∈ own.map (·.1)) || decide (y.1 ∉ N)
      | .cell => decide (y.1 ∈ own.map (·.1)) || decide (y.1 ∉ N)
      | _ => true)
theorem blkOk_by {N : List Str} {sc scope : Scope} {own : List (Str × Nat)} (h : blkC N sc scope own = true) : BlkOk N sc scope own := by
  unfold blkC at h
  simp only [Bool.and_eq_true, List.all_eq_true, decide_eq_true_eq] at h
  obtain ⟨⟨⟨h1, h2⟩, h3⟩, h4⟩ := h
  refine ⟨?_, h2, h3, fun y hy e => ?_, fun y hy e => ?_⟩
  · split at h1
    · assumption
    · cases h1
  · have q := h4 y hy
    simp only [e] at q
    split at q <;> first | exact .inl (by assumption) | exact .inr (by assumption) | cases q
  · have q := h4 y hy
    rcases e with e | e <;> (simp only [e, Bool.or_eq_true, decide_eq_true_eq] at q; exact q)
end L2
namespace L2
open PySem PySem.Spec PyProof.Rows
section
variable {prog : Program} {w : World} {A : Around} {R : Result → Shared → Prop} {s : Shared} {elt t0 i0 t1 i1 : Expr} {ifs0 ifs1 : List Expr} {scope : Scope} {pos : Pos} {it acc : Value} {env : Env}
end
section
variable {X : Cx}
end
end L2
namespace L2
open PySem PySem.Spec PyProof.Rows
section
variable {κ : Type} [DecidableEq κ]
def valV (kvs : List (κ × V)) (k : κ) : Option V := (kvs.find? fun kv => decide (kv.1 = k)).map (·.2)
def putK (kvs : List (κ × V)) (k : κ) (v : V) : List (κ × V) :=
  if (kvs.any fun kv => decide (kv.1 = k)) = true then kvs.map (fun kv => if kv.1 = k then (kv.1, v) else kv) else kvs ++ [(k, v)]
theorem valV_pos {p : κ × V} {r : List (κ × V)} {k : κ} (e : p.1 = k) : valV (p :: r) k = some p.2 := by simp [valV, List.find?_cons, e]
theorem valV_neg {p : κ × V} {r : List (κ × V)} {k : κ} (e : ¬ p.1 = k) : valV (p :: r) k = valV r k := by simp [valV, List.find?_cons, e]
theorem valV_any (k : κ) : ∀ kvs : List (κ × V), (kvs.any fun kv => decide (kv.1 = k)) = (valV kvs k).isSome
  | [] => rfl
  | p :: r => by
    rw [List.any_cons]
    by_cases e : p.1 = k
    · simp only [valV_pos e, decide_eq_true e, Bool.true_or, Option.isSome_some]
    · rw [valV_neg e, decide_eq_false e, Bool.false_or]; exact valV_any k r
theorem length_putK (kvs : List (κ × V)) (k : κ) (v : V) : (putK kvs k v).length ≤ kvs.length + 1 := by
  unfold putK
  split
  · rw [List.length_map]; omega
  · rw [List.length_append, List.length_cons, List.length_nil]; omega
theorem RelO.isSome_eq {o : Option V} {u : Option Value} (r : RelO o u) : o.isSome = u.isSome := by
  cases o with
  | none => cases u with
    | none => rfl
    | some _ => exact (show False from r).elim
  | some _ => cases u with
    | none => exact (show False from r).elim
    | some _ => rfl
theorem KV.any {kvs : List (κ × V)} {vs : List (κ × Value)} (r : KV kvs vs) (k : κ) : (kvs.any fun kv => decide (kv.1 = k)) = vs.any fun kv => decide (kv.1 = k) := by
  unfold KV at r
  induction r with
  | nil => rfl
  | cons h t ih => rw [List.any_cons, List.any_cons, ih, h.1]
theorem KV.repl {kvs : List (κ × V)} {vs : List (κ × Value)} (r : KV kvs vs) (k : κ) {y : V} {u : Value} (ry : RelV y u) :
    KV (kvs.map fun kv => if kv.1 = k then (kv.1, y) else kv) (vs.map fun kv => if kv.1 = k then (kv.1, u) else kv) := by
  unfold KV at r ⊢
  induction r with
  | nil => exact .nil
  | @cons p q ps qs h t ih =>
    rw [List.map_cons, List.map_cons]
    refine .cons ?_ ih
    obtain ⟨h1, h2⟩ := h
    by_cases e : p.1 = k
    · rw [if_pos e, if_pos (h1.symm.trans e)]; exact ⟨h1, ry⟩
    · rw [if_neg e, if_neg (fun z => e (h1.trans z))]; exact ⟨h1, h2⟩
theorem KV.put {kvs : List (κ × V)} {vs : List (κ × Value)} (r : KV kvs vs) (k : κ) {y : V} {u : Value} (ry : RelV y u) : KV (putK kvs k y) (stored vs k u) := by
  unfold putK stored
  rw [r.any k]
  by_cases e : (vs.any fun kv => decide (kv.1 = k)) = true
  · rw [if_pos e, if_pos e]; exact r.repl k ry
  · rw [if_neg e, if_neg e]; exact Paired.snoc r ⟨rfl, ry⟩
theorem KV.length {kvs : List (κ × V)} {vs : List (κ × Value)} (r : KV kvs vs) : kvs.length = vs.length := Paired.length r
end
theorem kV_is {P : Program} {w : World} {k : Key} {u : Value} (r : RelV (kV k) u) : (mixKind P w).is k u = true := by
  cases k with
  | inl i => obtain ⟨t, e⟩ := (show ∃ t, u = Value.int i t from r); subst e; exact mixKind_int P w i t
  | inr x => obtain ⟨t, e⟩ := (show ∃ t, u = Value.str x t from r); subst e; exact mixKind_str P w x t
theorem items_are {P : Program} {w : World} : ∀ {ks : List Key} {us : List Value}, Vals (ks.map kV) us → ItemsAre (mixKind P w) ks us
  | [], _, r => by rw [List.map_nil] at r; cases r; exact .nil
  | k :: ks, _, r => by
    rw [List.map_cons] at r
    cases r with
    | cons h t => exact .cons (kV_is h) (items_are t)
abbrev KT (H : Hp) : List (List Key × V) → List (List Key × Addr × Value) → Prop := Paired fun p q => p.1 = q.1 ∧ H q.2.1 = some (.tup (p.1.map kV)) ∧ RelV p.2 q.2.2
theorem KT.val {H : Hp} {kvs : List (List Key × V)} {xs : List (List Key × Addr × Value)} (r : KT H kvs xs) (k : List Key) : RelO (valV kvs k) ((atKey xs k).map (·.2)) := by
  induction r with
  | nil => exact True.intro
  | @cons p q ps qs h t ih =>
    obtain ⟨h1, _, h2⟩ := h
    by_cases e : p.1 = k
    · have e' : q.1 = k := h1.symm.trans e
      have b : atKey (q :: qs) k = some q.2 := by simp [atKey, List.find?_cons, e']
      rw [valV_pos e, b]; exact h2
    · have e' : ¬ q.1 = k := fun z => e (h1.trans z)
      have b : atKey (q :: qs) k = atKey qs k := by simp [atKey, List.find?_cons, e']
      rw [valV_neg e, b]; exact ih
theorem KT.repl {H : Hp} {kvs : List (List Key × V)} {xs : List (List Key × Addr × Value)} (r : KT H kvs xs) (k : List Key) {y : V} {u : Value} (ry : RelV y u) :
    KT H (kvs.map fun kv => if kv.1 = k then (kv.1, y) else kv) (xs.map (putAt k u)) := by
  induction r with
  | nil => exact .nil
  | @cons p q ps qs h t ih =>
    rw [List.map_cons, List.map_cons]
    refine .cons ?_ ih
    obtain ⟨h1, h2, h3⟩ := h
    unfold putAt
    by_cases e : p.1 = k
    · rw [if_pos e, if_pos (h1.symm.trans e)]; exact ⟨h1, h2, ry⟩
    · rw [if_neg e, if_neg (fun z => e (h1.trans z))]; exact ⟨h1, h2, h3⟩
theorem KT.put {H : Hp} {kvs : List (List Key × V)} {xs : List (List Key × Addr × Value)} (r : KT H kvs xs) (k : List Key) {b : Addr} {y : V} {u : Value} (hb : H b = some (.tup (k.map kV))) (ry : RelV y u) :
    KT H (putK kvs k y) (storedH xs k b u) := by
  have e : (kvs.any fun kv => decide (kv.1 = k)) = (atKey xs k).isSome := by
    rw [valV_any, (r.val k).isSome_eq, Option.isSome_map]
  unfold putK storedH
  rw [e]
  by_cases q : (atKey xs k).isSome = true
  · rw [if_pos q, if_pos q]; exact r.repl k ry
  · rw [if_neg q, if_neg q]; exact Paired.snoc r ⟨rfl, hb, ry⟩
theorem KT.keeps {H H' : Hp} {kvs : List (List Key × V)} {xs : List (List Key × Addr × Value)} (r : KT H kvs xs) (ht : ∀ b ys, H b = some (.tup ys) → H' b = some (.tup ys)) : KT H' kvs xs :=
  Paired.mapP r fun _ _ z => ⟨z.1, ht _ _ z.2.1, z.2.2⟩
section
variable {P : Program} {w : World} {H : Hp} {h : Heap} {a : Addr}
theorem rd_of {u : HO} (ok : HOk P w H h) (e : Rd H a u) : ObjOk P w H h a u := e.ok ok
theorem dk_rd {kvs : List (Key × V)} (ok : HOk P w H h) (e : Rd H a (.dK kvs)) : kvs.length ≤ sizeLine ∧ (a == sysModules) = false ∧ ∃ vs, KV kvs vs ∧ h.DictOf (mixKind P w) a vs :=
  show ObjOk P w H h a (.dK kvs) from rd_of ok e
theorem dk_of {kvs : List (Key × V)} (ok : HOk P w H h) (e : H a = some (.dK kvs)) : kvs.length ≤ sizeLine ∧ (a == sysModules) = false ∧ ∃ vs, KV kvs vs ∧ h.DictOf (mixKind P w) a vs := dk_rd ok (.inl e)
theorem key_of {ks : List Key} (ok : HOk P w H h) (e : H a = some (.tup (ks.map kV))) : (tupleKind (mixKind P w)).is h ks a := by
  obtain ⟨_, its, r, o, h1, h2, n, h3⟩ := (show ObjOk P w H h a (.tup (ks.map kV)) from ok a _ e)
  exact ⟨o, its.toArray, n, h1, h2, h3, by simpa using items_are r⟩
theorem dt_rd {kvs : List (List Key × V)} (ok : HOk P w H h) (e : Rd H a (.dT kvs)) : kvs.length ≤ sizeLine ∧ (a == sysModules) = false ∧
    ∃ xs, KT H kvs xs ∧ h.DictOfH (tupleKind (mixKind P w)) a xs := by
  obtain ⟨z, y, xs, r, o, es, ep, h1, h2, h3, h4, h5⟩ := (show ObjOk P w H h a (.dT kvs) from rd_of ok e)
  refine ⟨z, y, xs, r, o, es, ep, h1, h2, h3, h4, fun x hx => ?_, h5⟩
  have all : ∀ {l : List (List Key × V)} {m : List (List Key × Addr × Value)}, KT H l m → ∀ x ∈ m, (tupleKind (mixKind P w)).is h x.1 x.2.1 := by
    intro l m q
    induction q with
    | nil => intro x hx; exact nomatch hx
    | @cons p q ps qs hq t ih =>
      intro x hx
      rcases List.mem_cons.mp hx with e | hx
      · subst e
        exact key_of ok (by rw [← hq.1]; exact hq.2.1)
      · exact ih x hx
  exact all r x hx
theorem dt_of {kvs : List (List Key × V)} (ok : HOk P w H h) (e : H a = some (.dT kvs)) : kvs.length ≤ sizeLine ∧ (a == sysModules) = false ∧
    ∃ xs, KT H kvs xs ∧ h.DictOfH (tupleKind (mixKind P w)) a xs := dt_rd ok (.inl e)
end
def DPut (H : Hp) (a : Addr) (y v : V) (H' : Hp) : Prop :=
  (∃ kvs k, H a = some (.dK kvs) ∧ y = kV k ∧ kvs.length < sizeLine ∧ H' = upd H a (.dK (putK kvs k v))) ∨
  ∃ kvs k b, H a = some (.dT kvs) ∧ y = .ref b ∧ H b = some (.tup (k.map kV)) ∧ kvs.length < sizeLine ∧ H' = upd H a (.dT (putK kvs k v))
theorem DPut.k {H : Hp} {a : Addr} {kvs : List (Key × V)} {k : Key} {v : V} (e : H a = some (.dK kvs)) (hl : kvs.length < sizeLine) : DPut H a (kV k) v (upd H a (.dK (putK kvs k v))) := .inl ⟨kvs, k, e, rfl, hl, rfl⟩
section
variable {X : Cx} {pins : List (Addr × Obj)} {σ : St} {H : Hp} {s : Shared} {a : Addr} {y v : V} {u r : Value} {o : Option V} {A : Around} {E : Value → Shared → Prop}
theorem Inv.big (I : Inv X pins σ H s) : sysModules < s.heap.objs.size := by
  have h : mainGlobals < s.heap.objs.size := (I.mod.glob.keeps I.bk).lt
  exact Nat.lt_trans (by decide) h
theorem d_write {h' : Heap} {t' : Nat} {ob : HO} (I : Inv X pins σ H s) (mu : Mut (H a)) (hs : Heap.SameBut a s.heap h') (he : ∃ q, h'.get? a = some q) (new : ObjOk X.prog X.w (upd H a ob) h' a ob) :
    Inv X pins σ (upd H a ob) { s with heap := h', toks := t' } :=
  I.write (x := a) (e := a) mu (.inl rfl) (fun b q hb z => (hs.2 b hb).trans z) he new
theorem dk_new {P : Program} {w : World} {H' : Hp} {h' : Heap} {kvs : List (Key × V)} {vs : List (Key × Value)} (z : kvs.length ≤ sizeLine) (hd : (a == sysModules) = false) (rel : KV kvs vs) (dd : h'.DictOf (mixKind P w) a vs) :
    ObjOk P w H' h' a (.dK kvs) := ⟨z, hd, vs, rel, dd⟩
theorem d_setItem {H' : Hp} {Q : Unit → Shared → Prop} (hu : A.units + 1 < cLine) (I : Inv X pins σ H s) (g : DPut H a y v H') (ry : RelV y u) (rv : RelV v r) (h : ∀ s', Inv X pins σ H' s' → Q () s') :
    wpAny (model X.prog X.w) A (setItem (.ref a) u r) Q E s := by
  rcases g with ⟨kvs, k, e, ey, l, eH⟩ | ⟨kvs, k, b, e, ey, eb, l, eH⟩
  · subst ey eH
    obtain ⟨z, hd, vs, rel, dd⟩ := dk_of I.hok e
    have hz : vs.length ≤ sizeLine := by rw [← rel.length]; exact z
    have hl : (putK kvs k v).length ≤ sizeLine := by have := length_putK kvs k v; omega
    refine wpAny_setItem_pairs (hsz := hz) (kV_is ry) dd fun h' dd' hs => h _ ?_
    have he : ∃ q, h'.get? a = some q := let ⟨q, _, _, hq, _⟩ := dd'; ⟨q, hq⟩
    exact d_write I (by rw [e]; exact True.intro) hs he (dk_new hl hd (rel.put k rv) dd')
  · subst ey eH
    cases (show u = Value.ref b from ry)
    obtain ⟨z, hd, xs, rel, dd⟩ := dt_of I.hok e
    have hz : xs.length ≤ sizeLine := by rw [← Paired.length rel]; exact z
    have hl : (putK kvs k v).length ≤ sizeLine := by have := length_putK kvs k v; omega
    refine wpAny_setItem_heap (hsz := hz) (tupleKind_room_in1 hu) (key_of I.hok eb) dd fun h' dd' hs => h _ ?_
    obtain ⟨q, es, ep, hq, h2, h3, h4, _, h5⟩ := dd'
    refine d_write I (by rw [e]; exact True.intro) hs ⟨q, hq⟩ ⟨hl, hd, _, (rel.put k eb rv).keeps fun c ys ec => ?_, q, es, ep, hq, h2, h3, h4, h5⟩
    rw [upd_ne (ne_of ec e (fun z => nomatch z))]
    exact ec
end
section
variable {X : Cx} {pins : List (Addr × Obj)} {σ : St} {H : Hp} {s : Shared} {a : Addr} {kvs : List (Key × V)} {k : Key} {u : Value} {A : Around} {E : Value → Shared → Prop}
end
def sDPut (td ty tv : TE) : TS := fun D σ H => tv σ H fun v H1 => td σ H1 fun x H2 => ty σ H2 fun y H3 => ∃ a H4, x = .ref a ∧ DPut H3 a y v H4 ∧ D.nx σ H4
section
variable {X : Cx} {o i e value : Expr} {pos pos' tpos : Pos} {td ty tv : TE}
theorem ps_dput (hu : X.A.units + 1 < cLine) (ho : PE X o td) (hi : PE X i ty) (hv : PE X value tv) (hs : swapsWith value (some (.Subscript o i pos')) pos.line X.env = pure false) :
    PS X (.Assign [.Subscript o i pos'] value pos) (sDPut td ty tv) := by
  intro pins s σ H D I h
  refine wpAny_Assign_Subscript (thn (hv pins s σ H _ I h) fun r s1 ⟨v, H1, I1, rv, q1⟩ => thn (ho pins s1 σ H1 _ I1 q1) fun u s2 ⟨x, H2, I2, rx, q2⟩ => thn (hi pins s2 σ H2 _ I2 q2) fun iv s3 ⟨y, H3, I3, ry, a, H4, ex, g, q3⟩ => ?_) hs
  subst ex
  obtain rfl : u = Value.ref a := rx
  exact d_setItem hu I3 g ry rv fun s4 I4 => ⟨σ, H4, I4, q3⟩
end
theorem dk_empty {P : Program} {w : World} {H : Hp} (h : Heap) (hb : sysModules < h.objs.size) : ObjOk P w H (h.push { cls := .type "dict", data := .dict #[] }) h.objs.size (.dK []) :=
  ⟨Nat.zero_le _, beq_eq_false_iff_ne.mpr (Ne.symm (Nat.ne_of_lt hb)), [], .nil, Heap.DictOf.new h⟩
def tDNewK : TE := fun _ H Q => ∀ p, H p = none → Q (.ref p) (upd H p (.dK []))
section
variable {X : Cx} {pos : Pos}
theorem pe_dnewK : PE X (.Dict [] [] pos) tDNewK := fun pins s σ H Q I h =>
  wpAny_Dict_empty ⟨.ref s.heap.objs.size, _, I.laid (a := s.heap.objs.size) (o := .dK []) (t' := s.toks) (fun _ _ q => Heap.get?_push_of_some _ q) (Nat.le_refl _) (dk_empty s.heap I.big), rfl, h _ (I.hok.fresh (Nat.le_refl _))⟩
end
section
variable {X : Cx} {pins : List (Addr × Obj)} {σ : St} {H : Hp} {s : Shared} {a : Addr} {y d : V} {u r : Value} {o : Option V} {A : Around} {E : Value → Shared → Prop}
end
section
variable {X : Cx} {o e f : Expr} {apos cpos : Pos} {td ty tx : TE}
end
section
variable {X : Cx} {pins : List (Addr × Obj)} {σ : St} {H : Hp} {s : Shared} {a : Addr} {kvs : List (Key × V)} {A : Around} {E : Value → Shared → Prop}
end
section
variable {X : Cx} {pins : List (Addr × Obj)} {σ : St} {H : Hp} {s : Shared} {a : Addr} {y : V} {u : Value} {A : Around} {E : Value → Shared → Prop}
end
end L2
namespace L2
open PySem PySem.Spec PyProof.Rows
section
variable {prog : Program} {w : World} {A : Around} {E : Value → Shared → Prop}
end
section
variable {X : Cx}
theorem refs_at : ∀ {ps : List Addr} {us : List Value}, Vals (ps.map V.ref) us → us = ps.map Value.ref
  | [], us, r => by
    rw [List.map_nil] at r
    cases r
    rfl
  | p :: ps, us, r => by
    rw [List.map_cons] at r
    cases r with
    | cons h t =>
      cases h
      rw [List.map_cons, ← refs_at t]
end
end L2
namespace L2
open PySem PySem.Spec PyProof.Rows
section
variable {X : Cx} {pins : List (Addr × Obj)} {σ : St} {H : Hp} {s : Shared} {h' : Heap}
theorem Inv.turnedL {t' : Nat} {ch : List Addr} (I : Inv X pins σ H s) (k : ∀ b o, b ∉ ch → s.heap.get? b = some o → h'.get? b = some o) (hf : ∀ b ∈ ch, FpOk X pins H b) : Inv X pins σ H { s with heap := h', toks := t' } := by
  have nit : ∀ b u, H b = some u → b ∉ ch := fun b u e z => by
    have q := (hf b z).1
    rw [q] at e; cases e
  refine I.step (g' := s.gens) (d' := s.drawn) (ch := ch) (fun b hb => ⟨(hf b hb).2.2.2.1, (hf b hb).2.1, (hf b hb).2.2.2.2.1, (hf b hb).2.2.2.2.2⟩) (fun b o _ _ hc e _ => k b o hc e) (fun b o _ _ hc e _ => ⟨o.slots, k b o hc e⟩)
    (fun _ _ _ _ n => n) (fun b o hc e => ⟨o, k b o hc e⟩) (fun _ _ e => e) (fun _ _ _ e => e) (fun b ps e => ⟨#[], by rw [e]; simp⟩) (fun m hm => ?_) (fun b u e => ?_) I.bare
  · obtain ⟨o, es, ep, ho, r⟩ := hm
    exact ⟨o, es, ep, k _ o (fun z => (hf _ z).2.1 rfl) ho, r⟩
  · refine (I.hok b u e).stay (fun c v hc q => k c v ?_ q) (fun _ q => q) fun _ _ q => q
    rcases hc with z | z
    · rw [z]; exact nit b u e
    · exact nit c _ z
theorem Inv.turnedNew {t' : Nat} {ch : List Addr} {T : Addr} {ob : HO} (I : Inv X pins σ H s) (k : ∀ b o, b ∉ ch → s.heap.get? b = some o → h'.get? b = some o) (hf : ∀ b ∈ ch, FpOk X pins H b) (hT : s.heap.objs.size ≤ T)
    (new : ObjOk X.prog X.w (upd H T ob) h' T ob) : Inv X pins σ (upd H T ob) { s with heap := h', toks := t' } := by
  have hn : H T = none := I.hok.fresh hT
  have nit : ∀ b u, H b = some u → b ∉ ch := fun b u e z => by
    have q := (hf b z).1
    rw [q] at e; cases e
  refine I.step (g' := s.gens) (d' := s.drawn) (ch := ch) (fun b hb => ⟨(hf b hb).2.2.2.1, (hf b hb).2.1, (hf b hb).2.2.2.2.1, (hf b hb).2.2.2.2.2⟩) (fun b o _ _ hc e _ => k b o hc e) (fun b o _ _ hc e _ => ⟨o.slots, k b o hc e⟩)
    (fun b o _ e n => ?_) (fun b o hc e => ⟨o, k b o hc e⟩) (fun b xs e => ?_) (fun b o u e => ?_) (fun b ps e => ⟨#[], ?_⟩) (fun m hm => ?_) (fun b u e => ?_) I.bare
  · rw [upd_ne (Nat.ne_of_lt (Nat.lt_of_lt_of_le (Heap.lt_size e) hT))]; exact n
  · rw [upd_ne (ne_of_none e hn)]; exact e
  · rw [upd_ne (ne_of_none e hn)]; exact e
  · rw [upd_ne (ne_of_none e hn), e]; simp
  · obtain ⟨o, es, ep, ho, r⟩ := hm
    exact ⟨o, es, ep, k _ o (fun z => (hf _ z).2.1 rfl) ho, r⟩
  · by_cases hb : b = T
    · subst hb
      rw [upd_same] at e
      cases e
      exact new
    · rw [upd_ne hb] at e
      refine (I.hok b u e).stay (fun c v hc q => k c v ?_ q) (fun c q => by rw [upd_ne (ne_of_none q hn)]; exact q) fun c xs q => by rw [upd_ne (ne_of_none q hn)]; exact q
      rcases hc with z | z
      · rw [z]; exact nit b u e
      · exact nit c _ z
end
section
variable {X : Cx}
end
section
variable {X : Cx} {tg : Expr}
end
section
variable {X : Cx} {tg : Expr}
end
section
variable {prog : Program} {w : World} {A : Around} {E : Value → Shared → Prop} {s : Shared}
end
theorem paired_get {α β : Type} {G : α → β → Prop} {l₁ : List α} {l₂ : List β} (h : Paired G l₁ l₂) : ∀ {i : Nat} {a : α}, l₁[i]? = some a → ∃ b, l₂[i]? = some b ∧ G a b := by
  induction h with
  | nil => intro i a e; simp at e
  | @cons a b l₁ l₂ r t ih =>
    intro i a' e
    cases i with
    | zero =>
      simp only [List.getElem?_cons_zero, Option.some.injEq] at e
      subst e
      exact ⟨b, rfl, r⟩
    | succ j =>
      simp only [List.getElem?_cons_succ] at e ⊢
      exact ih e
theorem relV_key {k : Key} {u : Value} (h : keyIs k u = true) : RelV (kV k) u := by
  rcases keyIs_shape h with ⟨i, t, rfl, rfl⟩ | ⟨x, t, rfl, rfl⟩
  · exact ⟨t, rfl⟩
  · exact ⟨t, rfl⟩
section
variable {X : Cx} {pins : List (Addr × Obj)} {σ : St} {H : Hp} {s : Shared} {d : Addr} {o : Obj}
end
section
variable {P : Program} {w : World} {K : PySem.W.Frag} {tg : Expr} {d : Addr} {o : Obj} {es : Array DictEntry} {ep : Nat}
end
section
variable {X : Cx} {tg e : Expr} {td : TE} {apos cpos : Pos}
end
def Ite (K : PySem.W.Frag) (a : Addr) : It :=
  ⟨fun i H => ∃ (xs : List V) (x : V), SqL K H a xs ∧ xs[i]? = some x, fun i H v H' => ∃ T x, v = .ref T ∧ H T = none ∧ H' = upd H T (.tup [.int (i : Nat), x]) ∧ ∀ xs, SqL K H a xs → xs[i]? = some x, fun i H => ∃ xs : List V, SqL K H a xs ∧ xs.length ≤ i⟩
theorem turn_enum {P : Program} {w : World} {K : PySem.W.Frag} {elts : List Expr} {kk : Nat} {tpos : Pos} (a e it : Addr) :
    Turn P w K (.Tuple elts kk tpos) (Ite K a) [e, it] e (fun i h => (∃ old, IsEnum h e it ((i : Nat) : Int) old) ∧ h.IsListIter it a i ∧ e ≠ it) where
  mem := by simp
  obj := fun i h st b hb => by
    obtain ⟨⟨old, he⟩, ⟨o, ho, hc, hd⟩, _⟩ := st
    have e' : b = e ∨ b = it := by simpa using hb
    rcases e' with z | z
    · rw [z]; exact ⟨_, he, fun v q => nomatch q⟩
    · rw [z]; exact ⟨o, ho, fun v q => by rw [hd] at q; cases q⟩
  keep := fun i h h' st k => let ⟨⟨old, he⟩, hi, hne⟩ := st; ⟨⟨old, k e (by simp) _ he⟩, hi.at fun o q => k it (by simp) o q, hne⟩
  item := by
    intro X hP hw hK hc i pins s σ H E I hf st hg
    subst hP hw hK
    obtain ⟨⟨old, he⟩, hit, hne⟩ := st
    obtain ⟨xs, x, hq, hx⟩ := hg
    obtain ⟨its, rv, p, hz⟩ := I.list hq
    obtain ⟨u, hu, ru⟩ := rv.get hx
    have hel : e < s.heap.objs.size := Heap.lt_size he
    have hil : it < s.heap.objs.size := by obtain ⟨_, q, _⟩ := hit; exact Heap.lt_size q
    refine wpAny_pyNext_enum_item he hit p.isList (x := u) (by simpa using hu) hne fun h' ho hit' hT hsz hk => ?_
    refine ⟨_, rfl, wpAny_letOwnedTupleGo_enum (s := { s with heap := h', toks := s.toks + 1 }) ho fun h'' he' sb => ?_⟩
    have hT2 : h''.get? s.heap.objs.size = some { cls := .type "tuple", data := .seq #[.int i s.toks, u] } := (sb.2 _ (Nat.ne_of_gt hel)).trans hT
    have new : ObjOk X.prog X.w (upd H s.heap.objs.size (.tup [.int (i : Nat), x])) h'' s.heap.objs.size (.tup [.int (i : Nat), x]) :=
      ⟨by show 2 ≤ sizeLine; decide, [.int i s.toks, u], .cons ⟨_, rfl⟩ (.cons ru .nil), ⟨_, hT2, rfl, _, rfl⟩⟩
    have I1 : Inv X pins σ (upd H s.heap.objs.size (.tup [.int (i : Nat), x])) { s with heap := h'', toks := s.toks + 1 } :=
      I.turnedNew (ch := [e, it]) (fun b ob hb q => (sb.2 b (fun z => hb (by simp [z]))).trans (hk b ob (fun z => hb (by simp [z])) (fun z => hb (by simp [z])) q)) hf (Nat.le_refl _) new
    refine ⟨.ref s.heap.objs.size, _, I1, rfl, ⟨_, x, rfl, I.hok.fresh (Nat.le_refl _), rfl, fun ys hy => by rw [I.list_inj hy hq]; exact hx⟩, ⟨⟨u, ?_⟩, hit'.at fun o q => (sb.2 it (Ne.symm hne)).trans q, hne⟩, fun b hb => ?_⟩
    · have e1 : ((i + 1 : Nat) : Int) = (i : Int) + 1 := by omega
      rw [e1]; exact he'
    · have hb' : b < s.heap.objs.size := by
        have e' : b = e ∨ b = it := by simpa using hb
        rcases e' with z | z
        · rw [z]; exact hel
        · rw [z]; exact hil
      rw [upd_ne (Nat.ne_of_lt hb')]
      exact (hf b hb).1
  done := by
    intro X hP hw hK hc i pins s σ H E I hf st hg
    subst hP hw hK
    obtain ⟨⟨old, he⟩, hit, hne⟩ := st
    obtain ⟨xs, hq, hx⟩ := hg
    obtain ⟨its, rv, p, hz⟩ := I.list hq
    obtain ⟨f0, f1, f2, f3, f4, f5⟩ := hf it (by simp)
    have hl := rv.length
    exact wpAny_pyNext_enum_end (I.ok.hd hc) he hit p.isList (by simp; omega) fun h' eb => ⟨rfl, I.turned (t' := s.toks) (fun b o hb q => eb b o hb q) f0 f1 f3 f4 f5⟩
  self := fun A i s Q E st h => let ⟨⟨_, he⟩, _⟩ := st; wpAny_pyIter_enum he h
def iEnum (K : PySem.W.Frag) (ta : TA) : TI := fun σ H R => ta σ H fun vs H1 => ∃ a xs, vs = [.ref a] ∧ SqL K H1 a xs ∧ R (Ite K a) H1
theorem pi_enum {X : Cx} {e : Expr} {ta : TA} {p pos tpos : Pos} {elts : List Expr} {kk : Nat} (hg : Gl X "enumerate") (hm : X.mg "enumerate" = none) (ha : PA X [e] ta) (hs : starEach [e] X.env = [(false, eval e X.env)] := by rfl) :
    PI X (.Tuple elts kk tpos) (.Call (.Name "enumerate" p) [e] [] pos) (iEnum X.K ta) := by
  intro pins s σ H R I h
  refine Call_ (ld_blt I hg hm boot_enumerate (PyProof.Rows.callWith_type1 (thn (ha pos pins s σ H _ I h) fun us s1 ⟨vs, H1, I1, r1, q1⟩ => ?_) hs rfl))
  obtain ⟨a, xs, ex, hq, q⟩ := q1
  subst ex
  cases r1 with
  | cons r rr =>
    cases rr
    cases r
    obtain ⟨its, rv, p', hz⟩ := I1.list hq
    refine call_enumerate_list p'.isList fun h' he hit hsz hk => wpAny_pyIter_enum he ?_
    have I2 : Inv X pins σ H1 { s1 with heap := h' } := I1.kept (t' := s1.toks) hk
    refine ⟨s1.heap.objs.size + 1, [s1.heap.objs.size + 1, s1.heap.objs.size], _, _, H1, rfl, I2, turn_enum a (s1.heap.objs.size + 1) s1.heap.objs.size, ⟨⟨.none, he⟩, hit, Nat.succ_ne_self _⟩, fun b hb => ?_, q⟩
    have e' : b = s1.heap.objs.size + 1 ∨ b = s1.heap.objs.size := by simpa using hb
    have hle : s1.heap.objs.size ≤ b := by
      rcases e' with z | z
      · rw [z]; exact Nat.le_add_right _ _
      · rw [z]; exact Nat.le_refl _
    exact I1.fpOk hle (I1.hok.fresh hle)
theorem boot_zip5 : bootBuiltins "zip" = some (.type "zip") := by decide +kernel
def Itz (K : PySem.W.Frag) (a b : Addr) : It :=
  ⟨fun i H => ∃ (xs ys : List V) (x y : V), SqL K H a xs ∧ SqL K H b ys ∧ xs[i]? = some x ∧ ys[i]? = some y,
    fun i H v H' => ∃ T x y, v = .ref T ∧ H T = none ∧ H' = upd H T (.tup [x, y]) ∧ (∀ xs, SqL K H a xs → xs[i]? = some x) ∧ ∀ ys, SqL K H b ys → ys[i]? = some y,
    fun i H => ∃ xs ys : List V, SqL K H a xs ∧ SqL K H b ys ∧ (xs.length ≤ i ∨ ys.length ≤ i)⟩
theorem turn_zip {P : Program} {w : World} {K : PySem.W.Frag} {elts : List Expr} {kk : Nat} {tpos : Pos} {a b z TI TO i1 i2 : Addr} (D : ZipApart z TI TO i1 i2 a b) :
    Turn P w K (.Tuple elts kk tpos) (Itz K a b) [z, TI, TO, i1, i2] z (fun i h => IsZip h z TI TO .none ∧ IsPair h TI (.ref i1) (.ref i2) ∧ (∃ x y, IsPair h TO x y) ∧ h.IsListIter i1 a i ∧ h.IsListIter i2 b i) where
  mem := by simp
  obj := fun i h st c hc => by
    obtain ⟨hz, hTI, ⟨x, y, hTO⟩, ⟨o1, e1, _, d1⟩, ⟨o2, e2, _, d2⟩⟩ := st
    have e' : c = z ∨ c = TI ∨ c = TO ∨ c = i1 ∨ c = i2 := by simpa using hc
    rcases e' with q | q | q | q | q
    · rw [q]; exact ⟨_, hz, fun v q => nomatch q⟩
    · rw [q]; exact ⟨_, hTI, fun v q => nomatch q⟩
    · rw [q]; exact ⟨_, hTO, fun v q => nomatch q⟩
    · rw [q]; exact ⟨o1, e1, fun v q => by rw [d1] at q; cases q⟩
    · rw [q]; exact ⟨o2, e2, fun v q => by rw [d2] at q; cases q⟩
  keep := fun i h h' st k => by
    obtain ⟨hz, hTI, ⟨x, y, hTO⟩, h1, h2⟩ := st
    exact ⟨k z (by simp) _ hz, k TI (by simp) _ hTI, ⟨x, y, k TO (by simp) _ hTO⟩, h1.at fun o q => k i1 (by simp) o q, h2.at fun o q => k i2 (by simp) o q⟩
  item := by
    intro X hP hw hK hc i pins s σ H E I hf st hg
    subst hP hw hK
    obtain ⟨hz, hTI, ⟨x0, y0, hTO⟩, h1, h2⟩ := st
    obtain ⟨xs, ys, x, y, hqx, hqy, hx, hy⟩ := hg
    obtain ⟨its, rv, p, _⟩ := I.list hqx
    obtain ⟨its2, rv2, p2, _⟩ := I.list hqy
    obtain ⟨u, hu, ru⟩ := rv.get hx
    obtain ⟨u2, hu2, ru2⟩ := rv2.get hy
    have hzl : z < s.heap.objs.size := Heap.lt_size hz
    refine wpAny_pyNext_zip_item D hz hTI hTO h1 h2 p.isList p2.isList (x := u) (y := u2) (by simpa using hu) (by simpa using hu2) fun h' z' TO' h1' h2' hT hsz hk => ?_
    refine ⟨_, rfl, wpAny_letOwnedTupleGo_zip (s := { s with heap := h' }) z' fun h'' z'' sb => ?_⟩
    have hT2 : h''.get? s.heap.objs.size = some { cls := .type "tuple", data := .seq #[u, u2] } := (sb.2 _ (Nat.ne_of_gt hzl)).trans hT
    have new : ObjOk X.prog X.w (upd H s.heap.objs.size (.tup [x, y])) h'' s.heap.objs.size (.tup [x, y]) :=
      ⟨by show 2 ≤ sizeLine; decide, [u, u2], .cons ru (.cons ru2 .nil), ⟨_, hT2, rfl, _, rfl⟩⟩
    have I1 : Inv X pins σ (upd H s.heap.objs.size (.tup [x, y])) { s with heap := h'' } :=
      I.turnedNew (t' := s.toks) (ch := [z, TI, TO, i1, i2]) (fun c o hb q => (sb.2 c (fun q' => hb (by simp [q']))).trans (hk c o (fun q' => hb (by simp [q'])) (fun q' => hb (by simp [q'])) (fun q' => hb (by simp [q'])) (fun q' => hb (by simp [q'])) q)) hf (Nat.le_refl _) new
    refine ⟨.ref s.heap.objs.size, _, I1, rfl, ⟨_, x, y, rfl, I.hok.fresh (Nat.le_refl _), rfl, fun l hl => by rw [I.list_inj hl hqx]; exact hx, fun l hl => by rw [I.list_inj hl hqy]; exact hy⟩, ⟨z'', ?_, ⟨u, u2, ?_⟩, ?_, ?_⟩, fun c hcm => ?_⟩
    · exact (sb.2 _ D.TIz).trans (hk _ _ D.TIz D.TITO D.TIi1 D.TIi2 hTI)
    · exact (sb.2 _ D.TOz).trans TO'
    · exact h1'.at fun o q => (sb.2 _ D.i1z).trans q
    · exact h2'.at fun o q => (sb.2 _ D.i2z).trans q
    · have hlt : c < s.heap.objs.size := by
        have e' : c = z ∨ c = TI ∨ c = TO ∨ c = i1 ∨ c = i2 := by simpa using hcm
        rcases e' with q | q | q | q | q
        · rw [q]; exact hzl
        · rw [q]; exact Heap.lt_size hTI
        · rw [q]; exact Heap.lt_size hTO
        · rw [q]; obtain ⟨_, e1, _⟩ := h1; exact Heap.lt_size e1
        · rw [q]; obtain ⟨_, e2, _⟩ := h2; exact Heap.lt_size e2
      rw [upd_ne (Nat.ne_of_lt hlt)]
      exact (hf c hcm).1
  done := by
    intro X hP hw hK hc i pins s σ H E I hf st hg
    subst hP hw hK
    obtain ⟨hz, hTI, ⟨x0, y0, hTO⟩, h1, h2⟩ := st
    obtain ⟨xs, ys, hqx, hqy, hend⟩ := hg
    obtain ⟨its, rv, p, _⟩ := I.list hqx
    obtain ⟨its2, rv2, p2, _⟩ := I.list hqy
    have l1 := rv.length
    have l2 := rv2.length
    have he : its.toArray[i]? = none ∨ its2.toArray[i]? = none := by
      rcases hend with q | q
      · exact .inl (by simp; omega)
      · exact .inr (by simp; omega)
    exact wpAny_pyNext_zip_end (I.ok.hd hc) D hz hTI hTO h1 h2 p.isList p2.isList he fun h' hk => ⟨rfl, I.turnedL (t' := s.toks) (ch := [z, TI, TO, i1, i2]) (fun c o hb q =>
      hk c o (fun q' => hb (by simp [q'])) (fun q' => hb (by simp [q'])) (fun q' => hb (by simp [q'])) (fun q' => hb (by simp [q'])) q) hf⟩
  self := fun A i s Q E st h => wpAny_pyIter_zip st.1 h
def iZip (K : PySem.W.Frag) (ta : TA) : TI := fun σ H R => ta σ H fun vs H1 => ∃ a b xs ys, vs = [.ref a, .ref b] ∧ SqL K H1 a xs ∧ SqL K H1 b ys ∧ R (Itz K a b) H1
theorem pi_zip {X : Cx} {e e2 : Expr} {ta : TA} {p pos tpos : Pos} {elts : List Expr} {kk : Nat} (hg : Gl X "zip") (hm : X.mg "zip" = none) (ha : PA X [e, e2] ta)
    (hs : starEach [e, e2] X.env = (false, eval e X.env) :: starEach [e2] X.env := by rfl) (hpl : (backTo pos (starEach [e2] X.env)).any (·.1) = false := by rfl) :
    PI X (.Tuple elts kk tpos) (.Call (.Name "zip" p) [e, e2] [] pos) (iZip X.K ta) := by
  intro pins s σ H R I h
  refine Call_ (ld_blt I hg hm boot_zip5 (PyProof.Rows.callWith_type1 (thn (ha pos pins s σ H _ I h) fun us s1 ⟨vs, H1, I1, r1, q1⟩ => ?_) hs hpl))
  obtain ⟨a, b, xs, ys, ex, hqx, hqy, q⟩ := q1
  subst ex
  cases r1 with
  | cons r rr =>
    cases rr with
    | cons r' rr =>
      cases rr
      cases r
      cases r'
      obtain ⟨its, rv, p1, _⟩ := I1.list hqx
      obtain ⟨its2, rv2, p2, _⟩ := I1.list hqy
      have la : a < s1.heap.objs.size := p1.lt
      have lb : b < s1.heap.objs.size := p2.lt
      refine call_zip_2 p1.isList p2.isList fun h' hz hTI hTO h1 h2 hsz hk => wpAny_pyIter_zip hz ?_
      have I2 : Inv X pins σ H1 { s1 with heap := h' } := I1.kept (t' := s1.toks) hk
      refine ⟨s1.heap.objs.size + 4, [s1.heap.objs.size + 4, s1.heap.objs.size + 2, s1.heap.objs.size + 3, s1.heap.objs.size, s1.heap.objs.size + 1], _, _, H1, rfl, I2, turn_zip (PySem.W.ktu_apart s1.heap.objs.size a b la lb), ⟨hz, hTI, ⟨_, _, hTO⟩, h1, h2⟩, fun c hcm => ?_, q⟩
      have e' : c = s1.heap.objs.size + 4 ∨ c = s1.heap.objs.size + 2 ∨ c = s1.heap.objs.size + 3 ∨ c = s1.heap.objs.size ∨ c = s1.heap.objs.size + 1 := by simpa using hcm
      have hle : s1.heap.objs.size ≤ c := by
        rcases e' with z | z | z | z | z
        · rw [z]; exact Nat.le_add_right _ _
        · rw [z]; exact Nat.le_add_right _ _
        · rw [z]; exact Nat.le_add_right _ _
        · rw [z]; exact Nat.le_refl _
        · rw [z]; exact Nat.le_add_right _ _
      exact I1.fpOk hle (I1.hok.fresh hle)
end L2
section 
namespace Bits
open PySem PyProof.Rows
end Bits
end 
section 
namespace TL
open PySem PySem.Builtin PySem.Builtin.Str PySem.StrLaws
end TL
end 
namespace L2
open PySem PySem.Spec PyProof.Rows
section
variable {X : Cx} {pins : List (Addr × Obj)} {σ : St} {H : Hp} {s : Shared} {Q : VK}
end
section
variable {X : Cx}
end
section
variable {X : Cx} {o e : Expr} {to te : TE}
end
end L2
namespace L2
open PySem PySem.Spec PyProof.Rows
section
variable {X : Cx}
end
end L2
namespace Att
open PySem PySem.W PySem.Calls PyProof.Rows
section
variable {prog : Program} {w : World} {A : Around} {E : Value → Shared → Prop} {s : Shared} {K : Frag}
end
end Att
namespace L2
open PySem PySem.Spec PyProof.Rows
end L2
namespace L2
open PySem PySem.Spec PyProof.Rows
end L2
namespace L2
open PySem PySem.Spec PyProof.Rows
def inClass (s : Stmt) (j : Nat) : Stmt := match s with
  | .ClassDef _ _ _ body _ _ _ _ _ _ _ => body.getD j (.Pass ⟨0, 0, 0, 0⟩)
  | _ => .Pass ⟨0, 0, 0, 0⟩
def defArgs (s : Stmt) : Arguments := match s with
  | .FunctionDef _ a _ _ _ _ _ _ _ _ => a
  | _ => { posonlyargs := [], args := [], vararg := none, kwonlyargs := [], kw_defaults := [], kwarg := none, defaults := [] }
def defBody (s : Stmt) : List Stmt := match s with
  | .FunctionDef _ _ b _ _ _ _ _ _ _ => b
  | _ => []
def defScope (s : Stmt) : Scope := match s with
  | .FunctionDef _ _ _ _ _ _ sc _ _ _ => sc
  | _ => { kind := .function, names := [], isGenerator := false, isCoroutine := false }
abbrev CX0 : CXT := fun _ _ _ _ _ _ => False
abbrev E0 : XK := fun _ _ _ => False
theorem pass0 {X : Cx} : Passes CX0 X E0 := fun _ _ _ _ _ _ _ h => h.elim
structure Fun (K : PySem.W.Frag) (x qual : Str) (st : Stmt) (f : Addr) (fd : FuncData) : Prop where
  ex : ∃ (oc : Value) (od : Option Addr) (kV doc pm : Value) (an : Option Addr) (cdv ct : Value) (osl : Array (Option Value)),
    fd = PySem.W.fnOf x qual (defArgs st) (defBody st) (defScope st) .none kV doc pm an cdv ct ∧ K.lookup f = some ⟨oc, od, .func fd, osl⟩ ∧ PySem.W.codeIn K cdv qual = true
  kp : PySem.W.keepIn K (.ref f) = true
section
variable {P : Program} {w : World} {K : PySem.W.Frag} {mg : Str → Option Value} {base : Heap}
theorem Fun.ok {x qual : Str} {st : Stmt} {f : Addr} {fd : FuncData} {N ps : List Str} {k : Nat} {sp : Sp} (F : Fun K x qual st f fd) (S : FnScope N ps (defScope st)) (len : ∀ vs H Q E, sp vs H Q E → vs.length = ps.length)
    (hbody : ∀ (cdv : Value) (A : Around) (outer : List Env) (s : Shared) (H : Hp) (vs : List V) (Q : VK) (E : XK), Room k (A.deeper (envOfC qual (defScope st) s.heap.objs.size f cdv)) → sp vs H Q E →
      ∃ t, PSs (cxOf CX0 P w K mg base N qual (defScope st) f cdv A outer s H E).nox (defBody st) t ∧ t { nx := fun _ H' => Q .non H', rt := Q } (start N vs) H) : FnOk P w K mg base CX0 (k + 1) f fd ps sp := by
  obtain ⟨oc, od, kV, doc, pm, an, cdv, ct, osl, rfl, lk, hcd⟩ := F.ex
  refine fn_of lk hcd S len fun A outer s H vs Q E hr hsp => ?_
  obtain ⟨t, h, q⟩ := hbody cdv A outer s H vs Q E hr hsp
  exact ⟨t, h.nox, q⟩
theorem Fun.binds {x qual : Str} {st : Stmt} {f : Addr} {fd : FuncData} {ps : List Str} (F : Fun K x qual st f fd)
    (h : ∀ (kV doc pm : Value) (an : Option Addr) (cdv ct : Value) (us : List Value), us.length = ps.length → bindArgs (PySem.W.fnOf x qual (defArgs st) (defBody st) (defScope st) .none kV doc pm an cdv ct) ⟨us, []⟩ = pure (ps.zip us)) : Binds K fd ps [] := by
  obtain ⟨oc, od, kV, doc, pm, an, cdv, ct, osl, rfl, lk, hcd⟩ := F.ex
  exact .all (h kV doc pm an cdv ct)
theorem fun_mk {x qual : Str} {st : Stmt} {f : Addr} {oc : Value} {od an : Option Addr} {osl : Array (Option Value)} {kV doc pm cdv ct : Value} (l : K.lookup f = some ⟨oc, od, .func (PySem.W.fnOf x qual (defArgs st) (defBody st) (defScope st) .none kV doc pm an cdv ct), osl⟩)
    (c : PySem.W.codeIn K cdv qual = true) (k : PySem.W.keepIn K (.ref f) = true) : Fun K x qual st f (PySem.W.fnOf x qual (defArgs st) (defBody st) (defScope st) .none kV doc pm an cdv ct) := ⟨⟨oc, od, kV, doc, pm, an, cdv, ct, osl, rfl, l, c⟩, k⟩
end
theorem small1000 {n : Nat} (h : n ≤ 1000) : n < sizeLine := Nat.lt_of_le_of_lt h (by decide)
section
variable {X : Cx}
theorem pv (i : Nat) {x : Str} {pos : Pos} (hN : X.N[i]? = some x := by rfl) (hv : Vis X.env.scope x := by first | exact Or.inl rfl | exact Or.inr (Or.inl rfl) | exact Or.inr (Or.inr rfl)) (hd : (x == ("__debug__" : Str)) = false := by decide)
    (hcd : (x == ("__classdict__" : Str)) = false := by decide) : PE X (.Name x pos) (tVar i) := pe_var hN hv hd hcd
end
theorem iteT {A B : Prop} (h : A) : if true = true then A else B := by
  rw [if_pos rfl]
  exact h
theorem ite2 {c A B : Prop} [Decidable c] (h1 : c → A) (h2 : ¬ c → B) : if c then A else B := by
  by_cases h : c
  · rw [if_pos h]
    exact h1 h
  · rw [if_neg h]
    exact h2 h
def Same (H H' : Hp) : Prop := ∀ b o, H b = some o → H' b = some o
theorem Same.refl (H : Hp) : Same H H := fun _ _ h => h
theorem Same.trans {H H1 H2 : Hp} (a : Same H H1) (b : Same H1 H2) : Same H H2 := fun c o h => b c o (a c o h)
theorem Same.free {H H' : Hp} (e : Same H H') {l : Addr} (h : H' l = Option.none) : H l = Option.none := by
  cases q : H l with
  | none => rfl
  | some o =>
    rw [e l o q] at h
    cases h
theorem Same.seq {K : PySem.W.Frag} {H H' : Hp} {a : Addr} {xs : List V} (e : Same H H') (h : SqL K H a xs) : SqL K H' a xs := by
  rcases h with (h | ⟨o, h⟩) | h
  · exact .inl (.inl (e _ _ h))
  · exact .inl (.inr ⟨o, e _ _ h⟩)
  · exact .inr h
section
variable {κ : Type} [DecidableEq κ]
end
theorem Same.made {H H1 : Hp} {x dx C : Addr} (nx : H x = Option.none) (nd : H dx = Option.none) (k : ∀ b o, (upd (upd H dx (.own x)) x (.ins C dx [])) b = some o → b ≠ x → H1 b = some o) : Same H H1 := fun b o e =>
  k b o (by rw [upd_ne (ne_of_none e nx), upd_ne (ne_of_none e nd)]; exact e) (ne_of_none e nx)
end L2
section
set_option Elab.async false
set_option linter.all false
set_option maxRecDepth 100000
set_option maxHeartbeats 2000000
namespace L2
open PySem PySem.Spec PyProof.Rows
open PySem.W (WData Codec OpenSpec Well WellAll ReadsW ReadsAllW)
mutual
/-- x stands for the datum d, lists and tuples all the way -/
inductive Dw (K : PySem.W.Frag) (H : Hp) : V → WData → Prop
  | non : Dw K H .non .none
  | bl (b : Bool) : Dw K H (.bl b) (.bool b)
  | int (i : Int) : Dw K H (.int i) (.int i)
  | str (x : Str) : Dw K H (.str x) (.str x)
  | byt (b : Array UInt8) : Dw K H (.byt b) (.bytes b.toList)
  | lst {a : Addr} {xs : List V} {ds : List WData} : SqL K H a xs → DwAll K H xs ds → Dw K H (.ref a) (.list ds)
  | tup {a : Addr} {xs : List V} {ds : List WData} : SqT K H a xs → DwAll K H xs ds → Dw K H (.ref a) (.tuple ds)
inductive DwAll (K : PySem.W.Frag) (H : Hp) : List V → List WData → Prop
  | nil : DwAll K H [] []
  | cons {v : V} {vs : List V} {d : WData} {ds : List WData} : Dw K H v d → DwAll K H vs ds → DwAll K H (v :: vs) (d :: ds)
end
theorem dw_ints {K : PySem.W.Frag} {H : Hp} : ∀ ns : List Int, DwAll K H (ns.map V.int) (ns.map WData.int)
  | [] => .nil
  | n :: r => .cons (.int n) (dw_ints r)
theorem ints_dw {K : PySem.W.Frag} {H : Hp} : ∀ (ns : List Int) (xs : List V), DwAll K H xs (ns.map WData.int) → xs = ns.map V.int
  | [], xs, h => by
    cases h
    rfl
  | n :: r, xs, h => by
    cases h with
    | cons h1 h2 =>
      cases h1
      rw [ints_dw r _ h2] <;> rfl
section
variable {P : Program} {w : World} {K : PySem.W.Frag} {H : Hp} {h : Heap} {R : PySem.W.WRecords} {cl : Str → Option Addr}
theorem sqL_at {a : Addr} {xs : List V} (hok : HOk P w H h) (KX : K.In h) (q : SqL K H a xs) : ∃ (its : List Value) (o : Obj) (n : Nat), Vals xs its ∧ h.get? a = some o ∧ o.cls = .type "list" ∧ o.data = .seq its.toArray n := by
  rcases q with q | ⟨o, its, n, e, hc, _, hd, _, hv⟩
  · obtain ⟨_, its, n, hv, e⟩ := (show ObjOk P w H h a (.lst xs) from q.ok hok)
    exact ⟨its, _, n, hv, e, rfl, rfl⟩
  · exact ⟨its.toList, o, n, hv, KX _ _ e, hc, by simp [hd]⟩
theorem sqT_at {a : Addr} {xs : List V} (hok : HOk P w H h) (KX : K.In h) (q : SqT K H a xs) : ∃ (its : List Value) (o : Obj) (n : Nat), Vals xs its ∧ h.get? a = some o ∧ o.cls = .type "tuple" ∧ o.data = .seq its.toArray n := by
  rcases q with q | ⟨o, its, n, e, hc, hd, _, hv⟩
  · obtain ⟨_, its, hv, o, e, hc, n, hd⟩ := (show ObjOk P w H h a (.tup xs) from q.ok hok)
    exact ⟨its, o, n, hv, e, hc, hd⟩
  · exact ⟨its.toList, o, n, hv, KX _ _ e, hc, by simp [hd]⟩
mutual
theorem Dw.reads (hok : HOk P w H h) (KX : K.In h) : ∀ (d : WData) (v : V) (u : Value), Dw K H v d → RelV v u → ∃ as, ReadsW R cl h u d as
  | .none, _, _, x, r => by
    cases x
    cases r
    exact ⟨_, ReadsW.none⟩
  | .bool b, _, _, x, r => by
    cases x
    cases r
    exact ⟨_, ReadsW.bool b⟩
  | .int i, _, _, x, r => by
    cases x
    obtain ⟨t, rfl⟩ := r
    exact ⟨_, ReadsW.int i t⟩
  | .str s, _, _, x, r => by
    cases x
    obtain ⟨t, rfl⟩ := r
    exact ⟨_, ReadsW.str s t⟩
  | .bytes b, _, _, x, r => by
    cases x
    obtain ⟨t, rfl⟩ := r
    exact ⟨_, ReadsW.bytes _ t⟩
  | .list ds, _, _, x, r => by
    cases x with
    | lst hs ha =>
      cases r
      obtain ⟨its, o, n, rv, ho, hc, hd⟩ := sqL_at hok KX hs
      obtain ⟨as, hr⟩ := Dw.readsAll hok KX ds _ its ha rv
      exact ⟨_, ReadsW.list ho hc hd hr⟩
  | .tuple ds, _, _, x, r => by
    cases x with
    | tup hs ha =>
      cases r
      obtain ⟨its, o, n, rv, ho, hc, hd⟩ := sqT_at hok KX hs
      obtain ⟨as, hr⟩ := Dw.readsAll hok KX ds _ its ha rv
      exact ⟨_, ReadsW.tuple ho hc hd hr⟩
  | .float _, _, _, x, _ => by cases x
  | .dict _, _, _, x, _ => by cases x
  | .bytearray _, _, _, x, _ => by cases x
  | .set _, _, _, x, _ => by cases x
  | .frozenset _, _, _, x, _ => by cases x
  | .obj _ _, _, _, x, _ => by cases x
theorem Dw.readsAll (hok : HOk P w H h) (KX : K.In h) : ∀ (ds : List WData) (vs : List V) (us : List Value), DwAll K H vs ds → Vals vs us → ∃ as, ReadsAllW R cl h us ds as
  | [], _, _, x, r => by
    cases x
    cases r
    exact ⟨_, ReadsAllW.nil⟩
  | d :: ds, _, _, x, r => by
    cases x with
    | cons h1 h2 =>
      cases r with
      | cons r1 r2 =>
        obtain ⟨as, q1⟩ := Dw.reads hok KX d _ _ h1 r1
        obtain ⟨bs, q2⟩ := Dw.readsAll hok KX ds _ _ h2 r2
        exact ⟨_, ReadsAllW.cons q1 q2⟩
end
end
mutual
/-- data that a codec tells -/
def plW : WData → Bool
  | .none => true
  | .bool _ => true
  | .int _ => true
  | .str _ => true
  | .bytes _ => true
  | .list xs => plWs xs
  | .tuple xs => plWs xs
  | _ => false
def plWs : List WData → Bool
  | [] => true
  | x :: r => plW x && plWs r
end
theorem plWs_map {α : Type} {f : α → WData} (h : ∀ a, plW (f a) = true) : ∀ l : List α, plWs (l.map f) = true
  | [] => rfl
  | x :: r => by
    show (plW (f x) && plWs (r.map f)) = true
    rw [h x, plWs_map h r] <;> rfl
theorem pl_enc : ∀ (c : Codec) (a : c.denote), plW (c.enc a) = true
  | .unit, _ => rfl
  | .bool, _ => rfl
  | .int _ _, _ => rfl
  | .nat _ _, _ => rfl
  | .u8, _ => rfl
  | .bytes _ _, _ => rfl
  | .text _ _ _ _, _ => rfl
  | .list _ _ c, a => plWs_map (fun x => pl_enc c x) a
  | .pair c d, a => by
    show (plW (c.enc a.1) && (plW (d.enc a.2) && true)) = true
    rw [pl_enc c a.1, pl_enc d a.2] <;> rfl
  | .triple c d e, a => by
    show (plW (c.enc a.1) && (plW (d.enc a.2.1) && (plW (e.enc a.2.2) && true))) = true
    rw [pl_enc c a.1, pl_enc d a.2.1, pl_enc e a.2.2] <;> rfl
  | .option c, none => rfl
  | .option c, some x => pl_enc c x
theorem pl_encAll : ∀ (cs : List Codec) (a : Codec.denoteAll cs), plWs (Codec.encAll cs a) = true
  | [], _ => rfl
  | c :: cs, a => by
    show (plW (c.enc a.1) && plWs (Codec.encAll cs a.2)) = true
    rw [pl_enc c a.1, pl_encAll cs a.2] <;> rfl
theorem weight_mem : ∀ {xs : List WData} {d : WData}, d ∈ xs → d.weight ≤ WData.weightAll xs
  | [], d, h => absurd h (by simp)
  | x :: r, d, h => by
    show d.weight ≤ x.weight + 1 + WData.weightAll r
    rcases List.mem_cons.mp h with e | m
    · rw [e]
      omega
    · have z := weight_mem m
      omega
def toV : Value → V
  | .none => .non
  | .bool b => .bl b
  | .int i _ => .int i
  | .str x _ => .str x
  | .bytes b _ => .byt b
  | .ref a => .ref a
  | _ => .non
def OkU (A : List Addr) : Value → Prop
  | .none => True
  | .bool _ => True
  | .int _ _ => True
  | .str _ _ => True
  | .bytes _ _ => True
  | .ref a => a ∈ A
  | _ => False
theorem OkU.mono {A B : List Addr} (h : ∀ a ∈ A, a ∈ B) : ∀ {u : Value}, OkU A u → OkU B u := fun {u} x => by
  cases u with
  | ref a => exact h a x
  | none => trivial
  | bool b => trivial
  | int i t => trivial
  | str s t => trivial
  | bytes b t => trivial
  | _ => exact False.elim x
theorem relV_toV {A : List Addr} {u : Value} (x : OkU A u) : RelV (toV u) u := by
  cases u with
  | ref a => rfl
  | none => rfl
  | bool b => rfl
  | int i t => exact ⟨t, rfl⟩
  | str s t => exact ⟨t, rfl⟩
  | bytes b t => exact ⟨t, rfl⟩
  | _ => exact False.elim x
theorem vals_toV {A : List Addr} : ∀ {vs : List Value}, (∀ u ∈ vs, OkU A u) → Vals (vs.map toV) vs
  | [], _ => .nil
  | u :: r, h => .cons (relV_toV (h u (List.mem_cons_self ..))) (vals_toV fun x hx => h x (List.mem_cons_of_mem _ hx))
def ArgOb (h : Heap) (A : List Addr) (a : Addr) : Prop := ∃ vs : List Value, vs.length ≤ sizeLine ∧ (∀ u ∈ vs, OkU A u) ∧
  (h.get? a = some { cls := .type "list", data := .seq vs.toArray } ∨ h.get? a = some { cls := .type "tuple", data := .seq vs.toArray })
theorem ArgOb.mono {h : Heap} {A B : List Addr} {a : Addr} (k : ∀ a ∈ A, a ∈ B) (x : ArgOb h A a) : ArgOb h B a := by
  obtain ⟨vs, h1, h2, h3⟩ := x
  exact ⟨vs, h1, fun u hu => (h2 u hu).mono k, h3⟩
theorem wellAll_len {P : Params} {h : Heap} : ∀ {vs : List Value} {ds : List WData}, WellAll P h vs ds → vs.length = ds.length
  | _, _, .nil => rfl
  | _, _, .cons _ b => by
    show _ + 1 = _ + 1
    rw [wellAll_len b]
theorem well_list {P : Params} {h : Heap} {v : Value} {ds : List WData} (x : Well P h v (.list ds)) : ∃ (a : Addr) (vs : List Value), v = .ref a ∧ h.get? a = some { cls := .type "list", data := .seq vs.toArray } ∧ WellAll P h vs ds := by
  cases x with
  | list ho hall => exact ⟨_, _, rfl, ho, hall⟩
theorem well_tuple {P : Params} {h : Heap} {v : Value} {ds : List WData} (x : Well P h v (.tuple ds)) : ∃ (a : Addr) (vs : List Value), v = .ref a ∧ h.get? a = some { cls := .type "tuple", data := .seq vs.toArray } ∧ WellAll P h vs ds := by
  cases x with
  | tuple ho hall => exact ⟨_, _, rfl, ho, hall⟩
theorem well_cons {P : Params} {h : Heap} {us : List Value} {d : WData} {ds : List WData} (x : WellAll P h us (d :: ds)) : ∃ (v : Value) (vs : List Value), us = v :: vs ∧ Well P h v d ∧ WellAll P h vs ds := by
  cases x with
  | cons a b => exact ⟨_, _, rfl, a, b⟩
theorem line_of {n : Nat} (h : n ≤ 1048576) : n ≤ sizeLine := Nat.le_trans h (by decide)
section
variable {P : Params} {h : Heap}
mutual
theorem area_one : ∀ (d : WData) (v : Value), Well P h v d → plW d = true → d.weight ≤ 1048576 → ∃ A : List Addr, OkU A v ∧ ∀ a ∈ A, ArgOb h A a
  | .none, _, x, _, _ => by
    cases x
    exact ⟨[], trivial, fun a m => absurd m (by simp)⟩
  | .bool b, _, x, _, _ => by
    cases x
    exact ⟨[], trivial, fun a m => absurd m (by simp)⟩
  | .int i, _, x, _, _ => by
    cases x
    exact ⟨[], trivial, fun a m => absurd m (by simp)⟩
  | .str s, _, x, _, _ => by
    cases x
    exact ⟨[], trivial, fun a m => absurd m (by simp)⟩
  | .bytes b, _, x, _, _ => by
    cases x
    exact ⟨[], trivial, fun a m => absurd m (by simp)⟩
  | .list ds, _, x, p, z => by
    obtain ⟨a, vs, rfl, ho, hall⟩ := well_list x
    have z2 : WData.weightAll ds ≤ 1048576 := z
    obtain ⟨A, h1, h2⟩ := area_all ds _ hall p fun d hd => Nat.le_trans (weight_mem hd) z2
    have k : ∀ b ∈ A, b ∈ a :: A := fun b hb => List.mem_cons_of_mem _ hb
    refine ⟨a :: A, List.mem_cons_self .., fun b hb => ?_⟩
    rcases List.mem_cons.mp hb with e | m
    · rw [e]
      exact ⟨vs, line_of (by rw [wellAll_len hall]; exact Nat.le_trans (PySem.W.length_le_weightAllW ds) z2), fun u hu => (h1 u hu).mono k, .inl ho⟩
    · exact (h2 b m).mono k
  | .tuple ds, _, x, p, z => by
    obtain ⟨a, vs, rfl, ho, hall⟩ := well_tuple x
    have z2 : WData.weightAll ds ≤ 1048576 := z
    obtain ⟨A, h1, h2⟩ := area_all ds _ hall p fun d hd => Nat.le_trans (weight_mem hd) z2
    have k : ∀ b ∈ A, b ∈ a :: A := fun b hb => List.mem_cons_of_mem _ hb
    refine ⟨a :: A, List.mem_cons_self .., fun b hb => ?_⟩
    rcases List.mem_cons.mp hb with e | m
    · rw [e]
      exact ⟨vs, line_of (by rw [wellAll_len hall]; exact Nat.le_trans (PySem.W.length_le_weightAllW ds) z2), fun u hu => (h1 u hu).mono k, .inr ho⟩
    · exact (h2 b m).mono k
  | .float _, _, _, p, _ => Bool.noConfusion (show false = true from p)
  | .dict _, _, _, p, _ => Bool.noConfusion (show false = true from p)
  | .bytearray _, _, _, p, _ => Bool.noConfusion (show false = true from p)
  | .set _, _, _, p, _ => Bool.noConfusion (show false = true from p)
  | .frozenset _, _, _, p, _ => Bool.noConfusion (show false = true from p)
  | .obj _ _, _, _, p, _ => Bool.noConfusion (show false = true from p)
theorem area_all : ∀ (ds : List WData) (vs : List Value), WellAll P h vs ds → plWs ds = true → (∀ d ∈ ds, d.weight ≤ 1048576) → ∃ A : List Addr, (∀ u ∈ vs, OkU A u) ∧ ∀ a ∈ A, ArgOb h A a
  | [], _, x, _, _ => by
    cases x
    exact ⟨[], fun u m => absurd m (by simp), fun a m => absurd m (by simp)⟩
  | d :: ds, _, x, p, z => by
    obtain ⟨v, vs, rfl, x1, x2⟩ := well_cons x
    have q : plW d = true ∧ plWs ds = true := Bool.and_eq_true_iff.mp p
    obtain ⟨A, a1, a2⟩ := area_one d v x1 q.1 (z d (List.mem_cons_self ..))
    obtain ⟨B, b1, b2⟩ := area_all ds vs x2 q.2 fun e he => z e (List.mem_cons_of_mem _ he)
    have kA : ∀ b ∈ A, b ∈ A ++ B := fun b hb => List.mem_append.mpr (.inl hb)
    have kB : ∀ b ∈ B, b ∈ A ++ B := fun b hb => List.mem_append.mpr (.inr hb)
    refine ⟨A ++ B, fun u hu => ?_, fun b hb => ?_⟩
    · rcases List.mem_cons.mp hu with e | m
      · rw [e]
        exact a1.mono kA
      · exact (b1 u m).mono kB
    · rcases List.mem_append.mp hb with m | m
      · exact (a2 b m).mono kA
      · exact (b2 b m).mono kB
end
end
def hoOf (o : Obj) : Option HO := match o.data with
  | .seq vs _ => if (o.cls == Value.type "list") = true then some (.frz o (.lst (vs.toList.map toV))) else some (.frz o (.tup (vs.toList.map toV)))
  | _ => none
def argH (K : PySem.W.Frag) (h : Heap) (A : List Addr) : Hp := fun b => if b ∈ A then (if (K.lookup b).isNone = true then (h.get? b).bind hoOf else none) else none
def OnlyF (H : Hp) : Prop := ∀ b, H b = none ∨ ∃ o u, H b = some (.frz o u)
theorem hoOf_lst (vs : List Value) : hoOf { cls := .type "list", data := .seq vs.toArray } = some (.frz { cls := .type "list", data := .seq vs.toArray } (.lst (vs.map toV))) := by
  show (if (Value.type "list" == Value.type "list") = true then some (HO.frz { cls := .type "list", data := .seq vs.toArray } (.lst (vs.toArray.toList.map toV))) else some (HO.frz { cls := .type "list", data := .seq vs.toArray } (.tup (vs.toArray.toList.map toV)))) = _
  rw [if_pos (beq_self_eq_true _)]
theorem hoOf_tup (vs : List Value) : hoOf { cls := .type "tuple", data := .seq vs.toArray } = some (.frz { cls := .type "tuple", data := .seq vs.toArray } (.tup (vs.map toV))) := by
  show (if (Value.type "tuple" == Value.type "list") = true then some (HO.frz { cls := .type "tuple", data := .seq vs.toArray } (.lst (vs.toArray.toList.map toV))) else some (HO.frz { cls := .type "tuple", data := .seq vs.toArray } (.tup (vs.toArray.toList.map toV)))) = _
  rw [if_neg (by decide)]
section
variable {P : Program} {w : World} {K : PySem.W.Frag} {h : Heap} {A : List Addr}
theorem argH_at {b : Addr} {o : Obj} (hb : b ∈ A) (hk : K.lookup b = none) (e : h.get? b = some o) : argH K h A b = hoOf o := by
  unfold argH
  rw [if_pos hb, hk, if_pos (show (none : Option Obj).isNone = true from rfl), e] <;> rfl
theorem of_argH {b : Addr} {u : HO} (q : argH K h A b = some u) : b ∈ A ∧ K.lookup b = none := by
  unfold argH at q
  by_cases hb : b ∈ A
  · rw [if_pos hb] at q
    cases hk : K.lookup b with
    | none => exact ⟨hb, rfl⟩
    | some o =>
      rw [hk, if_neg (by simp)] at q
      cases q
  · rw [if_neg hb] at q
    cases q
theorem argH_is (ar : ∀ a ∈ A, ArgOb h A a) {b : Addr} {u : HO} (q : argH K h A b = some u) : K.lookup b = none ∧ ∃ vs : List Value, vs.length ≤ sizeLine ∧ (∀ u ∈ vs, OkU A u) ∧
    ((h.get? b = some { cls := .type "list", data := .seq vs.toArray } ∧ u = .frz { cls := .type "list", data := .seq vs.toArray } (.lst (vs.map toV))) ∨
     (h.get? b = some { cls := .type "tuple", data := .seq vs.toArray } ∧ u = .frz { cls := .type "tuple", data := .seq vs.toArray } (.tup (vs.map toV)))) := by
  obtain ⟨hb, hk⟩ := of_argH q
  obtain ⟨vs, h1, h2, h3⟩ := ar b hb
  refine ⟨hk, vs, h1, h2, ?_⟩
  rcases h3 with e | e
  · rw [argH_at hb hk e, hoOf_lst] at q
    exact .inl ⟨e, (Option.some.inj q).symm⟩
  · rw [argH_at hb hk e, hoOf_tup] at q
    exact .inr ⟨e, (Option.some.inj q).symm⟩
theorem argH_only (ar : ∀ a ∈ A, ArgOb h A a) : OnlyF (argH K h A) := fun b => by
  cases q : argH K h A b with
  | none => exact .inl rfl
  | some u =>
    obtain ⟨_, vs, _, _, ⟨_, e⟩ | ⟨_, e⟩⟩ := argH_is ar q
    · exact .inr ⟨_, _, by rw [e]⟩
    · exact .inr ⟨_, _, by rw [e]⟩
theorem argH_ok (ar : ∀ a ∈ A, ArgOb h A a) : HOk P w (argH K h A) h := fun b u q => by
  obtain ⟨_, vs, h1, h2, ⟨e, rfl⟩ | ⟨e, rfl⟩⟩ := argH_is ar q
  · exact ⟨e, by rw [List.length_map]; exact h1, vs, _, vals_toV h2, e⟩
  · exact ⟨e, by rw [List.length_map]; exact h1, vs, vals_toV h2, _, e, rfl, _, rfl⟩
theorem seq_inj {c c' : Value} {vs us : List Value} (e : (some { cls := c, data := .seq vs.toArray } : Option Obj) = some { cls := c', data := .seq us.toArray }) : c = c' ∧ vs = us := by
  have e1 := Option.some.inj e
  have e2 : c = c' := congrArg Obj.cls e1
  have e3 : Data.seq vs.toArray = Data.seq us.toArray := congrArg Obj.data e1
  injection e3 with e4
  refine ⟨e2, ?_⟩
  have e5 := congrArg Array.toList e4
  simpa using e5
theorem argL (KX : K.In h) (ar : ∀ a ∈ A, ArgOb h A a) {a : Addr} {vs : List Value} (ha : a ∈ A) (e : h.get? a = some { cls := .type "list", data := .seq vs.toArray }) : (∀ u ∈ vs, OkU A u) ∧ SqL K (argH K h A) a (vs.map toV) := by
  obtain ⟨us, h1, h2, h3⟩ := ar a ha
  have hu : us = vs := by
    rcases h3 with q | q
    · rw [e] at q
      exact (seq_inj q).2.symm
    · rw [e] at q
      exact absurd (Value.type.inj (seq_inj q).1) (by decide)
  subst hu
  refine ⟨h2, ?_⟩
  cases hk : K.lookup a with
  | none => exact .inl (.inr ⟨_, by rw [argH_at ha hk e, hoOf_lst]⟩)
  | some o =>
    have e2 := KX a o hk
    rw [e] at e2
    obtain rfl := Option.some.inj e2
    exact .inr ⟨_, us.toArray, _, hk, rfl, rfl, rfl, by rw [List.size_toArray]; exact h1, by simpa using vals_toV h2⟩
theorem argT (KX : K.In h) (ar : ∀ a ∈ A, ArgOb h A a) {a : Addr} {vs : List Value} (ha : a ∈ A) (e : h.get? a = some { cls := .type "tuple", data := .seq vs.toArray }) : (∀ u ∈ vs, OkU A u) ∧ SqT K (argH K h A) a (vs.map toV) := by
  obtain ⟨us, h1, h2, h3⟩ := ar a ha
  have hu : us = vs := by
    rcases h3 with q | q
    · rw [e] at q
      exact absurd (Value.type.inj (seq_inj q).1) (by decide)
    · rw [e] at q
      exact (seq_inj q).2.symm
  subst hu
  refine ⟨h2, ?_⟩
  cases hk : K.lookup a with
  | none => exact .inl (.inr ⟨_, by rw [argH_at ha hk e, hoOf_tup]⟩)
  | some o =>
    have e2 := KX a o hk
    rw [e] at e2
    obtain rfl := Option.some.inj e2
    exact .inr ⟨_, us.toArray, _, hk, rfl, rfl, by rw [List.size_toArray]; exact h1, by simpa using vals_toV h2⟩
mutual
theorem dw_one {Pm : Params} (KX : K.In h) (ar : ∀ a ∈ A, ArgOb h A a) : ∀ (d : WData) (v : Value), Well Pm h v d → plW d = true → OkU A v → Dw K (argH K h A) (toV v) d
  | .none, _, x, _, _ => by
    cases x
    exact .non
  | .bool b, _, x, _, _ => by
    cases x
    exact .bl b
  | .int i, _, x, _, _ => by
    cases x
    exact .int i
  | .str s, _, x, _, _ => by
    cases x
    exact .str s
  | .bytes b, _, x, _, _ => by
    cases x
    have z := Dw.byt (K := K) (H := argH K h A) b.toArray
    exact z
  | .list ds, _, x, p, hu => by
    obtain ⟨a, vs, rfl, ho, hall⟩ := well_list x
    obtain ⟨h2, hs⟩ := argL KX ar hu ho
    exact .lst hs (dw_all KX ar ds _ hall p h2)
  | .tuple ds, _, x, p, hu => by
    obtain ⟨a, vs, rfl, ho, hall⟩ := well_tuple x
    obtain ⟨h2, hs⟩ := argT KX ar hu ho
    exact .tup hs (dw_all KX ar ds _ hall p h2)
  | .float _, _, _, p, _ => Bool.noConfusion (show false = true from p)
  | .dict _, _, _, p, _ => Bool.noConfusion (show false = true from p)
  | .bytearray _, _, _, p, _ => Bool.noConfusion (show false = true from p)
  | .set _, _, _, p, _ => Bool.noConfusion (show false = true from p)
  | .frozenset _, _, _, p, _ => Bool.noConfusion (show false = true from p)
  | .obj _ _, _, _, p, _ => Bool.noConfusion (show false = true from p)
theorem dw_all {Pm : Params} (KX : K.In h) (ar : ∀ a ∈ A, ArgOb h A a) : ∀ (ds : List WData) (vs : List Value), WellAll Pm h vs ds → plWs ds = true → (∀ u ∈ vs, OkU A u) → DwAll K (argH K h A) (vs.map toV) ds
  | [], _, x, _, _ => by
    cases x
    exact .nil
  | d :: ds, _, x, p, hu => by
    obtain ⟨v, vs, rfl, x1, x2⟩ := well_cons x
    have q : plW d = true ∧ plWs ds = true := Bool.and_eq_true_iff.mp p
    exact .cons (dw_one KX ar d v x1 q.1 (hu _ (List.mem_cons_self ..))) (dw_all KX ar ds vs x2 q.2 fun u m => hu u (List.mem_cons_of_mem _ m))
end
end
theorem spec_call {P : Program} {w : World} {K : PySem.W.Frag} {mg mb : Str → Option Value} {CX : CXT} {k : Nat} {fa : Addr} {fd : FuncData} {ps : List Str} {sp : Sp} {s₁ : Shared} {vals : List Value} {ds : List WData} {R : PySem.W.WRecords} {cl : Str → Option Addr} {d0 : WData}
    (KX : K.In s₁.heap) (hns : s₁.heap.Ns mainGlobals mg) (hb : s₁.heap.Ns builtinsNs mb) (hbb : ∀ x : Str, x ≠ "__name__" → mb x = bootBuiltins x) (hlim : s₁.heap.NoLimit) (hg : s₁.gens = #[])
    (hwl : WellAll w.params s₁.heap vals ds) (hpl : plWs ds = true) (hwt : ∀ d ∈ ds, d.weight ≤ 1048576) (hr : Room k callerA)
    (F : ∀ base : Heap, K.In base → base.Ns mainGlobals mg → FnOk P w K mg base CX k fa fd ps sp) (hbind : ∀ (s : Shared) (us : List Value), us.length = ps.length → BindsTo s fd ⟨us, []⟩ (ps.zip us)) (hlen : ds.length = ps.length)
    (hsp : ∀ (H : Hp) (xs : List V), OnlyF H → DwAll K H xs ds → sp xs H (fun v H' => Dw K H' v d0) fun _ _ _ => False)
    (hCX : ∀ H e s', CX [] H s₁ (fun _ _ _ => False) e s' → False) :
    codeAny (model P w) callerA (.call (.ref fa) ⟨vals, []⟩) (fun r s' => ∃ u as, r = .ok (.ret u) ∧ ReadsW R cl s'.heap u d0 as ∧ OldK s₁.heap s'.heap ∧ s'.os = s₁.os ∧ AllBare s'.gens) s₁ := by
  obtain ⟨A, ho, ar⟩ := area_all ds vals hwl hpl hwt
  have hO : OnlyF (argH K s₁.heap A) := argH_only ar
  have hok : HOk P w (argH K s₁.heap A) s₁.heap := argH_ok ar
  have hS := dw_all KX ar ds vals hwl hpl ho
  have hV := vals_toV ho
  have hK : ∀ b u, argH K s₁.heap A b = some u → K.lookup b = none := fun b u q => (argH_is ar q).1
  have noA : ∀ {b : Addr} {o : Obj} {es : Array DictEntry} {ep : Nat}, s₁.heap.get? b = some o → o.data = .dict es ep → argH K s₁.heap A b = none := fun {b o es ep} e d => by
    cases q : argH K s₁.heap A b with
    | none => rfl
    | some u =>
      obtain ⟨_, vs, _, _, ⟨e2, _⟩ | ⟨e2, _⟩⟩ := argH_is ar q
      · rw [e2] at e
        cases e
        have d' : Data.seq vs.toArray _ = Data.dict es ep := d
        cases d'
      · rw [e2] at e
        cases e
        have d' : Data.seq vs.toArray _ = Data.dict es ep := d
        cases d'
  generalize argH K s₁.heap A = H at hO hok hS hK noA
  have base_of : ∀ {b : Addr} {o : Obj}, s₁.heap.get? b = some o → H b = none → (hidT s₁.heap H).get? b = some o := fun e n => hidT_get e n
  have nsK : ∀ {b : Addr} {m : Str → Option Value}, s₁.heap.Ns b m → (hidT s₁.heap H).Ns b m := fun {b m} ⟨o, es, ep, e, d, r⟩ => ⟨o, es, ep, base_of e (noA e d), d, r⟩
  have nK : ∀ b o, K.lookup b = some o → H b = none := fun b o e => by
    cases q : H b with
    | none => rfl
    | some u =>
      rw [hK b u q] at e
      cases e
  have hKb : K.In (hidT s₁.heap H) := fun b o e => base_of (KX b o e) (nK b o e)
  have hM : Mod K mg (hidT s₁.heap H) := ⟨hKb, nsK hns, ⟨mb, nsK hb, hbb⟩, let ⟨mc, h1, h2⟩ := hlim; ⟨mc, nsK h1, h2⟩⟩
  have e0 : Env0 P w K mg (hidT s₁.heap H) callerA [] s₁ H := ⟨rfl, hM, fun b o e => of_hidT e, Nat.le_of_eq (hidT_size _ _), trivial, fun b hb => absurd (show b ∈ ([] : List Addr) from hb) (by simp), hok, .of_eq hg⟩
  have hl : vals.length = ps.length := by rw [wellAll_len hwl]; exact hlen
  refine codeAny_mono ((F _ hKb (nsK hns)).run callerA [] s₁ H ⟨vals, []⟩ vals (vals.map toV) _ _ hr e0 (hbind s₁ vals hl) hV (hsp H _ hO hS)) fun r s' x => ?_
  cases r with
  | error e => exact (hCX H e s' x).elim
  | ok fl =>
    cases fl with
    | next => exact False.elim x
    | brk => exact False.elim x
    | cont => exact False.elim x
    | ret u =>
      obtain ⟨v, H', os, bare, un, hok', r', q⟩ := x
      have kept : ∀ b o, s₁.heap.get? b = some o → s'.heap.get? b = some o := fun b o e => by
        cases q2 : H b with
        | none => exact un.keep b o e q2 (by intro z; exact absurd (show b ∈ ([] : List Addr) from z) (by simp)) (by simp)
        | some u2 =>
          rcases hO b with z | ⟨ob, u3, z⟩
          · rw [q2] at z
            cases z
          · have z2 := un.frzs b ob _ z
            obtain ⟨e1, _⟩ := hok b _ z
            obtain ⟨e2, _⟩ := hok' b _ z2
            rw [e] at e1
            cases e1
            exact e2
      have KX' : K.In s'.heap := fun b o e => kept b o (KX b o e)
      obtain ⟨as, hrd⟩ := Dw.reads (R := R) (cl := cl) hok' KX' d0 v u q r'
      exact ⟨u, as, rfl, hrd, OldK.of_keep kept, os, bare⟩
theorem layable_weight {ds : List WData} (h : WData.layableAll ds = true) : ∀ d ∈ ds, d.weight ≤ 1048576 := fun d hd =>
  (PySem.W.layableW_iff.mp (List.all_eq_true.mp h d hd)).2.2
theorem encAll_len : ∀ (cs : List Codec) (a : Codec.denoteAll cs), (Codec.encAll cs a).length = cs.length
  | [], _ => rfl
  | c :: cs, a => by
    show (Codec.encAll cs a.2).length + 1 = cs.length + 1
    rw [encAll_len cs a.2]
theorem walk_spec {r : OpenSpec} {k : Nat} {q : Program} {loose : List Str} {XP : (Str → Option Value) → Heap → Prop} {YP : World → Heap → Prop} {d : DefRec} {K : Params → PySem.W.Frag} {CX : World → CXT} {ps : List Str} {sp : World → Sp}
    (hwell : r.wellSaid = true) (hdf : d.params.defaults = []) (hlen : r.args.length = ps.length) (hr : Room k callerA)
    (hY : ∀ (w : World) (h : Heap), YP w h → (K w.params).In h)
    (F : ∀ (w : World) (mg : Str → Option Value) (fa : Addr) (h : Heap), YP w h → (K w.params).In h → h.Ns mainGlobals mg → mg d.name = some (.ref fa) →
      ∃ fd : FuncData, (∀ (s : Shared) (us : List Value), us.length = ps.length → BindsTo s fd ⟨us, []⟩ (ps.zip us)) ∧
        ∀ base : Heap, (K w.params).In base → base.Ns mainGlobals mg → FnOk r.prog w (K w.params) mg base (CX w) k fa fd ps (sp w))
    (hsp : ∀ (w : World) (H : Hp) (xs : List V) (a : Codec.denoteAll r.args), OnlyF H → Codec.withinAll r.args a = true → Codec.app r.args r.asked a = true → DwAll (K w.params) H xs (Codec.encAll r.args a) →
      sp w xs H (fun v H' => Dw (K w.params) H' v (r.ret.enc (Codec.app r.args r.f a))) fun _ _ _ => False)
    (hCX : ∀ (w : World) (H : Hp) (s : Shared) (e : Value) (s' : Shared), CX w [] H s (fun _ _ _ => False) e s' → False) :
    PySem.W.WalkOS q loose XP YP r d [] (fun f vs => PySem.call f vs) := by
  intro w s_0 s₁ mg mb G Y fa o pm cd doc dV kV ho hd hcd hD hmg hg args vals as hpre hlay hrd hwl hlo
  obtain ⟨a, e1, e2⟩ := PySem.W.os_pre_some hpre
  obtain ⟨e3, hwi⟩ := Codec.encAll_of_decAll r.args args a e1
  subst e3
  have KX := hY w _ Y
  obtain ⟨fd, hb, hF⟩ := F w mg fa _ Y KX G.T.g hmg
  refine PySem.W.enter_call (codeAny_mono (spec_call (R := []) (cl := classAt s_0.heap) (d0 := r.ret.enc (Codec.app r.args r.f a)) KX G.T.g G.T.b G.T.builtins G.T.nolimit hg hwl (pl_encAll _ _) (layable_weight hlay) hr hF hb (by rw [encAll_len]; exact hlen)
    (fun H xs hO hS => hsp w H xs a hO hwi e2 hS) fun H e s' => hCX w H s₁ e s') fun r' s' hq => ?_)
  obtain ⟨u, as', rfl, h1, h2, h3, h4⟩ := hq
  exact ⟨.inl ⟨u, _, as', rfl, fun _ => rfl, h1, (OpenSpec.post_iff hwell hwi _ _).mpr rfl, fun z => Bool.noConfusion (show false = true from z)⟩, h2, h3, h4⟩
theorem walk_specK {r : OpenSpec} {k : Nat} {q : Program} {loose : List Str} {XP : (Str → Option Value) → Heap → Prop} {YP : World → Heap → Prop} {d : DefRec} {K : Params → PySem.W.Frag} {CX : CXT} {ps : List Str} {sp : PySem.W.Frag → Sp}
    (hwell : r.wellSaid = true) (hdf : d.params.defaults = []) (hlen : r.args.length = ps.length) (hr : Room k callerA)
    (hY : ∀ (w : World) (h : Heap), YP w h → (K w.params).In h)
    (F : ∀ (w : World) (mg : Str → Option Value) (fa : Addr) (h : Heap), YP w h → (K w.params).In h → h.Ns mainGlobals mg → mg d.name = some (.ref fa) →
      ∃ fd : FuncData, (∀ (s : Shared) (us : List Value), us.length = ps.length → BindsTo s fd ⟨us, []⟩ (ps.zip us)) ∧
        ∀ base : Heap, (K w.params).In base → base.Ns mainGlobals mg → FnOk r.prog w (K w.params) mg base CX k fa fd ps (sp (K w.params)))
    (hsp : ∀ (K : PySem.W.Frag) (H : Hp) (xs : List V) (a : Codec.denoteAll r.args), OnlyF H → Codec.withinAll r.args a = true → Codec.app r.args r.asked a = true → DwAll K H xs (Codec.encAll r.args a) →
      sp K xs H (fun v H' => Dw K H' v (r.ret.enc (Codec.app r.args r.f a))) fun _ _ _ => False)
    (hCX : ∀ (H : Hp) (s : Shared) (e : Value) (s' : Shared), CX [] H s (fun _ _ _ => False) e s' → False) :
    PySem.W.WalkOS q loose XP YP r d [] (fun f vs => PySem.call f vs) :=
  walk_spec (K := K) (CX := fun _ => CX) (sp := fun w => sp (K w.params)) hwell hdf hlen hr hY F (fun w H xs a h1 h2 h3 h4 => hsp (K w.params) H xs a h1 h2 h3 h4) fun _ H s e s' => hCX H s e s'
end L2
end

end
section
set_option Elab.async false
set_option maxRecDepth 100000
set_option maxHeartbeats 4000000
namespace KZ
open PySem
/-! zip over three lists: the six records stand at B, B + 1, .. B + 5: three iterators, the tuple of these, the owned tuple, the zip -/
abbrev Trip (h : Heap) (T : Addr) (a b c : Value) : Prop := h.get? T = some { cls := .type "tuple", data := .seq #[a, b, c] }
abbrev Zp (h : Heap) (B : Addr) (f0 : Value) : Prop := IsZip h (B + 5) (B + 3) (B + 4) f0
section
variable {prog : Program} {w : World} {A : Around} {E : Value → Shared → Prop} {s : Shared}
theorem upd_trip {T : Addr} {a b c x : Value} {k : Nat} {Q : Unit → Shared → Prop} (hT : Trip s.heap T a b c)
    (h : ∀ h', h'.get? T = some { cls := .type "tuple", data := .seq ((#[a, b, c] : Array Value).setIfInBounds k x) } → Heap.SameBut T s.heap h' → Q () { s with heap := h' }) :
    wpAny (model prog w) A (updateSeq T (·.setIfInBounds k x)) Q E s := by
  refine wpAny_updateSeq hT rfl (h _ ?_ (Heap.SameBut.update ..))
  rw [Heap.get?_update_self _ hT rfl]
  simp [Obj.mapSeq]
/-- one turn's records -/
structure At (h : Heap) (B l1 l2 l3 : Addr) (i : Nat) : Prop where
  z : Zp h B .none
  ti : Trip h (B + 3) (.ref B) (.ref (B + 1)) (.ref (B + 2))
  to : ∃ a b c, Trip h (B + 4) a b c
  i1 : h.IsListIter B l1 i
  i2 : h.IsListIter (B + 1) l2 i
  i3 : h.IsListIter (B + 2) l3 i
/-- all objects but the six are kept -/
def Kept (B : Addr) (h h' : Heap) : Prop := ∀ c o, ¬ (B ≤ c ∧ c ≤ B + 5) → h.get? c = some o → h'.get? c = some o
theorem off_nat (B c : Nat) (h : ¬ (B ≤ c ∧ c ≤ B + 5)) : c ≠ B ∧ c ≠ B + 1 ∧ c ≠ B + 2 ∧ c ≠ B + 3 ∧ c ≠ B + 4 ∧ c ≠ B + 5 := by
  refine ⟨?_, ?_, ?_, ?_, ?_, ?_⟩ <;> (intro e; apply h; omega)
theorem off {B c : Addr} (h : ¬ (B ≤ c ∧ c ≤ B + 5)) : c ≠ B ∧ c ≠ B + 1 ∧ c ≠ B + 2 ∧ c ≠ B + 3 ∧ c ≠ B + 4 ∧ c ≠ B + 5 := off_nat B c h
theorem ap (B : Nat) (i j : Nat) (h : i ≠ j) : B + i ≠ B + j := by omega
theorem low (B l i : Nat) (h : l < B) : l ≠ B + i := by omega
theorem next_item {B l1 l2 l3 : Addr} {k : Nat} {xs ys zs : Array Value} {x y z : Value} {Q : Value → Shared → Prop} (b1 : l1 < B) (b2 : l2 < B) (b3 : l3 < B)
    (st : At s.heap B l1 l2 l3 k) (hl1 : s.heap.IsList l1 xs) (hl2 : s.heap.IsList l2 ys) (hl3 : s.heap.IsList l3 zs) (hx : xs[k]? = some x) (hy : ys[k]? = some y) (hz : zs[k]? = some z)
    (hQ : ∀ h', Zp h' B (rawInt s.heap.objs.size) → Trip h' (B + 3) (.ref B) (.ref (B + 1)) (.ref (B + 2)) → Trip h' (B + 4) x y z → h'.IsListIter B l1 (k + 1) → h'.IsListIter (B + 1) l2 (k + 1) → h'.IsListIter (B + 2) l3 (k + 1) →
      Trip h' s.heap.objs.size x y z → Kept B s.heap h' → Q (.ref s.heap.objs.size) { s with heap := h' }) :
    wpAny (model prog w) A (Builtin.«zip.__next__» ⟨[.ref (B + 5)], []⟩) (fun fin s' => ∃ v, fin = .done (.ret v) ∧ Q v s') E s := by
  obtain ⟨gz, gi, ⟨a, b, c, go⟩, h1, h2, h3⟩ := st
  have n1 : l1 ≠ B + 5 ∧ l1 ≠ B + 4 ∧ l1 ≠ B ∧ l1 ≠ B + 1 ∧ l1 ≠ B + 2 := ⟨low B l1 5 b1, low B l1 4 b1, low B l1 0 b1, low B l1 1 b1, low B l1 2 b1⟩
  have n2 : l2 ≠ B + 5 ∧ l2 ≠ B + 4 ∧ l2 ≠ B ∧ l2 ≠ B + 1 ∧ l2 ≠ B + 2 := ⟨low B l2 5 b2, low B l2 4 b2, low B l2 0 b2, low B l2 1 b2, low B l2 2 b2⟩
  have n3 : l3 ≠ B + 5 ∧ l3 ≠ B + 4 ∧ l3 ≠ B ∧ l3 ≠ B + 1 ∧ l3 ≠ B + 2 := ⟨low B l3 5 b3, low B l3 4 b3, low B l3 0 b3, low B l3 1 b3, low B l3 2 b3⟩
  have q05 : B ≠ B + 5 := ap B 0 5 (by decide)
  have q15 : B + 1 ≠ B + 5 := ap B 1 5 (by decide)
  have q25 : B + 2 ≠ B + 5 := ap B 2 5 (by decide)
  have q35 : B + 3 ≠ B + 5 := ap B 3 5 (by decide)
  have q45 : B + 4 ≠ B + 5 := ap B 4 5 (by decide)
  have q04 : B ≠ B + 4 := ap B 0 4 (by decide)
  have q14 : B + 1 ≠ B + 4 := ap B 1 4 (by decide)
  have q24 : B + 2 ≠ B + 4 := ap B 2 4 (by decide)
  have q34 : B + 3 ≠ B + 4 := ap B 3 4 (by decide)
  have q01 : B ≠ B + 1 := ap B 0 1 (by decide)
  have q02 : B ≠ B + 2 := ap B 0 2 (by decide)
  have q12 : B + 1 ≠ B + 2 := ap B 1 2 (by decide)
  have q30 : B + 3 ≠ B := ap B 3 0 (by decide)
  have q31 : B + 3 ≠ B + 1 := ap B 3 1 (by decide)
  have q32 : B + 3 ≠ B + 2 := ap B 3 2 (by decide)
  show wpAny _ _ (field (.ref (B + 5)) 2 >>= _) _ _ _
  refine wpAny_bind (wpAny_field gz rfl (x := .bool false) rfl ?_)
  show wpAny _ _ (field (.ref (B + 5)) 3 >>= _) _ _ _
  refine wpAny_bind (wpAny_field gz rfl (x := .ref (B + 3)) rfl ?_)
  refine wpAny_bind (wpAny_seqItems gi rfl ?_)
  show wpAny _ _ (Builtin.SmallTypes.ownedTupleIsFree (.ref (B + 5)) >>= _) _ _ _
  refine wpAny_bind ?_
  unfold Builtin.SmallTypes.ownedTupleIsFree
  refine wpAny_bind (wpAny_field gz rfl (x := Value.none) rfl (wpAny_pure ?_))
  simp only [if_true]
  refine wpAny_bind (wpAny_rule ?_)
  refine wpAny_bind (wpAny_field gz rfl (x := .ref (B + 4)) rfl ?_)
  refine wpAny_bind (wpAny_setField_rec gz (by simp) fun e1 gz1 s1 => ?_)
  replace gz1 : Zp e1 B .ellipsis := gz1
  refine wpAny_bind ?_
  simp only [List.zipIdx_cons, List.zipIdx_nil, List.forIn_cons, List.forIn_nil]
  refine wpAny_bind (wpAny_bind (wpAny_onRaise ?_))
  show wpAny _ _ (Builtin.SmallTypes.nextOf (.ref B) >>= _) _ _ _
  refine wpAny_bind (wpAny_nextOf_list_item (h1.extBut s1.extBut q05) (hl1.extBut s1.extBut n1.1) hx fun e2 h12 s2 => wpAny_pure ?_)
  have go2 : Trip e2 (B + 4) a b c := s2.extBut _ _ q04.symm (s1.extBut _ _ q45 go)
  refine wpAny_bind (wpAny_seqItems go2 rfl ?_)
  refine wpAny_bind (upd_trip go2 fun e3 go3 s3 => ?_)
  replace go3 : Trip e3 (B + 4) x b c := go3
  refine wpAny_bind (wpAny_letGo (wpAny_pure ?_))
  refine wpAny_bind (wpAny_bind (wpAny_onRaise ?_))
  show wpAny _ _ (Builtin.SmallTypes.nextOf (.ref (B + 1)) >>= _) _ _ _
  refine wpAny_bind (wpAny_nextOf_list_item (((h2.extBut s1.extBut q15).extBut s2.extBut q01.symm).extBut s3.extBut q14)
    (((hl2.extBut s1.extBut n2.1).extBut s2.extBut n2.2.2.1).extBut s3.extBut n2.2.1) hy fun e4 h24 s4 => wpAny_pure ?_)
  have go4 : Trip e4 (B + 4) x b c := s4.extBut _ _ q14.symm go3
  refine wpAny_bind (wpAny_seqItems go4 rfl ?_)
  refine wpAny_bind (upd_trip go4 fun e5 go5 s5 => ?_)
  replace go5 : Trip e5 (B + 4) x y c := go5
  refine wpAny_bind (wpAny_letGo (wpAny_pure ?_))
  refine wpAny_bind (wpAny_bind (wpAny_onRaise ?_))
  show wpAny _ _ (Builtin.SmallTypes.nextOf (.ref (B + 2)) >>= _) _ _ _
  refine wpAny_bind (wpAny_nextOf_list_item (((((h3.extBut s1.extBut q25).extBut s2.extBut q02.symm).extBut s3.extBut q24).extBut s4.extBut q12.symm).extBut s5.extBut q24)
    (((((hl3.extBut s1.extBut n3.1).extBut s2.extBut n3.2.2.1).extBut s3.extBut n3.2.1).extBut s4.extBut n3.2.2.2.1).extBut s5.extBut n3.2.1) hz fun e6 h36 s6 => wpAny_pure ?_)
  have go6 : Trip e6 (B + 4) x y c := s6.extBut _ _ q24.symm go5
  refine wpAny_bind (wpAny_seqItems go6 rfl ?_)
  refine wpAny_bind (upd_trip go6 fun e7 go7 s7 => ?_)
  replace go7 : Trip e7 (B + 4) x y z := go7
  refine wpAny_bind (wpAny_letGo (wpAny_pure (wpAny_pure ?_)))
  refine wpAny_bind (wpAny_seqItems go7 rfl ?_)
  refine wpAny_bind (wpAny_newTuple ?_)
  have sz : e7.objs.size = s.heap.objs.size := by rw [s7.1, s6.1, s5.1, s4.1, s3.1, s2.1, s1.1]
  have k7 : ∀ d o, d ≠ B + 5 → d ≠ B + 4 → d ≠ B → d ≠ B + 1 → d ≠ B + 2 → s.heap.get? d = some o → e7.get? d = some o := fun d o c5 c4 c0 c1 c2 e =>
    s7.extBut _ _ c4 (s6.extBut _ _ c2 (s5.extBut _ _ c4 (s4.extBut _ _ c1 (s3.extBut _ _ c4 (s2.extBut _ _ c0 (s1.extBut _ _ c5 e))))))
  have gz7 : Zp e7 B .ellipsis := s7.extBut _ _ q45.symm (s6.extBut _ _ q25.symm (s5.extBut _ _ q45.symm (s4.extBut _ _ q15.symm (s3.extBut _ _ q45.symm (s2.extBut _ _ q05.symm gz1)))))
  have h17 : e7.IsListIter B l1 (k + 1) := ((((h12.extBut s3.extBut q04).extBut s4.extBut q01).extBut s5.extBut q04).extBut s6.extBut q02).extBut s7.extBut q04
  have h27 : e7.IsListIter (B + 1) l2 (k + 1) := ((h24.extBut s5.extBut q14).extBut s6.extBut q12).extBut s7.extBut q14
  have h37 : e7.IsListIter (B + 2) l3 (k + 1) := h36.extBut s7.extBut q24
  have lz : B + 5 < e7.objs.size := Heap.lt_size gz7
  show wpAny _ _ (Builtin.SmallTypes.ownedTupleHandOut (.ref (B + 5)) (.ref e7.objs.size) >>= _) _ _ _
  refine wpAny_bind ?_
  unfold Builtin.SmallTypes.ownedTupleHandOut
  have gz8 : Zp (e7.push { cls := .type "tuple", data := .seq #[x, y, z] }) B .ellipsis := Heap.get?_push_of_some _ gz7
  refine wpAny_bind (wpAny_setField_rec gz8 (by simp) fun e9 gz9 s9 => ?_)
  replace gz9 : Zp e9 B (rawInt e7.objs.size) := gz9
  refine wpAny_setField_rec gz9 (by simp) fun e10 gz10 s10 => ?_
  replace gz10 : Zp e10 B (rawInt e7.objs.size) := gz10
  have up : ∀ d o, d ≠ B + 5 → e7.get? d = some o → e10.get? d = some o := fun d o c1 e => s10.extBut _ _ c1 (s9.extBut _ _ c1 (Heap.get?_push_of_some _ e))
  have g10 : Trip e10 e7.objs.size x y z := s10.extBut _ _ (Nat.ne_of_gt lz) (s9.extBut _ _ (Nat.ne_of_gt lz) (Heap.get?_push_size _ rfl))
  rw [sz] at gz10 g10
  refine wpAny_pure ⟨_, rfl, ?_⟩
  show Q (.ref e7.objs.size) _
  rw [sz]
  refine hQ e10 gz10 (up _ _ q35 (k7 _ _ q35 q34 q30 q31 q32 gi)) (up _ _ q45 go7) (h17.at fun o e => up _ o q05 e) (h27.at fun o e => up _ o q15 e) (h37.at fun o e => up _ o q25 e) g10 fun d o hd e => ?_
  obtain ⟨c0, c1, c2, c3, c4, c5⟩ := off hd
  exact up d o c5 (k7 d o c5 c4 c0 c1 c2 e)
/-- the first list has ended -/
theorem next_end {B l1 l2 l3 : Addr} {k : Nat} {xs : Array Value} {Q : PySem.Fin → Shared → Prop} (hh : A.handled = none) (b1 : l1 < B)
    (st : At s.heap B l1 l2 l3 k) (hl1 : s.heap.IsList l1 xs) (hx : xs[k]? = none)
    (hE : ∀ h' e, Kept B s.heap h' → (∃ o, h'.get? e = some o ∧ o.cls = .type "StopIteration") → E (.ref e) { s with heap := h' }) :
    wpAny (model prog w) A (Builtin.«zip.__next__» ⟨[.ref (B + 5)], []⟩) Q E s := by
  obtain ⟨gz, gi, ⟨a, b, c, go⟩, h1, h2, h3⟩ := st
  have q05 : B ≠ B + 5 := ap B 0 5 (by decide)
  show wpAny _ _ (field (.ref (B + 5)) 2 >>= _) _ _ _
  refine wpAny_bind (wpAny_field gz rfl (x := .bool false) rfl ?_)
  show wpAny _ _ (field (.ref (B + 5)) 3 >>= _) _ _ _
  refine wpAny_bind (wpAny_field gz rfl (x := .ref (B + 3)) rfl ?_)
  refine wpAny_bind (wpAny_seqItems gi rfl ?_)
  show wpAny _ _ (Builtin.SmallTypes.ownedTupleIsFree (.ref (B + 5)) >>= _) _ _ _
  refine wpAny_bind ?_
  unfold Builtin.SmallTypes.ownedTupleIsFree
  refine wpAny_bind (wpAny_field gz rfl (x := Value.none) rfl (wpAny_pure ?_))
  simp only [if_true]
  refine wpAny_bind (wpAny_rule ?_)
  refine wpAny_bind (wpAny_field gz rfl (x := .ref (B + 4)) rfl ?_)
  refine wpAny_bind (wpAny_setField_rec gz (by simp) fun e1 gz1 s1 => ?_)
  replace gz1 : Zp e1 B .ellipsis := gz1
  refine wpAny_bind ?_
  simp only [List.zipIdx_cons, List.zipIdx_nil, List.forIn_cons, List.forIn_nil]
  refine wpAny_bind (wpAny_bind (wpAny_onRaise ?_))
  show wpAny _ _ (Builtin.SmallTypes.nextOf (.ref B) >>= _) _ _ _
  refine wpAny_bind (wpAny_nextOf_list_end hh (h1.extBut s1.extBut q05) (hl1.extBut s1.extBut (low B l1 5 b1)) hx fun e2 e s2 he => ?_)
  obtain ⟨oe, hoe, hce⟩ := he
  have gz2 : Zp e2 B .ellipsis := s2 _ _ q05.symm gz1
  have hez : e ≠ B + 5 := fun q => by subst q; rw [gz2] at hoe; cases hoe; simp at hce
  refine wpAny_setField_rec gz2 (by simp) fun e3 _ s3 => hE e3 e (fun d o hd q => ?_) ⟨oe, s3.extBut _ _ hez hoe, hce⟩
  obtain ⟨c0, c1, c2, c3, c4, c5⟩ := off hd
  exact s3.extBut _ _ c5 (s2 _ _ c0 (s1.extBut _ _ c5 q))
theorem py_item {B l1 l2 l3 : Addr} {k : Nat} {xs ys zs : Array Value} {x y z : Value} {Q : Option Value → Shared → Prop} (b1 : l1 < B) (b2 : l2 < B) (b3 : l3 < B)
    (st : At s.heap B l1 l2 l3 k) (hl1 : s.heap.IsList l1 xs) (hl2 : s.heap.IsList l2 ys) (hl3 : s.heap.IsList l3 zs) (hx : xs[k]? = some x) (hy : ys[k]? = some y) (hz : zs[k]? = some z)
    (hQ : ∀ h', Zp h' B (rawInt s.heap.objs.size) → Trip h' (B + 3) (.ref B) (.ref (B + 1)) (.ref (B + 2)) → Trip h' (B + 4) x y z → h'.IsListIter B l1 (k + 1) → h'.IsListIter (B + 1) l2 (k + 1) → h'.IsListIter (B + 2) l3 (k + 1) →
      Trip h' s.heap.objs.size x y z → Kept B s.heap h' → Q (some (.ref s.heap.objs.size)) { s with heap := h' }) :
    wpAny (model prog w) A (pyNext (.ref (B + 5))) Q E s := by
  have hT : s.TypeIs (.ref (B + 5)) "zip" := ⟨_, st.z, rfl⟩
  unfold pyNext
  refine wpAny_bind (wpAny_attempt (wpAny_callSpecial?_slot (name := Str.ofString "__next__") hT F.slot_zip_next (wpAny_call_entry F.slot_zip_next hT F.entry_zip_next ?_ (F.args_zip_next_1 _))))
  exact next_item b1 b2 b3 st hl1 hl2 hl3 hx hy hz fun h' a1 a2 a3 a4 a5 a6 a7 a8 => wpAny_pure (hQ h' a1 a2 a3 a4 a5 a6 a7 a8)
theorem py_end {B l1 l2 l3 : Addr} {k : Nat} {xs : Array Value} {Q : Option Value → Shared → Prop} (hh : A.handled = none) (b1 : l1 < B)
    (st : At s.heap B l1 l2 l3 k) (hl1 : s.heap.IsList l1 xs) (hx : xs[k]? = none) (hQ : ∀ h', Kept B s.heap h' → Q none { s with heap := h' }) : wpAny (model prog w) A (pyNext (.ref (B + 5))) Q E s := by
  have hT : s.TypeIs (.ref (B + 5)) "zip" := ⟨_, st.z, rfl⟩
  unfold pyNext
  refine wpAny_bind (wpAny_attempt (wpAny_callSpecial?_slot (name := Str.ofString "__next__") hT F.slot_zip_next (wpAny_call_entry F.slot_zip_next hT F.entry_zip_next ?_ (F.args_zip_next_1 _))))
  refine next_end hh b1 st hl1 hx fun h' e hk he => ?_
  obtain ⟨o, ho, hc⟩ := he
  exact wpAny_bind (wpAny_isInstance (T := "StopIteration") (b := true) ⟨o, ho, hc⟩ isSubtype_stop (wpAny_pure (hQ _ hk)))
end
theorem tc3 (a b c : Value) : checkTypeCall "zip" ⟨[a, b, c], []⟩ = pure () := by kernel_rfl
theorem nc3 (a b c : Value) : checkBuiltinCall "zip.__new__" ⟨[.type "zip", a, b, c], []⟩ = pure () := by kernel_rfl
theorem oi4 (a b c d : Value) : argsOk "object.__init__" ⟨[a, b, c, d], []⟩ := by
  unfold argsOk
  rw [signature?_of (id := "object.__init__") (n := ['_', '_', 't', 'i', 'n', 'i', '_', '_']) (o := ['t', 'c', 'e', 'j', 'b', 'o']) (by kernel_rfl) PySem.F.owner_object]
  kernel_rfl
abbrev Z1 (h : Heap) (l1 : Addr) : Heap := h.push { cls := .type "list_iterator", data := .fields #[.ref l1, .int 0 0] }
abbrev Z2 (h : Heap) (l1 l2 : Addr) : Heap := Z1 (Z1 h l1) l2
abbrev Z3 (h : Heap) (l1 l2 l3 : Addr) : Heap := Z1 (Z2 h l1 l2) l3
abbrev Z4 (h : Heap) (l1 l2 l3 : Addr) : Heap := (Z3 h l1 l2 l3).push { cls := .type "tuple", data := .seq #[.ref h.objs.size, .ref (Z1 h l1).objs.size, .ref (Z2 h l1 l2).objs.size] }
abbrev Z5 (h : Heap) (l1 l2 l3 : Addr) : Heap := (Z4 h l1 l2 l3).push { cls := .type "tuple", data := .seq #[.none, .none, .none] }
abbrev Z6 (h : Heap) (l1 l2 l3 : Addr) : Heap := (Z5 h l1 l2 l3).push { cls := .type "zip", data := .fields #[.none, .bool false, .bool false, .ref (Z3 h l1 l2 l3).objs.size, .ref (Z4 h l1 l2 l3).objs.size] }
theorem made (l1 l2 l3 : Addr) (xs ys zs : Array Value) :
    Meets (Builtin.«zip.__new__» ⟨[.type "zip", .ref l1, .ref l2, .ref l3], []⟩) (fun _ R s => s.heap.IsList l1 xs ∧ s.heap.IsList l2 ys ∧ s.heap.IsList l3 zs ∧
      R (.ok (.ret (.ref (Z5 s.heap l1 l2 l3).objs.size))) { s with heap := Z6 s.heap l1 l2 l3 }) :=
  .of_wp fun prog w A R s h => by
    obtain ⟨hp, g, d, tk, os⟩ := s
    obtain ⟨a1, a2, a3, h⟩ := h
    have hsub := sub_zip
    have p1 : Heap.IsList (Shared.heap ⟨hp, g, d, tk, os⟩) l1 xs := a1
    have p2 : Heap.IsList (Shared.heap ⟨Z1 hp l1, g, d, tk, os⟩) l2 ys := Heap.IsList.push a2 _
    have p3 : Heap.IsList (Shared.heap ⟨Z2 hp l1 l2, g, d, tk, os⟩) l3 zs := Heap.IsList.push (Heap.IsList.push a3 _) _
    wp_walk using wpAny_pyIter_list p1, wpAny_pyIter_list p2, wpAny_pyIter_list p3
    exact ⟨_, rfl, h⟩
section
variable {prog : Program} {w : World} {A : Around} {E : Value → Shared → Prop} {s : Shared}
theorem call3 {l1 l2 l3 : Addr} {xs ys zs : Array Value} {Q : Value → Shared → Prop} (p1 : s.heap.IsList l1 xs) (p2 : s.heap.IsList l2 ys) (p3 : s.heap.IsList l3 zs)
    (h : ∀ h', At h' s.heap.objs.size l1 l2 l3 0 → (∀ c o, s.heap.get? c = some o → h'.get? c = some o) → Q (.ref (s.heap.objs.size + 5)) { s with heap := h' }) :
    wpAny (model prog w) A (call (.type "zip") [.ref l1, .ref l2, .ref l3]) Q E s := by
  refine callType_new F.called_zip (by decide) (tc3 _ _ _) (nc3 _ _ _) (fun obj => oi4 obj _ _ _) F.entry_zip_new (made l1 l2 l3 xs ys zs) ⟨p1, p2, p3, ?_⟩
  have z1 : (Z1 s.heap l1).objs.size = s.heap.objs.size + 1 := Heap.size_push ..
  have z2 : (Z2 s.heap l1 l2).objs.size = s.heap.objs.size + 2 := by rw [Heap.size_push, z1]
  have z3 : (Z3 s.heap l1 l2 l3).objs.size = s.heap.objs.size + 3 := by rw [Heap.size_push, z2]
  have z4 : (Z4 s.heap l1 l2 l3).objs.size = s.heap.objs.size + 4 := by rw [Heap.size_push, z3]
  have z5 : (Z5 s.heap l1 l2 l3).objs.size = s.heap.objs.size + 5 := by rw [Heap.size_push, z4]
  have g6 : (Z6 s.heap l1 l2 l3).get? (Z5 s.heap l1 l2 l3).objs.size = some _ := Heap.get?_push_size _ rfl
  have g5 : (Z6 s.heap l1 l2 l3).get? (Z4 s.heap l1 l2 l3).objs.size = some _ := Heap.get?_push_of_some _ (Heap.get?_push_size _ rfl)
  have g4 : (Z6 s.heap l1 l2 l3).get? (Z3 s.heap l1 l2 l3).objs.size = some _ := Heap.get?_push_of_some _ (Heap.get?_push_of_some _ (Heap.get?_push_size _ rfl))
  have g3 : (Z6 s.heap l1 l2 l3).get? (Z2 s.heap l1 l2).objs.size = some _ := Heap.get?_push_of_some _ (Heap.get?_push_of_some _ (Heap.get?_push_of_some _ (Heap.get?_push_size _ rfl)))
  have g2 : (Z6 s.heap l1 l2 l3).get? (Z1 s.heap l1).objs.size = some _ := Heap.get?_push_of_some _ (Heap.get?_push_of_some _ (Heap.get?_push_of_some _ (Heap.get?_push_of_some _ (Heap.get?_push_size _ rfl))))
  have g1 : (Z6 s.heap l1 l2 l3).get? s.heap.objs.size = some _ := Heap.get?_push_of_some _ (Heap.get?_push_of_some _ (Heap.get?_push_of_some _ (Heap.get?_push_of_some _ (Heap.get?_push_of_some _ (Heap.get?_push_size _ rfl)))))
  show _ ∧ _
  rw [z5, z3, z4] at g6
  rw [z3, z1, z2] at g4
  rw [z4] at g5
  rw [z2] at g3
  rw [z1] at g2
  rw [z5]
  refine ⟨⟨_, g6, rfl⟩, h _ ⟨g6, g4, ⟨_, _, _, g5⟩, ⟨_, g1, rfl, rfl⟩, ⟨_, g2, rfl, rfl⟩, ⟨_, g3, rfl, rfl⟩⟩ fun c o x => ?_⟩
  exact Heap.get?_push_of_some _ (Heap.get?_push_of_some _ (Heap.get?_push_of_some _ (Heap.get?_push_of_some _ (Heap.get?_push_of_some _ (Heap.get?_push_of_some _ x)))))
end
end KZ

end
section
set_option Elab.async false
set_option linter.all false
set_option maxRecDepth 100000
set_option maxHeartbeats 4000000
namespace KG
open PySem PySem.Spec PyProof.Rows L2
/-! ## zip(list, list, list), over by the first one -/
theorem boot_zip : bootBuiltins "zip" = some (.type "zip") := by decide +kernel
def Itz3 (K : PySem.W.Frag) (a b c : Addr) : It :=
  ⟨fun i H => ∃ (xs ys zs : List V) (x y z : V), SqL K H a xs ∧ SqL K H b ys ∧ SqL K H c zs ∧ xs[i]? = some x ∧ ys[i]? = some y ∧ zs[i]? = some z,
    fun i H v H' => ∃ T x y z, v = .ref T ∧ H T = none ∧ H' = upd H T (.tup [x, y, z]) ∧ (∀ l, SqL K H a l → l[i]? = some x) ∧ (∀ l, SqL K H b l → l[i]? = some y) ∧ ∀ l, SqL K H c l → l[i]? = some z,
    fun i H => ∃ xs : List V, SqL K H a xs ∧ xs.length ≤ i⟩
theorem six {B c : Nat} : c ∈ [B + 5, B + 3, B + 4, B, B + 1, B + 2] ↔ B ≤ c ∧ c ≤ B + 5 := by
  simp only [List.mem_cons, List.not_mem_nil, or_false]
  omega
theorem at_keep {h h' : Heap} {B a b c : Addr} {i : Nat} (st : KZ.At h B a b c i) (k : ∀ d ∈ ([B + 5, B + 3, B + 4, B, B + 1, B + 2] : List Addr), ∀ o, h.get? d = some o → h'.get? d = some o) : KZ.At h' B a b c i := by
  obtain ⟨gz, gi, ⟨x, y, z, go⟩, h1, h2, h3⟩ := st
  exact ⟨k _ (by simp) _ gz, k _ (by simp) _ gi, ⟨x, y, z, k _ (by simp) _ go⟩, h1.at fun o q => k _ (by simp) o q, h2.at fun o q => k _ (by simp) o q, h3.at fun o q => k _ (by simp) o q⟩
theorem turn_zip3 {P : Program} {w : World} {K : PySem.W.Frag} {elts : List Expr} {kk : Nat} {tpos : Pos} {a b c B : Addr} (la : a < B) (lb : b < B) (lc : c < B) :
    Turn P w K (.Tuple elts kk tpos) (Itz3 K a b c) [B + 5, B + 3, B + 4, B, B + 1, B + 2] (B + 5) (fun i h => KZ.At h B a b c i) where
  mem := by simp
  obj := fun i h st d hd => by
    obtain ⟨gz, gi, ⟨x, y, z, go⟩, ⟨o1, e1, _, d1⟩, ⟨o2, e2, _, d2⟩, ⟨o3, e3, _, d3⟩⟩ := st
    have e' : d = B + 5 ∨ d = B + 3 ∨ d = B + 4 ∨ d = B ∨ d = B + 1 ∨ d = B + 2 := by simpa using hd
    rcases e' with q | q | q | q | q | q
    · rw [q]; exact ⟨_, gz, fun v q => nomatch q⟩
    · rw [q]; exact ⟨_, gi, fun v q => nomatch q⟩
    · rw [q]; exact ⟨_, go, fun v q => nomatch q⟩
    · rw [q]; exact ⟨o1, e1, fun v q => by rw [d1] at q; cases q⟩
    · rw [q]; exact ⟨o2, e2, fun v q => by rw [d2] at q; cases q⟩
    · rw [q]; exact ⟨o3, e3, fun v q => by rw [d3] at q; cases q⟩
  keep := fun i h h' st k => at_keep st k
  item := by
    intro X hP hw hK hc i pins s σ H E I hf st hg
    subst hP hw hK
    obtain ⟨xs, ys, zs, x, y, z, qx, qy, qz, hx, hy, hz⟩ := hg
    obtain ⟨its1, r1, p1, _⟩ := I.list qx
    obtain ⟨its2, r2, p2, _⟩ := I.list qy
    obtain ⟨its3, r3, p3, _⟩ := I.list qz
    obtain ⟨u1, hu1, ru1⟩ := r1.get hx
    obtain ⟨u2, hu2, ru2⟩ := r2.get hy
    obtain ⟨u3, hu3, ru3⟩ := r3.get hz
    have lz : B + 5 < s.heap.objs.size := Heap.lt_size st.z
    refine KZ.py_item la lb lc st p1.isList p2.isList p3.isList (x := u1) (y := u2) (z := u3) (by simpa using hu1) (by simpa using hu2) (by simpa using hu3) fun h' gz gi go h1 h2 h3 gT hk => ?_
    refine ⟨_, rfl, wpAny_letOwnedTupleGo_zip (s := { s with heap := h' }) gz fun h'' gz' sb => ?_⟩
    have gT2 : h''.get? s.heap.objs.size = some { cls := .type "tuple", data := .seq #[u1, u2, u3] } := (sb.2 _ (Nat.ne_of_gt lz)).trans gT
    have new : ObjOk X.prog X.w (upd H s.heap.objs.size (.tup [x, y, z])) h'' s.heap.objs.size (.tup [x, y, z]) :=
      ⟨by show 3 ≤ sizeLine; decide, [u1, u2, u3], .cons ru1 (.cons ru2 (.cons ru3 .nil)), ⟨_, gT2, rfl, _, rfl⟩⟩
    have I1 : Inv X pins σ (upd H s.heap.objs.size (.tup [x, y, z])) { s with heap := h'' } :=
      I.turnedNew (t' := s.toks) (ch := [B + 5, B + 3, B + 4, B, B + 1, B + 2]) (fun d o hb q => (sb.2 d (fun q' => hb (by simp [q']))).trans (hk d o (fun q' => hb (six.mpr q')) q)) hf (Nat.le_refl _) new
    have t5 : ∀ j : Nat, j ≠ 5 → B + j ≠ B + 5 := fun j hj => KZ.ap B j 5 hj
    refine ⟨.ref s.heap.objs.size, _, I1, rfl, ⟨_, x, y, z, rfl, I.hok.fresh (Nat.le_refl _), rfl, fun l hl => by rw [I.list_inj hl qx]; exact hx, fun l hl => by rw [I.list_inj hl qy]; exact hy, fun l hl => by rw [I.list_inj hl qz]; exact hz⟩,
      ⟨gz', (sb.2 _ (t5 3 (by decide))).trans gi, ⟨_, _, _, (sb.2 _ (t5 4 (by decide))).trans go⟩, h1.at fun o q => (sb.2 _ (t5 0 (by decide))).trans q, h2.at fun o q => (sb.2 _ (t5 1 (by decide))).trans q, h3.at fun o q => (sb.2 _ (t5 2 (by decide))).trans q⟩, fun d hd => ?_⟩
    have hlt : d < s.heap.objs.size := Nat.lt_of_le_of_lt (six.mp hd).2 lz
    rw [upd_ne (Nat.ne_of_lt hlt)]
    exact (hf d hd).1
  done := by
    intro X hP hw hK hc i pins s σ H E I hf st hg
    subst hP hw hK
    obtain ⟨xs, qx, hend⟩ := hg
    obtain ⟨its, rv, p, _⟩ := I.list qx
    have l1 := rv.length
    refine KZ.py_end (I.ok.hd hc) la st p.isList (by simp; omega) fun h' hk => ⟨rfl, ?_⟩
    exact I.turnedL (t' := s.toks) (ch := [B + 5, B + 3, B + 4, B, B + 1, B + 2]) (fun d o hb q => hk d o (fun q' => hb (six.mpr q')) q) hf
  self := fun A i s Q E st h => wpAny_pyIter_zip st.z h
def iZip3 (K : PySem.W.Frag) (ta : TA) : TI := fun σ H R => ta σ H fun vs H1 => ∃ a b c xs ys zs, vs = [.ref a, .ref b, .ref c] ∧ SqL K H1 a xs ∧ SqL K H1 b ys ∧ SqL K H1 c zs ∧ R (Itz3 K a b c) H1
theorem pi_zip3 {X : Cx} {e e2 e3 : Expr} {ta : TA} {p pos tpos : Pos} {elts : List Expr} {kk : Nat} (hg : Gl X "zip") (hm : X.mg "zip" = none) (ha : PA X [e, e2, e3] ta)
    (hs : starEach [e, e2, e3] X.env = (false, eval e X.env) :: starEach [e2, e3] X.env := by rfl) (hpl : (backTo pos (starEach [e2, e3] X.env)).any (·.1) = false := by rfl) :
    PI X (.Tuple elts kk tpos) (.Call (.Name "zip" p) [e, e2, e3] [] pos) (iZip3 X.K ta) := by
  intro pins s σ H R I h
  refine Call_ (ld_blt I hg hm boot_zip (PyProof.Rows.callWith_type1 (thn (ha pos pins s σ H _ I h) fun us s1 ⟨vs, H1, I1, r1, q1⟩ => ?_) hs hpl))
  obtain ⟨a, b, c, xs, ys, zs, ex, qx, qy, qz, q⟩ := q1
  subst ex
  cases r1 with
  | cons r rr =>
    cases rr with
    | cons r' rr =>
      cases rr with
      | cons r'' rr =>
        cases rr
        cases r
        cases r'
        cases r''
        obtain ⟨i1, v1, p1, _⟩ := I1.list qx
        obtain ⟨i2, v2, p2, _⟩ := I1.list qy
        obtain ⟨i3, v3, p3, _⟩ := I1.list qz
        refine KZ.call3 p1.isList p2.isList p3.isList fun h' st hk => wpAny_pyIter_zip st.z ?_
        have I2 : Inv X pins σ H1 { s1 with heap := h' } := I1.kept (t' := s1.toks) hk
        refine ⟨s1.heap.objs.size + 5, _, _, _, H1, rfl, I2, turn_zip3 p1.lt p2.lt p3.lt, st, fun d hd => ?_, q⟩
        have hle : s1.heap.objs.size ≤ d := (six.mp hd).1
        exact I1.fpOk hle (I1.hok.fresh hle)
/-- a comprehension over zip(xs, ys, zs), of one length, that it leaves as they are -/
theorem lc_zip3 {K : PySem.W.Frag} {a b c : Addr} {xs ys zs : List V} {g : TG} {tt : TT} {te : TE} {vs : List Nat} {σ : L2.St} {H1 : Hp} {D : Addr} {Qd : Hp → Prop} (Pv : Nat → Hp → Prop) (h0 : Pv 0 (upd H1 D (.lst [])))
    (e1 : ys.length = xs.length) (e2 : zs.length = xs.length) (hl : ∀ i H, i ≤ xs.length → Pv i H → SqL K H a xs ∧ SqL K H b ys ∧ SqL K H c zs)
    (hs : ∀ i x y z H T, xs[i]? = some x → ys[i]? = some y → zs[i]? = some z → Pv i H → H T = none → g (.ref T) (wipe σ vs) (upd H T (.tup [x, y, z])) fun σ2 H2 => wipe σ2 vs = wipe σ vs ∧ tt σ2 H2 fun b H3 =>
      if b = true then te σ2 H3 fun y H4 => ∃ acc, H4 D = some (.lst acc) ∧ acc.length < sizeLine ∧ Pv (i + 1) (upd H4 D (.lst (acc ++ [y]))) else Pv (i + 1) H3) (hd : ∀ H, Pv xs.length H → Qd H) :
    ∃ W : Nat → Nat → Hp → Prop, (∃ m, W 0 m (upd H1 D (.lst []))) ∧ ∀ i m H, W i m H →
      ((Itz3 K a b c).stop i H ∧ Qd H) ∨ ((Itz3 K a b c).go i H ∧ ∃ Nx : Hp → Prop, (∀ H', Nx H' → ∃ m', m' < m ∧ W (i + 1) m' H') ∧ ∀ x H', (Itz3 K a b c).yld i H x H' → g x (wipe σ vs) H' fun σ2 H2 => wipe σ2 vs = wipe σ vs ∧ tt σ2 H2 fun b H3 =>
        if b = true then te σ2 H3 fun y H4 => ∃ acc, H4 D = some (.lst acc) ∧ acc.length < sizeLine ∧ Nx (upd H4 D (.lst (acc ++ [y]))) else Nx H3) := by
  refine ⟨fun i m H => m = xs.length - i ∧ i ≤ xs.length ∧ Pv i H, ⟨xs.length, by simp, Nat.zero_le _, h0⟩, ?_⟩
  rintro i m H ⟨rfl, hi, p⟩
  obtain ⟨qa, qb, qc⟩ := hl i H hi p
  by_cases hlt : i < xs.length
  · obtain ⟨y, hy⟩ : ∃ y, ys[i]? = some y := ⟨_, List.getElem?_eq_getElem (by omega)⟩
    obtain ⟨z, hz⟩ : ∃ z, zs[i]? = some z := ⟨_, List.getElem?_eq_getElem (by omega)⟩
    refine .inr ⟨⟨xs, ys, zs, xs[i], y, z, qa, qb, qc, by simp [hlt], hy, hz⟩, Pv (i + 1), fun H' p' => ⟨xs.length - (i + 1), by omega, rfl, hlt, p'⟩, fun v H' yl => ?_⟩
    obtain ⟨T, x', y', z', e, hn, e3, a1, a2, a3⟩ := yl
    subst e e3
    exact hs i x' y' z' H T (a1 xs qa) (a2 ys qb) (a3 zs qc) p hn
  · have e : i = xs.length := by omega
    subst e
    exact .inl ⟨⟨xs, qa, Nat.le_refl _⟩, hd H p⟩
/-- .. over enumerate(xs) -/
theorem lc_enum {K : PySem.W.Frag} {a : Addr} {xs : List V} {g : TG} {tt : TT} {te : TE} {vs : List Nat} {σ : L2.St} {H1 : Hp} {D : Addr} {Qd : Hp → Prop} (Pv : Nat → Hp → Prop) (h0 : Pv 0 (upd H1 D (.lst [])))
    (hl : ∀ i H, i ≤ xs.length → Pv i H → SqL K H a xs)
    (hs : ∀ i x H T, xs[i]? = some x → Pv i H → H T = none → g (.ref T) (wipe σ vs) (upd H T (.tup [.int (i : Nat), x])) fun σ2 H2 => wipe σ2 vs = wipe σ vs ∧ tt σ2 H2 fun b H3 =>
      if b = true then te σ2 H3 fun y H4 => ∃ acc, H4 D = some (.lst acc) ∧ acc.length < sizeLine ∧ Pv (i + 1) (upd H4 D (.lst (acc ++ [y]))) else Pv (i + 1) H3) (hd : ∀ H, Pv xs.length H → Qd H) :
    ∃ W : Nat → Nat → Hp → Prop, (∃ m, W 0 m (upd H1 D (.lst []))) ∧ ∀ i m H, W i m H →
      ((Ite K a).stop i H ∧ Qd H) ∨ ((Ite K a).go i H ∧ ∃ Nx : Hp → Prop, (∀ H', Nx H' → ∃ m', m' < m ∧ W (i + 1) m' H') ∧ ∀ x H', (Ite K a).yld i H x H' → g x (wipe σ vs) H' fun σ2 H2 => wipe σ2 vs = wipe σ vs ∧ tt σ2 H2 fun b H3 =>
        if b = true then te σ2 H3 fun y H4 => ∃ acc, H4 D = some (.lst acc) ∧ acc.length < sizeLine ∧ Nx (upd H4 D (.lst (acc ++ [y]))) else Nx H3) := by
  refine ⟨fun i m H => m = xs.length - i ∧ i ≤ xs.length ∧ Pv i H, ⟨xs.length, by simp, Nat.zero_le _, h0⟩, ?_⟩
  rintro i m H ⟨rfl, hi, p⟩
  have qa := hl i H hi p
  by_cases hlt : i < xs.length
  · refine .inr ⟨⟨xs, xs[i], qa, by simp [hlt]⟩, Pv (i + 1), fun H' p' => ⟨xs.length - (i + 1), by omega, rfl, hlt, p'⟩, fun v H' yl => ?_⟩
    obtain ⟨T, x', e, hn, e3, a1⟩ := yl
    subst e e3
    exact hs i x' H T (a1 xs qa) p hn
  · have e : i = xs.length := by omega
    subst e
    exact .inl ⟨⟨xs, qa, Nat.le_refl _⟩, hd H p⟩
section
variable {X : Cx}
/-! ## g(e, ..), g an expression whose value is a def of the text -/
def tCallV (X : Cx) (tg : TE) (t : TA) : TE := fun σ H Q => tg σ H fun x H1 => ∃ (f : Addr) (fd : FuncData) (ps : List Str) (sp : Sp) (k : Nat), x = .ref f ∧ FnOk X.prog X.w X.K X.mg X.base CX0 k f fd ps sp ∧ Room k X.A ∧
  PySem.W.keepIn X.K (.ref f) = true ∧ Binds X.K fd ps [] ∧ t σ H1 fun vs H2 => sp vs H2 Q E0
theorem pe_callV {g e : Expr} {es : List Expr} {pos : Pos} {tg : TE} {t : TA} (hg : PE X g tg) (ha : PA X (e :: es) t)
    (hc : eval (.Call g (e :: es) [] pos) X.env = (do callWith pos (← eval g X.env) [] (backTo pos (starEach (e :: es) X.env)) (backToKw pos (keywordEach [] X.env))) := by rfl)
    (he : starEach (e :: es) X.env = (false, eval e X.env) :: starEach es X.env := by rfl) (hpl : (backTo pos (starEach es X.env)).any (·.1) = false := by rfl) :
    PE X (.Call g (e :: es) [] pos) (tCallV X tg t) := by
  intro pins s σ H Q I h
  refine Call_ (thn (hg pins s σ H _ I h) fun u s1 ⟨x, H1, I1, rx, f, fd, ps, sp, k, ex, F, hr, hk, hb, q⟩ => ?_) hc
  subst ex
  obtain rfl : u = Value.ref f := rx
  refine PySem.W.callWith_K (h₀ := X.base) I.ok.mod.kin hk (thn (ha pos pins s1 σ H1 _ I1 q) fun us s2 ⟨vs, H2, I2, r, q2⟩ => ⟨I2.kIn, ?_⟩) he hpl
  exact run_fn (ds := []) (dvs := []) F hr hb .nil pass0 I2 r (by rw [List.append_nil]; exact q2)
/-! ## xs.count(n) -/
def rCount (K : PySem.W.Frag) : V → List V → Hp → VK → Prop := fun x vs H Q => ∃ (l : Addr) (ns : List Int) (k : Int), x = .ref l ∧ vs = [.int k] ∧ SqL K H l (ns.map V.int) ∧ Q (.int (ns.count k : Nat)) H
theorem mt_count : MtR X "list.count" (rCount X.K) := by
  intro pins s σ H x vs v us Q I rx rv h
  obtain ⟨l, ns, k, rfl, rfl, hs, q⟩ := h
  cases rx
  obtain ⟨u, rfl, ru⟩ := rv.one
  obtain ⟨t, rfl⟩ := ru
  obtain ⟨its, r, p, _⟩ := I.list hs
  exact count_list_ints p.isList r.ints ⟨.int _, H, I.tok _, ⟨_, rfl⟩, q⟩
/-! ## min(xs, key=sum), xs a list of lists of ints: the first of the least -/
/-- the state behind a rule of the ledger's: all objects but the frame's own are kept, the frame's map too -/
theorem inv_frame {pins : List (Addr × Obj)} {σ : L2.St} {H : Hp} {s : Shared} {h' : Heap} {t' : Nat} (I : Inv X pins σ H s) (ns : ∀ m, s.heap.Ns X.env.locals m → h'.Ns X.env.locals m)
    (k : ∀ b o, b ≠ X.env.locals → s.heap.get? b = some o → h'.get? b = some o) (kl : ∀ o, s.heap.get? X.env.locals = some o → ∃ o', h'.get? X.env.locals = some o') : Inv X pins σ H { s with heap := h', toks := t' } := by
  have nL : ∀ b u, H b = some u → b ≠ X.env.locals := fun b u e z => by rw [z, I.free] at e; cases e
  refine I.step (g' := s.gens) (d' := s.drawn) (ch := []) (fun _ z => nomatch z) (fun b o h1 _ _ e _ => k b o h1 e) (fun b o h1 _ _ e _ => ⟨o.slots, k b o h1 e⟩) (fun _ _ _ _ n => n) (fun b o _ e => ?_) (fun _ _ e => e) (fun _ _ _ e => e)
    (fun b ps e => ⟨#[], by rw [e]; simp⟩) ns (fun b u e => ?_) I.bare
  · by_cases hb : b = X.env.locals
    · subst hb
      exact kl o e
    · exact ⟨o, k b o hb e⟩
  · refine (I.hok b u e).stay (fun c v hc q => k c v ?_ q) (fun _ q => q) fun _ _ q => q
    rcases hc with z | z
    · rw [z]; exact nL b u e
    · exact nL c _ z
theorem ns_one {h : Heap} {a : Addr} {m m' : Str → Option Value} (x : h.Ns a m) (y : h.Ns a m') : m = m' := by
  obtain ⟨o, es, ep, ho, hd, _, hm⟩ := x
  obtain ⟨o', es', ep', ho', hd', _, hm'⟩ := y
  rw [ho] at ho'
  cases ho'
  rw [hd] at hd'
  cases hd'
  funext n
  rw [← hm, ← hm']
def tMinSum (K : PySem.W.Frag) (te : TE) : TE := fun σ H Q => te σ H fun x H1 => ∃ (a : Addr) (ps : List Addr) (nss : List (List Int)), x = .ref a ∧ SqL K H1 a (ps.map V.ref) ∧ Paired (fun (p : Addr) (ns : List Int) => SqL K H1 p (ns.map V.int)) ps nss ∧ 0 < ps.length ∧
  ∀ (i : Nat) (p : Addr) (ns : List Int), ps[i]? = some p → nss[i]? = some ns → (∀ (j : Nat) (ms : List Int), nss[j]? = some ms → ns.sum ≤ ms.sum ∧ (j < i → ns.sum < ms.sum)) → Q (.ref p) H1
theorem paired_at {α β : Type} {G : α → β → Prop} {l₁ : List α} {l₂ : List β} (h : Paired G l₁ l₂) : ∀ {i : Nat} {b : β}, l₂[i]? = some b → ∃ a, l₁[i]? = some a ∧ G a b := by
  induction h with
  | nil => intro i b e; simp at e
  | cons r t ih =>
    intro i b e
    cases i with
    | zero => simp at e; subst e; exact ⟨_, rfl, r⟩
    | succ i => exact ih (by simpa using e)
theorem pe_minSum {e : Expr} {p p2 kpos pos : Pos} {te : TE} (hc : X.calm = true) (hg : Gl X "min") (hm : X.mg "min" = none) (hg2 : Gl X "sum") (hm2 : X.mg "sum" = none) (he : PE X e te)
    (hs : starEach [e] X.env = (false, eval e X.env) :: starEach [] X.env := by rfl) : PE X (.Call (.Name "min" p) [e] [⟨some "key", .Name "sum" p2, kpos⟩] pos) (tMinSum X.K te) := by
  intro pins s σ H Q I h
  refine wpAny_Call_Name_kw (ld_blt I hg hm boot_min ?_)
  refine PyProof.Rows.callWith_kw (thn ((pa_cons he pa_nil hs) pos pins s σ H (fun vs H1 => ∃ x, vs = [x] ∧ (∃ (a : Addr) (ps : List Addr) (nss : List (List Int)), x = .ref a ∧ SqL X.K H1 a (ps.map V.ref) ∧ Paired (fun (p : Addr) (ns : List Int) => SqL X.K H1 p (ns.map V.int)) ps nss ∧ 0 < ps.length ∧
    ∀ (i : Nat) (p : Addr) (ns : List Int), ps[i]? = some p → nss[i]? = some ns → (∀ (j : Nat) (ms : List Int), nss[j]? = some ms → ns.sum ≤ ms.sum ∧ (j < i → ns.sum < ms.sum)) → Q (.ref p) H1)) I ?_) fun us s1 ⟨vs, H1, I1, r1, x, ex, a, ps, nss, ea, hq, hp, hne, q⟩ => ?_) (by rw [hs]; rfl) (by rw [hs]; rfl)
  · refine (show te σ H _ from ?_)
    have h2 : te σ H fun x H1 => ∃ (a : Addr) (ps : List Addr) (nss : List (List Int)), x = .ref a ∧ SqL X.K H1 a (ps.map V.ref) ∧ Paired (fun (p : Addr) (ns : List Int) => SqL X.K H1 p (ns.map V.int)) ps nss ∧ 0 < ps.length ∧
      ∀ (i : Nat) (p : Addr) (ns : List Int), ps[i]? = some p → nss[i]? = some ns → (∀ (j : Nat) (ms : List Int), nss[j]? = some ms → ns.sum ≤ ms.sum ∧ (j < i → ns.sum < ms.sum)) → Q (.ref p) H1 := h
    have e3 : (fun (x : V) (H1 : Hp) => tNil σ H1 fun xs H2 => ∃ y, x :: xs = [y] ∧ (∃ (a : Addr) (ps : List Addr) (nss : List (List Int)), y = .ref a ∧ SqL X.K H2 a (ps.map V.ref) ∧ Paired (fun (p : Addr) (ns : List Int) => SqL X.K H2 p (ns.map V.int)) ps nss ∧ 0 < ps.length ∧
      ∀ (i : Nat) (p : Addr) (ns : List Int), ps[i]? = some p → nss[i]? = some ns → (∀ (j : Nat) (ms : List Int), nss[j]? = some ms → ns.sum ≤ ms.sum ∧ (j < i → ns.sum < ms.sum)) → Q (.ref p) H2)) =
      fun (x : V) (H1 : Hp) => ∃ (a : Addr) (ps : List Addr) (nss : List (List Int)), x = .ref a ∧ SqL X.K H1 a (ps.map V.ref) ∧ Paired (fun (p : Addr) (ns : List Int) => SqL X.K H1 p (ns.map V.int)) ps nss ∧ 0 < ps.length ∧
        ∀ (i : Nat) (p : Addr) (ns : List Int), ps[i]? = some p → nss[i]? = some ns → (∀ (j : Nat) (ms : List Int), nss[j]? = some ms → ns.sum ≤ ms.sum ∧ (j < i → ns.sum < ms.sum)) → Q (.ref p) H1 := by
      funext x H1
      refine propext ⟨fun ⟨y, e, z⟩ => ?_, fun z => ⟨x, rfl, z⟩⟩
      cases e
      exact z
    rw [e3]
    exact h2
  · subst ex
    subst ea
    have eu := Vals.ref1 r1
    subst eu
    show wpAny _ _ (evalAll ((do let v ← eval (.Name "sum" p2) X.env; standAt pos; pure v) :: [])) _ _ s1
    refine wpAny_evalAll_cons (wpAny_bind (ld_blt I1 hg2 hm2 boot_sum (wpAny_bind (wpAny_standAt (wpAny_pure (wpAny_evalAll_nil ?_))))))
    show wpAny _ _ (call (.builtin "min") [.ref a] [(Str.ofString "key", .builtin "sum")]) _ _ s1
    obtain ⟨its, rv, pl, _⟩ := I1.list hq
    have ei : its = ps.map Value.ref := refs_at rv
    subst ei
    obtain ⟨m, F⟩ := I1.fr
    have N := news_all (g := X.base) (h := s1.heap) (L := X.env.locals)
    have kp : ∀ (h : Heap) (m : Str → Option Value), Fr X.base X.env.locals h m → News X.base X.env.locals h (allNews X.base s1.heap X.env.locals) → ∀ b o, b ≠ X.env.locals → s1.heap.get? b = some o → h.get? b = some o := fun h m F' N' b o hb e => by
      cases qb : X.base.get? b with
      | some u =>
        have e2 := I1.bk b u qb
        rw [e] at e2
        cases e2
        exact F'.keep b _ qb
      | none => exact (N' (b, o) (mem_allNews hb qb e)).1
    have nl : ∀ {b : Addr} {vs : Array Value}, PlainL s1.heap b vs → b ≠ X.env.locals := fun {b vs} ⟨o, n, e, _, _, d⟩ z => by
      obtain ⟨o', es, ep, ho', hd', _⟩ := F.ns
      rw [← z, e] at ho'
      cases ho'
      rw [d] at hd'
      cases hd'
    have kl : ∀ {b : Addr} {vs : Array Value} (h : Heap) (m : Str → Option Value), Fr X.base X.env.locals h m → News X.base X.env.locals h (allNews X.base s1.heap X.env.locals) → PlainL s1.heap b vs → h.IsList b vs := fun {b vs} h m F' N' pb => by
      have hb := nl pb
      obtain ⟨o, n, e, hcl, _, d⟩ := pb
      exact ⟨o, kp h m F' N' b o hb e, hcl, n, d⟩
    have look : ∀ (i : Nat) (v : Value), (ps.map Value.ref)[i]? = some v → ∃ p ns, v = .ref p ∧ ps[i]? = some p ∧ nss[i]? = some ns ∧ SqL X.K H1 p (ns.map V.int) := fun i v hv => by
      rw [List.getElem?_map] at hv
      obtain ⟨p, hp', rfl⟩ := Option.map_eq_some_iff.mp hv
      obtain ⟨ns, hn, hg⟩ := paired_get hp hp'
      exact ⟨p, ns, rfl, hp', hn, hg⟩
    have hlen : ps.length = nss.length := hp.length
    refine kmb_min (vs := ps.map Value.ref) (fun i => (nss.getD i []).sum) (I1.ok.hd hc) F N (fun h F' N' => kl h m F' N' pl) (by rw [List.length_map]; exact hne) (fun i v hv h tk own F' N' => ?_) fun i v h' tk' hv hb F' N' => ?_
    · obtain ⟨p, ns, rfl, hp', hn, hg⟩ := look i v hv
      obtain ⟨is2, rv2, pl2, _⟩ := I1.list hg
      have hd : nss.getD i [] = ns := by rw [List.getD_eq_getElem?_getD, hn]; rfl
      have Nn : News X.base X.env.locals h (allNews X.base s1.heap X.env.locals) := fun z hz => N' z (List.mem_append_left _ hz)
      refine sum_raw (A := X.A.in1) (s := { s1 with heap := h, toks := tk }) (I1.ok.hd hc) (kl h m F' Nn pl2) rv2.ints fun h2 tk2 t2 hk => ?_
      refine ⟨h2, tk2, t2, rfl, by rw [hd], ⟨F'.ns.keeps hk, fun b o e => hk b o (F'.keep b o e), F'.above⟩, fun z hz => ⟨hk _ _ (N' z hz).1, (N' z hz).2⟩⟩
    · obtain ⟨p, ns, rfl, hp', hn, hg⟩ := look i v hv
      have hd : nss.getD i [] = ns := by rw [List.getD_eq_getElem?_getD, hn]; rfl
      refine ⟨.ref p, H1, inv_frame I1 (fun m' hm' => ?_) (kp h' m F' N') (fun o _ => ?_), rfl, q i p ns hp' hn fun j ms hj => ?_⟩
      · rw [ns_one hm' F.ns]
        exact F'.ns
      · obtain ⟨o', _, _, ho', _⟩ := F'.ns
        exact ⟨o', ho'⟩
      · have hj' : j < (ps.map Value.ref).length := by
          rw [List.length_map, hlen]
          exact (List.getElem?_eq_some_iff.mp hj).1
        have hb1 := hb j hj'
        have hd2 : nss.getD j [] = ms := by rw [List.getD_eq_getElem?_getD, hj]; rfl
        rw [hd, hd2] at hb1
        exact hb1
end
end KG

end
section
set_option Elab.async false
set_option linter.all false
set_option maxRecDepth 100000
set_option maxHeartbeats 4000000
namespace KG
open PySem PySem.Spec PyProof.Rows L2
theorem bt_any : bootBuiltins "any" = some (.builtin "any") := by decide +kernel
theorem bt_sorted : bootBuiltins "sorted" = some (.builtin "sorted") := by decide +kernel
/-- a comprehension over zip(xs, ys), of one length, that it leaves as they are -/
theorem lc_zip {K : PySem.W.Frag} {a b : Addr} {xs ys : List V} {g : TG} {tt : TT} {te : TE} {vs : List Nat} {σ : L2.St} {H1 : Hp} {D : Addr} {Qd : Hp → Prop} (Pv : Nat → Hp → Prop) (h0 : Pv 0 (upd H1 D (.lst [])))
    (e1 : ys.length = xs.length) (hl : ∀ i H, i ≤ xs.length → Pv i H → SqL K H a xs ∧ SqL K H b ys)
    (hs : ∀ i x y H T, xs[i]? = some x → ys[i]? = some y → Pv i H → H T = none → g (.ref T) (wipe σ vs) (upd H T (.tup [x, y])) fun σ2 H2 => wipe σ2 vs = wipe σ vs ∧ tt σ2 H2 fun b H3 =>
      if b = true then te σ2 H3 fun y H4 => ∃ acc, H4 D = some (.lst acc) ∧ acc.length < sizeLine ∧ Pv (i + 1) (upd H4 D (.lst (acc ++ [y]))) else Pv (i + 1) H3) (hd : ∀ H, Pv xs.length H → Qd H) :
    ∃ W : Nat → Nat → Hp → Prop, (∃ m, W 0 m (upd H1 D (.lst []))) ∧ ∀ i m H, W i m H →
      ((Itz K a b).stop i H ∧ Qd H) ∨ ((Itz K a b).go i H ∧ ∃ Nx : Hp → Prop, (∀ H', Nx H' → ∃ m', m' < m ∧ W (i + 1) m' H') ∧ ∀ x H', (Itz K a b).yld i H x H' → g x (wipe σ vs) H' fun σ2 H2 => wipe σ2 vs = wipe σ vs ∧ tt σ2 H2 fun b H3 =>
        if b = true then te σ2 H3 fun y H4 => ∃ acc, H4 D = some (.lst acc) ∧ acc.length < sizeLine ∧ Nx (upd H4 D (.lst (acc ++ [y]))) else Nx H3) := by
  refine ⟨fun i m H => m = xs.length - i ∧ i ≤ xs.length ∧ Pv i H, ⟨xs.length, by simp, Nat.zero_le _, h0⟩, ?_⟩
  rintro i m H ⟨rfl, hi, p⟩
  obtain ⟨qa, qb⟩ := hl i H hi p
  by_cases hlt : i < xs.length
  · obtain ⟨y, hy⟩ : ∃ y, ys[i]? = some y := ⟨_, List.getElem?_eq_getElem (by omega)⟩
    refine .inr ⟨⟨xs, ys, xs[i], y, qa, qb, by simp [hlt], hy⟩, Pv (i + 1), fun H' p' => ⟨xs.length - (i + 1), by omega, rfl, hlt, p'⟩, fun v H' yl => ?_⟩
    obtain ⟨T, x', y', e, hn, e3, a1, a2⟩ := yl
    subst e e3
    exact hs i x' y' H T (a1 xs qa) (a2 ys qb) p hn
  · have e : i = xs.length := by omega
    subst e
    exact .inl ⟨⟨xs, ys, qa, qb, .inl (Nat.le_refl _)⟩, hd H p⟩
/-- for .. in zip(xs, ys), of one length, that it leaves as they are -/
theorem for_zip {K : PySem.W.Frag} {a b : Addr} {xs ys : List V} {g : TG} {tb : TS} {D : Ends} {σ : L2.St} {H : Hp} (Pv : Nat → L2.St → Hp → Prop) (h0 : Pv 0 σ H) (e1 : ys.length = xs.length)
    (hl : ∀ i σ H, i ≤ xs.length → Pv i σ H → SqL K H a xs ∧ SqL K H b ys)
    (hs : ∀ i x y σ H T, xs[i]? = some x → ys[i]? = some y → Pv i σ H → H T = none → g (.ref T) σ (upd H T (.tup [x, y])) fun σ2 H2 => tb { D with nx := Pv (i + 1), ct := Pv (i + 1), bk := D.nx } σ2 H2) (hd : ∀ σ H, Pv xs.length σ H → D.nx σ H) :
    ∃ W : Nat → Nat → L2.St → Hp → Prop, (∃ m, W 0 m σ H) ∧ ∀ i m σ H, W i m σ H →
      ((Itz K a b).stop i H ∧ D.nx σ H) ∨ ((Itz K a b).go i H ∧ ∃ N : L2.St → Hp → Prop, (∀ σ' H', N σ' H' → ∃ m', m' < m ∧ W (i + 1) m' σ' H') ∧ ∀ x H', (Itz K a b).yld i H x H' → g x σ H' fun σ2 H2 => tb { D with nx := N, ct := N, bk := D.nx } σ2 H2) := by
  refine ⟨fun i m σ H => m = xs.length - i ∧ i ≤ xs.length ∧ Pv i σ H, ⟨xs.length, by simp, Nat.zero_le _, h0⟩, ?_⟩
  rintro i m σ H ⟨rfl, hi, p⟩
  obtain ⟨qa, qb⟩ := hl i σ H hi p
  by_cases hlt : i < xs.length
  · obtain ⟨y, hy⟩ : ∃ y, ys[i]? = some y := ⟨_, List.getElem?_eq_getElem (by omega)⟩
    refine .inr ⟨⟨xs, ys, xs[i], y, qa, qb, by simp [hlt], hy⟩, Pv (i + 1), fun σ' H' p' => ⟨xs.length - (i + 1), by omega, rfl, hlt, p'⟩, fun v H' yl => ?_⟩
    obtain ⟨T, x', y', e, hn, e3, a1, a2⟩ := yl
    subst e e3
    exact hs i x' y' σ H T (a1 xs qa) (a2 ys qb) p hn
  · have e : i = xs.length := by omega
    subst e
    exact .inl ⟨⟨xs, ys, qa, qb, .inl (Nat.le_refl _)⟩, hd σ H p⟩
section
variable {X : Cx}
/-! ## xs[j], by values -/
def rGetL (K : PySem.W.Frag) : V → V → Hp → VK → Prop := fun o i H Q => ∃ (p : Addr) (xs : List V) (j : Nat) (v : V), o = .ref p ∧ i = .int (j : Int) ∧ SqL K H p xs ∧ xs[j]? = some v ∧ Q v H
theorem get_list : PGet X (rGetL X.K) := by
  intro pins s σ H o i ov iv Q I ro ri h
  obtain ⟨p, xs, j, v, rfl, rfl, hq, hv, q⟩ := h
  cases ro
  obtain ⟨t, rfl⟩ := ri
  obtain ⟨its, r, pl, hz⟩ := I.list hq
  obtain ⟨u, hu, ru⟩ := r.get hv
  have hn := line63
  have hj := (List.getElem?_eq_some_iff.mp hv).1
  exact wpAny_getItem_list pl.isList (by omega) (by omega) (by rw [Int.toNat_natCast]; simpa using hu) ⟨v, H, I, ru, q⟩
/-! ## sorted(d), d a dict whose keys are ints -/
def rSortedD : List V → Hp → VK → Prop := fun vs H Q => ∃ (a : Addr) (kvs : List (Key × V)) (ns : List Int), vs = [V.ref a] ∧ H a = some (.dK kvs) ∧ kvs.map (·.1) = ns.map Sum.inl ∧
  ∀ (ns' : List Int) (p : Addr), ns'.Perm ns → H p = none → Q (.ref p) (upd H p (.lst (ns'.map V.int)))
theorem keys_ints : ∀ {kvs : List (Key × V)} {vs : List (Key × Value)} {ns : List Int}, KV kvs vs → kvs.map (·.1) = ns.map Sum.inl → ∀ (us : List Value), us.length = vs.length → (∀ (j : Nat) (u : Value), us[j]? = some u → ∃ k x, vs[j]? = some (k, x) ∧ keyIs k u = true) → IntsAre us ns
  | _, _, ns, .nil, e, us, hl, _ => by
    have e1 : ns = [] := by
      cases ns with
      | nil => rfl
      | cons a b => cases e
    have e2 : us = [] := List.eq_nil_of_length_eq_zero hl
    rw [e1, e2]
    exact .nil
  | _, _, ns, .cons (b := b) r t, e, us, hl, h => by
    cases ns with
    | nil => cases e
    | cons n ns =>
      rw [List.map_cons, List.map_cons] at e
      cases us with
      | nil => cases hl
      | cons u us =>
        obtain ⟨k, x, h1, h2⟩ := h 0 u rfl
        have h1' : b = (k, x) := Option.some.inj h1
        have ek : k = Sum.inl n := by
          have := (List.cons.inj e).1
          rw [r.1, h1'] at this
          exact this
        rw [ek] at h2
        obtain ⟨t', et⟩ : ∃ t', u = Value.int n t' := by
          have := relV_key (k := Sum.inl n) h2
          exact this
        rw [et]
        refine .cons n t' (keys_ints t (List.cons.inj e).2 us (by simpa using hl) fun j u hu => ?_)
        obtain ⟨k', x', h3, h4⟩ := h (j + 1) u (by simpa using hu)
        exact ⟨k', x', by simpa using h3, h4⟩
theorem cr_sortedD (hc : X.calm = true) : CallR X (.builtin "sorted") rSortedD := by
  intro pins s σ H vs us Q I r h
  obtain ⟨a, kvs, ns, rfl, hd, ek, q⟩ := h
  rw [Vals.ref1 r]
  obtain ⟨z, hsys, ws, rel, dd⟩ := dk_of I.hok hd
  obtain ⟨ep, hat⟩ := dd.dictAt
  have hlen : kvs.length = ws.length := Paired.length rel
  have hnl : ns.length = kvs.length := by
    have := congrArg List.length ek
    rw [List.length_map, List.length_map] at this
    exact this.symm
  refine PySem.Calls.call_function_entry kind_sorted plain_sorted entry_sorted (args_sorted1 _) ?_
  unfold Builtin.«sorted»
  refine wpAny_bind (m := checkCount "sorted" 1 1 _) (wpAny_pure ?_)
  refine wpAny_bind (PySem.W.kdu_collect (A := X.A.in1) (PySem.W.kdl_dict (knd := mixKind X.prog X.w) (kvs := ws) (ep := ep) hsys) (I.ok.hd hc) hat (by omega) fun h' tk acc hk hacc => ?_)
  have hal : acc.toList.length = ws.length := by rw [Array.length_toList]; exact hacc.1
  have hI : IntsAre acc.toList ns := keys_ints rel ek acc.toList hal fun j u hu => hacc.2 j u (by rw [← Array.getElem?_toList]; exact hu)
  refine wpAny_bind (wpAny_newList ?_ (by omega))
  have hoL : (h'.push (seqObj "list" acc.toList.toArray 0)).get? h'.objs.size = some (seqObj "list" acc.toList.toArray 0) := Heap.get?_push_size _ rfl
  show wpAny _ _ _ _ _ { s with heap := h'.push (seqObj "list" acc.toList.toArray 0), toks := tk }
  refine wpAny_bind (wpAny_holding (wpAny_call_entry slot_list_sort ⟨_, hoL, rfl⟩ entry_list_sort (list_sort_treeAny hoL hI (by omega) fun out ns' a1 a2 a3 => ⟨_, rfl, ?_⟩) (args_list_sort _)))
  obtain ⟨e, he⟩ := sortedHeap_at (vs := acc.toList) (out := out) hoL
  have I1 : Inv X pins σ H { s with heap := h', toks := tk } := I.kept hk
  have hz' : (ns'.map V.int).length ≤ sizeLine := by rw [List.length_map, a2.length_eq]; omega
  refine wpAny_pure ⟨_, rfl, ?_⟩
  refine ⟨.ref h'.objs.size, upd H h'.objs.size (.lst (ns'.map V.int)), I1.laid (t' := tk) (fun b o eb => ?_) (Nat.le_refl _) ⟨hz', out.toList, e, vals_of_ints a1, he⟩, rfl, q ns' _ a2 (I1.hok.fresh (Nat.le_refl _))⟩
  have lb := Heap.lt_size eb
  show (sortedHeap (h'.push (seqObj "list" acc.toList.toArray 0)) h'.objs.size acc.toList out).get? b = some o
  rw [sortedHeap_old (Nat.ne_of_lt lb) (by rw [size_push']; exact Nat.lt_succ_of_lt lb)]
  exact Heap.get?_push_of_some _ eb
end
end KG

end
section
set_option Elab.async false
namespace KM
/-! ## sums -/
theorem foldl_add (l : List Nat) (z : Nat) : l.foldl (fun a b => a + b) z = z + l.foldl (fun a b => a + b) 0 := by
  induction l generalizing z with
  | nil => simp
  | cons x r ih =>
    simp only [List.foldl_cons]
    rw [ih (z + x), ih (0 + x)]
    omega
theorem total_cons (x : Nat) (r : List Nat) : Krab.total (x :: r) = x + Krab.total r := by
  unfold Krab.total
  rw [List.foldl_cons, foldl_add]
  omega
theorem total_nil : Krab.total [] = 0 := rfl
/-- a list of naturals as Python's zints -/
def zints (l : List Nat) : List Int := l.map fun (n : Nat) => (n : Int)
theorem sum_ints : ∀ l : List Nat, (zints l).sum = (Krab.total l : Int)
  | [] => rfl
  | x :: r => by
    show ((x : Int) :: zints r).sum = _
    rw [List.sum_cons, sum_ints r, total_cons]
    omega
theorem sum_nil (l : List Nat) : Krab.sum l [] = 0 := rfl
theorem sum_cons (a : Nat) (l : List Nat) (x : Nat) (r : List Nat) : Krab.sum (a :: l) (x :: r) = a * x + Krab.sum l r := by
  unfold Krab.sum
  rw [List.length_cons, List.range_succ_eq_map, List.map_cons, List.foldl_cons, foldl_add, List.map_map]
  have e : ((fun i => (a :: l).getD i 0 * (x :: r).getD i 0) ∘ Nat.succ) = fun i => l.getD i 0 * r.getD i 0 := by
    funext i
    show (a :: l).getD (i + 1) 0 * (x :: r).getD (i + 1) 0 = _
    rw [List.getD_cons_succ, List.getD_cons_succ]
  rw [e]
  simp
/-- what the program reckons: number * (more - less), added up -/
def leads : List Nat → List Nat → List Nat → List Int
  | x :: xs, a :: as, b :: bs => (x : Int) * ((a : Int) - (b : Int)) :: leads xs as bs
  | _, _, _ => []
theorem leads_sum : ∀ (xs as bs : List Nat), as.length = xs.length → bs.length = xs.length → (leads xs as bs).sum = (Krab.sum as xs : Int) - (Krab.sum bs xs : Int)
  | [], [], [], _, _ => rfl
  | x :: xs, a :: as, b :: bs, h1, h2 => by
    have ih := leads_sum xs as bs (by simpa using h1) (by simpa using h2)
    show ((x : Int) * ((a : Int) - (b : Int)) :: leads xs as bs).sum = _
    rw [List.sum_cons, ih, sum_cons, sum_cons]
    have e1 : ((a * x + Krab.sum as xs : Nat) : Int) = (a : Int) * (x : Int) + (Krab.sum as xs : Int) := by
      rw [Int.natCast_add, Int.natCast_mul]
    have e2 : ((b * x + Krab.sum bs xs : Nat) : Int) = (b : Int) * (x : Int) + (Krab.sum bs xs : Int) := by
      rw [Int.natCast_add, Int.natCast_mul]
    rw [e1, e2, Int.mul_sub, Int.mul_comm (x : Int) a, Int.mul_comm (x : Int) b]
    omega
  | [], _ :: _, _, h, _ => by simp at h
  | [], [], _ :: _, _, h => by simp at h
  | _ :: _, [], _, h, _ => by simp at h
  | _ :: _, _ :: _, [], _, h => by simp at h
/-- a side's, a told thing's form for n things -/
structure TOk (n : Nat) (t : Krab.Told) : Prop where
  la : t.a.length = n
  lb : t.b.length = n
  a3 : ∀ x ∈ t.a, x ≤ 3
  b3 : ∀ x ∈ t.b, x ≤ 3
  k : t.kind ≤ 2
/-- what «agrees» answers by the lead -/
def said (k : Nat) (z : Int) : Bool := if k = 0 then decide (0 < z) else if k = 1 then decide (0 ≤ z) else decide (z = 0)
theorem holds_said {n : Nat} {t : Krab.Told} {x : List Nat} (h : TOk n t) (hx : x.length = n) : t.holds x = said t.kind (leads x t.a t.b).sum := by
  rw [leads_sum x t.a t.b (h.la.trans hx.symm) (h.lb.trans hx.symm)]
  obtain ⟨a, b, k⟩ := t
  have hk : k ≤ 2 := h.k
  clear h
  unfold Krab.Told.holds said
  dsimp only
  match k, hk with
  | 0, _ =>
    show decide _ = _
    rw [if_pos rfl]
    exact decide_eq_decide.mpr (by omega)
  | 1, _ =>
    show decide _ = _
    rw [if_neg (by decide), if_pos rfl]
    exact decide_eq_decide.mpr (by omega)
  | 2, _ =>
    show (Krab.sum a x == Krab.sum b x) = _
    rw [if_neg (by decide), if_neg (by decide)]
    rw [show (Krab.sum a x == Krab.sum b x) = decide (Krab.sum a x = Krab.sum b x) from rfl]
    exact decide_eq_decide.mpr (by omega)
/-! ## all rows -/
def digits : List Nat := (List.range Krab.mostNumber).map fun x => x + 1
def grow (g : List (List Nat)) : List (List Nat) := g.flatMap fun r => digits.map fun x => r ++ [x]
theorem rows_succ (n : Nat) : Krab.rows (n + 1) = digits.flatMap fun x => (Krab.rows n).map fun r => x :: r := rfl
theorem grow_cons (x : Nat) : ∀ g : List (List Nat), grow (g.map fun r => x :: r) = (grow g).map fun r => x :: r
  | [] => rfl
  | a :: g => by
    have ih := grow_cons x g
    unfold grow at ih ⊢
    rw [List.map_cons, List.flatMap_cons, List.flatMap_cons, List.map_append, ih, List.map_map]
    rfl
theorem grow_flat (f : Nat → List (List Nat)) : ∀ d : List Nat, grow (d.flatMap f) = d.flatMap fun x => grow (f x)
  | [] => rfl
  | a :: d => by
    have ih := grow_flat f d
    unfold grow at ih ⊢
    rw [List.flatMap_cons, List.flatMap_append, ih, List.flatMap_cons]
theorem rows_grow : ∀ n : Nat, Krab.rows (n + 1) = grow (Krab.rows n)
  | 0 => by decide
  | n + 1 => by
    have ih := rows_grow n
    have e : grow (Krab.rows (n + 1)) = digits.flatMap fun x => grow ((Krab.rows n).map fun r => x :: r) := by
      rw [rows_succ n, grow_flat]
    rw [e, rows_succ (n + 1)]
    congr 1
    funext x
    rw [grow_cons, ← ih]
theorem rows_len : ∀ (n : Nat) (r : List Nat), r ∈ Krab.rows n → r.length = n
  | 0, r, h => by
    have e : r = [] := List.mem_singleton.mp h
    rw [e]; rfl
  | n + 1, r, h => by
    rw [rows_succ] at h
    obtain ⟨x, _, h2⟩ := List.mem_flatMap.mp h
    obtain ⟨q, hq, e⟩ := List.mem_map.mp h2
    rw [← e, List.length_cons, rows_len n q hq]
theorem rows_le : ∀ (n : Nat) (r : List Nat), r ∈ Krab.rows n → ∀ x ∈ r, 1 ≤ x ∧ x ≤ 8
  | 0, r, h => by
    have e : r = [] := List.mem_singleton.mp h
    rw [e]; intro x hx; cases hx
  | n + 1, r, h => by
    rw [rows_succ] at h
    obtain ⟨x, hx, h2⟩ := List.mem_flatMap.mp h
    obtain ⟨q, hq, e⟩ := List.mem_map.mp h2
    rw [← e]
    intro y hy
    rcases List.mem_cons.mp hy with rfl | hy
    · obtain ⟨k, hk, e2⟩ := List.mem_map.mp hx
      have := List.mem_range.mp hk
      unfold Krab.mostNumber at this
      omega
    · exact rows_le n q hq y hy
theorem rows_count : ∀ n : Nat, (Krab.rows n).length = 8 ^ n
  | 0 => rfl
  | n + 1 => by
    have ih := rows_count n
    rw [rows_succ]
    have all : ∀ d : List Nat, (d.flatMap fun x => (Krab.rows n).map fun r => x :: r).length = d.length * 8 ^ n := by
      intro d
      induction d with
      | nil => simp
      | cons a d ih2 => rw [List.flatMap_cons, List.length_append, ih2, List.length_map, ih, List.length_cons, Nat.succ_mul, Nat.add_comm]
    rw [all]
    show 8 * 8 ^ n = 8 ^ (n + 1)
    rw [Nat.pow_succ, Nat.mul_comm]
/-! ## what fits -/
theorem fit_nil (n : Nat) : Krab.fitBy n [] = Krab.rows n := by
  unfold Krab.fitBy
  exact List.filter_eq_self.mpr fun a _ => rfl
theorem fit_snoc (n : Nat) (l : List Krab.Told) (t : Krab.Told) : Krab.fitBy n (l ++ [t]) = (Krab.fitBy n l).filter fun x => t.holds x := by
  unfold Krab.fitBy
  rw [List.filter_filter]
  congr 1
  funext x
  rw [List.all_append, List.all_cons, List.all_nil, Bool.and_true, Bool.and_comm]
theorem fit_len {n : Nat} {l : List Krab.Told} {x : List Nat} (h : x ∈ Krab.fitBy n l) : x.length = n := rows_len n x (List.mem_filter.mp h).1
theorem fit_le {n : Nat} {l : List Krab.Told} {x : List Nat} (h : x ∈ Krab.fitBy n l) : ∀ y ∈ x, 1 ≤ y ∧ y ≤ 8 := rows_le n x (List.mem_filter.mp h).1
theorem fit_count (n : Nat) (l : List Krab.Told) : (Krab.fitBy n l).length ≤ 8 ^ n := by
  rw [← rows_count n]
  exact List.length_filter_le _ _
/-! ## the least -/
def pick (z : Option (List Nat)) (x : List Nat) : Option (List Nat) := match z with
  | none => some x
  | some y => if Krab.total x < Krab.total y then some x else some y
theorem least_pick (l : List (List Nat)) : Krab.least l = l.foldl pick none := rfl
theorem pick_keeps {y : List Nat} : ∀ l : List (List Nat), (∀ x ∈ l, Krab.total y ≤ Krab.total x) → l.foldl pick (some y) = some y
  | [], _ => rfl
  | x :: r, h => by
    have h1 := h x (List.mem_cons_self ..)
    show r.foldl pick (if Krab.total x < Krab.total y then some x else some y) = some y
    rw [if_neg (by omega)]
    exact pick_keeps r fun z hz => h z (List.mem_cons_of_mem _ hz)
theorem pick_to {y : List Nat} : ∀ (l r : List (List Nat)) (z : Option (List Nat)), (∀ w, z = some w → Krab.total y < Krab.total w) → (∀ x ∈ l, Krab.total y < Krab.total x) → (∀ x ∈ r, Krab.total y ≤ Krab.total x) →
    (l ++ y :: r).foldl pick z = some y
  | [], r, z, hz, _, hr => by
    show r.foldl pick (pick z y) = some y
    have e : pick z y = some y := by
      cases z with
      | none => rfl
      | some w =>
        show (if Krab.total y < Krab.total w then some y else some w) = some y
        rw [if_pos (hz w rfl)]
    rw [e]
    exact pick_keeps r hr
  | x :: l, r, z, hz, hl, hr => by
    show (l ++ y :: r).foldl pick (pick z x) = some y
    refine pick_to l r _ (fun w hw => ?_) (fun v hv => hl v (List.mem_cons_of_mem _ hv)) hr
    have hx := hl x (List.mem_cons_self ..)
    cases z with
    | none =>
      have e : x = w := Option.some.inj hw
      rw [← e]; exact hx
    | some v =>
      have hw' : (if Krab.total x < Krab.total v then some x else some v) = some w := hw
      by_cases c : Krab.total x < Krab.total v
      · rw [if_pos c] at hw'
        rw [← Option.some.inj hw']; exact hx
      · rw [if_neg c] at hw'
        rw [← Option.some.inj hw']; exact hz v rfl
/-- the first of those with the least total -/
theorem least_at {l : List (List Nat)} {i : Nat} {y : List Nat} (h : l[i]? = some y) (hb : ∀ (j : Nat) (x : List Nat), l[j]? = some x → Krab.total y ≤ Krab.total x ∧ (j < i → Krab.total y < Krab.total x)) : Krab.least l = some y := by
  obtain ⟨hi, e⟩ := List.getElem?_eq_some_iff.mp h
  have hl : l = l.take i ++ y :: l.drop (i + 1) := by
    rw [← e, List.getElem_cons_drop hi, List.take_append_drop]
  rw [least_pick, hl]
  refine pick_to _ _ none (fun w hw => nomatch hw) (fun x hx => ?_) fun x hx => ?_
  · obtain ⟨j, hj, e2⟩ := List.getElem_of_mem hx
    rw [List.length_take] at hj
    rw [List.getElem_take] at e2
    exact (hb j x (by rw [List.getElem?_eq_getElem (by omega), e2])).2 (by omega)
  · obtain ⟨j, hj, e2⟩ := List.getElem_of_mem hx
    rw [List.length_drop] at hj
    rw [List.getElem_drop] at e2
    exact (hb (i + 1 + j) x (by rw [List.getElem?_eq_getElem (by omega), e2])).1
theorem least_nil : Krab.least [] = none := rfl
end KM

end
section
set_option Elab.async false
namespace KM
/-! ## the flat list of calls -/
/-- a call by its number, its whole numbers, its rows; the specification's word for it -/
inductive Form : List (List Int) → Nat → List Nat → List (List Nat) → Krab.Call → Prop
  | begin_ (n : Nat) : Form [[0, (n : Int)]] 0 [n] [] (.begin_ n)
  | tell (k : Nat) (a b : List Nat) : Form [[1, (k : Int)], zints a, zints b] 1 [k] [a, b] (.tell k a b)
  | differ (k i j u v : Nat) : Form [[2, (k : Int), (i : Int), (j : Int), (u : Int), (v : Int)]] 2 [k, i, j, u, v] [] (.differ k i j u v)
  | untell (t : Nat) : Form [[3, (t : Int)]] 3 [t] [] (.untell t)
  | can : Form [[4]] 4 [] [] .can
  | ways : Form [[5]] 5 [] [] .ways
  | least : Form [[6]] 6 [] [] .least
  | nth (k : Nat) : Form [[7, (k : Int)]] 7 [k] [] (.nth k)
  | fits (x : List Nat) : Form [[8], zints x] 8 [] [x] (.fits x)
  | wrong (x : List Nat) : Form [[9], zints x] 9 [] [x] (.wrong x)
  | follows (k : Nat) (a b : List Nat) : Form [[10, (k : Int)], zints a, zints b] 10 [k] [a, b] (.follows k a b)
  | may (k : Nat) (a b : List Nat) : Form [[11, (k : Int)], zints a, zints b] 11 [k] [a, b] (.may k a b)
  | more (i j : Nat) : Form [[12, (i : Int), (j : Int)]] 12 [i, j] [] (.more i j)
  | range_ (i : Nat) : Form [[13, (i : Int)]] 13 [i] [] (.range_ i)
  | sums (a : List Nat) : Form [[14], zints a] 14 [] [a] (.sums a)
  | clashes : Form [[15]] 15 [] [] .clashes
  | spare : Form [[16]] 16 [] [] .spare
  | cancels (m : List Nat) : Form [[17], zints m] 17 [] [m] (.cancels m)
  | cancel : Form [[18]] 18 [] [] .cancel
  | balance (m : List Nat) : Form [[19], zints m] 19 [] [m] (.balance m)
  | look (t : Nat) : Form [[20, (t : Int)]] 20 [t] [] (.look t)
  | state : Form [[21]] 21 [] [] .state
theorem nat_of {z : Int} {b : Nat} (h : KrabNeutral.natural z b = true) : ∃ n : Nat, z = (n : Int) := by
  unfold KrabNeutral.natural at h
  rw [Bool.and_eq_true] at h
  have h1 := of_decide_eq_true h.1
  exact ⟨z.toNat, by omega⟩
theorem nats_of : ∀ {r : List Int} {b : Nat}, r.all (fun (z : Int) => KrabNeutral.natural z b) = true → ∃ l : List Nat, r = zints l
  | [], _, _ => ⟨[], rfl⟩
  | z :: r, b, h => by
    rw [List.all_cons, Bool.and_eq_true] at h
    obtain ⟨n, e⟩ := nat_of h.1
    obtain ⟨l, e2⟩ := nats_of (r := r) h.2
    exact ⟨n :: l, by rw [e, e2]; rfl⟩
theorem toNat_ints : ∀ l : List Nat, (zints l).map Int.toNat = l
  | [] => rfl
  | x :: r => by
    show ((x : Int).toNat) :: (zints r).map Int.toNat = x :: r
    rw [toNat_ints r, Int.toNat_natCast]
theorem ints_length (l : List Nat) : (zints l).length = l.length := by unfold zints; rw [List.length_map]
/-- what a call's number says of its form -/
def FInv (k : Nat) (a : List Nat) (rs : List (List Nat)) (q : Krab.Call) : Prop := match k with
  | 0 => ∃ n, a = [n] ∧ rs = [] ∧ q = .begin_ n
  | 1 => ∃ k x y, a = [k] ∧ rs = [x, y] ∧ q = .tell k x y
  | 2 => ∃ k i j u v, a = [k, i, j, u, v] ∧ rs = [] ∧ q = .differ k i j u v
  | 3 => ∃ n, a = [n] ∧ rs = [] ∧ q = .untell n
  | 4 => a = [] ∧ rs = [] ∧ q = .can
  | 5 => a = [] ∧ rs = [] ∧ q = .ways
  | 6 => a = [] ∧ rs = [] ∧ q = .least
  | 7 => ∃ n, a = [n] ∧ rs = [] ∧ q = .nth n
  | 8 => ∃ x, a = [] ∧ rs = [x] ∧ q = .fits x
  | 9 => ∃ x, a = [] ∧ rs = [x] ∧ q = .wrong x
  | 10 => ∃ k x y, a = [k] ∧ rs = [x, y] ∧ q = .follows k x y
  | 11 => ∃ k x y, a = [k] ∧ rs = [x, y] ∧ q = .may k x y
  | 12 => ∃ i j, a = [i, j] ∧ rs = [] ∧ q = .more i j
  | 13 => ∃ n, a = [n] ∧ rs = [] ∧ q = .range_ n
  | 14 => ∃ x, a = [] ∧ rs = [x] ∧ q = .sums x
  | 15 => a = [] ∧ rs = [] ∧ q = .clashes
  | 16 => a = [] ∧ rs = [] ∧ q = .spare
  | 17 => ∃ x, a = [] ∧ rs = [x] ∧ q = .cancels x
  | 18 => a = [] ∧ rs = [] ∧ q = .cancel
  | 19 => ∃ x, a = [] ∧ rs = [x] ∧ q = .balance x
  | 20 => ∃ n, a = [n] ∧ rs = [] ∧ q = .look n
  | 21 => a = [] ∧ rs = [] ∧ q = .state
  | _ => False
theorem form_inv {c : List (List Int)} {k : Nat} {a : List Nat} {rs : List (List Nat)} {q : Krab.Call} (h : Form c k a rs q) : FInv k a rs q := by
  cases h <;> first
    | exact ⟨rfl, rfl, rfl⟩
    | exact ⟨_, rfl, rfl, rfl⟩
    | exact ⟨_, _, rfl, rfl, rfl⟩
    | exact ⟨_, _, _, rfl, rfl, rfl⟩
    | exact ⟨_, _, _, _, _, rfl, rfl, rfl⟩
def Formed (c : List (List Int)) : Prop := ∃ k a rs q, Form c k a rs q ∧ ∀ r ∈ rs, r.length < 256
structure Good (c : List (List Int)) : Prop where
  whole : PyKrab.whole c = c
  form : KrabNeutral.asked1 c = true → Formed c
theorem bad_leaf {c : List (List Int)} (hw : PyKrab.whole c = c) (hb : KrabNeutral.asked1 c = false) : Good c := ⟨hw, fun h => by rw [hb] at h; cases h⟩
theorem one_row {r l : List Nat} (h1 : (zints r).length < 256) (h2 : l ∈ [r]) : l.length < 256 := by
  rw [List.mem_singleton.mp h2, ← ints_length]
  exact h1
theorem two_row {r r' l : List Nat} (h1 : (zints r).length < 256) (h1' : (zints r').length < 256) (h2 : l ∈ [r, r']) : l.length < 256 := by
  rcases List.mem_cons.mp h2 with e | h2
  · rw [e, ← ints_length]
    exact h1
  · exact one_row h1' h2
theorem leafB {z : Int} {k : Nat} {c : List (List Int)} {f : Nat → Krab.Call} (h : KrabNeutral.natural z 32 = true) (g : ∀ n : Nat, z = n → Form c k [n] [] (f n)) : Formed c := by
  obtain ⟨n, e⟩ := nat_of h
  exact ⟨_, _, _, _, g n e, fun r hr => nomatch hr⟩
theorem leafE {x : List Int} {k : Nat} {c : List (List Int)} {f : List Nat → Krab.Call} (h : ((x.all fun (z : Int) => KrabNeutral.natural z 32) && decide (x.length < 256)) = true) (g : ∀ l : List Nat, x = zints l → Form c k [] [l] (f l)) : Formed c := by
  rw [Bool.and_eq_true] at h
  obtain ⟨l, e⟩ := nats_of h.1
  exact ⟨_, _, _, _, g l e, fun r hr => one_row (by rw [← e]; exact of_decide_eq_true h.2) hr⟩
theorem leafF {z : Int} {x y : List Int} {k : Nat} {c : List (List Int)} {f : Nat → List Nat → List Nat → Krab.Call}
    (h : (KrabNeutral.natural z 32 && (x.all fun (z : Int) => KrabNeutral.natural z 32) && decide (x.length < 256) && (y.all fun (z : Int) => KrabNeutral.natural z 32) && decide (y.length < 256)) = true)
    (g : ∀ (n : Nat) (l m : List Nat), z = n → x = zints l → y = zints m → Form c k [n] [l, m] (f n l m)) : Formed c := by
  simp only [Bool.and_eq_true] at h
  obtain ⟨⟨⟨⟨h1, h2⟩, h3⟩, h4⟩, h5⟩ := h
  obtain ⟨n, e1⟩ := nat_of h1
  obtain ⟨l, e2⟩ := nats_of h2
  obtain ⟨m, e3⟩ := nats_of h4
  exact ⟨_, _, _, _, g n l m e1 e2 e3, fun r hr => two_row (by rw [← e2]; exact of_decide_eq_true h3) (by rw [← e3]; exact of_decide_eq_true h5) hr⟩
theorem case_0 (zs : List Int) (rs : List (List Int)) : Good ((0 :: zs) :: rs) := by
  rcases zs with _ | ⟨a, _ | ⟨b, zs⟩⟩
  · exact bad_leaf rfl rfl
  · rcases rs with _ | ⟨r, rs⟩
    · exact ⟨rfl, fun h => leafB (z := a) h fun n e => by subst e; exact .begin_ n⟩
    · exact bad_leaf rfl rfl
  · exact bad_leaf rfl rfl
theorem case_1 (zs : List Int) (rs : List (List Int)) : Good ((1 :: zs) :: rs) := by
  rcases zs with _ | ⟨a, _ | ⟨b, zs⟩⟩
  · exact bad_leaf rfl rfl
  · rcases rs with _ | ⟨r, _ | ⟨r2, _ | ⟨r3, rs⟩⟩⟩
    · exact bad_leaf rfl rfl
    · exact bad_leaf rfl rfl
    · exact ⟨rfl, fun h => leafF (z := a) (x := r) (y := r2) h fun n l m e1 e2 e3 => by subst e1 e2 e3; exact .tell n l m⟩
    · exact bad_leaf rfl rfl
  · exact bad_leaf rfl rfl
theorem case_2 (zs : List Int) (rs : List (List Int)) : Good ((2 :: zs) :: rs) := by
  rcases zs with _ | ⟨a, _ | ⟨b, _ | ⟨c, _ | ⟨d, _ | ⟨e, _ | ⟨f, zs⟩⟩⟩⟩⟩⟩
  · exact bad_leaf rfl rfl
  · exact bad_leaf rfl rfl
  · exact bad_leaf rfl rfl
  · exact bad_leaf rfl rfl
  · exact bad_leaf rfl rfl
  · rcases rs with _ | ⟨r, rs⟩
    · refine ⟨rfl, fun h => ?_⟩
      have h : (KrabNeutral.natural a 32 && KrabNeutral.natural b 32 && KrabNeutral.natural c 32 && KrabNeutral.natural d 32 && KrabNeutral.natural e 32) = true := h
      simp only [Bool.and_eq_true] at h
      obtain ⟨⟨⟨⟨h1, h2⟩, h3⟩, h4⟩, h5⟩ := h
      obtain ⟨n1, rfl⟩ := nat_of h1
      obtain ⟨n2, rfl⟩ := nat_of h2
      obtain ⟨n3, rfl⟩ := nat_of h3
      obtain ⟨n4, rfl⟩ := nat_of h4
      obtain ⟨n5, rfl⟩ := nat_of h5
      exact ⟨_, _, _, _, .differ n1 n2 n3 n4 n5, fun r hr => nomatch hr⟩
    · exact bad_leaf rfl rfl
  · exact bad_leaf rfl rfl
theorem case_3 (zs : List Int) (rs : List (List Int)) : Good ((3 :: zs) :: rs) := by
  rcases zs with _ | ⟨a, _ | ⟨b, zs⟩⟩
  · exact bad_leaf rfl rfl
  · rcases rs with _ | ⟨r, rs⟩
    · exact ⟨rfl, fun h => leafB (z := a) h fun n e => by subst e; exact .untell n⟩
    · exact bad_leaf rfl rfl
  · exact bad_leaf rfl rfl
theorem case_4 (zs : List Int) (rs : List (List Int)) : Good ((4 :: zs) :: rs) := by
  rcases zs with _ | ⟨a, zs⟩
  · rcases rs with _ | ⟨r, rs⟩
    · exact ⟨rfl, fun _ => ⟨_, _, _, _, .can, fun r hr => nomatch hr⟩⟩
    · exact bad_leaf rfl rfl
  · exact bad_leaf rfl rfl
theorem case_5 (zs : List Int) (rs : List (List Int)) : Good ((5 :: zs) :: rs) := by
  rcases zs with _ | ⟨a, zs⟩
  · rcases rs with _ | ⟨r, rs⟩
    · exact ⟨rfl, fun _ => ⟨_, _, _, _, .ways, fun r hr => nomatch hr⟩⟩
    · exact bad_leaf rfl rfl
  · exact bad_leaf rfl rfl
theorem case_6 (zs : List Int) (rs : List (List Int)) : Good ((6 :: zs) :: rs) := by
  rcases zs with _ | ⟨a, zs⟩
  · rcases rs with _ | ⟨r, rs⟩
    · exact ⟨rfl, fun _ => ⟨_, _, _, _, .least, fun r hr => nomatch hr⟩⟩
    · exact bad_leaf rfl rfl
  · exact bad_leaf rfl rfl
theorem case_7 (zs : List Int) (rs : List (List Int)) : Good ((7 :: zs) :: rs) := by
  rcases zs with _ | ⟨a, _ | ⟨b, zs⟩⟩
  · exact bad_leaf rfl rfl
  · rcases rs with _ | ⟨r, rs⟩
    · exact ⟨rfl, fun h => leafB (z := a) h fun n e => by subst e; exact .nth n⟩
    · exact bad_leaf rfl rfl
  · exact bad_leaf rfl rfl
theorem case_8 (zs : List Int) (rs : List (List Int)) : Good ((8 :: zs) :: rs) := by
  rcases zs with _ | ⟨a, zs⟩
  · rcases rs with _ | ⟨r, _ | ⟨r2, rs⟩⟩
    · exact bad_leaf rfl rfl
    · exact ⟨rfl, fun h => leafE (x := r) h fun l e => by subst e; exact .fits l⟩
    · exact bad_leaf rfl rfl
  · exact bad_leaf rfl rfl
theorem case_9 (zs : List Int) (rs : List (List Int)) : Good ((9 :: zs) :: rs) := by
  rcases zs with _ | ⟨a, zs⟩
  · rcases rs with _ | ⟨r, _ | ⟨r2, rs⟩⟩
    · exact bad_leaf rfl rfl
    · exact ⟨rfl, fun h => leafE (x := r) h fun l e => by subst e; exact .wrong l⟩
    · exact bad_leaf rfl rfl
  · exact bad_leaf rfl rfl
theorem case_10 (zs : List Int) (rs : List (List Int)) : Good ((10 :: zs) :: rs) := by
  rcases zs with _ | ⟨a, _ | ⟨b, zs⟩⟩
  · exact bad_leaf rfl rfl
  · rcases rs with _ | ⟨r, _ | ⟨r2, _ | ⟨r3, rs⟩⟩⟩
    · exact bad_leaf rfl rfl
    · exact bad_leaf rfl rfl
    · exact ⟨rfl, fun h => leafF (z := a) (x := r) (y := r2) h fun n l m e1 e2 e3 => by subst e1 e2 e3; exact .follows n l m⟩
    · exact bad_leaf rfl rfl
  · exact bad_leaf rfl rfl
theorem case_11 (zs : List Int) (rs : List (List Int)) : Good ((11 :: zs) :: rs) := by
  rcases zs with _ | ⟨a, _ | ⟨b, zs⟩⟩
  · exact bad_leaf rfl rfl
  · rcases rs with _ | ⟨r, _ | ⟨r2, _ | ⟨r3, rs⟩⟩⟩
    · exact bad_leaf rfl rfl
    · exact bad_leaf rfl rfl
    · exact ⟨rfl, fun h => leafF (z := a) (x := r) (y := r2) h fun n l m e1 e2 e3 => by subst e1 e2 e3; exact .may n l m⟩
    · exact bad_leaf rfl rfl
  · exact bad_leaf rfl rfl
theorem case_12 (zs : List Int) (rs : List (List Int)) : Good ((12 :: zs) :: rs) := by
  rcases zs with _ | ⟨a, _ | ⟨b, _ | ⟨c, zs⟩⟩⟩
  · exact bad_leaf rfl rfl
  · exact bad_leaf rfl rfl
  · rcases rs with _ | ⟨r, rs⟩
    · refine ⟨rfl, fun h => ?_⟩
      have h : (KrabNeutral.natural a 32 && KrabNeutral.natural b 32) = true := h
      rw [Bool.and_eq_true] at h
      obtain ⟨n1, rfl⟩ := nat_of h.1
      obtain ⟨n2, rfl⟩ := nat_of h.2
      exact ⟨_, _, _, _, .more n1 n2, fun r hr => nomatch hr⟩
    · exact bad_leaf rfl rfl
  · exact bad_leaf rfl rfl
theorem case_13 (zs : List Int) (rs : List (List Int)) : Good ((13 :: zs) :: rs) := by
  rcases zs with _ | ⟨a, _ | ⟨b, zs⟩⟩
  · exact bad_leaf rfl rfl
  · rcases rs with _ | ⟨r, rs⟩
    · exact ⟨rfl, fun h => leafB (z := a) h fun n e => by subst e; exact .range_ n⟩
    · exact bad_leaf rfl rfl
  · exact bad_leaf rfl rfl
theorem case_14 (zs : List Int) (rs : List (List Int)) : Good ((14 :: zs) :: rs) := by
  rcases zs with _ | ⟨a, zs⟩
  · rcases rs with _ | ⟨r, _ | ⟨r2, rs⟩⟩
    · exact bad_leaf rfl rfl
    · exact ⟨rfl, fun h => leafE (x := r) h fun l e => by subst e; exact .sums l⟩
    · exact bad_leaf rfl rfl
  · exact bad_leaf rfl rfl
theorem case_15 (zs : List Int) (rs : List (List Int)) : Good ((15 :: zs) :: rs) := by
  rcases zs with _ | ⟨a, zs⟩
  · rcases rs with _ | ⟨r, rs⟩
    · exact ⟨rfl, fun _ => ⟨_, _, _, _, .clashes, fun r hr => nomatch hr⟩⟩
    · exact bad_leaf rfl rfl
  · exact bad_leaf rfl rfl
theorem case_16 (zs : List Int) (rs : List (List Int)) : Good ((16 :: zs) :: rs) := by
  rcases zs with _ | ⟨a, zs⟩
  · rcases rs with _ | ⟨r, rs⟩
    · exact ⟨rfl, fun _ => ⟨_, _, _, _, .spare, fun r hr => nomatch hr⟩⟩
    · exact bad_leaf rfl rfl
  · exact bad_leaf rfl rfl
theorem case_17 (zs : List Int) (rs : List (List Int)) : Good ((17 :: zs) :: rs) := by
  rcases zs with _ | ⟨a, zs⟩
  · rcases rs with _ | ⟨r, _ | ⟨r2, rs⟩⟩
    · exact bad_leaf rfl rfl
    · exact ⟨rfl, fun h => leafE (x := r) h fun l e => by subst e; exact .cancels l⟩
    · exact bad_leaf rfl rfl
  · exact bad_leaf rfl rfl
theorem case_18 (zs : List Int) (rs : List (List Int)) : Good ((18 :: zs) :: rs) := by
  rcases zs with _ | ⟨a, zs⟩
  · rcases rs with _ | ⟨r, rs⟩
    · exact ⟨rfl, fun _ => ⟨_, _, _, _, .cancel, fun r hr => nomatch hr⟩⟩
    · exact bad_leaf rfl rfl
  · exact bad_leaf rfl rfl
theorem case_19 (zs : List Int) (rs : List (List Int)) : Good ((19 :: zs) :: rs) := by
  rcases zs with _ | ⟨a, zs⟩
  · rcases rs with _ | ⟨r, _ | ⟨r2, rs⟩⟩
    · exact bad_leaf rfl rfl
    · exact ⟨rfl, fun h => leafE (x := r) h fun l e => by subst e; exact .balance l⟩
    · exact bad_leaf rfl rfl
  · exact bad_leaf rfl rfl
theorem case_20 (zs : List Int) (rs : List (List Int)) : Good ((20 :: zs) :: rs) := by
  rcases zs with _ | ⟨a, _ | ⟨b, zs⟩⟩
  · exact bad_leaf rfl rfl
  · rcases rs with _ | ⟨r, rs⟩
    · exact ⟨rfl, fun h => leafB (z := a) h fun n e => by subst e; exact .look n⟩
    · exact bad_leaf rfl rfl
  · exact bad_leaf rfl rfl
theorem case_21 (zs : List Int) (rs : List (List Int)) : Good ((21 :: zs) :: rs) := by
  rcases zs with _ | ⟨a, zs⟩
  · rcases rs with _ | ⟨r, rs⟩
    · exact ⟨rfl, fun _ => ⟨_, _, _, _, .state, fun r hr => nomatch hr⟩⟩
    · exact bad_leaf rfl rfl
  · exact bad_leaf rfl rfl
theorem good_all : ∀ c : List (List Int), Good c
  | [] => bad_leaf rfl rfl
  | [] :: _ => bad_leaf rfl rfl
  | (.negSucc _ :: _) :: _ => bad_leaf rfl rfl
  | (.ofNat n :: zs) :: rs => match n with
    | 0 => case_0 zs rs
    | 1 => case_1 zs rs
    | 2 => case_2 zs rs
    | 3 => case_3 zs rs
    | 4 => case_4 zs rs
    | 5 => case_5 zs rs
    | 6 => case_6 zs rs
    | 7 => case_7 zs rs
    | 8 => case_8 zs rs
    | 9 => case_9 zs rs
    | 10 => case_10 zs rs
    | 11 => case_11 zs rs
    | 12 => case_12 zs rs
    | 13 => case_13 zs rs
    | 14 => case_14 zs rs
    | 15 => case_15 zs rs
    | 16 => case_16 zs rs
    | 17 => case_17 zs rs
    | 18 => case_18 zs rs
    | 19 => case_19 zs rs
    | 20 => case_20 zs rs
    | 21 => case_21 zs rs
    | n + 22 => bad_leaf rfl rfl
theorem form_of {c : List (List Int)} (h : KrabNeutral.asked1 c = true) : ∃ k a rs q, Form c k a rs q ∧ ∀ r ∈ rs, r.length < 256 := (good_all c).form h
theorem map_whole (cs : List (List (List Int))) : cs.map PyKrab.whole = cs := by
  have e : PyKrab.whole = id := funext fun c => (good_all c).whole
  rw [e, List.map_id]
theorem answers_of {l : List Int} {cs : List (List (List Int))} (h : PyFlat.calls PyKrab.shape l.length l = some cs) : PyKrab.answers l = PyFlat.told (PyFlat.played KrabNeutral.step KrabNeutral.start cs) := by
  unfold PyKrab.answers PyKrab.calls
  rw [h]
  show PyFlat.told (PyFlat.played KrabNeutral.step KrabNeutral.start (cs.map PyKrab.whole)) = _
  rw [map_whole]
theorem asked_of {l : List Int} (h : PyKrab.answers_asked l = true) : ∃ cs, l = PyFlat.put cs ∧ (∀ c ∈ cs, PyFlat.okCall PyKrab.shape c ∧ KrabNeutral.asked1 c = true) ∧ cs.length ≤ 25 ∧
    PyKrab.answers l = PyFlat.told (PyFlat.played KrabNeutral.step KrabNeutral.start cs) ∧ (PyKrab.answers l).length ≤ 10000000 := by
  unfold PyKrab.answers_asked at h
  cases e : PyFlat.calls PyKrab.shape l.length l with
  | none => rw [e] at h; cases h
  | some cs =>
    rw [e] at h
    have h' : (PyFlat.atMost 25 cs && PyInside.calls PyKrab.bound cs && KrabNeutral.asked (cs.map PyKrab.whole) && PyFlat.short 10000000 (PyKrab.answers l)) = true := h
    rw [map_whole, Bool.and_eq_true, Bool.and_eq_true, Bool.and_eq_true] at h'
    obtain ⟨⟨⟨h1, _⟩, h3⟩, h4⟩ := h'
    unfold KrabNeutral.asked at h3
    rw [Bool.and_eq_true] at h3
    obtain ⟨a1, a2⟩ := PyFlat.put_calls _ _ _ e
    exact ⟨cs, a1, fun c hc => ⟨a2 c hc, List.all_eq_true.mp h3.1 c hc⟩, of_decide_eq_true h1, answers_of e, of_decide_eq_true h4⟩
theorem form_call {c : List (List Int)} {k : Nat} {a : List Nat} {rs : List (List Nat)} {q : Krab.Call} (h : Form c k a rs q) : KrabNeutral.call c = q := by
  cases h <;> first
    | rfl
    | (show Krab.Call.fits ((zints _).map Int.toNat) = _; rw [toNat_ints])
    | (show Krab.Call.wrong ((zints _).map Int.toNat) = _; rw [toNat_ints])
    | (show Krab.Call.sums ((zints _).map Int.toNat) = _; rw [toNat_ints])
    | (show Krab.Call.cancels ((zints _).map Int.toNat) = _; rw [toNat_ints])
    | (show Krab.Call.balance ((zints _).map Int.toNat) = _; rw [toNat_ints])
    | (show Krab.Call.tell _ ((zints _).map Int.toNat) ((zints _).map Int.toNat) = _; rw [toNat_ints, toNat_ints]; rfl)
    | (show Krab.Call.follows _ ((zints _).map Int.toNat) ((zints _).map Int.toNat) = _; rw [toNat_ints, toNat_ints]; rfl)
    | (show Krab.Call.may _ ((zints _).map Int.toNat) ((zints _).map Int.toNat) = _; rw [toNat_ints, toNat_ints]; rfl)
/-- how many whole numbers, how many rows -/
def arity (k : Nat) : Nat × Nat := [(1, 0), (1, 2), (5, 0), (1, 0), (0, 0), (0, 0), (0, 0), (1, 0), (0, 1), (0, 1), (1, 2), (1, 2), (2, 0), (1, 0), (0, 1), (0, 0), (0, 0), (0, 1), (0, 0), (0, 1), (1, 0), (0, 0)].getD k (0, 0)
theorem form_arity {c : List (List Int)} {k : Nat} {a : List Nat} {rs : List (List Nat)} {q : Krab.Call} (h : Form c k a rs q) : k < 22 ∧ arity k = (a.length, rs.length) ∧ c = ((k : Int) :: zints a) :: rs.map zints := by
  cases h <;> exact ⟨by decide, rfl, rfl⟩
/-- what is due for a call -/
def due (s : Krab.Abs) (q : Krab.Call) : List Int := (Krab.act s q).2.num :: (Krab.act s q).2.nums
theorem step_eq {c : List (List Int)} {k : Nat} {a : List Nat} {rs : List (List Nat)} {q : Krab.Call} (h : Form c k a rs q) (s : Krab.Abs) : KrabNeutral.step s c = ((Krab.act s q).1, due s q) := by
  unfold KrabNeutral.step
  rw [form_call h]
  rfl
theorem played_snoc {S : Type} (step : S → List (List Int) → S × List Int) : ∀ (cs : List (List (List Int))) (s : S) (c : List (List Int)),
    PyFlat.played step s (cs ++ [c]) = PyFlat.played step s cs ++ [(step (cs.foldl (fun z d => (step z d).1) s) c).2]
  | [], _, _ => rfl
  | d :: cs, s, c => by
    show (step s d).2 :: PyFlat.played step (step s d).1 (cs ++ [c]) = _
    rw [played_snoc step cs]
    rfl
theorem told_snoc (l : List (List Int)) (a : List Int) : PyFlat.told (l ++ [a]) = PyFlat.told l ++ ((a.length : Int) :: a) := by
  unfold PyFlat.told
  rw [List.flatMap_append]
  simp
theorem told_append (l m : List (List Int)) : PyFlat.told (l ++ m) = PyFlat.told l ++ PyFlat.told m := by
  unfold PyFlat.told
  rw [List.flatMap_append]
theorem played_append {S : Type} (step : S → List (List Int) → S × List Int) : ∀ (cs ds : List (List (List Int))) (s : S),
    PyFlat.played step s (cs ++ ds) = PyFlat.played step s cs ++ PyFlat.played step (cs.foldl (fun z d => (step z d).1) s) ds
  | [], _, _ => rfl
  | d :: cs, ds, s => by
    show (step s d).2 :: PyFlat.played step (step s d).1 (cs ++ ds) = _
    rw [played_append step cs]
    rfl
theorem put_append : ∀ cs ds : List (List (List Int)), PyFlat.put (cs ++ ds) = PyFlat.put cs ++ PyFlat.put ds
  | [], _ => rfl
  | c :: cs, ds => by
    show PyFlat.put1 c ++ PyFlat.put (cs ++ ds) = _
    rw [put_append cs ds, ← List.append_assoc]
    rfl
end KM

end
section
set_option Elab.async false
namespace KM
/-! ## a call as whole numbers -/
structure Cl where
  k : Nat
  a : List Nat
  rs : List (List Nat)
def rowsN (rs : List (List Nat)) : List Nat := rs.flatMap fun r => r.length :: r
def Cl.flat (c : Cl) : List Nat := c.k :: (c.a ++ rowsN c.rs)
/-- a call of the shape, and the specification's word for it -/
structure COk (c : Cl) (q : Krab.Call) : Prop where
  form : ∃ raw, Form raw c.k c.a c.rs q
  small : ∀ r ∈ c.rs, r.length < 256
theorem COk.lt {c : Cl} {q : Krab.Call} (h : COk c q) : c.k < 22 := let ⟨_, f⟩ := h.form; (form_arity f).1
theorem COk.ar {c : Cl} {q : Krab.Call} (h : COk c q) : arity c.k = (c.a.length, c.rs.length) := let ⟨_, f⟩ := h.form; (form_arity f).2.1
def run : Krab.Abs → List Krab.Call → List (List Int)
  | _, [] => []
  | s, q :: r => due s q :: run (Krab.act s q).1 r
def after (s : Krab.Abs) (qs : List Krab.Call) : Krab.Abs := qs.foldl (fun z q => (Krab.act z q).1) s
theorem run_snoc : ∀ (qs : List Krab.Call) (s : Krab.Abs) (q : Krab.Call), run s (qs ++ [q]) = run s qs ++ [due (after s qs) q]
  | [], _, _ => rfl
  | d :: qs, s, q => by
    show due s d :: run (Krab.act s d).1 (qs ++ [q]) = _
    rw [run_snoc qs]
    rfl
theorem after_snoc (s : Krab.Abs) (qs : List Krab.Call) (q : Krab.Call) : after s (qs ++ [q]) = (Krab.act (after s qs) q).1 := by
  unfold after
  rw [List.foldl_append]
  rfl
theorem ints_append (a b : List Nat) : zints (a ++ b) = zints a ++ zints b := by unfold zints; rw [List.map_append]
theorem putRows_ints : ∀ rs : List (List Nat), PyFlat.putRows (rs.map zints) = zints (rowsN rs)
  | [] => rfl
  | r :: rs => by
    show ((zints r).length : Int) :: zints r ++ PyFlat.putRows (rs.map zints) = _
    rw [putRows_ints rs, ints_length]
    show _ = zints ((r.length :: r) ++ rowsN rs)
    rw [ints_append]
    rfl
theorem put1_flat {raw : List (List Int)} {k : Nat} {a : List Nat} {rs : List (List Nat)} {q : Krab.Call} (h : Form raw k a rs q) : PyFlat.put1 raw = zints (Cl.flat ⟨k, a, rs⟩) := by
  rw [(form_arity h).2.2]
  show ((k : Int) :: zints a) ++ PyFlat.putRows (rs.map zints) = zints (k :: (a ++ rowsN rs))
  rw [putRows_ints]
  show (k : Int) :: (zints a ++ zints (rowsN rs)) = (k : Int) :: zints (a ++ rowsN rs)
  rw [ints_append]
inductive All2 {α β : Type} (R : α → β → Prop) : List α → List β → Prop
  | nil : All2 R [] []
  | cons {a b l m} : R a b → All2 R l m → All2 R (a :: l) (b :: m)
theorem all2_len {α β : Type} {R : α → β → Prop} : ∀ {l : List α} {m : List β}, All2 R l m → l.length = m.length
  | _, _, .nil => rfl
  | _, _, .cons _ t => by rw [List.length_cons, List.length_cons, all2_len t]
theorem all2_at {α β : Type} {R : α → β → Prop} : ∀ {l : List α} {m : List β}, All2 R l m → ∀ {i : Nat} {a : α}, l[i]? = some a → ∃ b, m[i]? = some b ∧ R a b
  | _, _, .nil, i, a, e => by simp at e
  | _, _, .cons r t, 0, a, e => by simp at e; subst e; exact ⟨_, rfl, r⟩
  | _, _, .cons r t, i + 1, a, e => all2_at t (by simpa using e)
theorem plan_calls : ∀ cs : List (List (List Int)), (∀ c ∈ cs, KrabNeutral.asked1 c = true) → ∃ (cl : List Cl) (qs : List Krab.Call), PyFlat.put cs = zints (cl.flatMap Cl.flat) ∧ All2 COk cl qs ∧ ∀ s, PyFlat.played KrabNeutral.step s cs = run s qs
  | [], _ => ⟨[], [], rfl, .nil, fun _ => rfl⟩
  | c :: cs, h => by
    obtain ⟨k, a, rs, q, f, hs⟩ := form_of (h c (List.mem_cons_self ..))
    obtain ⟨cl, qs, e, al, pl⟩ := plan_calls cs fun d hd => h d (List.mem_cons_of_mem _ hd)
    refine ⟨⟨k, a, rs⟩ :: cl, q :: qs, ?_, .cons ⟨⟨c, f⟩, hs⟩ al, fun s => ?_⟩
    · show PyFlat.put1 c ++ PyFlat.put cs = zints (Cl.flat ⟨k, a, rs⟩ ++ cl.flatMap Cl.flat)
      rw [e, put1_flat f, ints_append]
    · show (KrabNeutral.step s c).2 :: PyFlat.played KrabNeutral.step (KrabNeutral.step s c).1 cs = due s q :: run (Krab.act s q).1 qs
      rw [step_eq f, pl]
theorem plan {l : List Int} (h : PyKrab.answers_asked l = true) : ∃ (cl : List Cl) (qs : List Krab.Call), l = zints (cl.flatMap Cl.flat) ∧ All2 COk cl qs ∧ PyKrab.answers l = PyFlat.told (run none qs) ∧ (PyFlat.told (run none qs)).length ≤ 10000000 ∧ cl.length ≤ 25 := by
  obtain ⟨cs, e, ok, hn, ea, hl⟩ := asked_of h
  obtain ⟨cl, qs, e2, al, pl⟩ := plan_calls cs fun c hc => (ok c hc).2
  have e3 : PyKrab.answers l = PyFlat.told (run none qs) := by rw [ea, pl]; rfl
  refine ⟨cl, qs, e.trans e2, al, e3, by rw [← e3]; exact hl, ?_⟩
  have len : ∀ (cs : List (List (List Int))) (s : Krab.Abs), (PyFlat.played KrabNeutral.step s cs).length = cs.length := by
    intro cs
    induction cs with
    | nil => intro s; rfl
    | cons c cs ih => intro s; show (PyFlat.played KrabNeutral.step _ cs).length + 1 = _; rw [ih]; rfl
  have len2 : ∀ (qs : List Krab.Call) (s : Krab.Abs), (run s qs).length = qs.length := by
    intro qs
    induction qs with
    | nil => intro s; rfl
    | cons c cs ih => intro s; show (run _ cs).length + 1 = _; rw [ih]; rfl
  rw [all2_len al, ← len2 qs none, ← pl, len]
  exact hn
/-! ## parts of the flat list -/
theorem seg_at {α : Type} (pre post : List α) (x : α) : (pre ++ x :: post)[pre.length]? = some x := by
  rw [List.getElem?_append_right (Nat.le_refl _), Nat.sub_self]
  rfl
theorem seg_cut {α : Type} (pre mid post : List α) : ((pre ++ (mid ++ post)).drop pre.length).take mid.length = mid := by
  rw [List.drop_left', List.take_left']
  · rfl
  · rfl
end KM

end
section
set_option Elab.async false
namespace KM
/-! ## the least, the greatest -/
theorem fold_min : ∀ (r : List Nat) (x m : Nat), m ∈ x :: r → (∀ y ∈ x :: r, m ≤ y) → r.foldl min x = m
  | [], x, m, h, _ => (List.mem_singleton.mp h).symm
  | y :: r, x, m, h, hb => by
    show r.foldl min (min x y) = m
    refine fold_min r (min x y) m ?_ fun z hz => ?_
    · have hx := hb x (by simp)
      have hy := hb y (by simp)
      rcases List.mem_cons.mp h with e | h
      · have : min x y = m := by omega
        rw [this]; exact List.mem_cons_self ..
      · rcases List.mem_cons.mp h with e | h
        · have : min x y = m := by omega
          rw [this]; exact List.mem_cons_self ..
        · exact List.mem_cons_of_mem _ h
    · rcases List.mem_cons.mp hz with e | hz
      · have hx := hb x (by simp)
        have hy := hb y (by simp)
        omega
      · exact hb z (List.mem_cons_of_mem _ (List.mem_cons_of_mem _ hz))
theorem fold_max : ∀ (r : List Nat) (x m : Nat), m ∈ x :: r → (∀ y ∈ x :: r, y ≤ m) → r.foldl max x = m
  | [], x, m, h, _ => (List.mem_singleton.mp h).symm
  | y :: r, x, m, h, hb => by
    show r.foldl max (max x y) = m
    refine fold_max r (max x y) m ?_ fun z hz => ?_
    · have hx := hb x (by simp)
      have hy := hb y (by simp)
      rcases List.mem_cons.mp h with e | h
      · have : max x y = m := by omega
        rw [this]; exact List.mem_cons_self ..
      · rcases List.mem_cons.mp h with e | h
        · have : max x y = m := by omega
          rw [this]; exact List.mem_cons_self ..
        · exact List.mem_cons_of_mem _ h
    · rcases List.mem_cons.mp hz with e | hz
      · have hx := hb x (by simp)
        have hy := hb y (by simp)
        omega
      · exact hb z (List.mem_cons_of_mem _ (List.mem_cons_of_mem _ hz))
theorem firstLast_nil : Krab.firstLast [] = Krab.say (-33) := rfl
theorem firstLast_of {l : List Nat} {a b : Nat} (ha : a ∈ l) (hb : b ∈ l) (h1 : ∀ y ∈ l, a ≤ y) (h2 : ∀ y ∈ l, y ≤ b) : Krab.firstLast l = { num := (a : Int), nums := [(b : Int)] } := by
  cases l with
  | nil => cases ha
  | cons x r =>
    show ({ num := ((r.foldl min x : Nat) : Int), nums := [((r.foldl max x : Nat) : Int)] } : Krab.Ans) = _
    rw [fold_min r x a ha h1, fold_max r x b hb h2]
/-! ## how often -/
def quarters : List Nat := List.range (Krab.mostOften + 1)
def growO (g : List (List Nat)) : List (List Nat) := g.flatMap fun r => quarters.map fun x => r ++ [x]
theorem often_succ (n : Nat) : Krab.often (n + 1) = quarters.flatMap fun x => (Krab.often n).map fun r => x :: r := rfl
theorem growO_cons (x : Nat) : ∀ g : List (List Nat), growO (g.map fun r => x :: r) = (growO g).map fun r => x :: r
  | [] => rfl
  | a :: g => by
    have ih := growO_cons x g
    unfold growO at ih ⊢
    rw [List.map_cons, List.flatMap_cons, List.flatMap_cons, List.map_append, ih, List.map_map]
    rfl
theorem growO_flat (f : Nat → List (List Nat)) : ∀ d : List Nat, growO (d.flatMap f) = d.flatMap fun x => growO (f x)
  | [] => rfl
  | a :: d => by
    have ih := growO_flat f d
    unfold growO at ih ⊢
    rw [List.flatMap_cons, List.flatMap_append, ih, List.flatMap_cons]
theorem often_grow : ∀ n : Nat, Krab.often (n + 1) = growO (Krab.often n)
  | 0 => by decide
  | n + 1 => by
    have ih := often_grow n
    have e : growO (Krab.often (n + 1)) = quarters.flatMap fun x => growO ((Krab.often n).map fun r => x :: r) := by
      rw [often_succ n, growO_flat]
    rw [e, often_succ (n + 1)]
    congr 1
    funext x
    rw [growO_cons, ← ih]
theorem often_len : ∀ (n : Nat) (r : List Nat), r ∈ Krab.often n → r.length = n
  | 0, r, h => by
    have e : r = [] := List.mem_singleton.mp h
    rw [e]; rfl
  | n + 1, r, h => by
    rw [often_succ] at h
    obtain ⟨x, _, h2⟩ := List.mem_flatMap.mp h
    obtain ⟨q, hq, e⟩ := List.mem_map.mp h2
    rw [← e, List.length_cons, often_len n q hq]
theorem often_le : ∀ (n : Nat) (r : List Nat), r ∈ Krab.often n → ∀ x ∈ r, x ≤ 3
  | 0, r, h => by
    have e : r = [] := List.mem_singleton.mp h
    rw [e]; intro x hx; cases hx
  | n + 1, r, h => by
    rw [often_succ] at h
    obtain ⟨x, hx, h2⟩ := List.mem_flatMap.mp h
    obtain ⟨q, hq, e⟩ := List.mem_map.mp h2
    rw [← e]
    intro y hy
    rcases List.mem_cons.mp hy with rfl | hy
    · have := List.mem_range.mp hx
      unfold Krab.mostOften at this
      omega
    · exact often_le n q hq y hy
theorem often_count : ∀ n : Nat, (Krab.often n).length = 4 ^ n
  | 0 => rfl
  | n + 1 => by
    have ih := often_count n
    rw [often_succ]
    have all : ∀ d : List Nat, (d.flatMap fun x => (Krab.often n).map fun r => x :: r).length = d.length * 4 ^ n := by
      intro d
      induction d with
      | nil => simp
      | cons a d ih2 => rw [List.flatMap_cons, List.length_append, ih2, List.length_map, ih, List.length_cons, Nat.succ_mul, Nat.add_comm]
    rw [all]
    show 4 * 4 ^ n = 4 ^ (n + 1)
    rw [Nat.pow_succ, Nat.mul_comm]
/-! ## sums of whole numbers -/
theorem foldl_addI : ∀ (l : List Int) (z : Int), l.foldl (fun a b => a + b) z = z + l.sum
  | [], z => by simp
  | x :: r, z => by
    rw [List.foldl_cons, foldl_addI r, List.sum_cons]
    omega
/-! ## sets of what's told, by bits -/
/-- no numbers agree with all of the set p -/
def Bad (h : Krab.House) (p : Nat → Bool) : Prop := ∀ x ∈ Krab.rows h.n, ∃ t, t < h.told.length ∧ p t = true ∧ (h.told.getD t ⟨[], [], 2⟩).holds x = false
def bitsOf (f : Nat → Bool) (n : Nat) : Nat := ((List.range n).filter f).foldl (fun s i => s + 2 ^ i) 0
theorem bits_succ (f : Nat → Bool) (n : Nat) : bitsOf f (n + 1) = bitsOf f n + (if f n = true then 2 ^ n else 0) := by
  unfold bitsOf
  rw [List.range_succ, List.filter_append, List.foldl_append]
  by_cases c : f n = true
  · rw [if_pos c, List.filter_cons, if_pos c]
    rfl
  · rw [if_neg c, List.filter_cons, if_neg c]
    rfl
theorem bits_lt (f : Nat → Bool) : ∀ n : Nat, bitsOf f n < 2 ^ n
  | 0 => Nat.zero_lt_one
  | n + 1 => by
    have ih := bits_lt f n
    rw [bits_succ, Nat.pow_succ]
    split <;> omega
theorem bits_test (f : Nat → Bool) : ∀ (n t : Nat), (bitsOf f n).testBit t = (decide (t < n) && f t)
  | 0, t => by
    rw [show bitsOf f 0 = 0 from rfl, Nat.zero_testBit]
    simp
  | n + 1, t => by
    have ih := bits_test f n t
    rw [bits_succ]
    by_cases c : f n = true
    · rw [if_pos c, Nat.add_comm]
      rcases Nat.lt_trichotomy t n with h | h | h
      · rw [Nat.testBit_two_pow_add_gt h, ih]
        simp [h, Nat.lt_succ_of_lt h]
      · subst h
        rw [Nat.testBit_two_pow_add_eq, ih]
        simp [c]
      · have hb : 2 ^ n + bitsOf f n < 2 ^ t := by
          have h1 := bits_lt f n
          have h2 : 2 ^ (n + 1) ≤ 2 ^ t := Nat.pow_le_pow_right (by decide) h
          rw [Nat.pow_succ] at h2
          omega
        rw [Nat.testBit_lt_two_pow hb]
        simp; omega
    · rw [if_neg c, Nat.add_zero, ih]
      by_cases h : t = n
      · subst h
        simp [c]
      · have e : decide (t < n) = decide (t < n + 1) := decide_eq_decide.mpr (by omega)
        rw [e]
theorem and_sub {a s : Nat} : (a &&& s == s) = true ↔ ∀ t, s.testBit t = true → a.testBit t = true := by
  rw [beq_iff_eq]
  constructor
  · intro e t ht
    rw [← e, Nat.testBit_and, Bool.and_eq_true] at ht
    exact ht.1
  · intro h
    refine Nat.eq_of_testBit_eq fun t => ?_
    rw [Nat.testBit_and]
    cases c : s.testBit t with
    | false => rw [Bool.and_false]
    | true => rw [h t c]; rfl
theorem and_sub' {a s : Nat} : (a &&& s == a) = true ↔ ∀ t, a.testBit t = true → s.testBit t = true := by
  rw [Nat.and_comm]
  exact and_sub
theorem agrees_test (h : Krab.House) (x : List Nat) (t : Nat) : (h.agrees x).testBit t = (decide (t < h.told.length) && (h.told.getD t ⟨[], [], 2⟩).holds x) :=
  bits_test (fun i => (h.told.getD i ⟨[], [], 2⟩).holds x) h.told.length t
theorem bit_lt {s n t : Nat} (h : s < 2 ^ n) (ht : s.testBit t = true) : t < n := by
  rcases Nat.lt_or_ge t n with z | z
  · exact z
  · have : s < 2 ^ t := Nat.lt_of_lt_of_le h (Nat.pow_le_pow_right (by decide) z)
    rw [Nat.testBit_lt_two_pow this] at ht
    cases ht
/-- the specification's «no numbers agree with the set s» -/
def badB (h : Krab.House) (s : Nat) : Bool := !((((Krab.rows h.n).map fun x => h.agrees x).eraseDups).any fun x => x &&& s == s)
theorem bad_iff {h : Krab.House} {s : Nat} (hs : s < 2 ^ h.told.length) : badB h s = true ↔ Bad h s.testBit := by
  unfold badB
  rw [Bool.not_eq_true', List.any_eq_false]
  constructor
  · intro hb x hx
    have hm : h.agrees x ∈ ((Krab.rows h.n).map fun x => h.agrees x).eraseDups := List.mem_eraseDups.mpr (List.mem_map.mpr ⟨x, hx, rfl⟩)
    have hn := hb _ hm
    rw [and_sub] at hn
    obtain ⟨t, ht⟩ := Classical.not_forall.mp hn
    have ht1 : s.testBit t = true := Classical.byContradiction fun z => ht fun y => absurd y z
    have ht2 : ¬ (h.agrees x).testBit t = true := fun z => ht fun _ => z
    have hl := bit_lt hs ht1
    refine ⟨t, hl, ht1, ?_⟩
    rw [agrees_test, decide_eq_true hl, Bool.true_and] at ht2
    exact Bool.eq_false_iff.mpr ht2
  · intro hb a ha
    obtain ⟨x, hx, rfl⟩ := List.mem_map.mp (List.mem_eraseDups.mp ha)
    obtain ⟨t, hl, ht, hh⟩ := hb x hx
    rw [and_sub]
    intro z
    have := z t ht
    rw [agrees_test, hh, Bool.and_false] at this
    cases this
theorem bad_mono {h : Krab.House} {p q : Nat → Bool} (hb : Bad h p) (hpq : ∀ t, p t = true → q t = true) : Bad h q := fun x hx => by
  obtain ⟨t, hl, ht, hh⟩ := hb x hx
  exact ⟨t, hl, hpq t ht, hh⟩
theorem clashes_eq {h : Krab.House} (f : Nat → Bool) (hf : ∀ s, s < 2 ^ h.told.length → (f s = true ↔ Bad h s.testBit ∧ ∀ u, s.testBit u = true → ¬ Bad h fun t => s.testBit t && decide (t ≠ u))) : h.clashes = (List.range (2 ^ h.told.length)).filter f := by
  have e : h.clashes = ((List.range (2 ^ h.told.length)).filter (badB h)).filter fun s => ((List.range (2 ^ h.told.length)).filter (badB h)).all fun t => t == s || !(t &&& s == t) := rfl
  rw [e, List.filter_filter]
  refine List.filter_congr fun s hs => ?_
  have hs := List.mem_range.mp hs
  rw [Bool.eq_iff_iff, hf s hs, Bool.and_eq_true, bad_iff hs, List.all_eq_true]
  constructor
  · rintro ⟨ha, hb⟩
    refine ⟨hb, fun u hu hbad => ?_⟩
    have hul := bit_lt hs hu
    let t := bitsOf (fun i => s.testBit i && decide (i ≠ u)) h.told.length
    have ht : t < 2 ^ h.told.length := bits_lt _ _
    have tt : ∀ i, t.testBit i = (decide (i < h.told.length) && (s.testBit i && decide (i ≠ u))) := fun i => bits_test _ _ i
    have tb : Bad h t.testBit := fun x hx => by
      obtain ⟨i, hi, hp, hh⟩ := hbad x hx
      exact ⟨i, hi, by rw [tt, decide_eq_true hi, Bool.true_and]; exact hp, hh⟩
    have := ha t (List.mem_filter.mpr ⟨List.mem_range.mpr ht, (bad_iff ht).mpr tb⟩)
    rw [Bool.or_eq_true] at this
    rcases this with z | z
    · have e2 := eq_of_beq z
      have := tt u
      rw [e2, hu] at this
      simp at this
    · have z2 : (t &&& s == t) = true := and_sub'.mpr fun i hi => by
        rw [tt, Bool.and_eq_true, Bool.and_eq_true] at hi
        exact hi.2.1
      rw [z2] at z
      cases z
  · rintro ⟨hb, hm⟩
    refine ⟨fun t ht => ?_, hb⟩
    obtain ⟨ht1, ht2⟩ := List.mem_filter.mp ht
    have ht1 := List.mem_range.mp ht1
    have tb := (bad_iff ht1).mp ht2
    rw [Bool.or_eq_true]
    by_cases c : (t &&& s == t) = true
    · left
      have sub := and_sub'.mp c
      refine Classical.byContradiction fun z => ?_
      have ne : ¬ t = s := fun q => z (beq_iff_eq.mpr q)
      obtain ⟨u, hu⟩ : ∃ u, ¬ t.testBit u = s.testBit u := Classical.not_forall.mp fun q => ne (Nat.eq_of_testBit_eq q)
      have su : s.testBit u = true := by
        cases q : s.testBit u with
        | true => rfl
        | false =>
          cases q2 : t.testBit u with
          | true => rw [sub u q2] at q; cases q
          | false => rw [q, q2] at hu; exact absurd rfl hu
      have tu : t.testBit u = false := by
        cases q2 : t.testBit u with
        | false => rfl
        | true => rw [su, q2] at hu; exact absurd rfl hu
      refine hm u su (bad_mono tb fun i hi => ?_)
      rw [sub i hi, Bool.true_and]
      refine decide_eq_true fun q => ?_
      rw [q, tu] at hi
      cases hi
    · right
      rw [Bool.eq_false_iff.mpr c]
      rfl
end KM

end
section
set_option Elab.async false
namespace KM
/-! ## all lists of a length over some digits -/
def digs (lo d : Nat) : List Nat := (List.range d).map fun i => lo + i
def growG (ds : List Nat) (g : List (List Nat)) : List (List Nat) := g.flatMap fun r => ds.map fun x => r ++ [x]
def lists (ds : List Nat) : Nat → List (List Nat)
  | 0 => [[]]
  | n + 1 => growG ds (lists ds n)
theorem digs_at {lo d m : Nat} (h : m < d) : (digs lo d)[m]? = some (lo + m) := by
  unfold digs
  rw [List.getElem?_map, List.getElem?_range h]
  rfl
theorem digs_len (lo d : Nat) : (digs lo d).length = d := by
  unfold digs
  rw [List.length_map, List.length_range]
theorem growG_append (ds : List Nat) (a b : List (List Nat)) : growG ds (a ++ b) = growG ds a ++ growG ds b := by
  unfold growG
  rw [List.flatMap_append]
theorem growG_one (ds : List Nat) (r : List Nat) : growG ds [r] = ds.map fun x => r ++ [x] := by
  unfold growG
  rw [List.flatMap_cons, List.flatMap_nil, List.append_nil]
theorem growG_len (ds : List Nat) : ∀ g : List (List Nat), (growG ds g).length = ds.length * g.length
  | [] => rfl
  | a :: g => by
    have ih := growG_len ds g
    unfold growG at ih ⊢
    rw [List.flatMap_cons, List.length_append, ih, List.length_map, List.length_cons, Nat.mul_succ, Nat.add_comm]
theorem lists_count (ds : List Nat) : ∀ n : Nat, (lists ds n).length = ds.length ^ n
  | 0 => rfl
  | n + 1 => by
    show (growG ds (lists ds n)).length = _
    rw [growG_len, lists_count ds n, Nat.pow_succ, Nat.mul_comm]
theorem lists_len (ds : List Nat) : ∀ (n : Nat) (r : List Nat), r ∈ lists ds n → r.length = n
  | 0, r, h => by
    rw [List.mem_singleton.mp h]
    rfl
  | n + 1, r, h => by
    obtain ⟨q, hq, h2⟩ := List.mem_flatMap.mp h
    obtain ⟨x, _, e⟩ := List.mem_map.mp h2
    rw [← e, List.length_append, lists_len ds n q hq]
    rfl
theorem digits_digs : digits = digs 1 8 := by decide
theorem quarters_digs : quarters = digs 0 4 := by decide
theorem rows_lists : ∀ n : Nat, lists (digs 1 8) n = Krab.rows n
  | 0 => rfl
  | n + 1 => by
    rw [rows_grow, ← rows_lists n, ← digits_digs]
    rfl
theorem often_lists : ∀ n : Nat, lists (digs 0 4) n = Krab.often n
  | 0 => rfl
  | n + 1 => by
    rw [often_grow, ← often_lists n, ← quarters_digs]
    rfl
/-! ## what a side comes to -/
def prods : List Nat → List Nat → List Int
  | a :: as, x :: xs => (a : Int) * (x : Int) :: prods as xs
  | _, _ => []
theorem prods_sum : ∀ (as xs : List Nat), as.length = xs.length → (prods as xs).sum = (Krab.sum as xs : Int)
  | [], [], _ => rfl
  | a :: as, x :: xs, h => by
    show ((a : Int) * (x : Int) :: prods as xs).sum = _
    rw [List.sum_cons, prods_sum as xs (by simpa using h), sum_cons, Int.natCast_add, Int.natCast_mul]
  | [], _ :: _, h => by simp at h
  | _ :: _, [], h => by simp at h
theorem prods_at : ∀ {a x : List Nat} {i : Nat} {p q : Nat}, a[i]? = some p → x[i]? = some q → (prods a x)[i]? = some ((p : Int) * (q : Int))
  | a :: as, x :: xs, 0, p, q, h1, h2 => by
    cases h1
    cases h2
    rfl
  | a :: as, x :: xs, i + 1, p, q, h1, h2 => prods_at (a := as) (x := xs) (i := i) (by simpa using h1) (by simpa using h2)
  | [], _, i, _, _, h, _ => by simp at h
  | _ :: _, [], i, _, _, _, h => by simp at h
theorem prods_len : ∀ (a x : List Nat), a.length = x.length → (prods a x).length = a.length
  | [], [], _ => rfl
  | a :: as, x :: xs, h => by
    show (prods as xs).length + 1 = as.length + 1
    rw [prods_len as xs (by simpa using h)]
  | [], _ :: _, h => by simp at h
  | _ :: _, [], h => by simp at h
/-- a thing alone -/
theorem sum_zero : ∀ (a x : List Nat), a.length = x.length → (∀ y ∈ a, y = 0) → Krab.sum a x = 0
  | [], [], _, _ => rfl
  | a :: as, x :: xs, h, h0 => by
    rw [sum_cons, sum_zero as xs (by simpa using h) fun y hy => h0 y (List.mem_cons_of_mem _ hy), h0 a (List.mem_cons_self ..)]
    omega
  | [], _ :: _, h, _ => by simp at h
  | _ :: _, [], h, _ => by simp at h
theorem sum_alone : ∀ (a x : List Nat) (i : Nat), a.length = x.length → (∀ j, j < a.length → a.getD j 0 = if j = i then 1 else 0) → Krab.sum a x = x.getD i 0
  | [], [], i, _, _ => by simp [Krab.sum]
  | a :: as, x :: xs, 0, h, h0 => by
    have e := h0 0 (by simp)
    rw [sum_cons, sum_zero as xs (by simpa using h) fun y hy => ?_]
    · have e' : a = 1 := by simpa using e
      rw [e']
      simp
    · obtain ⟨j, hj, e2⟩ := List.getElem_of_mem hy
      have := h0 (j + 1) (by rw [List.length_cons]; omega)
      rw [List.getD_cons_succ, List.getD_eq_getElem?_getD, List.getElem?_eq_getElem hj] at this
      rw [← e2]
      simpa using this
  | a :: as, x :: xs, i + 1, h, h0 => by
    have e := h0 0 (by simp)
    have e' : a = 0 := by simpa using e
    rw [sum_cons, e', sum_alone as xs i (by simpa using h) fun j hj => ?_, List.getD_cons_succ]
    · omega
    · have := h0 (j + 1) (by rw [List.length_cons]; omega)
      rw [List.getD_cons_succ] at this
      rw [this]
      by_cases c : j = i
      · rw [if_pos c, if_pos (by omega)]
      · rw [if_neg c, if_neg (by omega)]
  | [], _ :: _, _, h, _ => by simp at h
  | _ :: _, [], _, h, _ => by simp at h
theorem unit_len (n : Nat) (l : List Nat) : (Krab.unit n l).length = n := by
  unfold Krab.unit
  rw [List.length_map, List.length_range]
theorem sum_unit {n i : Nat} {x : List Nat} (hx : x.length = n) : Krab.sum (Krab.unit n [i]) x = x.getD i 0 := by
  refine sum_alone _ x i (by rw [unit_len, hx]) fun j hj => ?_
  rw [unit_len] at hj
  unfold Krab.unit
  rw [List.getD_eq_getElem?_getD, List.getElem?_map, List.getElem?_range hj]
  show ([i].filter fun x => x == j).length = _
  by_cases c : j = i
  · subst c
    rw [if_pos rfl, List.filter_cons, if_pos (beq_self_eq_true _)]
    rfl
  · rw [if_neg c, List.filter_cons, if_neg (by intro z; exact c (eq_of_beq z).symm)]
    rfl
theorem unit_le (n i : Nat) : ∀ y ∈ Krab.unit n [i], y ≤ 3 := fun y hy => by
  obtain ⟨j, _, e⟩ := List.mem_map.mp hy
  have := List.length_filter_le (fun x => x == j) [i]
  rw [← e]
  exact Nat.le_trans this (by simp)
/-! ## bits -/
def pows (f : Nat → Bool) (n : Nat) : List Int := ((List.range n).filter f).map fun t => (2 : Int) ^ t
theorem pows_sum (f : Nat → Bool) : ∀ n : Nat, (pows f n).sum = (bitsOf f n : Int)
  | 0 => rfl
  | n + 1 => by
    have ih := pows_sum f n
    unfold pows at ih ⊢
    rw [List.range_succ, List.filter_append, List.map_append, List.sum_append, ih, bits_succ]
    by_cases c : f n = true
    · rw [if_pos c, List.filter_cons, if_pos c, List.filter_nil, Int.natCast_add, Int.natCast_pow]
      simp
    · rw [if_neg c, List.filter_cons, if_neg c, List.filter_nil]
      simp
theorem bits_congr {f g : Nat → Bool} {n : Nat} (h : ∀ t, t < n → f t = g t) : bitsOf f n = bitsOf g n := by
  refine Nat.eq_of_testBit_eq fun t => ?_
  rw [bits_test, bits_test]
  by_cases c : t < n
  · rw [h t c]
  · rw [decide_eq_false c, Bool.false_and, Bool.false_and]
theorem bits_less (f : Nat → Bool) (u : Nat) (hu : f u = true) : ∀ n : Nat, u < n → bitsOf (fun t => f t && decide (t ≠ u)) n + 2 ^ u = bitsOf f n
  | 0, h => by omega
  | n + 1, h => by
    rw [bits_succ, bits_succ]
    by_cases c : u = n
    · subst c
      rw [if_pos hu, if_neg (by simp), bits_congr (g := f) (fun t ht => by rw [decide_eq_true (by omega), Bool.and_true])]
      omega
    · have ih := bits_less f u hu n (by omega)
      have e : (f n && decide (n ≠ u)) = f n := by rw [decide_eq_true (by omega), Bool.and_true]
      rw [e]
      omega
theorem bits_of {s n : Nat} (h : s < 2 ^ n) : bitsOf s.testBit n = s := by
  refine Nat.eq_of_testBit_eq fun t => ?_
  rw [bits_test]
  by_cases c : t < n
  · rw [decide_eq_true c, Bool.true_and]
  · rw [decide_eq_false c, Bool.false_and, Nat.testBit_lt_two_pow (Nat.lt_of_lt_of_le h (Nat.pow_le_pow_right (by decide) (by omega)))]
theorem bits_all : ∀ n : Nat, bitsOf (fun _ => true) n = 2 ^ n - 1
  | 0 => rfl
  | n + 1 => by
    have := Nat.two_pow_pos n
    rw [bits_succ, bits_all n, if_pos rfl, Nat.pow_succ]
    omega
/-- one left out -/
theorem less_bits {s n u : Nat} (h : s < 2 ^ n) (hu : s.testBit u = true) : 2 ^ u ≤ s ∧ s - 2 ^ u = bitsOf (fun t => s.testBit t && decide (t ≠ u)) n := by
  have := bits_less s.testBit u hu n (bit_lt h hu)
  rw [bits_of h] at this
  omega
theorem all_less {n u : Nat} (h : u < n) : 2 ^ n - 1 - 2 ^ u = bitsOf (fun t => decide (t ≠ u)) n ∧ 2 ^ u ≤ 2 ^ n - 1 := by
  have := bits_less (fun _ => true) u rfl n h
  rw [bits_all] at this
  have e : bitsOf (fun t => (fun _ => true) t && decide (t ≠ u)) n = bitsOf (fun t => decide (t ≠ u)) n := bits_congr fun t _ => by rw [Bool.true_and]
  rw [e] at this
  generalize 2 ^ u = p at this ⊢
  generalize 2 ^ n = q at this ⊢
  omega
theorem and_pow {s t : Nat} : s &&& 2 ^ t = 0 ↔ s.testBit t = false := by
  constructor
  · intro h
    have : (s &&& 2 ^ t).testBit t = false := by rw [h, Nat.zero_testBit]
    rw [Nat.testBit_and, Nat.testBit_two_pow] at this
    simpa using this
  · intro h
    refine Nat.eq_of_testBit_eq fun u => ?_
    rw [Nat.testBit_and, Nat.testBit_two_pow, Nat.zero_testBit]
    by_cases c : t = u
    · subst c
      rw [h, Bool.false_and]
    · rw [decide_eq_false c, Bool.and_false]
/-! ## clashes, spare -/
/-- the sets by some numbers all that they agree with -/
def Sets (h : Krab.House) (g : List Nat) : Prop := ∀ z, z ∈ g ↔ ∃ x ∈ Krab.rows h.n, h.agrees x = z
def someB (g : List Nat) (s : Nat) : Bool := g.any fun x => x &&& s == s
theorem some_bad {h : Krab.House} {g : List Nat} (hg : Sets h g) {s : Nat} (hs : s < 2 ^ h.told.length) : someB g s = false ↔ Bad h s.testBit := by
  rw [← bad_iff hs]
  unfold badB someB
  rw [Bool.not_eq_true', List.any_eq_false, List.any_eq_false]
  constructor
  · intro z x hx
    obtain ⟨y, hy, e⟩ := List.mem_map.mp (List.mem_eraseDups.mp hx)
    exact z x ((hg x).mpr ⟨y, hy, e⟩)
  · intro z x hx
    obtain ⟨y, hy, e⟩ := (hg x).mp hx
    exact z x (List.mem_eraseDups.mpr (List.mem_map.mpr ⟨y, hy, e⟩))
def clashB (g : List Nat) (c s : Nat) : Bool := !someB g s && ((List.range c).filter fun t => s.testBit t).all fun t => someB g (s - 2 ^ t)
theorem clashes_of {h : Krab.House} {g : List Nat} (hg : Sets h g) : h.clashes = (List.range (2 ^ h.told.length)).filter (clashB g h.told.length) := by
  refine clashes_eq (clashB g h.told.length) fun s hs => ?_
  unfold clashB
  rw [Bool.and_eq_true, Bool.not_eq_true', some_bad hg hs, List.all_eq_true]
  refine and_congr_right fun _ => ⟨fun z u hu hb => ?_, fun z u hu => ?_⟩
  · have h1 := z u (List.mem_filter.mpr ⟨List.mem_range.mpr (bit_lt hs hu), hu⟩)
    obtain ⟨_, e⟩ := less_bits hs hu
    have lt : s - 2 ^ u < 2 ^ h.told.length := Nat.lt_of_le_of_lt (Nat.sub_le _ _) hs
    have : someB g (s - 2 ^ u) = false := (some_bad hg lt).mpr fun x hx => by
      obtain ⟨t, ht, hp, hh⟩ := hb x hx
      refine ⟨t, ht, ?_, hh⟩
      rw [e, bits_test, decide_eq_true ht, Bool.true_and]
      exact hp
    rw [this] at h1
    cases h1
  · have hu := (List.mem_filter.mp hu).2
    obtain ⟨_, e⟩ := less_bits hs hu
    have lt : s - 2 ^ u < 2 ^ h.told.length := Nat.lt_of_le_of_lt (Nat.sub_le _ _) hs
    cases q : someB g (s - 2 ^ u) with
    | true => rfl
    | false =>
      refine absurd ?_ (z u hu)
      have hb := (some_bad hg lt).mp q
      intro x hx
      obtain ⟨t, ht, hp, hh⟩ := hb x hx
      refine ⟨t, ht, ?_, hh⟩
      rw [e, bits_test, decide_eq_true ht, Bool.true_and] at hp
      exact hp
theorem erase_all {α : Type} (p : α → Bool) : ∀ (l : List α) (i : Nat), (∀ j, j ≠ i → ∀ x, l[j]? = some x → p x = true) → (l.eraseIdx i).all p = true
  | [], i, _ => by simp
  | a :: l, 0, h => by
    rw [List.eraseIdx_zero, List.tail_cons, List.all_eq_true]
    intro x hx
    obtain ⟨j, hj, e⟩ := List.getElem_of_mem hx
    exact h (j + 1) (by omega) x (by rw [List.getElem?_cons_succ, List.getElem?_eq_getElem hj, e])
  | a :: l, i + 1, h => by
    rw [List.eraseIdx_cons_succ, List.all_cons, h 0 (by omega) a rfl, Bool.true_and]
    exact erase_all p l i fun j hj x hx => h (j + 1) (by omega) x (by rw [List.getElem?_cons_succ]; exact hx)
theorem all_erase {α : Type} (p : α → Bool) : ∀ (l : List α) (i : Nat), (l.eraseIdx i).all p = true → ∀ j, j ≠ i → ∀ x, l[j]? = some x → p x = true
  | [], i, _, j, _, x, h => by simp at h
  | a :: l, 0, h, j, hj, x, hx => by
    rw [List.eraseIdx_zero, List.tail_cons, List.all_eq_true] at h
    cases j with
    | zero => exact absurd rfl hj
    | succ j => exact h x (List.mem_of_getElem? (by simpa using hx))
  | a :: l, i + 1, h, 0, hj, x, hx => by
    rw [List.eraseIdx_cons_succ, List.all_cons, Bool.and_eq_true] at h
    cases hx
    exact h.1
  | a :: l, i + 1, h, j + 1, hj, x, hx => by
    rw [List.eraseIdx_cons_succ, List.all_cons, Bool.and_eq_true] at h
    exact all_erase p l i h.2 j (by omega) x (by simpa using hx)
theorem filter_same {α : Type} (p q : α → Bool) : ∀ l : List α, (∀ x ∈ l, p x = true → q x = true) → ((l.filter q).length = (l.filter p).length ↔ ∀ x ∈ l, q x = true → p x = true)
  | [], _ => by simp
  | a :: l, h => by
    have ih := filter_same p q l fun x hx => h x (List.mem_cons_of_mem _ hx)
    have le : (l.filter p).length ≤ (l.filter q).length := by
      have e : l.filter p = (l.filter q).filter p := by
        rw [List.filter_filter]
        refine List.filter_congr fun x hx => ?_
        cases c : p x with
        | false => rfl
        | true => rw [h x (List.mem_cons_of_mem _ hx) c]; rfl
      rw [e]
      exact List.length_filter_le _ _
    rw [List.filter_cons, List.filter_cons]
    cases cp : p a with
    | true =>
      rw [if_pos (h a (List.mem_cons_self ..) cp), if_pos rfl, List.length_cons, List.length_cons, Nat.add_right_cancel_iff, ih]
      constructor
      · intro z x hx hq
        rcases List.mem_cons.mp hx with e | hx
        · rw [e]; exact cp
        · exact z x hx hq
      · exact fun z x hx => z x (List.mem_cons_of_mem _ hx)
    | false =>
      cases cq : q a with
      | true =>
        rw [if_pos rfl, if_neg (by decide), List.length_cons]
        constructor
        · intro z; omega
        · intro z
          have := z a (List.mem_cons_self ..) cq
          rw [cp] at this
          cases this
      | false =>
        rw [if_neg (by decide), if_neg (by decide), ih]
        constructor
        · intro z x hx hq
          rcases List.mem_cons.mp hx with e | hx
          · rw [e, cq] at hq; cases hq
          · exact z x hx hq
        · exact fun z x hx => z x (List.mem_cons_of_mem _ hx)
theorem agrees_eq {h : Krab.House} {x : List Nat} {f : Nat → Bool} : h.agrees x = bitsOf f h.told.length ↔ ∀ t, t < h.told.length → (h.told.getD t ⟨[], [], 2⟩).holds x = f t := by
  have e : h.agrees x = bitsOf (fun i => (h.told.getD i ⟨[], [], 2⟩).holds x) h.told.length := rfl
  constructor
  · intro z t ht
    have := congrArg (fun n => n.testBit t) z
    simp only [agrees_test, bits_test, decide_eq_true ht, Bool.true_and] at this
    exact this
  · intro z
    rw [e]
    exact bits_congr z
theorem spare_of {h : Krab.House} {g : List Nat} (hg : Sets h g) {i : Nat} (hi : i < h.told.length) :
    ((Krab.fitBy h.n (h.told.eraseIdx i)).length == (Krab.fitBy h.n h.told).length) = !decide (2 ^ h.told.length - 1 - 2 ^ i ∈ g) := by
  have gt : ∀ {t : Nat} (ht : t < h.told.length), h.told[t]? = some (h.told.getD t ⟨[], [], 2⟩) := fun {t} ht => by
    rw [List.getD_eq_getElem?_getD, List.getElem?_eq_getElem ht]
    rfl
  have key : (Krab.fitBy h.n (h.told.eraseIdx i)).length = (Krab.fitBy h.n h.told).length ↔ ¬ (2 ^ h.told.length - 1 - 2 ^ i ∈ g) := by
    unfold Krab.fitBy
    rw [filter_same (fun x => h.told.all fun t => t.holds x) (fun x => (h.told.eraseIdx i).all fun t => t.holds x), hg, (all_less hi).1]
    · constructor
      · rintro z ⟨x, hx, e⟩
        have e2 := agrees_eq.mp e
        have h1 := z x hx (erase_all _ _ _ fun j hj y hy => by
          have hj' := (List.getElem?_eq_some_iff.mp hy).1
          have := e2 j hj'
          rw [gt hj'] at hy
          rw [← Option.some.inj hy, this]
          exact decide_eq_true hj)
        have h2 := e2 i hi
        rw [List.all_eq_true.mp h1 _ (List.mem_of_getElem? (gt hi))] at h2
        simp at h2
      · intro z x hx hq
        have hq := all_erase _ _ _ hq
        rw [List.all_eq_true]
        intro t ht
        obtain ⟨j, hj, e⟩ := List.getElem_of_mem ht
        have hjs : h.told[j]? = some t := by rw [List.getElem?_eq_getElem hj, e]
        by_cases c : j = i
        · subst c
          cases q : t.holds x with
          | true => rfl
          | false =>
            refine absurd ⟨x, hx, agrees_eq.mpr fun k hk => ?_⟩ z
            by_cases ck : k = j
            · subst ck
              have := gt hk
              rw [hjs] at this
              rw [← Option.some.inj this, q]
              simp
            · rw [hq k ck _ (gt hk)]
              exact (decide_eq_true ck).symm
        · exact hq j c t hjs
    · intro x _ hp
      rw [List.all_eq_true] at hp ⊢
      exact fun t ht => hp t (List.mem_of_mem_eraseIdx ht)
  by_cases c : 2 ^ h.told.length - 1 - 2 ^ i ∈ g
  · rw [decide_eq_true c]
    exact beq_eq_false_iff_ne.mpr fun z => key.mp z c
  · rw [decide_eq_false c]
    exact beq_iff_eq.mpr (key.mpr c)
end KM

end
section
set_option Elab.async false
namespace KM
/-! ## the balance -/
def term (l : List Krab.Told) (m : List Nat) (i k : Nat) : Int := (m.getD k 0 : Int) * (((l.getD k ⟨[], [], 2⟩).a.getD i 0 : Nat) - ((l.getD k ⟨[], [], 2⟩).b.getD i 0 : Nat) : Int)
def balTo (l : List Krab.Told) (m : List Nat) (j i : Nat) : Int := ((List.range j).map (term l m i)).sum
theorem balTo_zero (l : List Krab.Told) (m : List Nat) (i : Nat) : balTo l m 0 i = 0 := rfl
theorem balTo_succ (l : List Krab.Told) (m : List Nat) (j i : Nat) : balTo l m (j + 1) i = balTo l m j i + term l m i j := by
  unfold balTo
  rw [List.range_succ, List.map_append, List.sum_append]
  simp
theorem balance_eq (n : Nat) (l : List Krab.Told) (m : List Nat) : Krab.balance n l m = (List.range n).map fun i => balTo l m l.length i := by
  unfold Krab.balance
  refine List.map_congr_left fun i _ => ?_
  show ((List.range l.length).map (term l m i)).foldl (fun a b => a + b) 0 = _
  rw [foldl_addI, Int.zero_add]
  rfl
theorem set_range {α : Type} (n p : Nat) (g : Nat → α) (v : α) : ((List.range n).map g).set p v = (List.range n).map fun i => if i = p then v else g i := by
  refine List.ext_getElem? fun i => ?_
  rw [List.getElem?_set, List.getElem?_map, List.getElem?_map, List.length_map, List.length_range]
  by_cases hi : i < n
  · rw [List.getElem?_range hi]
    by_cases c : p = i
    · subst c
      simp [hi]
    · rw [if_neg c]
      show some (g i) = some (if i = p then v else g i)
      rw [if_neg (fun z => c z.symm)]
  · rw [List.getElem?_eq_none (by rw [List.length_range]; omega)]
    by_cases c : p = i
    · subst c
      simp [hi]
    · simp [c]
def moreB (l : List Krab.Told) (m : List Nat) (k : Nat) : Bool := decide (0 < m.getD k 0) && (l.getD k ⟨[], [], 2⟩).kind == 0
theorem cancels_eq {n : Nat} {l : List Krab.Told} {m : List Nat} {b : List Int} (e : Krab.balance n l m = b) {mx mn : Int} (h1 : mx ∈ b) (h2 : ∀ y ∈ b, y ≤ mx) (h3 : mn ∈ b) (h4 : ∀ y ∈ b, mn ≤ y) :
    Krab.cancels n l m = (decide (mx ≤ 0) && (decide (mn < 0) || (List.range l.length).any (moreB l m))) := by
  have a1 : (b.all fun v => decide (v ≤ 0)) = decide (mx ≤ 0) := by
    by_cases c : mx ≤ 0
    · rw [decide_eq_true c, List.all_eq_true]
      exact fun y hy => decide_eq_true (by have := h2 y hy; omega)
    · rw [decide_eq_false c, List.all_eq_false]
      exact ⟨mx, h1, by rw [decide_eq_false c]; decide⟩
  have a2 : (b.any fun v => decide (v < 0)) = decide (mn < 0) := by
    by_cases c : mn < 0
    · rw [decide_eq_true c, List.any_eq_true]
      exact ⟨mn, h3, decide_eq_true c⟩
    · rw [decide_eq_false c, List.any_eq_false]
      intro y hy
      rw [decide_eq_false (by have := h4 y hy; omega)]
      decide
  show (((Krab.balance n l m).all fun v => decide (v ≤ 0)) && (((Krab.balance n l m).any fun v => decide (v < 0)) || (List.range l.length).any (moreB l m))) = _
  rw [e, a1, a2]
/-! ## may, more -/
theorem any_filter {l : List (List Nat)} (f : List Nat → Bool) : l.any f = decide (0 < (l.filter f).length) := by
  by_cases c : l.any f = true
  · rw [c]
    symm
    refine decide_eq_true ?_
    obtain ⟨x, hx, hf⟩ := List.any_eq_true.mp c
    exact List.length_pos_of_mem (List.mem_filter.mpr ⟨hx, hf⟩)
  · rw [Bool.eq_false_iff.mpr c]
    symm
    refine decide_eq_false fun z => c ?_
    obtain ⟨x, hx⟩ := List.exists_mem_of_length_pos z
    obtain ⟨h1, h2⟩ := List.mem_filter.mp hx
    exact List.any_eq_true.mpr ⟨x, h1, h2⟩
def leadOf (i j : Nat) (x : List Nat) : Int := (x.getD i 0 : Int) - (x.getD j 0 : Int)
theorem more_eq {f : List (List Nat)} {i j : Nat} {m : Int} (h1 : m ∈ f.map (leadOf i j)) (h2 : ∀ y ∈ f.map (leadOf i j), m ≤ y) :
    (if f.all fun x => decide (x.getD j 0 < x.getD i 0) then (2 : Int) else if f.all fun x => decide (x.getD j 0 ≤ x.getD i 0) then 1 else 0) = if 0 < m then 2 else if m = 0 then 1 else 0 := by
  obtain ⟨x, hx, e⟩ := List.mem_map.mp h1
  have hb : ∀ y ∈ f, m ≤ leadOf i j y := fun y hy => h2 _ (List.mem_map.mpr ⟨y, hy, rfl⟩)
  unfold leadOf at e hb
  by_cases c : 0 < m
  · rw [if_pos c, if_pos (List.all_eq_true.mpr fun y hy => decide_eq_true (by have := hb y hy; omega))]
  · rw [if_neg c, if_neg (fun z => by have := of_decide_eq_true (List.all_eq_true.mp z x hx); omega)]
    by_cases c2 : m = 0
    · rw [if_pos c2, if_pos (List.all_eq_true.mpr fun y hy => decide_eq_true (by have := hb y hy; omega))]
    · rw [if_neg c2, if_neg (fun z => by have := of_decide_eq_true (List.all_eq_true.mp z x hx); omega)]
/-- the least and the greatest, as whole numbers -/
theorem firstLast_int {l : List Nat} {a b : Int} (ha : a ∈ zints l) (hb : b ∈ zints l) (h1 : ∀ y ∈ zints l, a ≤ y) (h2 : ∀ y ∈ zints l, y ≤ b) : Krab.firstLast l = { num := a, nums := [b] } := by
  obtain ⟨x, hx, rfl⟩ := List.mem_map.mp ha
  obtain ⟨y, hy, rfl⟩ := List.mem_map.mp hb
  exact firstLast_of hx hy (fun z hz => by have := h1 (z : Int) (List.mem_map.mpr ⟨z, hz, rfl⟩); omega) fun z hz => by have := h2 (z : Int) (List.mem_map.mpr ⟨z, hz, rfl⟩); omega
end KM

end
section
set_option Elab.async false
set_option linter.all false
set_option maxRecDepth 100000
set_option maxHeartbeats 4000000
namespace KR
open PySem PySem.Spec PyProof.Rows L2 KG
/-! ## data in the abstract heap -/
abbrev nv (n : Nat) : V := .int (n : Int)
def Nums (H : Hp) (v : V) (x : List Nat) : Prop := ∃ a, v = .ref a ∧ H a = some (.lst (x.map nv))
def Rows (H : Hp) (v : V) (l : List (List Nat)) : Prop := ∃ a vs, v = .ref a ∧ H a = some (.lst vs) ∧ Paired (Nums H) vs l
structure Cmp (H : Hp) (v : V) (t : Krab.Told) : Prop where
  ex : ∃ c va vb, v = .ref c ∧ (H c = some (.lst [nv t.kind, va, vb]) ∨ H c = some (.tup [nv t.kind, va, vb])) ∧ Nums H va t.a ∧ Nums H vb t.b
theorem Nums.mono {H H' : Hp} {v : V} {x : List Nat} (h : Nums H v x) (e : Same H H') : Nums H' v x := by
  obtain ⟨a, rfl, q⟩ := h
  exact ⟨a, rfl, e _ _ q⟩
theorem paired_mono {α β : Type} {G G' : α → β → Prop} (f : ∀ a b, G a b → G' a b) : ∀ {l₁ : List α} {l₂ : List β}, Paired G l₁ l₂ → Paired G' l₁ l₂
  | _, _, .nil => .nil
  | _, _, .cons r t => .cons (f _ _ r) (paired_mono f t)
theorem Rows.mono {H H' : Hp} {v : V} {l : List (List Nat)} (h : Rows H v l) (e : Same H H') : Rows H' v l := by
  obtain ⟨a, vs, rfl, q, r⟩ := h
  exact ⟨a, vs, rfl, e _ _ q, paired_mono (fun _ _ z => z.mono e) r⟩
theorem Cmp.mono {H H' : Hp} {v : V} {t : Krab.Told} (h : Cmp H v t) (e : Same H H') : Cmp H' v t := by
  obtain ⟨c, va, vb, rfl, q, r1, r2⟩ := h.ex
  exact ⟨⟨c, va, vb, rfl, q.elim (fun z => .inl (e _ _ z)) fun z => .inr (e _ _ z), r1.mono e, r2.mono e⟩⟩
theorem paired_append {α β : Type} {G : α → β → Prop} : ∀ {l₁ m₁ : List α} {l₂ m₂ : List β}, Paired G l₁ l₂ → Paired G m₁ m₂ → Paired G (l₁ ++ m₁) (l₂ ++ m₂)
  | _, _, _, _, .nil, s => s
  | _, _, _, _, .cons r t, s => .cons r (paired_append t s)
theorem paired_len {α β : Type} {G : α → β → Prop} : ∀ {l₁ : List α} {l₂ : List β}, Paired G l₁ l₂ → l₁.length = l₂.length
  | _, _, .nil => rfl
  | _, _, .cons _ t => by rw [List.length_cons, List.length_cons, paired_len t]
theorem paired_left {α β : Type} {G : α → β → Prop} : ∀ {l₁ : List α} {l₂ : List β}, Paired G l₁ l₂ → ∀ {i : Nat} {a : α}, l₁[i]? = some a → ∃ b, l₂[i]? = some b ∧ G a b
  | _, _, .nil, i, a, e => by simp at e
  | _, _, .cons r t, 0, a, e => by simp at e; subst e; exact ⟨_, rfl, r⟩
  | _, _, .cons r t, i + 1, a, e => paired_left t (by simpa using e)
theorem paired_right {α β : Type} {G : α → β → Prop} : ∀ {l₁ : List α} {l₂ : List β}, Paired G l₁ l₂ → ∀ {i : Nat} {b : β}, l₂[i]? = some b → ∃ a, l₁[i]? = some a ∧ G a b
  | _, _, .nil, i, a, e => by simp at e
  | _, _, .cons r t, 0, a, e => by simp at e; subst e; exact ⟨_, rfl, r⟩
  | _, _, .cons r t, i + 1, a, e => paired_right t (by simpa using e)
theorem paired_erase {α β : Type} {G : α → β → Prop} : ∀ {l₁ : List α} {l₂ : List β} (i : Nat), Paired G l₁ l₂ → Paired G (l₁.eraseIdx i) (l₂.eraseIdx i)
  | _, _, _, .nil => .nil
  | _, _, 0, .cons _ t => t
  | _, _, i + 1, .cons r t => .cons r (paired_erase i t)
/-! ## what stays as it is: F, a part of the heap; it grows by new addresses alone -/
structure Fx (F H F' H' : Hp) : Prop where
  sub : Same F F'
  le : Same F' H'
  new : ∀ b, F b = none → H b ≠ none → F' b = none
theorem Fx.refl {F H : Hp} (h : Same F H) : Fx F H F H := ⟨Same.refl F, h, fun _ e _ => e⟩
theorem Fx.up {F H H' : Hp} (h : Same F H') : Fx F H F H' := ⟨Same.refl F, h, fun _ e _ => e⟩
theorem Fx.trans {F H F1 H1 F2 H2 : Hp} (a : Fx F H F1 H1) (b : Fx F1 H1 F2 H2) (k : ∀ c, H c ≠ none → H1 c ≠ none) : Fx F H F2 H2 :=
  ⟨a.sub.trans b.sub, b.le, fun c e n => b.new c (a.new c e n) (k c n)⟩
theorem Same.there {H H' : Hp} (h : Same H H') : ∀ c, H c ≠ none → H' c ≠ none := fun c n e => by
  cases q : H c with
  | none => exact n q
  | some o =>
    rw [h c o q] at e
    cases e
theorem same_upd {H : Hp} {p : Addr} {o : HO} (h : H p = none) : Same H (upd H p o) := fun b u e => by
  rw [upd_ne (ne_of_none e h)]
  exact e
theorem same_upd2 {F H : Hp} {p : Addr} {o : HO} (h : Same F H) : Same (upd F p o) (upd H p o) := fun b u e => by
  by_cases q : b = p
  · subst q
    rw [upd_same] at e ⊢
    exact e
  · rw [upd_ne q] at e ⊢
    exact h b u e
/-- a store at p leaves what does not reckon p -/
theorem same_off {F H : Hp} {p : Addr} {o : HO} (h : Same F H) (hp : F p = none) : Same F (upd H p o) := fun b u e => by
  rw [upd_ne (ne_of_none e hp)]
  exact h b u e
/-- a new object becomes part of what stays -/
theorem Fx.lay {F H : Hp} {p : Addr} {o : HO} (h : Same F H) (hp : H p = none) : Fx F H (upd F p o) (upd H p o) :=
  ⟨same_upd (h.free hp), same_upd2 h, fun b e n => by
    have q : b ≠ p := fun z => n (by rw [z]; exact hp)
    rw [upd_ne q]
    exact e⟩
/-- an object of ours (not reckoned yet) becomes part of it -/
theorem Fx.fix {F0 H0 F H : Hp} {p : Addr} {o : HO} (x : Fx F0 H0 F H) (hp : F p = none) (h0 : H0 p = none) (e : H p = some o) : Fx F0 H0 (upd F p o) H :=
  ⟨x.sub.trans (same_upd hp), fun b u q => by
    by_cases z : b = p
    · subst z
      rw [upd_same] at q
      cases q
      exact e
    · rw [upd_ne z] at q
      exact x.le b u q, fun b q n => by
    have z : b ≠ p := fun z => n (by rw [z]; exact h0)
    rw [upd_ne z]
    exact x.new b q n⟩
theorem getD_of {α : Type} {l : List α} {i : Nat} {x d : α} (h : l[i]? = some x) : l.getD i d = x := by
  rw [List.getD_eq_getElem?_getD, h]
  rfl
theorem take_snoc {α : Type} : ∀ {l : List α} {i : Nat} {x : α}, l[i]? = some x → l.take (i + 1) = l.take i ++ [x]
  | [], i, x, h => by simp at h
  | a :: l, 0, x, h => by
    have e : a = x := Option.some.inj h
    subst e
    rfl
  | a :: l, i + 1, x, h => by
    have ih := take_snoc (l := l) (i := i) (x := x) h
    show a :: l.take (i + 1) = a :: l.take i ++ [x]
    rw [ih]
    rfl
theorem ints_map (x : List Nat) : (KM.zints x).map V.int = x.map nv := by
  unfold KM.zints
  rw [List.map_map]
  rfl
/-! ## rules whose reading names the written part K, for use within a comprehension's block -/
section
variable {X : Cx} (K : PySem.W.Frag) (hK : X.K = K)
include hK
theorem bmK {o e : Expr} {es : List Expr} {to : TE} {t : TA} {name : Str} {apos cpos : Pos} {T id : String} {r : V → List V → Hp → VK → Prop} (pa : PlainAttrs T) (slot : Slot T name id) (hty : typeOf (.builtin id) = pure (.type "method_descriptor")) (hm : MtR X id r) (ho : PE X o to) (ha : PA X (e :: es) t)
    (hbase : attributeBase o name X.env (eval o X.env) = eval o X.env := by rfl)
    (hfew : ((backTo cpos (starEach (e :: es) X.env)).all (fun x => !x.1) && (backToKw cpos (keywordEach [] X.env)).all (fun x => x.1.isSome)
      && decide ((e :: es).length + ([] : List Keyword).length + (if ([] : List Keyword).isEmpty then 0 else 1) < 30)) = true := by rfl)
    (hline : (apos.endLine == cpos.line) = true := by rfl) (hs : starEach (e :: es) X.env = (false, eval e X.env) :: starEach es X.env := by rfl) (hplain : (backTo cpos (starEach es X.env)).any (·.1) = false := by rfl) :
    PE X (.Call (.Attribute o name apos) (e :: es) [] cpos) (tBM K T r to t) := by
  subst hK
  exact pe_bm pa slot hty hm ho ha hbase hfew hline hs hplain
theorem countK : MtR X "list.count" (rCount K) := by
  subst hK
  exact mt_count
theorem ixLK : IxR X (rIxL K) := by
  subst hK
  exact ix_list
theorem ixTK : IxR X (rIxT K) := by
  subst hK
  exact ix_tup
theorem notInK : OpR X (compareOp .NotIn) (rIn K true) := by
  subst hK
  exact op_notIn_seq
theorem lenK : CallR X (.builtin "len") (fun xs H Q => ∃ p ys, xs = [.ref p] ∧ (SqL K H p ys ∨ SqT K H p ys) ∧ Q (.int ys.length) H) := by
  subst hK
  exact call_len_seq
theorem fldK {e : Expr} {f : Str} {pos : Pos} {ta : TE} (he : PE X e ta) (hb : attributeBase e f X.env (eval e X.env) = eval e X.env) : PE X (.Attribute e f pos) (tFld K ta f) := by
  subst hK
  exact pe_fld he hb
theorem pgtK {es : List Expr} {k : Nat} {t : TGs} {n : Nat} {pos : Pos} (hc : X.calm = true) (h : PGs X es t)
    (hn : (assignEach es X.env).length = n := by rfl) (hst : (assignEach es X.env).findIdx? (·.1) = none := by rfl) : PG X (.Tuple es k pos) (gTup K n t) := by
  subst hK
  exact pg_tup hc h hn hst
end
end KR

end
section
set_option Elab.async false
set_option linter.all false
set_option maxRecDepth 100000
set_option maxHeartbeats 4000000
namespace KP
open PySem PySem.Spec PyProof.Rows L2 KG KR
/-! ## the text by places -/
def top (i : Nat) : Stmt := PySem.Challenge.pw_sumsweighed_s01_answers.main.body.getD i (.Pass ⟨0, 0, 0, 0⟩)
abbrev sIsKind : Stmt := top 10
abbrev sIsSide : Stmt := top 11
abbrev sIsNumbers : Stmt := top 12
abbrev sSideOf : Stmt := top 14
abbrev sAllNumbers : Stmt := top 16
abbrev sAgrees : Stmt := top 18
abbrev sAgreeing : Stmt := top 19
abbrev sAllThatFit : Stmt := top 20
abbrev sIsHowOften : Stmt := top 13
abbrev sAllLists : Stmt := top 15
abbrev sComesTo : Stmt := top 17
abbrev sAgreedSet : Stmt := top 21
abbrev sAgreedSets : Stmt := top 22
abbrev sSomeAgree : Stmt := top 23
abbrev sIsClash : Stmt := top 24
abbrev sBalanceOf : Stmt := top 25
abbrev sTellsOfMore : Stmt := top 26
abbrev sDoesCancel : Stmt := top 27
abbrev sAllThatCancel : Stmt := top 28
/-! ## what the top has written -/
structure Txt (mg : Str → Option Value) : Prop where
  mostThings : ∃ t, mg "MOST_THINGS" = some (.int 4 t)
  mostOften : ∃ t, mg "MOST_OFTEN" = some (.int 3 t)
  mostTimes : ∃ t, mg "MOST_TIMES" = some (.int 3 t)
  leastNumber : ∃ t, mg "LEAST_NUMBER" = some (.int 1 t)
  greatestNumber : ∃ t, mg "GREATEST_NUMBER" = some (.int 8 t)
  more : ∃ t, mg "MORE" = some (.int 0 t)
  noLess : ∃ t, mg "NO_LESS" = some (.int 1 t)
  asMuch : ∃ t, mg "AS_MUCH" = some (.int 2 t)
  len : mg "len" = none
  all : mg "all" = none
  sum : mg "sum" = none
  range : mg "range" = none
  zip : mg "zip" = none
  any : mg "any" = none
  enumerate : mg "enumerate" = none
  sorted : mg "sorted" = none
  min : mg "min" = none
  max : mg "max" = none
section
variable {P : Program} {w : World} {K : PySem.W.Frag} {mg : Str → Option Value} {base : Heap}
/-! ## is_kind -/
def spIsKind : Sp := fun vs H Q _ => ∃ k : Nat, vs = [nv k] ∧ Q (.bl (decide (k ≤ 2))) H
theorem sc_isKind : FnScope ["given"] ["given"] (defScope sIsKind) := ⟨rfl, rfl, rfl, by decide +kernel, rfl, by decide +kernel, by decide +kernel⟩
theorem ok_isKind {f : Addr} {fd : FuncData} (F : Fun K "is_kind" "is_kind" sIsKind f fd) (T : Txt mg) : FnOk P w K mg base CX0 1 f fd ["given"] spIsKind := by
  refine F.ok sc_isKind (fun vs H Q E h => ?_) (fun cdv A outer s H vs Q E hr h => ?_)
  · obtain ⟨k, rfl, _⟩ := h
    rfl
  · obtain ⟨k, rfl, q⟩ := h
    obtain ⟨t, e⟩ := T.asMuch
    refine ⟨_, pss_one (ps_ret (pe_cmpR op_le (pv 0) (pe_glob (v := .int 2) rfl e ⟨_, rfl⟩) (nomark _))), ?_⟩
    refine ⟨_, rfl, _, _, rfl, rfl, ?_⟩
    have e2 : decide ((k : Int) ≤ 2) = decide (k ≤ 2) := decide_eq_decide.mpr (by omega)
    show Q (.bl (decide ((k : Int) ≤ 2))) H
    rw [e2]
    exact q
/-! ## is_side -/
def spIsSide : Sp := fun vs H Q _ => ∃ (v : V) (a : List Nat) (n : Nat), vs = [v, nv n] ∧ Nums H v a ∧ a.length < 256 ∧ ∀ H', Same H H' → Q (.bl (a.length == n && a.all fun x => decide (x ≤ 3))) H'
theorem sc_isSide : FnScope ["given", "things", "often"] ["given", "things"] (defScope sIsSide) := ⟨rfl, rfl, rfl, by decide +kernel, rfl, by decide +kernel, by decide +kernel⟩
theorem ok_isSide {f : Addr} {fd : FuncData} (F : Fun K "is_side" "is_side" sIsSide f fd) (T : Txt mg) : FnOk P w K mg base CX0 1 f fd ["given", "things"] spIsSide := by
  refine F.ok sc_isSide (fun vs H Q E h => ?_) (fun cdv A outer s H vs Q E hr h => ?_)
  · obtain ⟨v, a, n, rfl, _⟩ := h
    rfl
  · obtain ⟨v, a, n, rfl, ⟨p, rfl, hp⟩, hl, q⟩ := h
    obtain ⟨t, e⟩ := T.mostOften
    refine ⟨_, pss_one (ps_ret (pe_and (pe_cmpR op_eq (pe_callB call_len_seq (by rfl) T.len PySem.boot_len (pa_cons (pv 0) pa_nil)) (pv 1) (nomark _))
      (pe_one (pe_callB (cr_all rfl) (by rfl) T.all boot_all (pa_cons (pe_lc (own := [("often", 2)]) rfl sc_isSide.nd (pi_list (pv 0)) (blkOk_by (by show blkC ["given", "things", "often"] (defScope sIsSide) _ _ = true; decide +kernel))
        (fun _ _ _ _ _ => pg_name (i := 2) sc_isSide.nd rfl (Or.inl rfl)) (fun _ _ _ _ _ => pts_nil) (fun _ _ _ _ _ => pe_cmpR op_le (pv 2) (pe_glob (v := .int 3) rfl e ⟨_, rfl⟩) (nomark _))) pa_nil))))), ?_⟩
    refine ⟨_, rfl, p, _, rfl, .inl (SqL.of hp), _, rfl, rfl, _, rfl, ?_⟩
    rw [List.length_map]
    refine ite2 (fun c => ?_) fun c => ?_
    · have el : a.length = n := by
        have := V.int.inj (of_decide_eq_true c)
        omega
      refine ⟨_, rfl, p, rfl, ⟨_, SqL.of hp⟩, fun D hD => lc_list (xs := a.map nv) (fun i H' => Same H H' ∧ H' D = some (.lst (((a.take i).map fun x => decide (x ≤ 3)).map V.bl))) ⟨same_upd hD, upd_same⟩ (fun i H' _ z => SqL.of (z.1 _ _ hp)) ?_ ?_⟩
      · rintro i x H' hx ⟨sm, hd⟩
        rw [List.getElem?_map] at hx
        obtain ⟨y, hy, rfl⟩ := Option.map_eq_some_iff.mp hx
        refine ⟨rfl, ?_⟩
        refine iteT (B := True) ⟨_, rfl, _, _, rfl, rfl, _, hd, ?_, same_off sm hD, ?_⟩
        · rw [List.length_map, List.length_map, List.length_take]
          exact small1000 (by omega)
        · rw [upd_same, take_snoc hy, List.map_append, List.map_append]
          have e2 : decide ((y : Int) ≤ 3) = decide (y ≤ 3) := decide_eq_decide.mpr (by omega)
          exact congrArg (fun z => some (HO.lst (((a.take i).map fun x => decide (x ≤ 3)).map V.bl ++ [V.bl z]))) e2
      · rintro H' ⟨sm, hd⟩
        rw [List.length_map, List.take_length] at hd
        refine ⟨D, _, rfl, SqL.of hd, ?_⟩
        have e3 : ((a.map fun x => decide (x ≤ 3)).all id) = (a.length == n && a.all fun x => decide (x ≤ 3)) := by
          rw [el, beq_self_eq_true, Bool.true_and, List.all_map]
          rfl
        rw [e3]
        exact q H' sm
    · have el : (a.length == n) = false := beq_eq_false_iff_ne.mpr fun z => c (decide_eq_true (by rw [z]))
      have r := q H (Same.refl H)
      rw [el, Bool.false_and] at r
      exact r
/-! ## is_numbers -/
def spIsNumbers : Sp := fun vs H Q _ => ∃ (v : V) (a : List Nat) (n : Nat), vs = [v, nv n] ∧ Nums H v a ∧ a.length < 256 ∧ ∀ H', Same H H' → Q (.bl (a.length == n && a.all fun x => decide (1 ≤ x) && decide (x ≤ 8))) H'
theorem sc_isNumbers : FnScope ["given", "things", "number"] ["given", "things"] (defScope sIsNumbers) := ⟨rfl, rfl, rfl, by decide +kernel, rfl, by decide +kernel, by decide +kernel⟩
theorem ok_isNumbers {f : Addr} {fd : FuncData} (F : Fun K "is_numbers" "is_numbers" sIsNumbers f fd) (T : Txt mg) : FnOk P w K mg base CX0 1 f fd ["given", "things"] spIsNumbers := by
  refine F.ok sc_isNumbers (fun vs H Q E h => ?_) (fun cdv A outer s H vs Q E hr h => ?_)
  · obtain ⟨v, a, n, rfl, _⟩ := h
    rfl
  · obtain ⟨v, a, n, rfl, ⟨p, rfl, hp⟩, hl, q⟩ := h
    obtain ⟨t, e⟩ := T.leastNumber
    obtain ⟨t', e'⟩ := T.greatestNumber
    refine ⟨_, pss_one (ps_ret (pe_and (pe_cmpR op_eq (pe_callB call_len_seq (by rfl) T.len PySem.boot_len (pa_cons (pv 0) pa_nil)) (pv 1) (nomark _))
      (pe_one (pe_callB (cr_all rfl) (by rfl) T.all boot_all (pa_cons (pe_lc (own := [("number", 2)]) rfl sc_isNumbers.nd (pi_list (pv 0)) (blkOk_by (by show blkC ["given", "things", "number"] (defScope sIsNumbers) _ _ = true; decide +kernel))
        (fun _ _ _ _ _ => pg_name (i := 2) sc_isNumbers.nd rfl (Or.inl rfl)) (fun _ _ _ _ _ => pts_nil) (fun _ _ _ _ _ => pe_chain op_le op_le (pe_glob (v := .int 1) rfl e ⟨_, rfl⟩) (pv 2) (pe_glob (v := .int 8) rfl e' ⟨_, rfl⟩))) pa_nil))))), ?_⟩
    refine ⟨_, rfl, p, _, rfl, .inl (SqL.of hp), _, rfl, rfl, _, rfl, ?_⟩
    rw [List.length_map]
    refine ite2 (fun c => ?_) fun c => ?_
    · have el : a.length = n := by
        have := V.int.inj (of_decide_eq_true c)
        omega
      refine ⟨_, rfl, p, rfl, ⟨_, SqL.of hp⟩, fun D hD => lc_list (xs := a.map nv) (fun i H' => Same H H' ∧ H' D = some (.lst (((a.take i).map fun x => decide (1 ≤ x) && decide (x ≤ 8)).map V.bl))) ⟨same_upd hD, upd_same⟩ (fun i H' _ z => SqL.of (z.1 _ _ hp)) ?_ ?_⟩
      · rintro i x H' hx ⟨sm, hd⟩
        rw [List.getElem?_map] at hx
        obtain ⟨y, hy, rfl⟩ := Option.map_eq_some_iff.mp hx
        refine ⟨rfl, ?_⟩
        have fin : ∀ b : Bool, b = (decide (1 ≤ y) && decide (y ≤ 8)) → ∃ acc, H' D = some (HO.lst acc) ∧ acc.length < sizeLine ∧ Same H (upd H' D (.lst (acc ++ [V.bl b]))) ∧
            upd H' D (.lst (acc ++ [V.bl b])) D = some (.lst (((a.take (i + 1)).map fun x => decide (1 ≤ x) && decide (x ≤ 8)).map V.bl)) := fun b eb => by
          refine ⟨_, hd, ?_, same_off sm hD, ?_⟩
          · rw [List.length_map, List.length_map, List.length_take]
            exact small1000 (by omega)
          · rw [upd_same, take_snoc hy, List.map_append, List.map_append, eb]
            rfl
        refine iteT (B := True) ⟨_, rfl, _, _, rfl, rfl, _, rfl, ?_⟩
        refine ite2 (fun c1 => ?_) fun c1 => ?_
        · have k1 : (1 : Int) ≤ y := of_decide_eq_true c1
          refine ⟨_, _, rfl, rfl, fin _ ?_⟩
          have e2 : decide (1 ≤ y) = true := decide_eq_true (by omega)
          rw [e2, Bool.true_and]
          exact decide_eq_decide.mpr (by omega)
        · have k1 : ¬ (1 : Int) ≤ y := fun z => c1 (decide_eq_true z)
          refine fin _ ?_
          have e2 : decide (1 ≤ y) = false := decide_eq_false (by omega)
          rw [e2, Bool.false_and]
      · rintro H' ⟨sm, hd⟩
        rw [List.length_map, List.take_length] at hd
        refine ⟨D, _, rfl, SqL.of hd, ?_⟩
        have e3 : ((a.map fun x => decide (1 ≤ x) && decide (x ≤ 8)).all id) = (a.length == n && a.all fun x => decide (1 ≤ x) && decide (x ≤ 8)) := by
          rw [el, beq_self_eq_true, Bool.true_and, List.all_map]
          rfl
        rw [e3]
        exact q H' sm
    · have el : (a.length == n) = false := beq_eq_false_iff_ne.mpr fun z => c (decide_eq_true (by rw [z]))
      have r := q H (Same.refl H)
      rw [el, Bool.false_and] at r
      exact r
/-! ## side_of -/
theorem count_ints (l : List Nat) (i : Nat) : (KM.zints l).count (i : Int) = (l.filter fun x => x == i).length := by
  induction l with
  | nil => rfl
  | cons x r ih =>
    show ((x : Int) :: KM.zints r).count (i : Int) = _
    rw [List.count_cons, ih, List.filter_cons]
    by_cases c : x = i
    · subst c
      rw [if_pos (beq_self_eq_true _), if_pos (beq_self_eq_true _), List.length_cons]
    · rw [if_neg (by intro z; exact c (by have := eq_of_beq z; omega)), if_neg (by intro z; exact c (eq_of_beq z))]
      rfl
def spSideOf : Sp := fun vs H Q _ => ∃ (v : V) (l : List Nat) (n : Nat), vs = [v, nv n] ∧ Nums H v l ∧ n ≤ 4 ∧ ∀ H' p, Same H H' → H p = none → H' p = some (.lst ((Krab.unit n l).map nv)) → Q (.ref p) H'
theorem sc_sideOf : FnScope ["taken", "things", "thing"] ["taken", "things"] (defScope sSideOf) := ⟨rfl, rfl, rfl, by decide +kernel, rfl, by decide +kernel, by decide +kernel⟩
theorem ok_sideOf {f : Addr} {fd : FuncData} (F : Fun K "side_of" "side_of" sSideOf f fd) (T : Txt mg) : FnOk P w K mg base CX0 1 f fd ["taken", "things"] spSideOf := by
  refine F.ok sc_sideOf (fun vs H Q E h => ?_) (fun cdv A outer s H vs Q E hr h => ?_)
  · obtain ⟨v, a, n, rfl, _⟩ := h
    rfl
  · obtain ⟨v, l, n, rfl, ⟨p, rfl, hp⟩, hn, q⟩ := h
    refine ⟨_, pss_one (ps_ret (pe_lc (own := [("thing", 2)]) rfl sc_sideOf.nd (pi_range1 (by rfl) T.range (pa_cons (pv 1) pa_nil)) (blkOk_by (by show blkC ["taken", "things", "thing"] (defScope sSideOf) _ _ = true; decide +kernel))
        (fun _ _ _ _ _ => pg_name (i := 2) sc_sideOf.nd rfl (Or.inl rfl)) (fun _ _ _ _ _ => pts_nil) (fun _ _ _ _ _ => bmK K rfl PySem.F.plainAttrs_list PySem.F.slot_list_count PySem.F.type_list_count (countK K rfl) (pv 0) (pa_cons (pv 2) pa_nil)))), ?_⟩
    refine ⟨_, rfl, (n : Int), rfl, by omega, by omega, fun D hD => lc_range (fun i H' => Same H H' ∧ H' D = some (.lst (((List.range i).map fun i => (l.filter fun x => x == i).length).map nv))) ⟨same_upd hD, upd_same⟩ ?_ ?_⟩
    · rintro i H' hi ⟨sm, hd⟩
      refine ⟨rfl, ?_⟩
      have hp' : H' p = some (.lst ((KM.zints l).map V.int)) := by
        rw [KR.ints_map]
        exact sm _ _ hp
      refine iteT (B := True) ⟨_, rfl, .inl ⟨rfl, _, SqL.of hp'⟩, _, rfl, p, _, _, rfl, rfl, SqL.of hp', _, hd, ?_, same_off sm hD, ?_⟩
      · rw [List.length_map, List.length_map, List.length_range]
        exact small1000 (by omega)
      · rw [upd_same, List.range_succ, List.map_append, List.map_append]
        have e0 : (0 : Int) + (i : Nat) = (i : Int) := Int.zero_add _
        rw [e0, count_ints]
        rfl
    · rintro H' ⟨sm, hd⟩
      rw [Int.toNat_natCast] at hd
      exact q H' D sm hD hd
end
end KP

end
section
set_option Elab.async false
set_option linter.all false
set_option maxRecDepth 100000
set_option maxHeartbeats 4000000
namespace KP
open PySem PySem.Spec PyProof.Rows L2 KG KR
section
variable {P : Program} {w : World} {K : PySem.W.Frag} {mg : Str → Option Value} {base : Heap}
/-! ## agrees -/
/-- c[i] where c is a list or a tuple -/
theorem ixSK {X : Cx} (K : PySem.W.Frag) (hK : X.K = K) : IxR X (fun x y H Q => rIxL K x y H Q ∨ rIxT K x y H Q) := (ixLK K hK).or (ixTK K hK)
theorem ix_cmp {K : PySem.W.Frag} {H : Hp} {c : Addr} {l : List V} {i : Nat} {v : V} {Q : VK} (h : H c = some (.lst l) ∨ H c = some (.tup l)) (hi : l[i]? = some v) (q : Q v H) : rIxL K (.ref c) (.int (i : Nat)) H Q ∨ rIxT K (.ref c) (.int (i : Nat)) H Q := by
  rcases h with h | h
  · exact .inl ⟨c, _, _, _, rfl, rfl, SqL.of h, atI_nat hi, q⟩
  · exact .inr ⟨c, _, _, _, rfl, rfl, SqT.of h, atI_nat hi, q⟩
def spAgrees : Sp := fun vs H Q _ => ∃ (vx vc : V) (x : List Nat) (t : Krab.Told) (n : Nat), vs = [vx, vc] ∧ Nums H vx x ∧ Cmp H vc t ∧ KM.TOk n t ∧ x.length = n ∧ n ≤ 4 ∧ (∀ y ∈ x, y ≤ 8) ∧ ∀ H', Same H H' → Q (.bl (t.holds x)) H'
theorem sc_agrees : FnScope ["numbers", "comparison", "kind", "lead", "number", "more", "less"] ["numbers", "comparison"] (defScope sAgrees) := ⟨rfl, rfl, rfl, by decide +kernel, rfl, by decide +kernel, by decide +kernel⟩
theorem leads_at : ∀ {x a b : List Nat} {i : Nat} {p q r : Nat}, x[i]? = some p → a[i]? = some q → b[i]? = some r → (KM.leads x a b)[i]? = some ((p : Int) * ((q : Int) - (r : Int)))
  | x :: xs, a :: as, b :: bs, 0, p, q, r, h1, h2, h3 => by
    cases h1
    cases h2
    cases h3
    rfl
  | x :: xs, a :: as, b :: bs, i + 1, p, q, r, h1, h2, h3 => leads_at (x := xs) (a := as) (b := bs) (i := i) (by simpa using h1) (by simpa using h2) (by simpa using h3)
  | [], _, _, i, _, _, _, h, _, _ => by simp at h
  | _ :: _, [], _, i, _, _, _, _, h, _ => by simp at h
  | _ :: _, _ :: _, [], i, _, _, _, _, _, h => by simp at h
theorem leads_len : ∀ (x a b : List Nat), a.length = x.length → b.length = x.length → (KM.leads x a b).length = x.length
  | [], [], [], _, _ => rfl
  | x :: xs, a :: as, b :: bs, h1, h2 => by
    show (KM.leads xs as bs).length + 1 = xs.length + 1
    rw [leads_len xs as bs (by simpa using h1) (by simpa using h2)]
  | [], _ :: _, _, h, _ => by simp at h
  | [], [], _ :: _, _, h => by simp at h
  | _ :: _, [], _, h, _ => by simp at h
  | _ :: _, _ :: _, [], _, h => by simp at h
theorem ok_agrees {f : Addr} {fd : FuncData} (F : Fun K "agrees" "agrees" sAgrees f fd) (T : Txt mg) : FnOk P w K mg base CX0 1 f fd ["numbers", "comparison"] spAgrees := by
  refine F.ok sc_agrees (fun vs H Q E h => ?_) (fun cdv A outer s H vs Q E hr h => ?_)
  · obtain ⟨vx, vc, x, t, n, rfl, _⟩ := h
    rfl
  · obtain ⟨vx, vc, x, t, n, rfl, ⟨ax, rfl, hx⟩, ⟨c, va, vb, rfl, hc, ⟨aa, rfl, ha⟩, ⟨ab, rfl, hb⟩⟩, tok, hl, hn, hy8, q⟩ := h
    obtain ⟨t0, e0⟩ := T.more
    obtain ⟨t1, e1⟩ := T.noLess
    refine ⟨_, pss_cons (ps_set (i := 2) sc_agrees.nd rfl (Or.inl rfl) (pe_ix (ixSK K rfl) (pv 1) pe_int (fun _ _ => rfl)))
      (pss_cons (ps_set (i := 3) sc_agrees.nd rfl (Or.inl rfl) (pe_callB (cr_sum rfl) (by rfl) T.sum boot_sum (pa_cons (pe_lc (own := [("number", 4), ("more", 5), ("less", 6)]) rfl sc_agrees.nd
        (pi_zip3 (by rfl) T.zip (pa_cons (pv 0) (pa_cons (pe_ix (ixSK K rfl) (pv 1) pe_int (fun _ _ => rfl)) (pa_cons (pe_ix (ixSK K rfl) (pv 1) pe_int (fun _ _ => rfl)) pa_nil))))
        (blkOk_by (by show blkC ["numbers", "comparison", "kind", "lead", "number", "more", "less"] (defScope sAgrees) _ _ = true; decide +kernel))
        (fun _ _ _ _ _ => pgtK (n := 3) K rfl rfl (pgs_cons (pg_name (i := 4) sc_agrees.nd rfl (Or.inl rfl)) (pgs_cons (pg_name (i := 5) sc_agrees.nd rfl (Or.inl rfl)) (pgs_cons (pg_name (i := 6) sc_agrees.nd rfl (Or.inl rfl)) pgs_nil))))
        (fun _ _ _ _ _ => pts_nil) (fun _ _ _ _ _ => pe_op op_mul (pv 4) (pe_op op_sub (pv 5) (pv 6)))) pa_nil)))
      (pss_cons (ps_if (pt_cmpR op_eq (pv 2) (pe_glob (v := .int 0) rfl e0 ⟨_, rfl⟩) (nomark _)) (pss_one (ps_ret (pe_cmpR op_gt (pv 3) pe_int (nomark _)))) pss_nil)
      (pss_cons (ps_if (pt_cmpR op_eq (pv 2) (pe_glob (v := .int 1) rfl e1 ⟨_, rfl⟩) (nomark _)) (pss_one (ps_ret (pe_cmpR op_ge (pv 3) pe_int (nomark _)))) pss_nil)
      (pss_one (ps_ret (pe_cmpR op_eq (pv 3) pe_int (nomark _))))))), ?_⟩
    have la : t.a.length = x.length := tok.la.trans hl.symm
    have lb : t.b.length = x.length := tok.lb.trans hl.symm
    refine ⟨_, rfl, ix_cmp (i := 0) hc rfl ⟨_, rfl, _, rfl, ix_cmp (i := 1) hc rfl ⟨_, rfl, ix_cmp (i := 2) hc rfl ⟨ax, aa, ab, _, _, _, rfl, SqL.of hx, SqL.of ha, SqL.of hb, fun D hD =>
      lc_zip3 (xs := x.map nv) (ys := t.a.map nv) (zs := t.b.map nv) (fun i H' => Same H H' ∧ H' D = some (.lst (((KM.leads x t.a t.b).take i).map V.int))) ⟨same_upd hD, upd_same⟩ (by rw [List.length_map, List.length_map]; exact la) (by rw [List.length_map, List.length_map]; exact lb)
        (fun i H' _ z => ⟨SqL.of (z.1 _ _ hx), SqL.of (z.1 _ _ ha), SqL.of (z.1 _ _ hb)⟩) ?_ ?_⟩⟩⟩⟩
    · rintro i p1 p2 p3 H' U h1 h2 h3 ⟨sm, hd⟩ hU
      rw [List.getElem?_map] at h1 h2 h3
      obtain ⟨y1, g1, rfl⟩ := Option.map_eq_some_iff.mp h1
      obtain ⟨y2, g2, rfl⟩ := Option.map_eq_some_iff.mp h2
      obtain ⟨y3, g3, rfl⟩ := Option.map_eq_some_iff.mp h3
      have ii : i < x.length := (List.getElem?_eq_some_iff.mp g1).1
      have b8 : y1 ≤ 8 := hy8 y1 (List.mem_of_getElem? g1)
      refine ⟨U, _, rfl, SqT.of upd_same, rfl, _, _, rfl, _, _, rfl, _, _, rfl, rfl, rfl, ?_⟩
      refine iteT (B := True) ⟨_, rfl, _, rfl, _, rfl, _, _, rfl, rfl, _, _, rfl, rfl, .inl ⟨by omega, by omega⟩, _, (upd_ne (ne_of_none hd hU)).trans hd, ?_, same_off (sm.trans (same_upd hU)) hD, ?_⟩
      · rw [List.length_map, List.length_take]
        exact small1000 (by omega)
      · rw [upd_same, take_snoc (leads_at g1 g2 g3), List.map_append]
        rfl
    · rintro H' ⟨sm, hd⟩
      rw [List.length_map, ← leads_len x t.a t.b la lb, List.take_length] at hd
      refine ⟨D, _, rfl, SqL.of hd, ?_⟩
      have fin : ∀ b : Bool, b = KM.said t.kind (KM.leads x t.a t.b).sum → Q (.bl b) H' := fun b eb => by
        rw [eb, ← KM.holds_said tok hl]
        exact q H' sm
      have hk := tok.k
      refine ⟨_, rfl, rfl, _, rfl, ?_⟩
      refine ite2 (fun c0 => ?_) fun c0 => ?_
      · have k0 : t.kind = 0 := by
          have := V.int.inj (of_decide_eq_true c0)
          omega
        refine ⟨_, rfl, _, _, rfl, rfl, fin _ ?_⟩
        unfold KM.said
        rw [if_pos k0]
      · have k0 : ¬ t.kind = 0 := fun z => c0 (decide_eq_true (by rw [z]; rfl))
        refine ⟨_, rfl, rfl, _, rfl, ?_⟩
        refine ite2 (fun c1 => ?_) fun c1 => ?_
        · have k1 : t.kind = 1 := by
            have := V.int.inj (of_decide_eq_true c1)
            omega
          refine ⟨_, rfl, _, _, rfl, rfl, fin _ ?_⟩
          unfold KM.said
          rw [if_neg k0, if_pos k1]
        · have k1 : ¬ t.kind = 1 := fun z => c1 (decide_eq_true (by rw [z]; rfl))
          refine ⟨_, rfl, rfl, fin _ ?_⟩
          unfold KM.said
          rw [if_neg k0, if_neg k1]
          exact decide_eq_decide.mpr ⟨fun z => V.int.inj z, fun z => congrArg V.int z⟩
end
end KP

end
section
set_option Elab.async false
set_option linter.all false
set_option maxRecDepth 100000
set_option maxHeartbeats 4000000
namespace KP
open PySem PySem.Spec PyProof.Rows L2 KG KR
/-- a def of the top, by its name -/
structure Df (K : PySem.W.Frag) (mg : Str → Option Value) (x : Str) (st : Stmt) (ps : List Str) : Prop where
  ex : ∃ f fd, Fun K x x st f fd ∧ mg x = some (.ref f) ∧ Binds K fd ps []
section
variable {P : Program} {w : World} {K : PySem.W.Frag} {mg : Str → Option Value} {base : Heap}
/-- a row of numbers for n things -/
def NumOk (n : Nat) (x : List Nat) : Prop := x.length = n ∧ ∀ y ∈ x, y ≤ 8
/-! ## agreeing -/
def spAgreeing : Sp := fun vs H Q _ => ∃ (F : Hp) (vl vc : V) (l : List (List Nat)) (t : Krab.Told) (n : Nat), vs = [vl, vc] ∧ Same F H ∧ Rows F vl l ∧ Cmp H vc t ∧ KM.TOk n t ∧ n ≤ 4 ∧ (∀ x ∈ l, NumOk n x) ∧ l.length ≤ 4096 ∧
  ∀ H' p us, Same H H' → H p = none → H' p = some (.lst us) → Paired (Nums F) us (l.filter fun x => t.holds x) → Q (.ref p) H'
theorem sc_agreeing : FnScope ["candidates", "comparison", "numbers"] ["candidates", "comparison"] (defScope sAgreeing) := ⟨rfl, rfl, rfl, by decide +kernel, rfl, by decide +kernel, by decide +kernel⟩
theorem small1000' {n : Nat} (h : n ≤ 10000) : n < sizeLine := Nat.lt_of_le_of_lt h (by decide)
theorem small4096 {n : Nat} (h : n ≤ 4096) : n < sizeLine := Nat.lt_of_le_of_lt h (by decide)
theorem ok_agreeing {f : Addr} {fd : FuncData} (F : Fun K "agreeing" "agreeing" sAgreeing f fd) (T : Txt mg) (DA : Df K mg "agrees" sAgrees ["numbers", "comparison"]) : FnOk P w K mg base CX0 2 f fd ["candidates", "comparison"] spAgreeing := by
  obtain ⟨fa, fda, FA, mA, bA⟩ := DA.ex
  have GA : FnOk P w K mg base CX0 1 fa fda ["numbers", "comparison"] spAgrees := ok_agrees FA T
  refine F.ok sc_agreeing (fun vs H Q E h => ?_) (fun cdv A outer s H vs Q E hr h => ?_)
  · obtain ⟨F, vl, vc, l, t, n, rfl, _⟩ := h
    rfl
  · obtain ⟨G, vl, vc, l, t, n, rfl, sG, ⟨al, ws, rfl, hl, hp⟩, hc, tok, hn, hok, hsz, q⟩ := h
    refine ⟨_, pss_one (ps_ret (pe_lc (own := [("numbers", 2)]) rfl sc_agreeing.nd (pi_list (pv 0)) (blkOk_by (by show blkC ["candidates", "comparison", "numbers"] (defScope sAgreeing) _ _ = true; decide +kernel))
      (fun _ _ _ _ _ => pg_name (i := 2) sc_agreeing.nd rfl (Or.inl rfl)) (fun _ _ _ _ _ => pts_one (pt_val (pe_call GA hr rfl mA FA.kp bA .nil pass0 (pa_cons (pv 2) (pa_cons (pv 1) pa_nil))))) (fun _ _ _ _ _ => pv 2))), ?_⟩
    refine ⟨_, rfl, al, rfl, ⟨_, SqL.of (sG _ _ hl)⟩, fun D hD => lc_list (xs := ws) (fun i H' => Same H H' ∧ ∃ us, H' D = some (.lst us) ∧ Paired (Nums G) us ((l.take i).filter fun x => t.holds x)) ⟨same_upd hD, _, upd_same, .nil⟩ (fun i H' _ z => SqL.of (z.1 _ _ (sG _ _ hl))) ?_ ?_⟩
    · rintro i v H' hv ⟨sm, us, hd, pu⟩
      obtain ⟨x, hx, hnv⟩ := paired_left hp hv
      obtain ⟨ho1, ho2⟩ := hok x (List.mem_of_getElem? hx)
      have hlen : us.length ≤ 4096 := by
        rw [paired_len pu]
        refine Nat.le_trans (List.length_filter_le _ _) ?_
        rw [List.length_take]
        omega
      refine ⟨rfl, _, rfl, _, rfl, v, _, x, t, n, rfl, hnv.mono (sG.trans sm), hc.mono sm, tok, ho1, hn, ho2, fun H2 s2 => ⟨_, rfl, ?_⟩⟩
      have hd2 := s2 _ _ hd
      refine ite2 (fun c => ?_) fun c => ?_
      · refine ⟨_, rfl, us, hd2, small4096 hlen, same_off (sm.trans s2) hD, _, upd_same, ?_⟩
        rw [take_snoc hx, List.filter_append]
        refine paired_append pu ?_
        rw [List.filter_cons, if_pos c]
        exact .cons hnv .nil
      · refine ⟨sm.trans s2, us, hd2, ?_⟩
        rw [take_snoc hx, List.filter_append, List.filter_cons, if_neg c, List.filter_nil, List.append_nil]
        exact pu
    · rintro H' ⟨sm, us, hd, pu⟩
      rw [paired_len hp, List.take_length] at pu
      exact q H' D us sm hD hd pu
/-! ## all_lists -/
def spAllLists : Sp := fun vs H Q _ => ∃ (F : Hp) (n lo hi d : Nat), vs = [nv n, nv lo, nv hi] ∧ Same F H ∧ hi + 1 = lo + d ∧ 1 ≤ d ∧ d ≤ 8 ∧ lo ≤ 1 ∧ n ≤ 6 ∧ d ^ n ≤ 4096 ∧ ∀ H' F' v, Same H H' → Fx F H F' H' → Rows F' v (KM.lists (KM.digs lo d) n) → Q v H'
theorem sc_allLists : FnScope ["length", "lowest", "highest", "grown", "place", "longer", "begun", "number"] ["length", "lowest", "highest"] (defScope sAllLists) := ⟨rfl, rfl, rfl, by decide +kernel, rfl, by decide +kernel, by decide +kernel⟩
theorem ok_allLists {f : Addr} {fd : FuncData} (F : Fun K "all_lists" "all_lists" sAllLists f fd) (T : Txt mg) : FnOk P w K mg base CX0 1 f fd ["length", "lowest", "highest"] spAllLists := by
  refine F.ok sc_allLists (fun vs H Q E h => ?_) (fun cdv A outer s H vs Q E hr h => ?_)
  · obtain ⟨F, n, lo, hi, d, rfl, _⟩ := h
    rfl
  · obtain ⟨G, n, lo, hi, d, rfl, sG, hd, d1, d8, lo1, n6, hpw, q⟩ := h
    refine ⟨_, pss_cons (ps_set (i := 3) sc_allLists.nd rfl (Or.inl rfl) (pe_lst (pa_cons (pe_lst pa_nil) pa_nil)))
      (pss_cons (ps_for PassesOwn.never rfl (pi_range1 (by rfl) T.range (pa_cons (pv 0) pa_nil)) (pg_name (i := 4) sc_allLists.nd rfl (Or.inl rfl))
        (pss_cons (ps_set (i := 5) sc_allLists.nd rfl (Or.inl rfl) (pe_lst pa_nil))
        (pss_cons (ps_for PassesOwn.never rfl (pi_list (pv 3)) (pg_name (i := 6) sc_allLists.nd rfl (Or.inr rfl))
          (pss_one (ps_expr (pe_bm PySem.F.plainAttrs_list PySem.F.slot_list_extend PySem.F.type_list_extend mt_extend (pv 5) (pa_cons (pe_lc (own := [("number", 7)]) rfl sc_allLists.nd
            (pi_range2 (by rfl) T.range (pa_cons (pv 1) (pa_cons (pe_op op_add (pv 2) pe_int) pa_nil)))
            (blkOk_by (by show blkC ["length", "lowest", "highest", "grown", "place", "longer", "begun", "number"] (defScope sAllLists) _ _ = true; decide +kernel)) (fun _ _ _ _ _ => pg_name (i := 7) sc_allLists.nd rfl (Or.inl rfl)) (fun _ _ _ _ _ => pts_nil)
            (fun _ _ _ _ _ => pe_op op_cat (pv 6) (pe_lst (pa_cons (pv 7) pa_nil)))) pa_nil)))))
        (pss_one (ps_set (i := 3) sc_allLists.nd rfl (Or.inl rfl) (pv 5))))))
      (pss_one (ps_ret (pv 3)))), ?_⟩
    refine ⟨Nat.zero_le _, fun e0 hE => ⟨(by show 1 ≤ sizeLine; decide), fun g0 hg => ?_⟩⟩
    have f1 : Fx G H (upd G e0 (.lst [])) (upd H e0 (.lst [])) := Fx.lay sG hE
    have f2 := f1.trans (Fx.lay (o := .lst [.ref e0]) f1.le hg) (Same.there (same_upd hE))
    have s2 : Same H (upd (upd H e0 (.lst [])) g0 (.lst [.ref e0])) := (same_upd hE).trans (same_upd hg)
    have ne0 : e0 ≠ g0 := fun z => by
      rw [← z, upd_same] at hg
      cases hg
    refine ⟨_, rfl, (n : Int), rfl, by omega, by omega, for_range (n := (n : Int).toNat) (fun i σ' H' => ∃ (g : V) (o2 o3 o4 : Option V) (F' : Hp), σ' = [some (nv n), some (nv lo), some (nv hi), some g, o2, o3, o4, none] ∧ Same H H' ∧ Fx G H F' H' ∧ Rows F' g (KM.lists (KM.digs lo d) i)) ?_ ?_ ?_⟩
    · exact ⟨_, none, none, none, _, rfl, s2, f2, g0, _, rfl, upd_same, .cons ⟨e0, rfl, by rw [upd_ne ne0, upd_same]; rfl⟩ .nil⟩
    · rintro i σ' H' hi' ⟨g, o2, o3, o4, F', rfl, sm, fx, ag, ws, rfl, hag, pw⟩
      have hin : i < n := by omega
      have hp1 : d ^ (i + 1) ≤ 4096 := Nat.le_trans (Nat.pow_le_pow_right d1 hin) hpw
      refine ⟨Nat.zero_le _, fun L hL => ?_⟩
      have hFL : F' L = none := fx.le.free hL
      refine ⟨_, rfl, ag, rfl, ⟨_, SqL.of (same_upd hL _ _ (fx.le _ _ hag))⟩, for_list (xs := ws) (fun j σ2 H2 => ∃ (o4 : Option V) (F2 : Hp) (us : List V), σ2 = [some (nv n), some (nv lo), some (nv hi), some (.ref ag), some (.int (0 + (i : Nat))), some (.ref L), o4, none] ∧ Same H' H2 ∧ Fx G H F2 H2 ∧ Same F' F2 ∧ F2 L = none ∧ H2 L = some (.lst us) ∧
        Paired (Nums F2) us (KM.growG (KM.digs lo d) ((KM.lists (KM.digs lo d) i).take j))) ?_ (fun j σ2 H2 _ ⟨_, F2, _, _, _, x2, y2, _⟩ => SqL.of (x2.le _ _ (y2 _ _ hag))) ?_ ?_⟩
      · exact ⟨o4, F', [], rfl, same_upd hL, ⟨fx.sub, same_off fx.le hFL, fx.new⟩, Same.refl _, hFL, upd_same, .nil⟩
      · rintro j v σ2 H2 hv ⟨o4, F2, us, rfl, sm2, fx2, sF2, hF2L, h2L, pu⟩
        obtain ⟨r, hr', ar, rfl, har⟩ := paired_left pw hv
        have hle : us.length ≤ 4096 := by
          rw [paired_len pu, KM.growG_len, KM.digs_len]
          have b1 := KM.lists_count (KM.digs lo d) i
          rw [KM.digs_len] at b1
          have b3 : ((KM.lists (KM.digs lo d) i).take j).length ≤ d ^ i := by
            rw [List.length_take]
            omega
          refine Nat.le_trans (Nat.mul_le_mul_left d b3) ?_
          rw [Nat.mul_comm, ← Nat.pow_succ]
          exact hp1
        refine ⟨_, rfl, .inl ⟨rfl, _, SqL.of h2L⟩, _, rfl, _, rfl, _, _, rfl, rfl, _, _, rfl, ⟨by omega, by omega, by omega, by omega⟩, fun D hD => lc_range (fun m H3 => ∃ (F3 : Hp) (us3 : List V), Fx G H F3 H3 ∧ Same F2 F3 ∧ Same H2 H3 ∧ F3 L = none ∧ F3 D = none ∧ H3 D = some (.lst us3) ∧
          Paired (Nums F3) us3 (((KM.digs lo d).take m).map fun d => r ++ [d])) ?_ ?_ ?_⟩
        · have hFD : F2 D = none := fx2.le.free hD
          exact ⟨F2, [], ⟨fx2.sub, same_off fx2.le hFD, fx2.new⟩, Same.refl _, same_upd hD, hF2L, hFD, upd_same, .nil⟩
        · rintro m H3 hm ⟨F3, us3, fx3, sF3, sm3, hF3L, hF3D, h3D, pu3⟩
          have hmd : m < d := by omega
          refine ⟨rfl, ?_⟩
          refine iteT (B := True) ⟨_, rfl, _, rfl, (by show 1 ≤ sizeLine; decide), fun e he => ?_⟩
          have h3r : H3 ar = some (.lst (r.map nv)) := fx3.le _ _ (sF3 _ _ (sF2 _ _ har))
          have hrl : r.length ≤ 6 := by
            have := KM.lists_len (KM.digs lo d) i r (List.mem_of_getElem? hr')
            omega
          refine ⟨ar, e, _, _, rfl, rfl, same_upd he _ _ h3r, upd_same, (by rw [List.length_map]; exact Nat.le_of_lt (small1000 (by show r.length + 1 ≤ 1000; omega))), fun p hp => ?_⟩
          have fe := fx3.le.free he
          have g2 : Fx F3 H3 F3 (upd H3 e (.lst [.int ((lo : Int) + (m : Nat))])) := Fx.up (same_off fx3.le fe)
          have g3 := Fx.lay (o := .lst (r.map nv ++ [.int ((lo : Int) + (m : Nat))])) g2.le hp
          have nDp : D ≠ p := ne_of_none (same_upd he _ _ h3D) hp
          have nLp : L ≠ p := ne_of_none (same_upd he _ _ (sm3 _ _ h2L)) hp
          have h4D : (upd (upd H3 e (.lst [.int ((lo : Int) + (m : Nat))])) p (.lst (r.map nv ++ [.int ((lo : Int) + (m : Nat))]))) D = some (.lst us3) := same_upd hp _ _ (same_upd he _ _ h3D)
          have F4D : (upd F3 p (.lst (r.map nv ++ [.int ((lo : Int) + (m : Nat))]))) D = none := by rw [upd_ne nDp]; exact hF3D
          have g4 := (fx3.trans g2 (Same.there (sm.trans (sm2.trans sm3)))).trans g3 (Same.there (sm.trans (sm2.trans (sm3.trans (same_upd he)))))
          have hl3 : us3.length ≤ 8 := by
            rw [paired_len pu3, List.length_map, List.length_take]
            omega
          refine ⟨us3, h4D, small1000 (by omega), _, us3 ++ [.ref p], ⟨g4.sub, same_off g4.le F4D, g4.new⟩, sF3.trans g3.sub, ?_, (by rw [upd_ne nLp]; exact hF3L), F4D, upd_same, ?_⟩
          · exact fun b o z => by
              rw [upd_ne (ne_of_none z hD)]
              exact same_upd hp _ _ (same_upd he _ _ (sm3 _ _ z))
          · rw [take_snoc (KM.digs_at hmd), List.map_append]
            refine paired_append (paired_mono (fun _ _ z => z.mono g3.sub) pu3) (.cons ⟨p, rfl, ?_⟩ .nil)
            rw [upd_same, List.map_append]
            have e9 : (lo : Int) + (m : Nat) = ((lo + m : Nat) : Int) := by omega
            rw [e9]
            rfl
        · rintro H3 ⟨F3, us3, fx3, sF3, sm3, hF3L, hF3D, h3D, pu3⟩
          have ed : ((hi : Int) + 1 - (lo : Int)).toNat = (KM.digs lo d).length := by rw [KM.digs_len]; omega
          rw [ed, List.take_length] at pu3
          have hl3 : us3.length ≤ 8 := by
            rw [paired_len pu3, List.length_map, KM.digs_len]
            exact d8
          refine ⟨L, D, us, us3, rfl, rfl, sm3 _ _ h2L, h3D, Nat.le_of_lt (small1000' (by omega)), some _, F3, us ++ us3, rfl, ?_, ⟨fx3.sub, same_off fx3.le hF3L, fx3.new⟩, sF2.trans sF3, hF3L, upd_same, ?_⟩
          · exact fun b o z => by
              rw [upd_ne (ne_of_none z hL)]
              exact sm3 _ _ (sm2 _ _ z)
          · rw [take_snoc hr', KM.growG_append, KM.growG_one]
            exact paired_append (paired_mono (fun _ _ z => z.mono sF3) pu) pu3
      · rintro σ2 H2 ⟨o4, F2, us, rfl, sm2, fx2, sF2, hF2L, h2L, pu⟩
        rw [paired_len pw, List.take_length] at pu
        refine ⟨_, rfl, .ref L, _, _, _, upd F2 L (.lst us), rfl, sm.trans sm2, Fx.fix fx2 hF2L (sm.free hL) h2L, L, us, rfl, upd_same, ?_⟩
        exact paired_mono (fun _ _ z => z.mono (same_upd hF2L)) pu
    · rintro σ' H' ⟨g, o2, o3, o4, F', rfl, sm, fx, rw'⟩
      rw [Int.toNat_natCast] at rw'
      exact ⟨_, rfl, q H' F' g sm fx rw'⟩
/-! ## all_numbers -/
def spAllNumbers : Sp := fun vs H Q _ => ∃ (F : Hp) (n : Nat), vs = [nv n] ∧ Same F H ∧ n ≤ 4 ∧ ∀ H' F' v, Same H H' → Fx F H F' H' → Rows F' v (Krab.rows n) → Q v H'
theorem sc_allNumbers : FnScope ["things"] ["things"] (defScope sAllNumbers) := ⟨rfl, rfl, rfl, by decide +kernel, rfl, by decide +kernel, by decide +kernel⟩
theorem pow84 {n : Nat} (h : n ≤ 4) : 8 ^ n ≤ 4096 := Nat.le_trans (Nat.pow_le_pow_right (by decide) h) (by decide)
theorem pow46 {n : Nat} (h : n ≤ 6) : 4 ^ n ≤ 4096 := Nat.le_trans (Nat.pow_le_pow_right (by decide) h) (by decide)
theorem ok_allNumbers {f : Addr} {fd : FuncData} (F : Fun K "all_numbers" "all_numbers" sAllNumbers f fd) (T : Txt mg) (DL : Df K mg "all_lists" sAllLists ["length", "lowest", "highest"]) : FnOk P w K mg base CX0 2 f fd ["things"] spAllNumbers := by
  obtain ⟨fl, fdl, FL, mL, bL⟩ := DL.ex
  have GL : FnOk P w K mg base CX0 1 fl fdl ["length", "lowest", "highest"] spAllLists := ok_allLists FL T
  refine F.ok sc_allNumbers (fun vs H Q E h => ?_) (fun cdv A outer s H vs Q E hr h => ?_)
  · obtain ⟨F, n, rfl, _⟩ := h
    rfl
  · obtain ⟨G, n, rfl, sG, hn, q⟩ := h
    obtain ⟨t1, e1⟩ := T.leastNumber
    obtain ⟨t8, e8⟩ := T.greatestNumber
    refine ⟨_, pss_one (ps_ret (pe_call GL hr rfl mL FL.kp bL .nil pass0 (pa_cons (pv 0) (pa_cons (pe_glob (v := .int 1) rfl e1 ⟨_, rfl⟩) (pa_cons (pe_glob (v := .int 8) rfl e8 ⟨_, rfl⟩) pa_nil))))), ?_⟩
    refine ⟨_, rfl, G, n, 1, 8, 8, rfl, sG, rfl, by decide, by decide, by decide, by omega, pow84 hn, fun H' F' v s1 x1 r1 => ?_⟩
    rw [KM.rows_lists] at r1
    exact q H' F' v s1 x1 r1
end
end KP

end
section
set_option Elab.async false
set_option linter.all false
set_option maxRecDepth 100000
set_option maxHeartbeats 4000000
namespace KP
open PySem PySem.Spec PyProof.Rows L2 KG KR
section
variable {P : Program} {w : World} {K : PySem.W.Frag} {mg : Str → Option Value} {base : Heap}
/-- the list at a tells ts -/
def TellsAt (F H : Hp) (a : Addr) (us : List V) (ts : List Krab.Told) : Prop := H a = some (.lst us) ∧ Paired (Cmp F) us ts
/-! ## all_that_fit -/
def spAllThatFit : Sp := fun vs H Q _ => ∃ (F : Hp) (n : Nat) (a : Addr) (us : List V) (ts : List Krab.Told), vs = [nv n, .ref a] ∧ Same F H ∧ n ≤ 4 ∧ TellsAt F H a us ts ∧ (∀ t ∈ ts, KM.TOk n t) ∧ ∀ H' F' v, Same H H' → Fx F H F' H' → Rows F' v (Krab.fitBy n ts) → Q v H'
theorem sc_allThatFit : FnScope ["things", "told", "fitting", "comparison"] ["things", "told"] (defScope sAllThatFit) := ⟨rfl, rfl, rfl, by decide +kernel, rfl, by decide +kernel, by decide +kernel⟩
theorem fit_ok {n : Nat} {l : List Krab.Told} {x : List Nat} (h : x ∈ Krab.fitBy n l) : NumOk n x := ⟨KM.fit_len h, fun y hy => (KM.fit_le h y hy).2⟩
theorem fit_4096 {n : Nat} (hn : n ≤ 4) (l : List Krab.Told) : (Krab.fitBy n l).length ≤ 4096 := by
  refine Nat.le_trans (KM.fit_count n l) ?_
  match n, hn with
  | 0, _ => decide
  | 1, _ => decide
  | 2, _ => decide
  | 3, _ => decide
  | 4, _ => decide
theorem ok_allThatFit {f : Addr} {fd : FuncData} (F : Fun K "all_that_fit" "all_that_fit" sAllThatFit f fd) (T : Txt mg) (DA : Df K mg "agrees" sAgrees ["numbers", "comparison"]) (DG : Df K mg "agreeing" sAgreeing ["candidates", "comparison"])
    (DN : Df K mg "all_numbers" sAllNumbers ["things"]) (DL : Df K mg "all_lists" sAllLists ["length", "lowest", "highest"]) : FnOk P w K mg base CX0 3 f fd ["things", "told"] spAllThatFit := by
  obtain ⟨fg, fdg, FG, mG, bG⟩ := DG.ex
  obtain ⟨fn, fdn, FN, mN, bN⟩ := DN.ex
  have GG : FnOk P w K mg base CX0 2 fg fdg ["candidates", "comparison"] spAgreeing := ok_agreeing FG T DA
  have GN : FnOk P w K mg base CX0 2 fn fdn ["things"] spAllNumbers := ok_allNumbers FN T DL
  refine F.ok sc_allThatFit (fun vs H Q E h => ?_) (fun cdv A outer s H vs Q E hr h => ?_)
  · obtain ⟨F, n, a, us, ts, rfl, _⟩ := h
    rfl
  · obtain ⟨G, n, a, us, ts, rfl, sG, hn, ⟨ha, pc⟩, tok, q⟩ := h
    refine ⟨_, pss_cons (ps_set (i := 2) sc_allThatFit.nd rfl (Or.inl rfl) (pe_call GN hr rfl mN FN.kp bN .nil pass0 (pa_cons (pv 0) pa_nil)))
      (pss_cons (ps_for PassesOwn.never rfl (pi_list (pv 1)) (pg_name (i := 3) sc_allThatFit.nd rfl (Or.inl rfl))
        (pss_one (ps_set (i := 2) sc_allThatFit.nd rfl (Or.inl rfl) (pe_call GG hr rfl mG FG.kp bG .nil pass0 (pa_cons (pv 2) (pa_cons (pv 3) pa_nil))))))
      (pss_one (ps_ret (pv 2)))), ?_⟩
    refine ⟨_, rfl, G, n, rfl, sG, hn, fun H1 F1 v1 s1 x1 r1 => ?_⟩
    refine ⟨_, rfl, a, rfl, ⟨_, SqL.of (s1 _ _ ha)⟩, for_list (xs := us) (fun i σ' H' => ∃ (v : V) (o : Option V) (F' : Hp), σ' = [some (nv n), some (.ref a), some v, o] ∧ Same H H' ∧ Fx G H F' H' ∧ Rows F' v (Krab.fitBy n (ts.take i))) ?_
      (fun i σ' H' _ ⟨_, _, _, _, sm, _⟩ => SqL.of (sm _ _ ha)) ?_ ?_⟩
    · exact ⟨v1, none, F1, rfl, s1, x1, by rw [List.take_zero, KM.fit_nil]; exact r1⟩
    · rintro i c σ' H' hc ⟨v, o, F', rfl, sm, fx, rv⟩
      obtain ⟨t, ht, hcm⟩ := paired_left pc hc
      refine ⟨_, rfl, _, rfl, F', v, c, _, t, n, rfl, fx.le, rv, hcm.mono (fx.sub.trans fx.le), tok t (List.mem_of_getElem? ht), hn, fun x hx => fit_ok hx, fit_4096 hn _, fun H2 p us2 s2 hp h2 pu => ?_⟩
      have hFp : F' p = none := fx.le.free hp
      have fx2 : Fx G H F' H2 := ⟨fx.sub, fx.le.trans s2, fx.new⟩
      refine ⟨.ref p, some c, upd F' p (.lst us2), rfl, sm.trans s2, Fx.fix fx2 hFp (sm.free hp) h2, p, us2, rfl, upd_same, ?_⟩
      rw [take_snoc ht, KM.fit_snoc]
      exact paired_mono (fun _ _ z => z.mono (same_upd hFp)) pu
    · rintro σ' H' ⟨v, o, F', rfl, sm, fx, rv⟩
      rw [paired_len pc, List.take_length] at rv
      exact ⟨_, rfl, q H' F' v sm fx rv⟩
end
end KP

end
section
set_option Elab.async false
set_option linter.all false
set_option maxRecDepth 100000
set_option maxHeartbeats 4000000
namespace KP
open PySem PySem.Spec PyProof.Rows L2 KG KR
abbrev sReadCalls : Stmt := top 65
/-- the table of calls: by a call's number its def, how many whole numbers, how many rows -/
structure Tab (K : PySem.W.Frag) (mg : Str → Option Value) (fs : Nat → Addr) : Prop where
  ex : ∃ (c : Addr) (rows : List Addr), mg "CALLS" = some (.ref c) ∧ (∀ H, SqT K H c (rows.map V.ref)) ∧ ∀ k, k < 22 → ∃ tp, rows[k]? = some tp ∧ ∀ H, SqT K H tp [.ref (fs k), nv (KM.arity k).1, nv (KM.arity k).2]
/-- what is given with a call: whole numbers, then rows -/
def Given (F : Hp) (v : V) (a : List Nat) (rs : List (List Nat)) : Prop := ∃ g vs, v = .ref g ∧ F g = some (.lst (a.map nv ++ vs)) ∧ Paired (Nums F) vs rs
def CallV (F : Hp) (v : V) (c : KM.Cl) : Prop := ∃ p gv, v = .ref p ∧ F p = some (.tup [nv c.k, gv]) ∧ Given F gv c.a c.rs
theorem Given.mono {F F' : Hp} {v : V} {a : List Nat} {rs : List (List Nat)} (h : Given F v a rs) (e : Same F F') : Given F' v a rs := by
  obtain ⟨g, vs, rfl, h1, h2⟩ := h
  exact ⟨g, vs, rfl, e _ _ h1, paired_mono (fun _ _ z => z.mono e) h2⟩
theorem CallV.mono {F F' : Hp} {v : V} {c : KM.Cl} (h : CallV F v c) (e : Same F F') : CallV F' v c := by
  obtain ⟨p, gv, rfl, h1, h2⟩ := h
  exact ⟨p, gv, rfl, e _ _ h1, h2.mono e⟩
section
variable {P : Program} {w : World} {K : PySem.W.Frag} {mg : Str → Option Value} {base : Heap}
theorem cut_nat {ns : List Nat} {i j : Nat} (h1 : i ≤ j) (h2 : j ≤ ns.length) : cutV (ns.map nv) (some (i : Int)) (some (j : Int)) = ((ns.drop i).take (j - i)).map nv := by
  unfold cutV
  rw [HT.sIx_nat, HT.sIx_nat, List.length_map, Nat.min_eq_left h2, Nat.min_eq_left (Nat.le_trans h1 h2), List.map_take, List.map_drop]
def flats (cl : List KM.Cl) : List Nat := cl.flatMap KM.Cl.flat
theorem flats_split {cl : List KM.Cl} {j : Nat} {c : KM.Cl} (h : cl[j]? = some c) : flats cl = flats (cl.take j) ++ (c.flat ++ flats (cl.drop (j + 1))) := by
  obtain ⟨hj, e⟩ := List.getElem?_eq_some_iff.mp h
  have hl : cl = cl.take j ++ c :: cl.drop (j + 1) := by
    rw [← e, List.getElem_cons_drop hj, List.take_append_drop]
  unfold flats
  conv => lhs; rw [hl]
  rw [List.flatMap_append, List.flatMap_cons]
theorem rowsN_split {rs : List (List Nat)} {m : Nat} {r : List Nat} (h : rs[m]? = some r) : KM.rowsN rs = KM.rowsN (rs.take m) ++ (r.length :: (r ++ KM.rowsN (rs.drop (m + 1)))) := by
  obtain ⟨hj, e⟩ := List.getElem?_eq_some_iff.mp h
  have hl : rs = rs.take m ++ r :: rs.drop (m + 1) := by
    rw [← e, List.getElem_cons_drop hj, List.take_append_drop]
  unfold KM.rowsN
  conv => lhs; rw [hl]
  rw [List.flatMap_append, List.flatMap_cons]
  rfl
def spReadCalls (K : PySem.W.Frag) : Sp := fun vs H Q _ => ∃ (F : Hp) (a : Addr) (cl : List KM.Cl), vs = [.ref a] ∧ Same F H ∧ SqL K F a ((flats cl).map nv) ∧ (flats cl).length ≤ 12850 ∧ (∀ c ∈ cl, c.k < 22 ∧ KM.arity c.k = (c.a.length, c.rs.length)) ∧
  ∀ H' F' p us, Same H H' → Fx F H F' H' → F' p = some (.lst us) → Paired (CallV F') us cl → Q (.ref p) H'
theorem sc_readCalls : FnScope ["calls", "read", "at", "number", "behind", "given", "row", "start"] ["calls"] (defScope sReadCalls) := ⟨rfl, rfl, rfl, by decide +kernel, rfl, by decide +kernel, by decide +kernel⟩
theorem sqL_same {K : PySem.W.Frag} {H H' : Hp} {a : Addr} {xs : List V} (e : Same H H') (h : SqL K H a xs) : SqL K H' a xs := e.seq h
def atOf (n : Nat) (σ : L2.St) : Nat := match σ[2]? with
  | some (some (V.int z)) => n - z.toNat
  | _ => 0
theorem ok_readCalls {f : Addr} {fd : FuncData} {fs : Nat → Addr} (F : Fun K "read_calls" "read_calls" sReadCalls f fd) (T : Txt mg) (TB : Tab K mg fs) : FnOk P w K mg base CX0 1 f fd ["calls"] (spReadCalls K) := by
  obtain ⟨cT, rows, mC, hC, hR⟩ := TB.ex
  refine F.ok sc_readCalls (fun vs H Q E h => ?_) (fun cdv A outer s H vs Q E hr h => ?_)
  · obtain ⟨F, a, cl, rfl, _⟩ := h
    rfl
  · obtain ⟨G, a, cl, rfl, sG, ha, hlen, hcl, q⟩ := h
    refine ⟨_, pss_cons (ps_set (i := 1) sc_readCalls.nd rfl (Or.inl rfl) (pe_lst pa_nil))
      (pss_cons (ps_set (i := 2) sc_readCalls.nd rfl (Or.inl rfl) pe_int)
      (pss_cons (ps_while PassesOwn.never (pt_cmpR op_lt (pv 2) (pe_callB call_len_seq (by rfl) T.len PySem.boot_len (pa_cons (pv 0) pa_nil)) (nomark _))
        (pss_cons (ps_set (i := 3) sc_readCalls.nd rfl (Or.inl rfl) (pe_ix ix_list (pv 0) (pv 2) (fun _ _ => rfl)))
        (pss_cons (ps_set (i := 4) sc_readCalls.nd rfl (Or.inl rfl) (pe_op op_add (pe_op op_add (pv 2) pe_int) (pe_ix ix_tup (pe_ix ix_tup (pe_glob (v := .ref cT) rfl mC rfl) (pv 3) (fun _ _ => rfl)) pe_int (fun _ _ => rfl))))
        (pss_cons (ps_set (i := 5) sc_readCalls.nd rfl (Or.inl rfl) (pe_slice sl_list (pv 0) (po_some (pe_op op_add (pv 2) pe_int)) (po_some (pv 4))))
        (pss_cons (ps_for PassesOwn.never rfl (pi_range1 (by rfl) T.range (pa_cons (pe_ix ix_tup (pe_ix ix_tup (pe_glob (v := .ref cT) rfl mC rfl) (pv 3) (fun _ _ => rfl)) pe_int (fun _ _ => rfl)) pa_nil)) (pg_name (i := 6) sc_readCalls.nd rfl (Or.inl rfl))
          (pss_cons (ps_set (i := 7) sc_readCalls.nd rfl (Or.inl rfl) (pe_op op_add (pv 4) pe_int))
          (pss_cons (ps_set (i := 4) sc_readCalls.nd rfl (Or.inl rfl) (pe_op op_add (pv 7) (pe_ix ix_list (pv 0) (pv 4) (fun _ _ => rfl))))
          (pss_one (ps_expr (pe_bm PySem.F.plainAttrs_list PySem.F.slot_list_append PySem.F.type_list_append mt_append (pv 5) (pa_cons (pe_slice sl_list (pv 0) (po_some (pv 7)) (po_some (pv 4))) pa_nil)))))))
        (pss_cons (ps_expr (pe_bm PySem.F.plainAttrs_list PySem.F.slot_list_append PySem.F.type_list_append mt_append (pv 1) (pa_cons (pe_tup (pa_cons (pv 3) (pa_cons (pv 5) pa_nil))) pa_nil)))
        (pss_one (ps_set (i := 2) sc_readCalls.nd rfl (Or.inl rfl) (pv 4)))))))))
      (pss_one (ps_ret (pv 1))))), ?_⟩
    refine ⟨Nat.zero_le _, fun R hR0 => ?_⟩
    have hFR : G R = none := sG.free hR0
    refine while_by (fun σ' H' => ∃ (j : Nat) (o3 o4 o5 o6 o7 : Option V) (F' : Hp) (us : List V), j ≤ cl.length ∧ σ' = [some (.ref a), some (.ref R), some (nv (flats (cl.take j)).length), o3, o4, o5, o6, o7] ∧ Same H H' ∧ Fx G H F' H' ∧ F' R = none ∧ H' R = some (.lst us) ∧ Paired (CallV F') us (cl.take j))
      (fun σ' _ => atOf (flats cl).length σ') ?_ ?_ ?_
    · exact ⟨0, none, none, none, none, none, G, [], Nat.zero_le _, rfl, same_upd hR0, Fx.up (same_off sG hFR), hFR, upd_same, .nil⟩
    · rintro σ' H' ⟨j, o3, o4, o5, o6, o7, F', us, hj, rfl, sm, fx, hFR', hR', pu⟩
      have hs : SqL K H' a ((flats cl).map nv) := (fx.sub.trans fx.le).seq ha
      refine ⟨_, rfl, _, rfl, a, _, rfl, .inl hs, _, _, rfl, rfl, _, rfl, ?_⟩
      rw [List.length_map]
      refine ite2 (fun c0 => ?_) fun c0 => ?_
      · have hat : (flats (cl.take j)).length < (flats cl).length := by
          have := of_decide_eq_true c0
          omega
        have hj' : j < cl.length := by
          rcases Nat.lt_or_ge j cl.length with z | z
          · exact z
          · rw [List.take_of_length_le z] at hat
            exact absurd hat (Nat.lt_irrefl _)
        obtain ⟨c, hc⟩ : ∃ c, cl[j]? = some c := ⟨_, List.getElem?_eq_getElem hj'⟩
        obtain ⟨hk, har⟩ := hcl c (List.mem_of_getElem? hc)
        obtain ⟨tp, htp, hT⟩ := hR c.k hk
        rw [har] at hT
        have sp := flats_split hc
        generalize epre : flats (cl.take j) = pre at sp hat
        generalize flats (cl.drop (j + 1)) = post at sp
        have sp1 : flats cl = pre ++ c.k :: (c.a ++ (KM.rowsN c.rs ++ post)) := by
          rw [sp]
          show pre ++ (c.k :: (c.a ++ KM.rowsN c.rs) ++ post) = _
          rw [List.cons_append, List.append_assoc]
        have sp2 : flats cl = (pre ++ [c.k]) ++ (c.a ++ (KM.rowsN c.rs ++ post)) := by
          rw [sp1, List.append_assoc]
          rfl
        have tot : (flats cl).length = pre.length + 1 + c.a.length + (KM.rowsN c.rs).length + post.length := by
          rw [sp1, List.length_append, List.length_cons, List.length_append, List.length_append]
          omega
        have rk : (rows.map V.ref)[c.k]? = some (.ref tp) := by
          rw [List.getElem?_map, htp]
          rfl
        have a0 : ((flats cl).map nv)[pre.length]? = some (nv c.k) := by
          rw [List.getElem?_map, sp1, KM.seg_at]
          rfl
        refine ⟨_, rfl, _, rfl, a, _, _, _, rfl, rfl, hs, atI_nat a0, _, rfl, _, _, rfl, rfl, _, rfl, cT, _, _, _, rfl, rfl, hC H', atI_nat rk, tp, _, _, _, rfl, rfl, hT H', atI_nat (j := 1) rfl, _, _, rfl, rfl,
          _, rfl, _, rfl, _, _, rfl, rfl, _, rfl, _, rfl, _, rfl, a, _, rfl, hs, fun g hg => ?_⟩
        have ecut : cutV ((flats cl).map nv) (some ((pre.length : Int) + 1)) (some ((pre.length : Int) + 1 + (c.a.length : Int))) = c.a.map nv := by
          have e1 : (pre.length : Int) + 1 = ((pre.length + 1 : Nat) : Int) := by omega
          have e2 : (pre.length : Int) + 1 + (c.a.length : Int) = ((pre.length + 1 + c.a.length : Nat) : Int) := by omega
          rw [e2, e1, cut_nat (by omega) (by omega), sp2]
          have e3 : pre.length + 1 = (pre ++ [c.k]).length := by rw [List.length_append]; rfl
          rw [e3, Nat.add_sub_cancel_left, KM.seg_cut]
        have hFg : F' g = none := fx.le.free hg
        have nRg : R ≠ g := ne_of_none hR' hg
        refine ⟨_, rfl, cT, _, _, _, rfl, rfl, hC _, atI_nat rk, tp, _, _, _, rfl, rfl, hT _, atI_nat (j := 2) rfl, (c.rs.length : Int), rfl, by omega, ?_, for_range (n := (c.rs.length : Int).toNat) (fun m σ2 H2 => ∃ (o6 o7 : Option V) (F2 : Hp) (vs : List V),
          σ2 = [some (.ref a), some (.ref R), some (nv pre.length), some (nv c.k), some (nv (pre.length + 1 + c.a.length + (KM.rowsN (c.rs.take m)).length)), some (.ref g), o6, o7] ∧ Same H' H2 ∧ Fx G H F2 H2 ∧ Same F' F2 ∧ F2 R = none ∧ F2 g = none ∧
          H2 g = some (.lst (c.a.map nv ++ vs)) ∧ Paired (Nums F2) vs (c.rs.take m)) ?_ ?_ ?_⟩
        · have hb : c.rs.length ≤ 2 := by
            have := congrArg Prod.snd har
            have h22 : ∀ k, k < 22 → (KM.arity k).2 ≤ 2 := by decide
            have := h22 c.k hk
            rw [har] at this
            exact this
          omega
        · refine ⟨o6, o7, F', [], ?_, same_upd hg, ⟨fx.sub, same_off fx.le hFg, fx.new⟩, Same.refl _, hFR', hFg, ?_, .nil⟩
          · have e2 : (pre.length : Int) + 1 + (c.a.length : Int) = ((pre.length + 1 + c.a.length : Nat) : Int) := by omega
            show [some (V.ref a), some (.ref R), some (nv pre.length), some (nv c.k), some (.int ((pre.length : Int) + 1 + (c.a.length : Int))), some (.ref g), o6, o7] = _
            rw [e2]
            rfl
          · rw [upd_same, List.append_nil]
            exact congrArg (fun z => some (HO.lst z)) ecut
        · rintro m σ2 H2 hm ⟨p6, p7, F2, vs, rfl, sm2, fx2, sF2, hF2R, hF2g, h2g, pv2⟩
          have hm' : m < c.rs.length := by omega
          obtain ⟨r, hr'⟩ : ∃ r, c.rs[m]? = some r := ⟨_, List.getElem?_eq_getElem hm'⟩
          have rsp := rowsN_split hr'
          have hs2 : SqL K H2 a ((flats cl).map nv) := (fx2.sub.trans fx2.le).seq ha
          generalize KM.rowsN (c.rs.drop (m + 1)) = rpost at rsp
          generalize ebp : pre.length + 1 + c.a.length + (KM.rowsN (c.rs.take m)).length = B
          have lp : (pre ++ c.k :: (c.a ++ KM.rowsN (c.rs.take m))).length = B := by
            rw [List.length_append, List.length_cons, List.length_append]
            omega
          have sp3 : flats cl = (pre ++ c.k :: (c.a ++ KM.rowsN (c.rs.take m))) ++ r.length :: (r ++ (rpost ++ post)) := by
            rw [sp1, rsp]
            simp only [List.append_assoc, List.cons_append]
          have sp4 : flats cl = ((pre ++ c.k :: (c.a ++ KM.rowsN (c.rs.take m))) ++ [r.length]) ++ (r ++ (rpost ++ post)) := by
            rw [sp3, List.append_assoc _ [r.length]]
            rfl
          have tot3 : B + 1 + r.length ≤ (flats cl).length := by
            rw [sp3, List.length_append, lp, List.length_cons, List.length_append]
            omega
          have aB : ((flats cl).map nv)[B]? = some (nv r.length) := by
            rw [List.getElem?_map, sp3, ← lp, KM.seg_at]
            rfl
          refine ⟨_, rfl, _, _, rfl, rfl, _, rfl, _, rfl, _, rfl, a, _, _, _, rfl, rfl, hs2, atI_nat aB, _, _, rfl, rfl, _, rfl, .inl ⟨rfl, _, SqL.of h2g⟩, _, rfl, _, rfl, _, rfl, _, rfl, _, rfl, a, _, rfl, hs2, fun p hp => ?_⟩
          have ecut2 : cutV ((flats cl).map nv) (some ((B : Int) + 1)) (some ((B : Int) + 1 + (r.length : Int))) = r.map nv := by
            have e1 : (B : Int) + 1 = ((B + 1 : Nat) : Int) := by omega
            have e2 : (B : Int) + 1 + (r.length : Int) = ((B + 1 + r.length : Nat) : Int) := by omega
            rw [e2, e1, cut_nat (by omega) tot3]
            have e3 : B + 1 = ((pre ++ c.k :: (c.a ++ KM.rowsN (c.rs.take m))) ++ [r.length]).length := by
              rw [List.length_append, lp]
              rfl
            rw [e3, Nat.add_sub_cancel_left, sp4, KM.seg_cut]
          have hFp : F2 p = none := fx2.le.free hp
          have ngp : g ≠ p := ne_of_none h2g hp
          have nRp : R ≠ p := ne_of_none (sm2 _ _ hR') hp
          have g3 := Fx.lay (o := .lst (cutV ((flats cl).map nv) (some ((B : Int) + 1)) (some ((B : Int) + 1 + (r.length : Int))))) fx2.le hp
          have g4 := fx2.trans g3 (Same.there (sm.trans sm2))
          have F4g : (upd F2 p (.lst (cutV ((flats cl).map nv) (some ((B : Int) + 1)) (some ((B : Int) + 1 + (r.length : Int)))))) g = none := by rw [upd_ne ngp]; exact hF2g
          have hvl : vs.length ≤ 255 + c.rs.length := by
            rw [paired_len pv2, List.length_take]
            omega
          have hal : c.a.length ≤ 12850 := by omega
          have hrl2 : c.rs.length ≤ 12850 := by
            have h22 : ∀ k, k < 22 → (KM.arity k).2 ≤ 2 := by decide
            have := h22 c.k hk
            rw [har] at this
            have : c.rs.length ≤ 2 := this
            omega
          refine ⟨g, _, _, rfl, rfl, same_upd hp _ _ h2g, ?_, some (.int (0 + (m : Nat))), some (.int ((B : Int) + 1)), _, vs ++ [.ref p], ?_, ?_, ⟨g4.sub, same_off g4.le F4g, g4.new⟩, sF2.trans g3.sub, (by rw [upd_ne nRp]; exact hF2R), F4g, ?_, ?_⟩
          · rw [List.length_append, List.length_map]
            exact Nat.lt_of_le_of_lt (show c.a.length + vs.length ≤ 100000 by omega) (by decide)
          · have e2 : (B : Int) + 1 + (r.length : Int) = ((pre.length + 1 + c.a.length + (KM.rowsN (c.rs.take (m + 1))).length : Nat) : Int) := by
              have e3 : KM.rowsN (c.rs.take (m + 1)) = KM.rowsN (c.rs.take m) ++ (r.length :: r) := by
                rw [take_snoc hr']
                unfold KM.rowsN
                rw [List.flatMap_append, List.flatMap_cons, List.flatMap_nil, List.append_nil]
              rw [e3, List.length_append, List.length_cons]
              omega
            show [some (V.ref a), some (.ref R), some (nv pre.length), some (nv c.k), some (.int ((B : Int) + 1 + (r.length : Int))), some (.ref g), some (.int (0 + (m : Nat))), some (.int ((B : Int) + 1))] = _
            rw [e2]
          · exact fun b o z => by
              rw [upd_ne (ne_of_none z hg)]
              exact same_upd hp _ _ (sm2 _ _ z)
          · rw [upd_same, List.append_assoc]
          · rw [take_snoc hr']
            refine paired_append (paired_mono (fun _ _ z => z.mono g3.sub) pv2) (.cons ⟨p, rfl, ?_⟩ .nil)
            rw [upd_same, ecut2]
        · rintro σ2 H2 ⟨p6, p7, F2, vs, rfl, sm2, fx2, sF2, hF2R, hF2g, h2g, pv2⟩
          have e0 : ((c.rs.length : Int)).toNat = c.rs.length := Int.toNat_natCast _
          rw [e0, List.take_length] at pv2
          refine ⟨_, rfl, .inl ⟨rfl, _, SqL.of (sm2 _ _ hR')⟩, _, rfl, _, rfl, (by show 2 ≤ sizeLine; decide), fun tq htq => ?_⟩
          have ngt : g ≠ tq := ne_of_none h2g htq
          have nRt : R ≠ tq := ne_of_none (sm2 _ _ hR') htq
          have g3 := Fx.fix fx2 hF2g (sm.free hg) h2g
          have g4 := Fx.lay (o := .tup [nv c.k, .ref g]) g3.le htq
          have g5 := g3.trans g4 (Same.there (sm.trans sm2))
          have F5R : (upd (upd F2 g (.lst (c.a.map nv ++ vs))) tq (.tup [nv c.k, .ref g])) R = none := by
            rw [upd_ne nRt, upd_ne nRg]
            exact hF2R
          have hul : us.length ≤ 12850 := by
            rw [paired_len pu, List.length_take]
            have hcl2 : ∀ (l : List KM.Cl), l.length ≤ (flats l).length := by
              intro l
              induction l with
              | nil => exact Nat.le_refl _
              | cons x l ih =>
                show l.length + 1 ≤ (x.flat ++ flats l).length
                rw [List.length_append]
                have : 1 ≤ x.flat.length := by
                  unfold KM.Cl.flat
                  rw [List.length_cons]
                  omega
                omega
            have := hcl2 cl
            omega
          have fin : flats (cl.take (j + 1)) = pre ++ c.flat := by
            rw [take_snoc hc]
            unfold flats
            rw [List.flatMap_append, List.flatMap_cons, List.flatMap_nil, List.append_nil]
            exact congrArg (fun z => z ++ c.flat) epre
          have lfin : (flats (cl.take (j + 1))).length = pre.length + 1 + c.a.length + (KM.rowsN c.rs).length := by
            rw [fin, List.length_append]
            unfold KM.Cl.flat
            rw [List.length_cons, List.length_append]
            omega
          refine ⟨R, us, _, rfl, rfl, same_upd htq _ _ (sm2 _ _ hR'), Nat.lt_of_le_of_lt hul (by decide), _, rfl, ⟨j + 1, some (nv c.k), some (nv (pre.length + 1 + c.a.length + (KM.rowsN (c.rs.take (c.rs.length : Int).toNat)).length)), some (.ref g), p6, p7, _, us ++ [.ref tq], hj', ?_, ?_, ⟨g5.sub, same_off g5.le F5R, g5.new⟩, F5R, upd_same, ?_⟩, ?_⟩
          · rw [lfin, e0, List.take_length]
            rfl
          · exact fun b o z => by
              rw [upd_ne (ne_of_none z hR0)]
              exact same_upd htq _ _ (sm2 _ _ (sm _ _ z))
          · rw [take_snoc hc]
            refine paired_append (paired_mono (fun _ _ z => z.mono (sF2.trans ((same_upd hF2g).trans g4.sub))) pu) (.cons ⟨tq, .ref g, rfl, upd_same, g, vs, rfl, ?_, ?_⟩ .nil)
            · rw [upd_ne ngt, upd_same]
            · exact paired_mono (fun _ _ z => z.mono ((same_upd hF2g).trans g4.sub)) pv2
          · show (flats cl).length - ((pre.length + 1 + c.a.length + (KM.rowsN (c.rs.take (c.rs.length : Int).toNat)).length : Nat) : Int).toNat < (flats cl).length - ((pre.length : Nat) : Int).toNat
            rw [e0, List.take_length, Int.toNat_natCast, Int.toNat_natCast]
            omega
      · have hge : (flats cl).length ≤ (flats (cl.take j)).length := by
          rcases Nat.lt_or_ge (flats (cl.take j)).length (flats cl).length with z | z
          · exact absurd (decide_eq_true (by omega)) c0
          · exact z
        have hj' : cl.length ≤ j := by
          rcases Nat.lt_or_ge j cl.length with z | z
          · obtain ⟨c, hc⟩ : ∃ c, cl[j]? = some c := ⟨_, List.getElem?_eq_getElem z⟩
            rw [flats_split hc, List.length_append, List.length_append] at hge
            unfold KM.Cl.flat at hge
            rw [List.length_cons] at hge
            omega
          · exact z
        rw [List.take_of_length_le hj'] at pu
        refine ⟨_, rfl, q H' (upd F' R (.lst us)) R us sm (Fx.fix fx hFR' hR0 hR') upd_same (paired_mono (fun _ _ z => z.mono (same_upd hFR')) pu)⟩
    · rintro σ' H' Q1 Q2 hq ⟨v1, e1, v2, e2, p1, y1, e3, h3, i1, j1, e4, e5, k1, e6, z⟩
      exact ⟨v1, e1, v2, e2, p1, y1, e3, h3, i1, j1, e4, e5, k1, e6, hq _ _ z⟩
end
end KP

end
section
set_option Elab.async false
set_option linter.all false
set_option maxRecDepth 100000
set_option maxHeartbeats 4000000
namespace KP
open PySem PySem.Spec PyProof.Rows L2 KG KR
abbrev sInit : Stmt := inClass (top 9) 0
abbrev sAnswer : Stmt := top 66
abbrev sAnswers : Stmt := top 67
/-- the object's values -/
def wf (n : Nat) (t f : V) : List (Str × V) := putF "fitting" f (putF "told" t (putF "things" (nv n) []))
theorem wf_things (n : Nat) (t f : V) : (wf n t f).lookup ("things" : Str) = some (nv n) := by
  unfold wf
  rw [lookup_putF, if_neg (by decide), lookup_putF, if_neg (by decide), lookup_putF, if_pos rfl]
theorem wf_told (n : Nat) (t f : V) : (wf n t f).lookup ("told" : Str) = some t := by
  unfold wf
  rw [lookup_putF, if_neg (by decide), lookup_putF, if_pos rfl]
theorem wf_fit (n : Nat) (t f : V) : (wf n t f).lookup ("fitting" : Str) = some f := by
  unfold wf
  rw [lookup_putF, if_pos rfl]
theorem putF_eq {x : Str} {v : V} (u : V) (r : List (Str × V)) : putF x v ((x, u) :: r) = (x, v) :: r := by
  unfold putF
  simp
theorem putF_ne {x y : Str} {v : V} (u : V) (r : List (Str × V)) (h : ¬ y = x) : putF x v ((y, u) :: r) = (y, u) :: putF x v r := by
  conv => lhs; unfold putF
  simp [h]
theorem wf_list (n : Nat) (t f : V) : wf n t f = [(("things" : Str), nv n), (("told" : Str), t), (("fitting" : Str), f)] := by
  unfold wf
  have e1 : putF "things" (nv n) [] = [(("things" : Str), nv n)] := rfl
  rw [e1, putF_ne _ _ (by decide)]
  have e2 : putF "told" t [] = [(("told" : Str), t)] := rfl
  rw [e2, putF_ne _ _ (by decide), putF_ne _ _ (by decide)]
  rfl
theorem wf_len (n : Nat) (t f : V) : (wf n t f).length = 3 := by rw [wf_list]; rfl
theorem wf_putThings (n m : Nat) (t f : V) : putF "things" (nv m) (wf n t f) = wf m t f := by
  rw [wf_list, wf_list, putF_eq]
theorem wf_putTold (n : Nat) (t t' f : V) : putF "told" t' (wf n t f) = wf n t' f := by
  rw [wf_list, wf_list, putF_ne _ _ (by decide), putF_eq]
theorem wf_putFit (n : Nat) (t f f' : V) : putF "fitting" f' (wf n t f) = wf n t f' := by
  rw [wf_list, wf_list, putF_ne _ _ (by decide), putF_ne _ _ (by decide), putF_eq]
/-- what the object is to hold in a state -/
def Holds (F : Hp) (n : Nat) (us : List V) (f : V) : Krab.Abs → Prop
  | none => n = 0
  | some h => n = h.n ∧ 1 ≤ h.n ∧ h.n ≤ 4 ∧ h.told.length ≤ 6 ∧ (∀ x ∈ h.told, KM.TOk h.n x) ∧ Paired (Cmp F) us h.told ∧ Rows F f (Krab.fitBy h.n h.told)
structure Wg (C : Addr) (F H : Hp) (w t : Addr) (s : Krab.Abs) : Prop where
  le : Same F H
  fw : F w = none
  ft : F t = none
  obj : ∃ dx n f us, H w = some (.ins C dx (wf n (.ref t) f)) ∧ H t = some (.lst us) ∧ Holds F n us f s
structure Post (C : Addr) (F H : Hp) (w t : Addr) (F' H' : Hp) (t' : Addr) (s' : Krab.Abs) : Prop where
  wg : Wg C F' H' w t' s'
  sub : Same F F'
  new : ∀ b, F b = none → H b ≠ none → F' b = none
  keep : ∀ b o, H b = some o → b ≠ w → b ≠ t → H' b = some o
  old : t' = t ∨ H t' = none
theorem Wg.wt {C : Addr} {F H : Hp} {w t : Addr} {s : Krab.Abs} (x : Wg C F H w t s) : w ≠ t := by
  obtain ⟨dx, n, f, us, h1, h2, _⟩ := x.obj
  exact ne_of h1 h2 (by intro z; cases z)
/-- a call that changes nothing, in a heap that has grown -/
theorem Post.same {C : Addr} {F H H' : Hp} {w t : Addr} {s : Krab.Abs} (x : Wg C F H w t s) (sm : Same H H') : Post C F H w t F H' t s := by
  obtain ⟨dx, n, f, us, h1, h2, h3⟩ := x.obj
  exact ⟨⟨x.le.trans sm, x.fw, x.ft, dx, n, f, us, sm _ _ h1, sm _ _ h2, h3⟩, Same.refl _, fun _ e _ => e, fun b o e _ _ => sm b o e, .inl rfl⟩
structure Cl0 (K : PySem.W.Frag) (mg : Str → Option Value) (C : Addr) : Prop where
  cl : Cls K C
  nTh : NoAttr K C "things"
  nTo : NoAttr K C "told"
  nFi : NoAttr K C "fitting"
  mgC : mg "Weighing" = some (.ref C)
  notBegun : ∃ t, mg "NOT_BEGUN" = some (.int (-11) t)
  begin_ : ∃ t, mg "BEGIN" = some (.int 0 t)
section
variable {P : Program} {w : World} {K : PySem.W.Frag} {mg : Str → Option Value} {base : Heap}
/-! ## Weighing() -/
def spInit (C : Addr) : Sp := fun vs H Q _ => ∃ (p dx : Addr), vs = [.ref p] ∧ H p = some (.ins C dx []) ∧ ∀ (H' : Hp) (t f : Addr), H t = none → H' p = some (.ins C dx (wf 0 (.ref t) (.ref f))) → H' t = some (.lst []) → (∀ b o, H b = some o → b ≠ p → H' b = some o) → Q .non H'
theorem sc_init : FnScope ["self"] ["self"] (defScope sInit) := ⟨rfl, rfl, rfl, by decide +kernel, rfl, by decide +kernel, by decide +kernel⟩
theorem ok_init {f C : Addr} {fd : FuncData} (F : Fun K "__init__" "Weighing.__init__" sInit f fd) (T : Cl0 K mg C) : FnOk P w K mg base CX0 1 f fd ["self"] (spInit C) := by
  refine F.ok sc_init (fun vs H Q E h => ?_) (fun cdv A outer s H vs Q E hr h => ?_)
  · obtain ⟨p, dx, rfl, _⟩ := h
    rfl
  · obtain ⟨p, dx, rfl, hp, k⟩ := h
    refine ⟨_, pss_cons (ps_fld (pv 0) pe_int rfl) (pss_cons (ps_fld (pv 0) (pe_lst pa_nil) rfl) (pss_one (ps_fld (pv 0) (pe_lst pa_nil) rfl))), ?_⟩
    refine ⟨_, rfl, p, C, dx, [], rfl, hp, T.cl, T.nTh, (by show 0 < 1000; decide), Nat.zero_le _, fun t ht => ⟨_, rfl, p, C, dx, putF "things" (V.int 0) [], rfl, ?_, T.cl, T.nTo, (by show 1 < 1000; decide), Nat.zero_le _, fun f hf => ⟨_, rfl, p, C, dx, putF "told" (.ref t) (putF "things" (V.int 0) []), rfl, ?_, T.cl, T.nFi, (by show 2 < 1000; decide), ?_⟩⟩⟩
    · exact upd_ne (ne_of_none upd_same ht) |>.trans upd_same
    · exact upd_ne (ne_of_none upd_same hf) |>.trans upd_same
    · have npt : p ≠ t := ne_of_none upd_same ht
      have htH : H t = none := by rw [← ht, upd_ne (Ne.symm npt)]
      refine k _ t f htH upd_same ?_ fun b o e hb => ?_
      · have e1 : (upd (upd (upd H p (.ins C dx (putF "things" (V.int 0) []))) t (.lst [])) p (.ins C dx (putF "told" (.ref t) (putF "things" (V.int 0) [])))) t = some (.lst []) := by
          rw [upd_ne (Ne.symm npt), upd_same]
        rw [upd_ne (Ne.symm npt), upd_ne (ne_of_none e1 hf)]
        exact e1
      · have e1 : (upd (upd (upd H p (.ins C dx (putF "things" (V.int 0) []))) t (.lst [])) p (.ins C dx (putF "told" (.ref t) (putF "things" (V.int 0) [])))) b = some o := by
          rw [upd_ne hb, upd_ne (ne_of_none e htH), upd_ne hb]
          exact e
        rw [upd_ne hb, upd_ne (ne_of_none e1 hf)]
        exact e1
end
end KP

end
section
set_option Elab.async false
set_option linter.all false
set_option maxRecDepth 100000
set_option maxHeartbeats 4000000
namespace KP
open PySem PySem.Spec PyProof.Rows L2 KG KR
/-- what a call's def promises -/
def spCmd (C : Addr) (k : Nat) : Sp := fun vs H Q _ => ∃ (F : Hp) (w t : Addr) (gv : V) (s : Krab.Abs) (c : KM.Cl) (q : Krab.Call), vs = [.ref w, gv] ∧ c.k = k ∧ KM.COk c q ∧ Given F gv c.a c.rs ∧ Wg C F H w t s ∧ (k = 0 ∨ ∃ h, s = some h) ∧
  ∀ H' F' t' p, Post C F H w t F' H' t' (Krab.act s q).1 → H p = none → H' p = some (.lst ((KM.due s q).map V.int)) → Q (.ref p) H'
def spAnswer (C : Addr) : Sp := fun vs H Q _ => ∃ (F : Hp) (w t : Addr) (gv : V) (s : Krab.Abs) (c : KM.Cl) (q : Krab.Call), vs = [.ref w, nv c.k, gv] ∧ KM.COk c q ∧ Given F gv c.a c.rs ∧ Wg C F H w t s ∧
  ∀ H' F' t' p, Post C F H w t F' H' t' (Krab.act s q).1 → H p = none → H' p = some (.lst ((KM.due s q).map V.int)) → Q (.ref p) H'
theorem act_none {c : KM.Cl} {q : Krab.Call} (h : KM.COk c q) (hk : ¬ c.k = 0) : Krab.act none q = (none, Krab.say (-11)) := by
  obtain ⟨raw, f⟩ := h.form
  obtain ⟨k, a, rs⟩ := c
  have hk' : ¬ k = 0 := hk
  have f' : KM.Form raw k a rs q := f
  cases f' <;> first | rfl | exact absurd rfl hk'
section
variable {P : Program} {w : World} {K : PySem.W.Frag} {mg : Str → Option Value} {base : Heap}
/-- the defs of the table, each with its promise -/
structure Cmds (P : Program) (w : World) (K : PySem.W.Frag) (mg : Str → Option Value) (base : Heap) (C : Addr) (M : Nat) (fs : Nat → Addr) : Prop where
  at_ : ∀ k, k < 22 → ∃ fd, FnOk P w K mg base CX0 M (fs k) fd ["weighing", "given"] (spCmd C k) ∧ PySem.W.keepIn K (.ref (fs k)) = true ∧ Binds K fd ["weighing", "given"] []
theorem sc_answer : FnScope ["weighing", "number", "given"] ["weighing", "number", "given"] (defScope sAnswer) := ⟨rfl, rfl, rfl, by decide +kernel, rfl, by decide +kernel, by decide +kernel⟩
theorem ok_answer {f C : Addr} {fd : FuncData} {fs : Nat → Addr} {M : Nat} (F : Fun K "answer" "answer" sAnswer f fd) (T : Txt mg) (T0 : Cl0 K mg C) (TB : Tab K mg fs) (CM : Cmds P w K mg base C M fs) : FnOk P w K mg base CX0 (M + 1) f fd ["weighing", "number", "given"] (spAnswer C) := by
  obtain ⟨cT, rows, mC, hC, hR⟩ := TB.ex
  refine F.ok sc_answer (fun vs H Q E h => ?_) (fun cdv A outer s H vs Q E hr h => ?_)
  · obtain ⟨F, w, t, gv, s, c, q, rfl, _⟩ := h
    rfl
  · obtain ⟨G, wa, t, gv, st, c, q, rfl, co, gi, wg, k⟩ := h
    obtain ⟨tn, en⟩ := T0.notBegun
    obtain ⟨tb, eb⟩ := T0.begin_
    obtain ⟨dx, n, ff, us, h1, h2, h3⟩ := wg.obj
    refine ⟨_, pss_cons (ps_if (PW.pt (pw_and (pt_cmpR op_eq (pe_fld (pv 0) rfl) pe_int (nomark _)) (pw_and1 (pt_cmpR op_ne (pv 1) (pe_glob (v := .int 0) rfl eb ⟨_, rfl⟩) (nomark _)))))
        (pss_one (ps_ret (pe_lst (pa_cons (pe_glob (v := .int (-11)) rfl en ⟨_, rfl⟩) pa_nil)))) pss_nil)
      (pss_one (ps_ret (pe_callV (pe_ix ix_tup (pe_ix ix_tup (pe_glob (v := .ref cT) rfl mC rfl) (pv 1) (fun _ _ => rfl)) pe_int (fun _ _ => rfl)) (pa_cons (pv 0) (pa_cons (pv 2) pa_nil))))), ?_⟩
    obtain ⟨tp, htp, hT⟩ := hR c.k co.lt
    have rk : (rows.map V.ref)[c.k]? = some (.ref tp) := by
      rw [List.getElem?_map, htp]
      rfl
    obtain ⟨fdk, Fk, kk, bk⟩ := CM.at_ c.k co.lt
    refine ⟨_, rfl, wa, C, dx, _, _, rfl, h1, T0.cl, T0.nTh, wf_things _ _ _, rfl, _, rfl, ?_⟩
    have disp : (c.k = 0 ∨ ∃ h, st = some h) → tRet (tCallV (cxOf CX0 P w K mg base ["weighing", "number", "given"] "answer" (defScope sAnswer) f cdv A outer s H E).nox (tOp (rIxT K) (tOp (rIxT K) (tC (.ref cT)) (tVar 1)) (tC (.int 0))) (tCons (tVar 0) (tCons (tVar 2) tNil)))
        { nx := fun _ H' => Q .non H', rt := Q } [some (.ref wa), some (nv c.k), some gv] H := fun hd =>
      ⟨_, rfl, cT, _, _, _, rfl, rfl, hC H, atI_nat rk, tp, _, _, _, rfl, rfl, hT H, atI_nat (j := 0) rfl, fs c.k, fdk, _, _, M, rfl, Fk, hr, kk, bk, _, rfl, _, rfl, G, wa, t, gv, st, c, q, rfl, rfl, co, gi, wg, hd, k⟩
    refine ite2 (fun c0 => ?_) fun c0 => ?_
    · have n0 : n = 0 := by
        have := V.int.inj (of_decide_eq_true c0)
        omega
      have hst : st = none := by
        cases st with
        | none => rfl
        | some h =>
          obtain ⟨e1, e2, _⟩ := h3
          omega
      refine ⟨_, rfl, rfl, _, rfl, ?_⟩
      by_cases hk : c.k = 0
      · have e1 : ¬ (!decide (V.int ((c.k : Nat) : Int) = V.int 0)) = true := by
          rw [hk]
          decide
        show if (!decide (V.int ((c.k : Nat) : Int) = V.int 0)) = true then _ else _
        rw [if_neg e1]
        exact disp (.inl hk)
      · have e1 : (!decide (V.int ((c.k : Nat) : Int) = V.int 0)) = true := by
          rw [decide_eq_false (fun z => hk (by have := V.int.inj z; omega))]
          rfl
        have fin : tRet (tLst (tCons (tC (.int (-11))) tNil)) { nx := fun _ H' => Q .non H', rt := Q } [some (.ref wa), some (nv c.k), some gv] H := by
          refine ⟨(by show 1 ≤ sizeLine; decide), fun p hp => ?_⟩
          have e2 := act_none co hk
          subst hst
          refine k _ G t p ?_ hp ?_
          · rw [e2]
            exact Post.same wg (same_upd hp)
          · unfold KM.due
            rw [e2, upd_same]
            rfl
        show if (!decide (V.int ((c.k : Nat) : Int) = V.int 0)) = true then _ else _
        rw [if_pos e1]
        exact fin
    · have hst : ∃ h, st = some h := by
        cases st with
        | none =>
          have e0 : n = 0 := h3
          exact absurd (decide_eq_true (by rw [e0]; rfl)) c0
        | some h => exact ⟨h, rfl⟩
      exact disp (.inr hst)
/-! ## answers -/
def spAnswers (K : PySem.W.Frag) : Sp := fun vs H Q _ => ∃ (a : Addr) (cl : List KM.Cl) (qs : List Krab.Call), vs = [.ref a] ∧ SqL K H a ((flats cl).map nv) ∧ (flats cl).length ≤ 12850 ∧ KM.All2 KM.COk cl qs ∧ (PyFlat.told (KM.run none qs)).length ≤ 10000000 ∧
  ∀ H' p, H' p = some (.lst ((PyFlat.told (KM.run none qs)).map V.int)) → Q (.ref p) H'
theorem sc_answers : FnScope ["calls", "weighing", "answered", "number", "given", "one_answer"] ["calls"] (defScope sAnswers) := ⟨rfl, rfl, rfl, by decide +kernel, rfl, by decide +kernel, by decide +kernel⟩
theorem run_append : ∀ (qs rs : List Krab.Call) (s : Krab.Abs), KM.run s (qs ++ rs) = KM.run s qs ++ KM.run (KM.after s qs) rs
  | [], _, _ => rfl
  | d :: qs, rs, s => by
    show KM.due s d :: KM.run (Krab.act s d).1 (qs ++ rs) = _
    rw [run_append qs]
    rfl
theorem told_le (qs : List Krab.Call) (i : Nat) : (PyFlat.told (KM.run none (qs.take i))).length ≤ (PyFlat.told (KM.run none qs)).length := by
  have e : KM.run none qs = KM.run none (qs.take i) ++ KM.run (KM.after none (qs.take i)) (qs.drop i) := by
    rw [← run_append, List.take_append_drop]
  rw [e, KM.told_append, List.length_append]
  omega
theorem ok_answers {f C fI : Addr} {fd fdI : FuncData} {fs : Nat → Addr} {M : Nat} (F : Fun K "answers" "answers" sAnswers f fd) (T : Txt mg) (T0 : Cl0 K mg C) (TB : Tab K mg fs) (CM : Cmds P w K mg base C M fs)
    (MK : Mk K C fI) (FI : Fun K "__init__" "Weighing.__init__" sInit fI fdI) (bI : Binds K fdI ["self"] []) (DR : Df K mg "read_calls" sReadCalls ["calls"]) (DA : Df K mg "answer" sAnswer ["weighing", "number", "given"]) :
    FnOk P w K mg base CX0 (M + 3) f fd ["calls"] (spAnswers K) := by
  obtain ⟨fr, fdr, FR, mR, bR⟩ := DR.ex
  obtain ⟨fa, fda, FA, mA, bA⟩ := DA.ex
  have GI : FnOk P w K mg base CX0 1 fI fdI ["self"] (spInit C) := ok_init FI T0
  have GR : FnOk P w K mg base CX0 1 fr fdr ["calls"] (spReadCalls K) := ok_readCalls FR T TB
  have GA : FnOk P w K mg base CX0 (M + 1) fa fda ["weighing", "number", "given"] (spAnswer C) := ok_answer FA T T0 TB CM
  refine F.ok sc_answers (fun vs H Q E h => ?_) (fun cdv A outer s H vs Q E hr h => ?_)
  · obtain ⟨a, cl, qs, rfl, _⟩ := h
    rfl
  · obtain ⟨a, cl, qs, rfl, ha, hlen, al, htl, q⟩ := h
    have hr1 : Room 1 _ := hr.mono (by omega)
    have hr2 : Room 2 _ := hr.mono (by omega)
    have hrA : Room (M + 1) _ := hr.mono (by omega)
    refine ⟨_, pss_cons (ps_set (i := 1) sc_answers.nd rfl (Or.inl rfl) (pe_make0 MK GI hr2 rfl T0.mgC bI .nil pass0))
      (pss_cons (ps_set (i := 2) sc_answers.nd rfl (Or.inl rfl) (pe_lst pa_nil))
      (pss_cons (ps_for PassesOwn.never rfl (pi_list (pe_call GR hr1 rfl mR FR.kp bR .nil pass0 (pa_cons (pv 0) pa_nil))) (pg_tup rfl (pgs_cons (pg_name (i := 3) sc_answers.nd rfl (Or.inl rfl)) (pgs_cons (pg_name (i := 4) sc_answers.nd rfl (Or.inl rfl)) pgs_nil)) (n := 2))
        (pss_cons (ps_set (i := 5) sc_answers.nd rfl (Or.inl rfl) (pe_call GA hrA rfl mA FA.kp bA .nil pass0 (pa_cons (pv 1) (pa_cons (pv 3) (pa_cons (pv 4) pa_nil)))))
        (pss_cons (ps_expr (pe_bm PySem.F.plainAttrs_list PySem.F.slot_list_append PySem.F.type_list_append mt_append (pv 2) (pa_cons (pe_callB call_len_seq (by rfl) T.len PySem.boot_len (pa_cons (pv 5) pa_nil)) pa_nil)))
        (pss_one (ps_expr (pe_bm PySem.F.plainAttrs_list PySem.F.slot_list_extend PySem.F.type_list_extend mt_extend (pv 2) (pa_cons (pv 5) pa_nil)))))))
      (pss_one (ps_ret (pv 2))))), ?_⟩
    intro x dx nx ndx nex
    refine ⟨x, dx, rfl, upd_same, fun H1 t f0 ht h1 h2 k1 => ⟨rfl, Nat.zero_le _, fun an han => ?_⟩⟩
    have s1 : Same H H1 := Same.made nx ndx k1
    have htH : H t = none := by
      have nxt : x ≠ t := ne_of_none upd_same ht
      rw [upd_ne (Ne.symm nxt)] at ht
      exact (same_upd ndx).free ht
    have hanH : H an = none := s1.free han
    have s2 : Same H (upd H1 an (.lst [])) := s1.trans (same_upd han)
    refine ⟨_, rfl, H, a, cl, rfl, s2, ha, hlen, fun c hc => ?_, fun H3 F3 p us s3 x3 hp3 pu => ?_⟩
    · obtain ⟨i, hi, e⟩ := List.getElem_of_mem hc
      obtain ⟨q', _, co⟩ := KM.all2_at al (i := i) (a := c) (by rw [List.getElem?_eq_getElem hi, e])
      exact ⟨co.lt, co.ar⟩
    · refine ⟨p, rfl, ⟨_, SqL.of (x3.le _ _ hp3)⟩, for_list (xs := us) (fun i σ' H' => ∃ (o3 o4 o5 : Option V) (F' : Hp) (t' : Addr), σ' = [some (.ref a), some (.ref x), some (.ref an), o3, o4, o5] ∧ Same F3 F' ∧ Wg C F' H' x t' (KM.after none (qs.take i)) ∧ F' an = none ∧ an ≠ x ∧ an ≠ t' ∧
        H' an = some (.lst ((PyFlat.told (KM.run none (qs.take i))).map V.int))) ?_ (fun i σ' H' _ ⟨_, _, _, F', _, _, sF, wg, _⟩ => SqL.of (wg.le _ _ (sF _ _ hp3))) ?_ ?_⟩
      · have n1 : an ≠ x := (ne_of_none h1 han).symm
        have n2 : an ≠ t := (ne_of_none h2 han).symm
        have g1 := same_upd (o := .lst []) han _ _ h1
        have g2 := same_upd (o := .lst []) han _ _ h2
        refine ⟨none, none, none, F3, t, rfl, Same.refl _, ⟨x3.le, x3.new x nx (by rw [g1]; exact fun z => nomatch z), x3.new t htH (by rw [g2]; exact fun z => nomatch z), dx, 0, .ref f0, [], s3 _ _ g1, s3 _ _ g2, rfl⟩, x3.new an hanH (by rw [upd_same]; exact fun z => nomatch z), n1, n2, s3 _ _ upd_same⟩
      · rintro i v σ' H' hv ⟨o3, o4, o5, F', t', rfl, sF, wg, fan, nax, nat_, hAn⟩
        obtain ⟨c, hc, tp, gv, rfl, htp, hgi⟩ := paired_left pu hv
        obtain ⟨q', hq', co⟩ := KM.all2_at al hc
        refine ⟨tp, _, rfl, SqT.of (wg.le _ _ (sF _ _ htp)), rfl, _, _, rfl, _, _, rfl, rfl, _, rfl, _, rfl, _, rfl, F', x, t', gv, _, c, q', rfl, co, hgi.mono sF, wg, fun H4 F4 t4 p4 po hp0 hp4 => ?_⟩
        have h4an := po.keep an _ hAn nax nat_
        have npa : p4 ≠ an := (ne_of_none hAn hp0).symm
        have e1 : KM.run none (qs.take (i + 1)) = KM.run none (qs.take i) ++ [KM.due (KM.after none (qs.take i)) q'] := by
          rw [take_snoc hq', KM.run_snoc]
        have e2 : PyFlat.told (KM.run none (qs.take (i + 1))) = PyFlat.told (KM.run none (qs.take i)) ++ (((KM.due (KM.after none (qs.take i)) q').length : Int) :: KM.due (KM.after none (qs.take i)) q') := by
          rw [e1, KM.told_snoc]
        have hb := told_le qs (i + 1)
        rw [e2, List.length_append, List.length_cons] at hb
        refine ⟨_, rfl, .inl ⟨rfl, _, SqL.of h4an⟩, _, rfl, p4, _, rfl, .inl (SqL.of hp4), an, _, _, rfl, rfl, h4an, ?_, _, rfl, .inl ⟨rfl, _, SqL.of upd_same⟩, _, rfl, an, p4, _, _, rfl, rfl, upd_same, (upd_ne npa).trans hp4, ?_, ?_⟩
        · rw [List.length_map]
          exact Nat.lt_of_le_of_lt (show _ ≤ 10000000 by omega) (by decide)
        · rw [List.length_append, List.length_map, List.length_map, List.length_singleton]
          exact Nat.le_trans (show _ ≤ 10000000 by omega) (by decide)
        · have F4a : F4 an = none := po.new an fan (by rw [hAn]; exact fun z => nomatch z)
          have n4 : an ≠ t4 := by
            rcases po.old with z | z
            · rw [z]; exact nat_
            · exact ne_of_none hAn z
          obtain ⟨dx4, n4', f4, us4, w1, w2, w3⟩ := po.wg.obj
          refine ⟨some (nv c.k), some gv, some (.ref p4), F4, t4, rfl, sF.trans po.sub, ⟨same_off (same_off po.wg.le F4a) F4a, po.wg.fw, po.wg.ft, dx4, n4', f4, us4, ?_, ?_, ?_⟩, F4a, nax, n4, ?_⟩
          · rw [upd_ne (Ne.symm nax), upd_ne (Ne.symm nax)]
            exact w1
          · rw [upd_ne (Ne.symm n4), upd_ne (Ne.symm n4)]
            exact w2
          · rw [take_snoc hq', KM.after_snoc]
            exact w3
          · rw [upd_same, e2, List.map_append, List.map_cons, List.append_assoc, List.length_map]
            rfl
      · rintro σ' H' ⟨o3, o4, o5, F', t', rfl, sF, wg, fan, nax, nat_, hAn⟩
        rw [paired_len pu, KM.all2_len al, List.take_length] at hAn
        exact ⟨_, rfl, q H' an hAn⟩
end
end KP

end
section
set_option Elab.async false
set_option linter.all false
set_option maxRecDepth 100000
set_option maxHeartbeats 4000000
namespace KP
open PySem PySem.Spec PyProof.Rows L2 KG KR
abbrev sOneOrZero : Stmt := top 36
abbrev sCan : Stmt := top 43
abbrev sWays : Stmt := top 44
abbrev sLeast : Stmt := top 45
abbrev sNth : Stmt := top 46
abbrev sNotAgreed : Stmt := top 47
abbrev sFits : Stmt := top 48
abbrev sWrong : Stmt := top 49
structure Cn (mg : Str → Option Value) : Prop where
  mostTold : ∃ t, mg "MOST_TOLD" = some (.int 6 t)
  noneSuch : ∃ t, mg "NONE_SUCH" = some (.int (-2) t)
  notRight : ∃ t, mg "NOT_RIGHT" = some (.int (-22) t)
  tooMany : ∃ t, mg "TOO_MANY" = some (.int (-28) t)
  thereIsNone : ∃ t, mg "THERE_IS_NONE" = some (.int (-33) t)
  min : mg "min" = none
  max : mg "max" = none
  enumerate : mg "enumerate" = none
  tuple : mg "tuple" = none
/-! ## what is given, by the call's number -/
theorem given_row {F : Hp} {v : V} {x : List Nat} (h : Given F v [] [x]) : ∃ g vx, v = .ref g ∧ F g = some (.lst [vx]) ∧ Nums F vx x := by
  obtain ⟨g, vs, rfl, h1, h2⟩ := h
  cases h2 with
  | cons r t =>
    cases t
    exact ⟨g, _, rfl, h1, r⟩
theorem given_num {F : Hp} {v : V} {n : Nat} (h : Given F v [n] []) : ∃ g, v = .ref g ∧ F g = some (.lst [nv n]) := by
  obtain ⟨g, vs, rfl, h1, h2⟩ := h
  cases h2
  exact ⟨g, rfl, h1⟩
theorem given_cmp {F : Hp} {v : V} {k : Nat} {a b : List Nat} (h : Given F v [k] [a, b]) : ∃ g va vb, v = .ref g ∧ F g = some (.lst [nv k, va, vb]) ∧ Nums F va a ∧ Nums F vb b := by
  obtain ⟨g, vs, rfl, h1, h2⟩ := h
  cases h2 with
  | cons r t =>
    cases t with
    | cons r2 t2 =>
      cases t2
      exact ⟨g, _, _, rfl, h1, r, r2⟩
/-- a new list of ints as the answer, nothing changed -/
theorem done_same {C : Addr} {F H H' : Hp} {w t p : Addr} {s : Krab.Abs} {l l' : List Int} {Q : VK} (wg : Wg C F H w t s) (sm : Same H H') (hp : H' p = none) (el : l = l')
    (k : ∀ H2 F2 t2 p, Post C F H w t F2 H2 t2 s → H p = none → H2 p = some (.lst (l'.map V.int)) → Q (.ref p) H2) : Q (.ref p) (upd H' p (.lst (l.map V.int))) := by
  subst el
  exact k _ F t p (Post.same wg (sm.trans (same_upd hp))) (sm.free hp) upd_same
section
variable {P : Program} {w : World} {K : PySem.W.Frag} {mg : Str → Option Value} {base : Heap}
/-! ## one_or_zero -/
def spOneOrZero : Sp := fun vs H Q _ => ∃ b : Bool, vs = [.bl b] ∧ ∀ p, H p = none → Q (.ref p) (upd H p (.lst [.int (if b = true then 1 else 0)]))
theorem sc_oneOrZero : FnScope ["holds"] ["holds"] (defScope sOneOrZero) := ⟨rfl, rfl, rfl, by decide +kernel, rfl, by decide +kernel, by decide +kernel⟩
theorem ok_oneOrZero {f : Addr} {fd : FuncData} (F : Fun K "one_or_zero" "one_or_zero" sOneOrZero f fd) : FnOk P w K mg base CX0 1 f fd ["holds"] spOneOrZero := by
  refine F.ok sc_oneOrZero (fun vs H Q E h => ?_) (fun cdv A outer s H vs Q E hr h => ?_)
  · obtain ⟨b, rfl, _⟩ := h
    rfl
  · obtain ⟨b, rfl, q⟩ := h
    refine ⟨_, pss_one (ps_ret (pe_lst (pa_cons (pe_ifExp (pt_val (pv 0)) pe_int pe_int) pa_nil))), ?_⟩
    refine ⟨_, rfl, _, rfl, ?_⟩
    cases b with
    | true => exact ⟨(by show 1 ≤ sizeLine; decide), q⟩
    | false => exact ⟨(by show 1 ≤ sizeLine; decide), q⟩
/-! ## can, ways -/
theorem sc_can : FnScope ["weighing", "given"] ["weighing", "given"] (defScope sCan) := ⟨rfl, rfl, rfl, by decide +kernel, rfl, by decide +kernel, by decide +kernel⟩
theorem sp_len {C : Addr} {k : Nat} (vs : List V) (H : Hp) (Q : VK) (E : XK) (h : spCmd C k vs H Q E) : vs.length = (["weighing", "given"] : List Str).length := by
  obtain ⟨F, w, t, gv, s, c, q, rfl, _⟩ := h
  rfl
theorem ok_can {f C : Addr} {fd : FuncData} (F : Fun K "can" "can" sCan f fd) (T : Txt mg) (T0 : Cl0 K mg C) (DO : Df K mg "one_or_zero" sOneOrZero ["holds"]) : FnOk P w K mg base CX0 2 f fd ["weighing", "given"] (spCmd C 4) := by
  obtain ⟨fo, fdo, FO, mO, bO⟩ := DO.ex
  have GO : FnOk P w K mg base CX0 1 fo fdo ["holds"] spOneOrZero := ok_oneOrZero FO
  refine F.ok sc_can sp_len (fun cdv A outer s H vs Q E hr h => ?_)
  obtain ⟨G, wa, t, gv, st, c, q, rfl, hk, co, gi, wg, hs, k⟩ := h
  obtain ⟨hh, rfl⟩ := hs.resolve_left (by decide)
  obtain ⟨ck, ca, crs⟩ := c
  obtain rfl : ck = 4 := hk
  obtain ⟨raw, fm⟩ := co.form
  have fm : KM.Form raw 4 ca crs q := fm
  obtain ⟨dx, n, ff, us, h1, h2, rfl, n1, n4, t6, tok, pc, af, ws, rfl, hf, pf⟩ := wg.obj
  refine ⟨_, pss_one (ps_ret (pe_call GO hr rfl mO FO.kp bO .nil pass0 (pa_cons (pe_cmpR op_gt (pe_callB call_len_seq (by rfl) T.len PySem.boot_len (pa_cons (pe_fld (pv 0) rfl) pa_nil)) pe_int (nomark _)) pa_nil))), ?_⟩
  refine ⟨_, rfl, wa, C, dx, _, _, rfl, h1, T0.cl, T0.nFi, wf_fit _ _ _, af, _, rfl, .inl (SqL.of (wg.le _ _ hf)), _, _, rfl, rfl, _, rfl, fun p hp => ?_⟩
  obtain ⟨rfl, rfl, rfl⟩ := KM.form_inv fm
  refine done_same (l := [if decide ((0 : Int) < (ws.length : Int)) = true then 1 else 0]) wg (Same.refl _) hp ?_ k
  show _ = [if (Krab.fitBy hh.n hh.told).isEmpty then (0 : Int) else 1]
  rw [paired_len pf]
  cases Krab.fitBy hh.n hh.told with
  | nil => rfl
  | cons x r =>
    rw [if_pos (decide_eq_true (by rw [List.length_cons]; omega))]
    rfl
theorem sc_ways : FnScope ["weighing", "given"] ["weighing", "given"] (defScope sWays) := ⟨rfl, rfl, rfl, by decide +kernel, rfl, by decide +kernel, by decide +kernel⟩
theorem ok_ways {f C : Addr} {fd : FuncData} (F : Fun K "ways" "ways" sWays f fd) (T : Txt mg) (T0 : Cl0 K mg C) : FnOk P w K mg base CX0 1 f fd ["weighing", "given"] (spCmd C 5) := by
  refine F.ok sc_ways sp_len (fun cdv A outer s H vs Q E hr h => ?_)
  obtain ⟨G, wa, t, gv, st, c, q, rfl, hk, co, gi, wg, hs, k⟩ := h
  obtain ⟨hh, rfl⟩ := hs.resolve_left (by decide)
  obtain ⟨ck, ca, crs⟩ := c
  obtain rfl : ck = 5 := hk
  obtain ⟨raw, fm⟩ := co.form
  have fm : KM.Form raw 5 ca crs q := fm
  obtain ⟨dx, n, ff, us, h1, h2, rfl, n1, n4, t6, tok, pc, af, ws, rfl, hf, pf⟩ := wg.obj
  refine ⟨_, pss_one (ps_ret (pe_lst (pa_cons (pe_callB call_len_seq (by rfl) T.len PySem.boot_len (pa_cons (pe_fld (pv 0) rfl) pa_nil)) pa_nil))), ?_⟩
  refine ⟨_, rfl, wa, C, dx, _, _, rfl, h1, T0.cl, T0.nFi, wf_fit _ _ _, af, _, rfl, .inl (SqL.of (wg.le _ _ hf)), (by show 1 ≤ sizeLine; decide), fun p hp => ?_⟩
  obtain ⟨rfl, rfl, rfl⟩ := KM.form_inv fm
  refine done_same (l := [(ws.length : Int)]) wg (Same.refl _) hp ?_ k
  rw [paired_len pf]
  rfl
end
end KP

end
section
set_option Elab.async false
set_option linter.all false
set_option maxRecDepth 100000
set_option maxHeartbeats 4000000
namespace KP
open PySem PySem.Spec PyProof.Rows L2 KG KR
theorem rows_refs {F : Hp} : ∀ {ws : List V} {l : List (List Nat)}, Paired (Nums F) ws l → ∃ ps : List Addr, ws = ps.map V.ref ∧ Paired (fun (p : Addr) (x : List Nat) => F p = some (.lst (x.map nv))) ps l
  | _, _, .nil => ⟨[], rfl, .nil⟩
  | _, _, .cons r t => by
    obtain ⟨a, rfl, h⟩ := r
    obtain ⟨ps, rfl, hp⟩ := rows_refs t
    exact ⟨a :: ps, rfl, .cons h hp⟩
theorem paired_ints {K : PySem.W.Frag} {F H : Hp} (sm : Same F H) : ∀ {ps : List Addr} {l : List (List Nat)}, Paired (fun (p : Addr) (x : List Nat) => F p = some (.lst (x.map nv))) ps l → Paired (fun (p : Addr) (ns : List Int) => SqL K H p (ns.map V.int)) ps (l.map KM.zints)
  | _, _, .nil => .nil
  | _, _, .cons r t => .cons (by rw [KR.ints_map]; exact SqL.of (sm _ _ r)) (paired_ints sm t)
section
variable {P : Program} {w : World} {K : PySem.W.Frag} {mg : Str → Option Value} {base : Heap}
/-! ## least -/
theorem sc_least : FnScope ["weighing", "given", "numbers"] ["weighing", "given"] (defScope sLeast) := ⟨rfl, rfl, rfl, by decide +kernel, rfl, by decide +kernel, by decide +kernel⟩
theorem ok_least {f C : Addr} {fd : FuncData} (F : Fun K "least" "least" sLeast f fd) (T : Txt mg) (T0 : Cl0 K mg C) (TC : Cn mg) : FnOk P w K mg base CX0 1 f fd ["weighing", "given"] (spCmd C 6) := by
  refine F.ok sc_least sp_len (fun cdv A outer s H vs Q E hr h => ?_)
  obtain ⟨G, wa, t, gv, st, c, q, rfl, hk, co, gi, wg, hs, k⟩ := h
  obtain ⟨hh, rfl⟩ := hs.resolve_left (by decide)
  obtain ⟨ck, ca, crs⟩ := c
  obtain rfl : ck = 6 := hk
  obtain ⟨raw, fm⟩ := co.form
  have fm : KM.Form raw 6 ca crs q := fm
  obtain ⟨dx, n, ff, us, h1, h2, rfl, n1, n4, t6, tok, pc, af, ws, rfl, hf, pf⟩ := wg.obj
  obtain ⟨tn, en⟩ := TC.thereIsNone
  refine ⟨_, pss_cons (ps_if (pt_cmpR op_eq (pe_callB call_len_seq (by rfl) T.len PySem.boot_len (pa_cons (pe_fld (pv 0) rfl) pa_nil)) pe_int (nomark _)) (pss_one (ps_ret (pe_lst (pa_cons (pe_glob (v := .int (-33)) rfl en ⟨_, rfl⟩) pa_nil)))) pss_nil)
    (pss_cons (ps_set (i := 2) sc_least.nd rfl (Or.inl rfl) (pe_minSum rfl (by rfl) TC.min (by rfl) T.sum (pe_fld (pv 0) rfl)))
    (pss_one (ps_ret (pe_op op_cat (pe_lst (pa_cons (pe_callB (cr_sum rfl) (by rfl) T.sum boot_sum (pa_cons (pv 2) pa_nil)) pa_nil)) (pv 2))))), ?_⟩
  have hfH := wg.le _ _ hf
  refine ⟨_, rfl, wa, C, dx, _, _, rfl, h1, T0.cl, T0.nFi, wf_fit _ _ _, af, _, rfl, .inl (SqL.of hfH), rfl, _, rfl, ?_⟩
  obtain ⟨rfl, rfl, rfl⟩ := KM.form_inv fm
  obtain ⟨ps, rfl, hps⟩ := rows_refs pf
  have hlen := paired_len hps
  rw [List.length_map, hlen]
  refine ite2 (fun c0 => ?_) fun c0 => ?_
  · have e0 : Krab.fitBy hh.n hh.told = [] := List.eq_nil_of_length_eq_zero (by have := V.int.inj (of_decide_eq_true c0); omega)
    refine ⟨(by show 1 ≤ sizeLine; decide), fun p hp => done_same (l := [-33]) wg (Same.refl _) hp ?_ k⟩
    show _ = KM.due (some hh) .least
    unfold KM.due
    show _ = (match Krab.least (Krab.fitBy hh.n hh.told) with
      | none => Krab.say (-33)
      | some x => ({ num := Krab.total x, nums := Krab.ints x } : Krab.Ans)).num :: (match Krab.least (Krab.fitBy hh.n hh.told) with
      | none => Krab.say (-33)
      | some x => ({ num := Krab.total x, nums := Krab.ints x } : Krab.Ans)).nums
    rw [e0]
    rfl
  · have hne : 0 < (Krab.fitBy hh.n hh.told).length := by
      rcases Nat.eq_zero_or_pos (Krab.fitBy hh.n hh.told).length with z | z
      · exact absurd (decide_eq_true (by rw [z]; rfl)) c0
      · exact z
    refine ⟨_, rfl, wa, C, dx, _, _, rfl, h1, T0.cl, T0.nFi, wf_fit _ _ _, af, ps, _, rfl, SqL.of hfH, paired_ints wg.le hps, by omega, fun i p ns hi hn hb => ?_⟩
    obtain ⟨x, hx, hpx⟩ := paired_left hps hi
    rw [List.getElem?_map, hx] at hn
    obtain rfl : KM.zints x = ns := Option.some.inj hn
    have hpH := wg.le _ _ hpx
    have nok := fit_ok (List.mem_of_getElem? hx)
    have hl : Krab.least (Krab.fitBy hh.n hh.told) = some x := KM.least_at hx fun j y hy => by
      have := hb j (KM.zints y) (by rw [List.getElem?_map, hy]; rfl)
      rw [KM.sum_ints, KM.sum_ints] at this
      exact ⟨by omega, fun z => by have := this.2 z; omega⟩
    refine ⟨_, rfl, p, KM.zints x, rfl, (by rw [KR.ints_map]; exact SqL.of hpH), (by show 1 ≤ sizeLine; decide), fun e he => ⟨_, rfl, e, p, _, _, rfl, rfl, upd_same, same_upd he _ _ hpH, ?_, fun p2 hp2 => ?_⟩⟩
    · rw [List.length_map, nok.1]
      exact Nat.le_of_lt (small1000 (by show 1 + hh.n ≤ 1000; omega))
    · have e1 : ([V.int (KM.zints x).sum] ++ x.map nv) = ((KM.zints x).sum :: KM.zints x).map V.int := by
        rw [List.map_cons, KR.ints_map]
        rfl
      rw [e1]
      refine done_same wg (same_upd he) hp2 ?_ k
      unfold KM.due
      show _ = (match Krab.least (Krab.fitBy hh.n hh.told) with
        | none => Krab.say (-33)
        | some x => ({ num := Krab.total x, nums := Krab.ints x } : Krab.Ans)).num :: (match Krab.least (Krab.fitBy hh.n hh.told) with
        | none => Krab.say (-33)
        | some x => ({ num := Krab.total x, nums := Krab.ints x } : Krab.Ans)).nums
      rw [hl, KM.sum_ints]
      rfl
/-! ## nth -/
theorem sc_nth : FnScope ["weighing", "given", "which"] ["weighing", "given"] (defScope sNth) := ⟨rfl, rfl, rfl, by decide +kernel, rfl, by decide +kernel, by decide +kernel⟩
theorem ok_nth {f C : Addr} {fd : FuncData} (F : Fun K "nth" "nth" sNth f fd) (T : Txt mg) (T0 : Cl0 K mg C) (TC : Cn mg) : FnOk P w K mg base CX0 1 f fd ["weighing", "given"] (spCmd C 7) := by
  refine F.ok sc_nth sp_len (fun cdv A outer s H vs Q E hr h => ?_)
  obtain ⟨G, wa, t, gv, st, c, q, rfl, hk, co, gi, wg, hs, k⟩ := h
  obtain ⟨hh, rfl⟩ := hs.resolve_left (by decide)
  obtain ⟨ck, ca, crs⟩ := c
  obtain rfl : ck = 7 := hk
  obtain ⟨raw, fm⟩ := co.form
  have fm : KM.Form raw 7 ca crs q := fm
  obtain ⟨dx, n, ff, us, h1, h2, rfl, n1, n4, t6, tok, pc, af, ws, rfl, hf, pf⟩ := wg.obj
  obtain ⟨tn, en⟩ := TC.thereIsNone
  refine ⟨_, pss_cons (ps_set (i := 2) sc_nth.nd rfl (Or.inl rfl) (pe_ix ix_list (pv 1) pe_int (fun _ _ => rfl)))
    (pss_cons (ps_if (pt_cmpR op_ge (pv 2) (pe_callB call_len_seq (by rfl) T.len PySem.boot_len (pa_cons (pe_fld (pv 0) rfl) pa_nil)) (nomark _)) (pss_one (ps_ret (pe_lst (pa_cons (pe_glob (v := .int (-33)) rfl en ⟨_, rfl⟩) pa_nil)))) pss_nil)
    (pss_one (ps_ret (pe_op op_cat (pe_lst (pa_cons (pe_fld (pv 0) rfl) pa_nil)) (pe_ix ix_list (pe_fld (pv 0) rfl) (pv 2) (fun _ _ => rfl)))))), ?_⟩
  have hfH := wg.le _ _ hf
  obtain ⟨m, rfl, rfl, rfl⟩ := KM.form_inv fm
  focus
    obtain ⟨g, rfl, hg⟩ := given_num gi
    refine ⟨_, rfl, g, _, _, _, rfl, rfl, SqL.of (wg.le _ _ hg), atI_nat (j := 0) rfl, _, rfl, _, rfl, wa, C, dx, _, _, rfl, h1, T0.cl, T0.nFi, wf_fit _ _ _, af, _, rfl, .inl (SqL.of hfH), _, _, rfl, rfl, _, rfl, ?_⟩
    have hlen := paired_len pf
    have ed : KM.due (some hh) (.nth m) = (match (Krab.fitBy hh.n hh.told)[m]? with
      | none => Krab.say (-33)
      | some x => Krab.list x).num :: (match (Krab.fitBy hh.n hh.told)[m]? with
      | none => Krab.say (-33)
      | some x => Krab.list x).nums := rfl
    refine ite2 (fun c0 => ?_) fun c0 => ?_
    · have hge : ws.length ≤ m := by
        have := of_decide_eq_true c0
        omega
      have e0 : (Krab.fitBy hh.n hh.told)[m]? = none := List.getElem?_eq_none_iff.mpr (by omega)
      refine ⟨(by show 1 ≤ sizeLine; decide), fun p hp => done_same (l := [-33]) wg (Same.refl _) hp ?_ k⟩
      rw [ed, e0]
      rfl
    · have hlt : m < ws.length := by
        rcases Nat.lt_or_ge m ws.length with z | z
        · exact z
        · exact absurd (decide_eq_true (by omega)) c0
      obtain ⟨x, hx⟩ : ∃ x, (Krab.fitBy hh.n hh.told)[m]? = some x := ⟨_, List.getElem?_eq_getElem (by omega)⟩
      obtain ⟨v, hv, px, rfl, hpx⟩ := paired_right pf hx
      have nok := fit_ok (List.mem_of_getElem? hx)
      have hpH := wg.le _ _ hpx
      refine ⟨_, rfl, wa, C, dx, _, _, rfl, h1, T0.cl, T0.nTh, wf_things _ _ _, (by show 1 ≤ sizeLine; decide), fun e he => ⟨_, rfl, wa, C, dx, _, _, rfl, same_upd he _ _ h1, T0.cl, T0.nFi, wf_fit _ _ _, _, rfl, af, _, _, _, rfl, rfl, SqL.of (same_upd he _ _ hfH), atI_nat hv, e, px, _, _, rfl, rfl, upd_same, same_upd he _ _ hpH, ?_, fun p2 hp2 => ?_⟩⟩
      · rw [List.length_map, nok.1]
        exact Nat.le_of_lt (small1000 (by show 1 + hh.n ≤ 1000; omega))
      · have e1 : ([nv hh.n] ++ x.map nv) = (((hh.n : Nat) : Int) :: KM.zints x).map V.int := by
          rw [List.map_cons, KR.ints_map]
          rfl
        rw [e1]
        refine done_same wg (same_upd he) hp2 ?_ k
        rw [ed, hx]
        show _ = (x.length : Int) :: Krab.ints x
        rw [nok.1]
        rfl
end
end KP

end
section
set_option Elab.async false
set_option linter.all false
set_option maxRecDepth 100000
set_option maxHeartbeats 4000000
namespace KP
open PySem PySem.Spec PyProof.Rows L2 KG KR
def wrongs (h : Krab.House) (x : List Nat) : List Nat := (List.range h.told.length).filter fun i => !((h.told.getD i ⟨[], [], 2⟩).holds x)
section
variable {P : Program} {w : World} {K : PySem.W.Frag} {mg : Str → Option Value} {base : Heap}
/-! ## not_agreed_with -/
def spNotAgreed (C : Addr) : Sp := fun vs H Q _ => ∃ (F : Hp) (w t : Addr) (vx : V) (x : List Nat) (h : Krab.House), vs = [.ref w, vx] ∧ Wg C F H w t (some h) ∧ Nums H vx x ∧ NumOk h.n x ∧ ∀ H' p, Same H H' → H p = none → H' p = some (.lst ((wrongs h x).map nv)) → Q (.ref p) H'
theorem sc_notAgreed : FnScope ["weighing", "numbers", "t", "comparison"] ["weighing", "numbers"] (defScope sNotAgreed) := ⟨rfl, rfl, rfl, by decide +kernel, rfl, by decide +kernel, by decide +kernel⟩
theorem ok_notAgreed {f C : Addr} {fd : FuncData} (F : Fun K "not_agreed_with" "not_agreed_with" sNotAgreed f fd) (T : Txt mg) (T0 : Cl0 K mg C) (TC : Cn mg) (DA : Df K mg "agrees" sAgrees ["numbers", "comparison"]) : FnOk P w K mg base CX0 2 f fd ["weighing", "numbers"] (spNotAgreed C) := by
  obtain ⟨fa, fda, FA, mA, bA⟩ := DA.ex
  have GA : FnOk P w K mg base CX0 1 fa fda ["numbers", "comparison"] spAgrees := ok_agrees FA T
  refine F.ok sc_notAgreed (fun vs H Q E h => ?_) (fun cdv A outer s H vs Q E hr h => ?_)
  · obtain ⟨F, w, t, vx, x, h, rfl, _⟩ := h
    rfl
  · obtain ⟨G, wa, t, vx, x, hh, rfl, wg, hx, nok, q⟩ := h
    obtain ⟨dx, n, ff, us, h1, h2, rfl, n1, n4, t6, tok, pc, af, ws, rfl, hf, pf⟩ := wg.obj
    refine ⟨_, pss_one (ps_ret (pe_lc (own := [("t", 2), ("comparison", 3)]) rfl sc_notAgreed.nd (pi_enum (by rfl) TC.enumerate (pa_cons (pe_fld (pv 0) rfl) pa_nil)) (blkOk_by (by show blkC ["weighing", "numbers", "t", "comparison"] (defScope sNotAgreed) _ _ = true; decide +kernel))
      (fun _ _ _ _ _ => pgtK (n := 2) K rfl rfl (pgs_cons (pg_name (i := 2) sc_notAgreed.nd rfl (Or.inl rfl)) (pgs_cons (pg_name (i := 3) sc_notAgreed.nd rfl (Or.inl rfl)) pgs_nil)))
      (fun _ _ _ _ _ => pts_one (pt_not (pt_val (pe_call GA hr rfl mA FA.kp bA .nil pass0 (pa_cons (pv 1) (pa_cons (pv 3) pa_nil)))))) (fun _ _ _ _ _ => pv 2))), ?_⟩
    refine ⟨_, rfl, wa, C, dx, _, _, rfl, h1, T0.cl, T0.nTo, wf_told _ _ _, t, us, rfl, SqL.of h2, fun D hD => lc_enum (xs := us) (fun i H' => Same H H' ∧ H' D = some (.lst (((List.range i).filter fun i => !((hh.told.getD i ⟨[], [], 2⟩).holds x)).map nv))) ⟨same_upd hD, upd_same⟩ (fun i H' _ z => SqL.of (z.1 _ _ h2)) ?_ ?_⟩
    · rintro i v H' U hv ⟨sm, hd⟩ hU
      obtain ⟨tt, ht, hc⟩ := paired_left pc hv
      have hi6 : i < 6 := by
        have := (List.getElem?_eq_some_iff.mp ht).1
        omega
      have sm2 : Same H (upd H' U (.tup [.int (i : Nat), v])) := sm.trans (same_upd hU)
      refine ⟨U, _, rfl, SqT.of upd_same, rfl, _, _, rfl, _, _, rfl, rfl, rfl, _, rfl, _, rfl, vx, v, x, tt, hh.n, rfl, hx.mono sm2, hc.mono (wg.le.trans sm2), tok tt (List.mem_of_getElem? ht), nok.1, n4, nok.2, fun H2 s2 => ⟨_, rfl, ?_⟩⟩
      have hd2 := s2 _ _ (same_upd (o := .tup [.int (i : Nat), v]) hU _ _ hd)
      have eg : hh.told.getD i ⟨[], [], 2⟩ = tt := getD_of ht
      refine ite2 (fun c => ?_) fun c => ?_
      · refine ⟨_, rfl, _, hd2, ?_, same_off (sm2.trans s2) hD, ?_⟩
        · rw [List.length_map]
          refine small1000 (Nat.le_trans (List.length_filter_le _ _) ?_)
          rw [List.length_range]
          omega
        · rw [upd_same, List.range_succ, List.filter_append, List.map_append, List.filter_cons, if_pos (by rw [eg]; exact c)]
          rfl
      · refine ⟨sm2.trans s2, ?_⟩
        rw [List.range_succ, List.filter_append, List.filter_cons, if_neg (by rw [eg]; exact c), List.filter_nil, List.append_nil]
        exact hd2
    · rintro H' ⟨sm, hd⟩
      rw [paired_len pc] at hd
      exact q H' D sm hD hd
/-! ## fits, wrong -/
theorem all_wrongs (h : Krab.House) (x : List Nat) : (h.told.all fun t => t.holds x) = decide ((wrongs h x).length = 0) := by
  by_cases c : (h.told.all fun t => t.holds x) = true
  · rw [c]
    symm
    refine decide_eq_true ?_
    have e : wrongs h x = [] := by
      unfold wrongs
      refine List.filter_eq_nil_iff.mpr fun i hi => ?_
      have hi' := List.mem_range.mp hi
      have := List.all_eq_true.mp c _ (List.getElem_mem hi')
      rw [getD_of (List.getElem?_eq_getElem hi'), this]
      decide
    rw [e]
    rfl
  · rw [Bool.eq_false_iff.mpr c]
    symm
    refine decide_eq_false fun z => c ?_
    have e : wrongs h x = [] := List.eq_nil_of_length_eq_zero z
    unfold wrongs at e
    refine List.all_eq_true.mpr fun t ht => ?_
    obtain ⟨i, hi, rfl⟩ := List.getElem_of_mem ht
    have := List.filter_eq_nil_iff.mp e i (List.mem_range.mpr hi)
    rw [getD_of (List.getElem?_eq_getElem hi)] at this
    cases h' : (h.told[i]).holds x with
    | true => rfl
    | false =>
      rw [h'] at this
      exact absurd rfl this
theorem numbers_iff {h : Krab.House} {x : List Nat} : (x.length == h.n && x.all fun v => decide (1 ≤ v) && decide (v ≤ 8)) = h.numbers x := rfl
theorem numbers_ok {h : Krab.House} {x : List Nat} (e : h.numbers x = true) : NumOk h.n x := by
  rw [← numbers_iff, Bool.and_eq_true] at e
  refine ⟨eq_of_beq e.1, fun y hy => ?_⟩
  have := List.all_eq_true.mp e.2 y hy
  rw [Bool.and_eq_true] at this
  exact of_decide_eq_true this.2
theorem sc_fits : FnScope ["weighing", "given"] ["weighing", "given"] (defScope sFits) := ⟨rfl, rfl, rfl, by decide +kernel, rfl, by decide +kernel, by decide +kernel⟩
theorem ok_fits {f C : Addr} {fd : FuncData} (F : Fun K "fits" "fits" sFits f fd) (T : Txt mg) (T0 : Cl0 K mg C) (TC : Cn mg) (DA : Df K mg "agrees" sAgrees ["numbers", "comparison"]) (DN : Df K mg "not_agreed_with" sNotAgreed ["weighing", "numbers"])
    (DI : Df K mg "is_numbers" sIsNumbers ["given", "things"]) (DO : Df K mg "one_or_zero" sOneOrZero ["holds"]) : FnOk P w K mg base CX0 3 f fd ["weighing", "given"] (spCmd C 8) := by
  obtain ⟨fn, fdn, FN, mN, bN⟩ := DN.ex
  obtain ⟨fi, fdi, FI, mI, bI⟩ := DI.ex
  obtain ⟨fo, fdo, FO, mO, bO⟩ := DO.ex
  have GN : FnOk P w K mg base CX0 2 fn fdn ["weighing", "numbers"] (spNotAgreed C) := ok_notAgreed FN T T0 TC DA
  have GI : FnOk P w K mg base CX0 1 fi fdi ["given", "things"] spIsNumbers := ok_isNumbers FI T
  have GO : FnOk P w K mg base CX0 1 fo fdo ["holds"] spOneOrZero := ok_oneOrZero FO
  refine F.ok sc_fits sp_len (fun cdv A outer s H vs Q E hr h => ?_)
  obtain ⟨G, wa, t, gv, st, c, q, rfl, hk, co, gi, wg, hs, k⟩ := h
  obtain ⟨hh, rfl⟩ := hs.resolve_left (by decide)
  obtain ⟨ck, ca, crs⟩ := c
  obtain rfl : ck = 8 := hk
  obtain ⟨raw, fm⟩ := co.form
  have fm : KM.Form raw 8 ca crs q := fm
  have hr1 : Room 1 _ := hr.mono (by decide)
  obtain ⟨tn, en⟩ := TC.notRight
  refine ⟨_, pss_cons (ps_if (pt_not (pt_val (pe_call GI hr1 rfl mI FI.kp bI .nil pass0 (pa_cons (pe_ix ix_list (pv 1) pe_int (fun _ _ => rfl)) (pa_cons (pe_fld (pv 0) rfl) pa_nil))))) (pss_one (ps_ret (pe_lst (pa_cons (pe_glob (v := .int (-22)) rfl en ⟨_, rfl⟩) pa_nil)))) pss_nil)
    (pss_one (ps_ret (pe_call GO hr1 rfl mO FO.kp bO .nil pass0 (pa_cons (pe_cmpR op_eq (pe_callB call_len_seq (by rfl) T.len PySem.boot_len (pa_cons (pe_call GN hr rfl mN FN.kp bN .nil pass0 (pa_cons (pv 0) (pa_cons (pe_ix ix_list (pv 1) pe_int (fun _ _ => rfl)) pa_nil))) pa_nil)) pe_int (nomark _)) pa_nil)))), ?_⟩
  obtain ⟨x, rfl, rfl, rfl⟩ := KM.form_inv fm
  focus
    obtain ⟨g, vx, rfl, hg, hx⟩ := given_row gi
    have hsm : x.length < 256 := co.small x (List.mem_singleton.mpr rfl)
    obtain ⟨dx, n, ff, us, h1, h2, rfl, n1, n4, t6, tok, pc, af, ws, rfl, hf, pf⟩ := wg.obj
    refine ⟨_, rfl, g, _, _, _, rfl, rfl, SqL.of (wg.le _ _ hg), atI_nat (j := 0) rfl, _, rfl, wa, C, dx, _, _, rfl, h1, T0.cl, T0.nTh, wf_things _ _ _, vx, x, hh.n, rfl, hx.mono wg.le, hsm, fun H1 s1 => ⟨_, rfl, ?_⟩⟩
    have ed : KM.due (some hh) (.fits x) = (if hh.numbers x = false then Krab.say (-22) else Krab.say (if hh.told.all fun t => t.holds x then 1 else 0)).num :: (if hh.numbers x = false then Krab.say (-22) else Krab.say (if hh.told.all fun t => t.holds x then 1 else 0)).nums := rfl
    rw [numbers_iff]
    refine ite2 (fun c0 => ?_) fun c0 => ?_
    · have e0 : hh.numbers x = false := by
        cases z : hh.numbers x with
        | false => rfl
        | true => rw [z] at c0; cases c0
      refine ⟨(by show 1 ≤ sizeLine; decide), fun p hp => done_same (l := [-22]) wg s1 hp ?_ k⟩
      rw [ed, if_pos e0]
      rfl
    · have e0 : hh.numbers x = true := by
        cases z : hh.numbers x with
        | true => rfl
        | false => rw [z] at c0; exact absurd rfl c0
      have wg1 := (Post.same wg s1).wg
      refine ⟨_, rfl, _, rfl, g, _, _, _, rfl, rfl, SqL.of (s1 _ _ (wg.le _ _ hg)), atI_nat (j := 0) rfl, G, wa, t, vx, x, hh, rfl, wg1, hx.mono (wg.le.trans s1), numbers_ok e0, fun H2 p2 s2 hp2 h2' => ⟨p2, _, rfl, .inl (SqL.of h2'), rfl, _, rfl, fun p hp => ?_⟩⟩
      refine done_same (l := [if decide (V.int (((wrongs hh x).map nv).length : Int) = V.int 0) = true then 1 else 0]) wg (s1.trans s2) hp ?_ k
      rw [ed, if_neg (show ¬ hh.numbers x = false by rw [e0]; decide), all_wrongs, List.length_map]
      have e9 : decide (V.int ((wrongs hh x).length : Int) = V.int 0) = decide ((wrongs hh x).length = 0) := decide_eq_decide.mpr ⟨fun z => by have := V.int.inj z; omega, fun z => by rw [z]; rfl⟩
      rw [e9]
      rfl
theorem sc_wrong : FnScope ["weighing", "given", "these"] ["weighing", "given"] (defScope sWrong) := ⟨rfl, rfl, rfl, by decide +kernel, rfl, by decide +kernel, by decide +kernel⟩
theorem ok_wrong {f C : Addr} {fd : FuncData} (F : Fun K "wrong" "wrong" sWrong f fd) (T : Txt mg) (T0 : Cl0 K mg C) (TC : Cn mg) (DA : Df K mg "agrees" sAgrees ["numbers", "comparison"]) (DN : Df K mg "not_agreed_with" sNotAgreed ["weighing", "numbers"])
    (DI : Df K mg "is_numbers" sIsNumbers ["given", "things"]) : FnOk P w K mg base CX0 3 f fd ["weighing", "given"] (spCmd C 9) := by
  obtain ⟨fn, fdn, FN, mN, bN⟩ := DN.ex
  obtain ⟨fi, fdi, FI, mI, bI⟩ := DI.ex
  have GN : FnOk P w K mg base CX0 2 fn fdn ["weighing", "numbers"] (spNotAgreed C) := ok_notAgreed FN T T0 TC DA
  have GI : FnOk P w K mg base CX0 1 fi fdi ["given", "things"] spIsNumbers := ok_isNumbers FI T
  refine F.ok sc_wrong sp_len (fun cdv A outer s H vs Q E hr h => ?_)
  obtain ⟨G, wa, t, gv, st, c, q, rfl, hk, co, gi, wg, hs, k⟩ := h
  obtain ⟨hh, rfl⟩ := hs.resolve_left (by decide)
  obtain ⟨ck, ca, crs⟩ := c
  obtain rfl : ck = 9 := hk
  obtain ⟨raw, fm⟩ := co.form
  have fm : KM.Form raw 9 ca crs q := fm
  have hr1 : Room 1 _ := hr.mono (by decide)
  obtain ⟨tn, en⟩ := TC.notRight
  refine ⟨_, pss_cons (ps_if (pt_not (pt_val (pe_call GI hr1 rfl mI FI.kp bI .nil pass0 (pa_cons (pe_ix ix_list (pv 1) pe_int (fun _ _ => rfl)) (pa_cons (pe_fld (pv 0) rfl) pa_nil))))) (pss_one (ps_ret (pe_lst (pa_cons (pe_glob (v := .int (-22)) rfl en ⟨_, rfl⟩) pa_nil)))) pss_nil)
    (pss_cons (ps_set (i := 2) sc_wrong.nd rfl (Or.inl rfl) (pe_call GN hr rfl mN FN.kp bN .nil pass0 (pa_cons (pv 0) (pa_cons (pe_ix ix_list (pv 1) pe_int (fun _ _ => rfl)) pa_nil))))
    (pss_one (ps_ret (pe_op op_cat (pe_lst (pa_cons (pe_callB call_len_seq (by rfl) T.len PySem.boot_len (pa_cons (pv 2) pa_nil)) pa_nil)) (pv 2))))), ?_⟩
  obtain ⟨x, rfl, rfl, rfl⟩ := KM.form_inv fm
  focus
    obtain ⟨g, vx, rfl, hg, hx⟩ := given_row gi
    have hsm : x.length < 256 := co.small x (List.mem_singleton.mpr rfl)
    obtain ⟨dx, n, ff, us, h1, h2, rfl, n1, n4, t6, tok, pc, af, ws, rfl, hf, pf⟩ := wg.obj
    refine ⟨_, rfl, g, _, _, _, rfl, rfl, SqL.of (wg.le _ _ hg), atI_nat (j := 0) rfl, _, rfl, wa, C, dx, _, _, rfl, h1, T0.cl, T0.nTh, wf_things _ _ _, vx, x, hh.n, rfl, hx.mono wg.le, hsm, fun H1 s1 => ⟨_, rfl, ?_⟩⟩
    have ed : KM.due (some hh) (.wrong x) = (if hh.numbers x = false then Krab.say (-22) else Krab.list (wrongs hh x)).num :: (if hh.numbers x = false then Krab.say (-22) else Krab.list (wrongs hh x)).nums := rfl
    rw [numbers_iff]
    refine ite2 (fun c0 => ?_) fun c0 => ?_
    · have e0 : hh.numbers x = false := by
        cases z : hh.numbers x with
        | false => rfl
        | true => rw [z] at c0; cases c0
      refine ⟨(by show 1 ≤ sizeLine; decide), fun p hp => done_same (l := [-22]) wg s1 hp ?_ k⟩
      rw [ed, if_pos e0]
      rfl
    · have e0 : hh.numbers x = true := by
        cases z : hh.numbers x with
        | true => rfl
        | false => rw [z] at c0; exact absurd rfl c0
      have wg1 := (Post.same wg s1).wg
      have hwl : (wrongs hh x).length ≤ 6 := by
        refine Nat.le_trans (List.length_filter_le _ _) ?_
        rw [List.length_range]
        omega
      refine ⟨_, rfl, _, rfl, g, _, _, _, rfl, rfl, SqL.of (s1 _ _ (wg.le _ _ hg)), atI_nat (j := 0) rfl, G, wa, t, vx, x, hh, rfl, wg1, hx.mono (wg.le.trans s1), numbers_ok e0, fun H2 p2 s2 hp2 h2' => ⟨_, rfl, p2, _, rfl, .inl (SqL.of h2'), (by show 1 ≤ sizeLine; decide), fun e he => ⟨_, rfl, e, p2, _, _, rfl, rfl, upd_same, same_upd he _ _ h2', ?_, fun p hp => ?_⟩⟩⟩
      · rw [List.length_map]
        exact Nat.le_of_lt (small1000 (by show 1 + (wrongs hh x).length ≤ 1000; omega))
      · rw [List.length_map] at hp ⊢
        have e1 : ([V.int ((wrongs hh x).length : Int)] ++ (wrongs hh x).map nv) = (((wrongs hh x).length : Int) :: KM.zints (wrongs hh x)).map V.int := by
          rw [List.map_cons, KR.ints_map]
          rfl
        rw [e1]
        refine done_same wg ((s1.trans s2).trans (same_upd he)) hp ?_ k
        rw [ed, if_neg (show ¬ hh.numbers x = false by rw [e0]; decide)]
        rfl
end
end KP

end
section
set_option Elab.async false
set_option linter.all false
set_option maxRecDepth 100000
set_option maxHeartbeats 4000000
namespace KP
open PySem PySem.Spec PyProof.Rows L2 KG KR
abbrev sBegin : Stmt := top 37
abbrev sIsComparison : Stmt := top 38
abbrev sTellOneMore : Stmt := top 39
abbrev sTell : Stmt := top 40
abbrev sDiffer : Stmt := top 41
abbrev sUntell : Stmt := top 42
abbrev sFollows : Stmt := top 50
/-- a kind and two sides for n things -/
def cmpOk (n k : Nat) (a b : List Nat) : Bool := decide (k ≤ 2) && ((a.length == n && a.all fun x => decide (x ≤ 3)) && (b.length == n && b.all fun x => decide (x ≤ 3)))
theorem cmpOk_bad (h : Krab.House) (k : Nat) (a b : List Nat) : (decide (2 < k) || !(h.side a && h.side b)) = !cmpOk h.n k a b := by
  unfold cmpOk
  show (decide (2 < k) || !(h.side a && h.side b)) = !(decide (k ≤ 2) && (h.side a && h.side b))
  generalize (h.side a && h.side b) = z
  by_cases c : k ≤ 2
  · rw [decide_eq_true c, decide_eq_false (by omega)]
    rfl
  · rw [decide_eq_false c, decide_eq_true (by omega)]
    rfl
theorem cmpOk_tok {n k : Nat} {a b : List Nat} (h : cmpOk n k a b = true) : KM.TOk n ⟨a, b, k⟩ := by
  unfold cmpOk at h
  simp only [Bool.and_eq_true] at h
  obtain ⟨h1, ⟨h2, h3⟩, h4, h5⟩ := h
  exact ⟨eq_of_beq h2, eq_of_beq h4, fun x hx => of_decide_eq_true (List.all_eq_true.mp h3 x hx), fun x hx => of_decide_eq_true (List.all_eq_true.mp h5 x hx), of_decide_eq_true h1⟩
section
variable {P : Program} {w : World} {K : PySem.W.Frag} {mg : Str → Option Value} {base : Heap}
/-! ## is_comparison -/
def spIsComparison (C : Addr) : Sp := fun vs H Q _ => ∃ (wa g dx : Addr) (n k : Nat) (t f va vb : V) (a b : List Nat), vs = [.ref wa, .ref g] ∧ H wa = some (.ins C dx (wf n t f)) ∧ H g = some (.lst [nv k, va, vb]) ∧ Nums H va a ∧ Nums H vb b ∧ a.length < 256 ∧ b.length < 256 ∧
  ∀ H', Same H H' → Q (.bl (cmpOk n k a b)) H'
theorem sc_isComparison : FnScope ["weighing", "given"] ["weighing", "given"] (defScope sIsComparison) := ⟨rfl, rfl, rfl, by decide +kernel, rfl, by decide +kernel, by decide +kernel⟩
theorem ok_isComparison {f C : Addr} {fd : FuncData} (F : Fun K "is_comparison" "is_comparison" sIsComparison f fd) (T : Txt mg) (T0 : Cl0 K mg C) (DK : Df K mg "is_kind" sIsKind ["given"]) (DS : Df K mg "is_side" sIsSide ["given", "things"]) : FnOk P w K mg base CX0 2 f fd ["weighing", "given"] (spIsComparison C) := by
  obtain ⟨fk, fdk, FK, mK, bK⟩ := DK.ex
  obtain ⟨fs, fds, FS, mS, bS⟩ := DS.ex
  have GK : FnOk P w K mg base CX0 1 fk fdk ["given"] spIsKind := ok_isKind FK T
  have GS : FnOk P w K mg base CX0 1 fs fds ["given", "things"] spIsSide := ok_isSide FS T
  refine F.ok sc_isComparison (fun vs H Q E h => ?_) (fun cdv A outer s H vs Q E hr h => ?_)
  · obtain ⟨wa, g, dx, n, k, t, f, va, vb, a, b, rfl, _⟩ := h
    rfl
  · obtain ⟨wa, g, dx, n, k, t, f, va, vb, a, b, rfl, h1, hg, ha, hb, la, lb, q⟩ := h
    refine ⟨_, pss_one (ps_ret (pe_and (pe_call GK hr rfl mK FK.kp bK .nil pass0 (pa_cons (pe_ix ix_list (pv 1) pe_int (fun _ _ => rfl)) pa_nil))
      (pe_and (pe_call GS hr rfl mS FS.kp bS .nil pass0 (pa_cons (pe_ix ix_list (pv 1) pe_int (fun _ _ => rfl)) (pa_cons (pe_fld (pv 0) rfl) pa_nil)))
      (pe_one (pe_call GS hr rfl mS FS.kp bS .nil pass0 (pa_cons (pe_ix ix_list (pv 1) pe_int (fun _ _ => rfl)) (pa_cons (pe_fld (pv 0) rfl) pa_nil))))))), ?_⟩
    refine ⟨_, rfl, g, _, _, _, rfl, rfl, SqL.of hg, atI_nat (j := 0) rfl, k, rfl, _, rfl, ?_⟩
    refine ite2 (fun c0 => ?_) fun c0 => ?_
    · refine ⟨_, rfl, g, _, _, _, rfl, rfl, SqL.of hg, atI_nat (j := 1) rfl, _, rfl, wa, C, dx, _, _, rfl, h1, T0.cl, T0.nTh, wf_things _ _ _, va, a, n, rfl, ha, la, fun H1 s1 => ⟨_, rfl, ?_⟩⟩
      refine ite2 (fun c1 => ?_) fun c1 => ?_
      · refine ⟨_, rfl, g, _, _, _, rfl, rfl, SqL.of (s1 _ _ hg), atI_nat (j := 2) rfl, _, rfl, wa, C, dx, _, _, rfl, s1 _ _ h1, T0.cl, T0.nTh, wf_things _ _ _, vb, b, n, rfl, hb.mono s1, lb, fun H2 s2 => ?_⟩
        have r := q H2 (s1.trans s2)
        unfold cmpOk at r
        rw [c0, c1, Bool.true_and, Bool.true_and] at r
        exact r
      · have r := q H1 s1
        unfold cmpOk at r
        rw [Bool.eq_false_iff.mpr c1, Bool.false_and, Bool.and_false] at r
        exact r
    · have r := q H (Same.refl H)
      unfold cmpOk at r
      rw [Bool.eq_false_iff.mpr c0, Bool.false_and] at r
      exact r
/-! ## follows -/
theorem sc_follows : FnScope ["weighing", "given"] ["weighing", "given"] (defScope sFollows) := ⟨rfl, rfl, rfl, by decide +kernel, rfl, by decide +kernel, by decide +kernel⟩
theorem all_filter {l : List (List Nat)} (f : List Nat → Bool) : (l.all f) = decide ((l.filter f).length = l.length) := by
  by_cases c : l.all f = true
  · rw [c]
    symm
    exact decide_eq_true (by rw [List.filter_eq_self.mpr fun a ha => List.all_eq_true.mp c a ha])
  · rw [Bool.eq_false_iff.mpr c]
    symm
    refine decide_eq_false fun z => c ?_
    have e := List.length_filter_eq_length_iff.mp z
    exact List.all_eq_true.mpr e
theorem ok_follows {f C : Addr} {fd : FuncData} (F : Fun K "follows" "follows" sFollows f fd) (T : Txt mg) (T0 : Cl0 K mg C) (TC : Cn mg) (DK : Df K mg "is_kind" sIsKind ["given"]) (DS : Df K mg "is_side" sIsSide ["given", "things"]) (DI : Df K mg "is_comparison" sIsComparison ["weighing", "given"])
    (DA : Df K mg "agrees" sAgrees ["numbers", "comparison"]) (DG : Df K mg "agreeing" sAgreeing ["candidates", "comparison"]) (DO : Df K mg "one_or_zero" sOneOrZero ["holds"]) : FnOk P w K mg base CX0 3 f fd ["weighing", "given"] (spCmd C 10) := by
  obtain ⟨fi, fdi, FI, mI, bI⟩ := DI.ex
  obtain ⟨fg, fdg, FG, mG, bG⟩ := DG.ex
  obtain ⟨fo, fdo, FO, mO, bO⟩ := DO.ex
  have GI : FnOk P w K mg base CX0 2 fi fdi ["weighing", "given"] (spIsComparison C) := ok_isComparison FI T T0 DK DS
  have GG : FnOk P w K mg base CX0 2 fg fdg ["candidates", "comparison"] spAgreeing := ok_agreeing FG T DA
  have GO : FnOk P w K mg base CX0 1 fo fdo ["holds"] spOneOrZero := ok_oneOrZero FO
  refine F.ok sc_follows sp_len (fun cdv A outer s H vs Q E hr h => ?_)
  obtain ⟨G, wa, t, gv, st, c, q, rfl, hk, co, gi, wg, hs, k⟩ := h
  obtain ⟨hh, rfl⟩ := hs.resolve_left (by decide)
  obtain ⟨ck, ca, crs⟩ := c
  obtain rfl : ck = 10 := hk
  obtain ⟨raw, fm⟩ := co.form
  have fm : KM.Form raw 10 ca crs q := fm
  have hr1 : Room 1 _ := hr.mono (by decide)
  obtain ⟨tn, en⟩ := TC.notRight
  obtain ⟨tm, em⟩ := TC.thereIsNone
  refine ⟨_, pss_cons (ps_if (pt_not (pt_val (pe_call GI hr rfl mI FI.kp bI .nil pass0 (pa_cons (pv 0) (pa_cons (pv 1) pa_nil))))) (pss_one (ps_ret (pe_lst (pa_cons (pe_glob (v := .int (-22)) rfl en ⟨_, rfl⟩) pa_nil)))) pss_nil)
    (pss_cons (ps_if (pt_cmpR op_eq (pe_callB call_len_seq (by rfl) T.len PySem.boot_len (pa_cons (pe_fld (pv 0) rfl) pa_nil)) pe_int (nomark _)) (pss_one (ps_ret (pe_lst (pa_cons (pe_glob (v := .int (-33)) rfl em ⟨_, rfl⟩) pa_nil)))) pss_nil)
    (pss_one (ps_ret (pe_call GO hr1 rfl mO FO.kp bO .nil pass0 (pa_cons (pe_cmpR op_eq (pe_callB call_len_seq (by rfl) T.len PySem.boot_len (pa_cons (pe_call GG hr rfl mG FG.kp bG .nil pass0 (pa_cons (pe_fld (pv 0) rfl) (pa_cons (pv 1) pa_nil))) pa_nil))
      (pe_callB call_len_seq (by rfl) T.len PySem.boot_len (pa_cons (pe_fld (pv 0) rfl) pa_nil)) (nomark _)) pa_nil))))), ?_⟩
  obtain ⟨kd, a, b, rfl, rfl, rfl⟩ := KM.form_inv fm
  focus
    obtain ⟨g, va, vb, rfl, hg, ha, hb⟩ := given_cmp gi
    have la : a.length < 256 := co.small a (List.mem_cons.mpr (.inl rfl))
    have lb : b.length < 256 := co.small b (List.mem_cons.mpr (.inr (List.mem_singleton.mpr rfl)))
    obtain ⟨dx, n, ff, us, h1, h2, rfl, n1, n4, t6, tok, pc, af, ws, rfl, hf, pf⟩ := wg.obj
    have hlen := paired_len pf
    have ed : KM.due (some hh) (.follows kd a b) = (if (decide (2 < kd) || !(hh.side a && hh.side b)) = true then Krab.say (-22) else (match Krab.fitBy hh.n hh.told with
      | [] => Krab.say (-33)
      | _ :: _ => Krab.say (if (Krab.fitBy hh.n hh.told).all fun z => (⟨a, b, kd⟩ : Krab.Told).holds z then 1 else 0))).num :: (if (decide (2 < kd) || !(hh.side a && hh.side b)) = true then Krab.say (-22) else (match Krab.fitBy hh.n hh.told with
      | [] => Krab.say (-33)
      | _ :: _ => Krab.say (if (Krab.fitBy hh.n hh.told).all fun z => (⟨a, b, kd⟩ : Krab.Told).holds z then 1 else 0))).nums := rfl
    rw [cmpOk_bad] at ed
    refine ⟨_, rfl, _, rfl, wa, g, dx, hh.n, kd, _, _, va, vb, a, b, rfl, h1, wg.le _ _ hg, ha.mono wg.le, hb.mono wg.le, la, lb, fun H1 s1 => ⟨_, rfl, ?_⟩⟩
    refine ite2 (fun c0 => ?_) fun c0 => ?_
    · refine ⟨(by show 1 ≤ sizeLine; decide), fun p hp => done_same (l := [-22]) wg s1 hp ?_ k⟩
      rw [ed, if_pos c0]
      rfl
    · have e0 : cmpOk hh.n kd a b = true := by
        cases z : cmpOk hh.n kd a b with
        | true => rfl
        | false => rw [z] at c0; exact absurd rfl c0
      have tk := cmpOk_tok e0
      have hfH := s1 _ _ (wg.le _ _ hf)
      rw [if_neg c0] at ed
      refine ⟨_, rfl, wa, C, dx, _, _, rfl, s1 _ _ h1, T0.cl, T0.nFi, wf_fit _ _ _, af, _, rfl, .inl (SqL.of hfH), rfl, _, rfl, ?_⟩
      rw [hlen]
      refine ite2 (fun c1 => ?_) fun c1 => ?_
      · have e1 : Krab.fitBy hh.n hh.told = [] := List.eq_nil_of_length_eq_zero (by have := V.int.inj (of_decide_eq_true c1); omega)
        refine ⟨(by show 1 ≤ sizeLine; decide), fun p hp => done_same (l := [-33]) wg s1 hp ?_ k⟩
        rw [ed, e1]
        rfl
      · have hne : ∃ y r, Krab.fitBy hh.n hh.told = y :: r := by
          cases z : Krab.fitBy hh.n hh.told with
          | nil => rw [z] at c1; exact absurd rfl c1
          | cons y r => exact ⟨y, r, rfl⟩
        refine ⟨_, rfl, wa, C, dx, _, _, rfl, s1 _ _ h1, T0.cl, T0.nFi, wf_fit _ _ _, _, rfl, G, .ref af, .ref g, _, ⟨a, b, kd⟩, hh.n, rfl, wg.le.trans s1, ⟨af, ws, rfl, hf, pf⟩, ⟨g, va, vb, rfl, .inl (s1 _ _ (wg.le _ _ hg)), ha.mono (wg.le.trans s1), hb.mono (wg.le.trans s1)⟩, tk, n4, fun x hx => fit_ok hx, fit_4096 n4 _, fun H2 p2 us2 s2 hp2 h2' pu => ?_⟩
        refine ⟨p2, _, rfl, .inl (SqL.of h2'), _, rfl, wa, C, dx, _, _, rfl, s2 _ _ (s1 _ _ h1), T0.cl, T0.nFi, wf_fit _ _ _, af, _, rfl, .inl (SqL.of (s2 _ _ hfH)), rfl, _, rfl, fun p hp => ?_⟩
        refine done_same (l := [if decide (V.int (us2.length : Int) = V.int (ws.length : Int)) = true then 1 else 0]) wg (s1.trans s2) hp ?_ k
        rw [ed, all_filter, paired_len pu, hlen]
        have e9 : decide (V.int (((Krab.fitBy hh.n hh.told).filter fun x => (⟨a, b, kd⟩ : Krab.Told).holds x).length : Int) = V.int ((Krab.fitBy hh.n hh.told).length : Int)) =
          decide (((Krab.fitBy hh.n hh.told).filter fun x => (⟨a, b, kd⟩ : Krab.Told).holds x).length = (Krab.fitBy hh.n hh.told).length) := decide_eq_decide.mpr ⟨fun z => by have := V.int.inj z; omega, fun z => by rw [z]⟩
        rw [e9]
        generalize decide (((Krab.fitBy hh.n hh.told).filter fun x => (⟨a, b, kd⟩ : Krab.Told).holds x).length = (Krab.fitBy hh.n hh.told).length) = bb
        obtain ⟨y, r, e1⟩ := hne
        rw [e1]
        rfl
end
end KP

end
section
set_option Elab.async false
set_option linter.all false
set_option maxRecDepth 100000
set_option maxHeartbeats 4000000
namespace KP
open PySem PySem.Spec PyProof.Rows L2 KG KR
theorem Wg.up {C : Addr} {F H F' H' : Hp} {w t : Addr} {s : Krab.Abs} (x : Wg C F H w t s) (fx : Fx F H F' H') (sm : Same H H') : Wg C F' H' w t s := by
  obtain ⟨dx, n, f, us, h1, h2, h3⟩ := x.obj
  refine ⟨fx.le, fx.new w x.fw (by rw [h1]; exact fun z => nomatch z), fx.new t x.ft (by rw [h2]; exact fun z => nomatch z), dx, n, f, us, sm _ _ h1, sm _ _ h2, ?_⟩
  cases s with
  | none => exact h3
  | some h =>
    obtain ⟨a1, a2, a3, a4, a5, a6, a7⟩ := h3
    exact ⟨a1, a2, a3, a4, a5, paired_mono (fun _ _ z => z.mono fx.sub) a6, a7.mono fx.sub⟩
theorem Post.pre {C : Addr} {F H F1 H1 F' H' : Hp} {w t t' : Addr} {s' : Krab.Abs} (fx : Fx F H F1 H1) (sm : Same H H1) (po : Post C F1 H1 w t F' H' t' s') : Post C F H w t F' H' t' s' :=
  ⟨po.wg, fx.sub.trans po.sub, fun b e n => po.new b (fx.new b e n) (Same.there sm b n), fun b o e h1 h2 => po.keep b o (sm b o e) h1 h2, po.old.elim .inl fun z => .inr (sm.free z)⟩
def addAct (h : Krab.House) (t : Krab.Told) : Krab.Abs × Krab.Ans := if Krab.mostTold ≤ h.told.length then (some h, Krab.say (-28)) else (some { h with told := h.told ++ [t] }, Krab.say h.told.length)
def nums (a : Krab.Ans) : List Int := a.num :: a.nums
section
variable {P : Program} {w : World} {K : PySem.W.Frag} {mg : Str → Option Value} {base : Heap}
/-! ## tell_one_more -/
def spTellMore (C : Addr) : Sp := fun vs H Q _ => ∃ (F : Hp) (w t : Addr) (vc : V) (h : Krab.House) (tt : Krab.Told), vs = [.ref w, vc] ∧ Wg C F H w t (some h) ∧ Cmp F vc tt ∧ KM.TOk h.n tt ∧
  ∀ H' F' t' p, Post C F H w t F' H' t' (addAct h tt).1 → H p = none → H' p = some (.lst ((nums (addAct h tt).2).map V.int)) → Q (.ref p) H'
theorem sc_tellMore : FnScope ["weighing", "comparison"] ["weighing", "comparison"] (defScope sTellOneMore) := ⟨rfl, rfl, rfl, by decide +kernel, rfl, by decide +kernel, by decide +kernel⟩
theorem ok_tellMore {f C : Addr} {fd : FuncData} (F : Fun K "tell_one_more" "tell_one_more" sTellOneMore f fd) (T : Txt mg) (T0 : Cl0 K mg C) (TC : Cn mg) (DA : Df K mg "agrees" sAgrees ["numbers", "comparison"]) (DG : Df K mg "agreeing" sAgreeing ["candidates", "comparison"]) : FnOk P w K mg base CX0 3 f fd ["weighing", "comparison"] (spTellMore C) := by
  obtain ⟨fg, fdg, FG, mG, bG⟩ := DG.ex
  have GG : FnOk P w K mg base CX0 2 fg fdg ["candidates", "comparison"] spAgreeing := ok_agreeing FG T DA
  refine F.ok sc_tellMore (fun vs H Q E h => ?_) (fun cdv A outer s H vs Q E hr h => ?_)
  · obtain ⟨F, w, t, vc, h, tt, rfl, _⟩ := h
    rfl
  · obtain ⟨G, wa, t, vc, hh, tt, rfl, wg, hc, tk, k⟩ := h
    obtain ⟨t6', e6⟩ := TC.mostTold
    obtain ⟨tm, em⟩ := TC.tooMany
    refine ⟨_, pss_cons (ps_if (pt_cmpR op_eq (pe_callB call_len_seq (by rfl) T.len PySem.boot_len (pa_cons (pe_fld (pv 0) rfl) pa_nil)) (pe_glob (v := .int 6) rfl e6 ⟨_, rfl⟩) (nomark _)) (pss_one (ps_ret (pe_lst (pa_cons (pe_glob (v := .int (-28)) rfl em ⟨_, rfl⟩) pa_nil)))) pss_nil)
      (pss_cons (ps_expr (pe_bm PySem.F.plainAttrs_list PySem.F.slot_list_append PySem.F.type_list_append mt_append (pe_fld (pv 0) rfl) (pa_cons (pv 1) pa_nil)))
      (pss_cons (ps_fld (pv 0) (pe_call GG hr rfl mG FG.kp bG .nil pass0 (pa_cons (pe_fld (pv 0) rfl) (pa_cons (pv 1) pa_nil))) rfl)
      (pss_one (ps_ret (pe_lst (pa_cons (pe_op op_sub (pe_callB call_len_seq (by rfl) T.len PySem.boot_len (pa_cons (pe_fld (pv 0) rfl) pa_nil)) pe_int) pa_nil)))))), ?_⟩
    have nwt := wg.wt
    obtain ⟨dx, n, ff, us, h1, h2, rfl, n1, n4, t6, tok, pc, af, ws, rfl, hf, pf⟩ := wg.obj
    have hul := paired_len pc
    refine ⟨_, rfl, wa, C, dx, _, _, rfl, h1, T0.cl, T0.nTo, wf_told _ _ _, t, _, rfl, .inl (SqL.of h2), rfl, _, rfl, ?_⟩
    refine ite2 (fun c0 => ?_) fun c0 => ?_
    · have e6 : hh.told.length = 6 := by
        have := V.int.inj (of_decide_eq_true c0)
        omega
      have ea : addAct hh tt = (some hh, Krab.say (-28)) := if_pos (by show 6 ≤ hh.told.length; omega)
      rw [ea] at k
      exact ⟨(by show 1 ≤ sizeLine; decide), fun p hp => done_same (l := [-28]) wg (Same.refl _) hp rfl k⟩
    · have e6 : hh.told.length < 6 := by
        rcases Nat.lt_or_ge hh.told.length 6 with z | z
        · exact z
        · exact absurd (decide_eq_true (by rw [hul, show hh.told.length = 6 by omega]; rfl)) c0
      have ea : addAct hh tt = (some { hh with told := hh.told ++ [tt] }, Krab.say hh.told.length) := if_neg (by show ¬ 6 ≤ hh.told.length; omega)
      rw [ea] at k
      have sG1 : Same G (upd H t (.lst (us ++ [vc]))) := same_off wg.le wg.ft
      have h1' : (upd H t (.lst (us ++ [vc]))) wa = some (.ins C dx (wf hh.n (.ref t) (.ref af))) := by rw [upd_ne nwt]; exact h1
      refine ⟨_, rfl, wa, C, dx, _, _, rfl, h1, T0.cl, T0.nTo, wf_told _ _ _, .inl ⟨rfl, _, SqL.of h2⟩, _, rfl, t, us, vc, rfl, rfl, h2, small1000 (by omega), ?_⟩
      refine ⟨_, rfl, wa, C, dx, _, _, rfl, h1', T0.cl, T0.nFi, wf_fit _ _ _, _, rfl, G, .ref af, vc, _, tt, hh.n, rfl, sG1, ⟨af, ws, rfl, hf, pf⟩, hc.mono sG1, tk, n4, fun x hx => fit_ok hx, fit_4096 n4 _, fun H2 p2 us2 s2 hp2 h2' pu => ?_⟩
      have hw2 := s2 _ _ h1'
      have ht2 : H2 t = some (.lst (us ++ [vc])) := s2 _ _ upd_same
      have npt : t ≠ p2 := ne_of_none upd_same hp2
      have npw : wa ≠ p2 := ne_of_none h1' hp2
      have hp0 : H p2 = none := by rw [upd_ne (Ne.symm npt)] at hp2; exact hp2
      have hGp : G p2 = none := wg.le.free hp0
      refine ⟨_, rfl, wa, C, dx, _, rfl, hw2, T0.cl, T0.nFi, (by rw [wf_len]; decide), ?_⟩
      rw [wf_putFit]
      have ht3 : (upd H2 wa (.ins C dx (wf hh.n (.ref t) (.ref p2)))) t = some (.lst (us ++ [vc])) := by rw [upd_ne (Ne.symm nwt)]; exact ht2
      refine ⟨_, rfl, wa, C, dx, _, _, rfl, upd_same, T0.cl, T0.nTo, wf_told _ _ _, t, _, rfl, .inl (SqL.of ht3), _, _, rfl, rfl, (by show 1 ≤ sizeLine; decide), fun p hp => ?_⟩
      have npt3 : t ≠ p := ne_of_none ht3 hp
      have npw3 : wa ≠ p := ne_of_none upd_same hp
      have hp3 : H p = none := by
        rw [upd_ne (Ne.symm npw3)] at hp
        have := s2.free hp
        rw [upd_ne (Ne.symm npt3)] at this
        exact this
      have leF : Same (upd G p2 (.lst us2)) H2 := fun b u e => by
        by_cases z : b = p2
        · subst z
          rw [upd_same] at e
          cases e
          exact h2'
        · rw [upd_ne z] at e
          exact s2 _ _ (sG1 _ _ e)
      have fw : (upd G p2 (.lst us2)) wa = none := by rw [upd_ne npw]; exact wg.fw
      have ft : (upd G p2 (.lst us2)) t = none := by rw [upd_ne npt]; exact wg.ft
      refine k _ (upd G p2 (.lst us2)) t p ⟨⟨(same_off leF fw).trans (same_upd hp), fw, ft, dx, hh.n, .ref p2, us ++ [vc], same_upd hp _ _ upd_same, same_upd hp _ _ ht3, ?_⟩, same_upd hGp, fun b e m => ?_, fun b o e z1 z2 => ?_, .inl rfl⟩ hp3 ?_
      · refine ⟨rfl, n1, n4, ?_, ?_, paired_append (paired_mono (fun _ _ z => z.mono (same_upd hGp)) pc) (.cons (hc.mono (same_upd hGp)) .nil), p2, us2, rfl, upd_same, ?_⟩
        · show (hh.told ++ [tt]).length ≤ 6
          rw [List.length_append, List.length_singleton]
          omega
        · intro x hx
          rcases List.mem_append.mp hx with z | z
          · exact tok x z
          · rw [List.mem_singleton.mp z]
            exact tk
        · show Paired _ us2 (Krab.fitBy hh.n (hh.told ++ [tt]))
          rw [KM.fit_snoc]
          exact paired_mono (fun _ _ z => z.mono (same_upd hGp)) pu
      · rw [upd_ne (fun z => m (by rw [z]; exact hp0))]
        exact e
      · refine same_upd hp _ _ ?_
        rw [upd_ne z1]
        refine s2 _ _ ?_
        rw [upd_ne z2]
        exact e
      · rw [upd_same, List.length_append, List.length_singleton, hul]
        have e9 : ((hh.told.length + 1 : Nat) : Int) - 1 = (hh.told.length : Int) := by omega
        exact congrArg (fun z => some (HO.lst [V.int z])) e9
end
end KP

end
section
set_option Elab.async false
set_option linter.all false
set_option maxRecDepth 100000
set_option maxHeartbeats 4000000
namespace KP
open PySem PySem.Spec PyProof.Rows L2 KG KR
theorem unit_len (n : Nat) (l : List Nat) : (Krab.unit n l).length = n := by
  unfold Krab.unit
  rw [List.length_map, List.length_range]
theorem unit_le (n : Nat) (l : List Nat) : ∀ x ∈ Krab.unit n l, x ≤ l.length := fun x hx => by
  unfold Krab.unit at hx
  obtain ⟨i, _, rfl⟩ := List.mem_map.mp hx
  exact List.length_filter_le _ _
section
variable {P : Program} {w : World} {K : PySem.W.Frag} {mg : Str → Option Value} {base : Heap}
/-! ## tell -/
theorem sc_tell : FnScope ["weighing", "given"] ["weighing", "given"] (defScope sTell) := ⟨rfl, rfl, rfl, by decide +kernel, rfl, by decide +kernel, by decide +kernel⟩
theorem ok_tell {f C : Addr} {fd : FuncData} (F : Fun K "tell" "tell" sTell f fd) (T : Txt mg) (T0 : Cl0 K mg C) (TC : Cn mg) (DK : Df K mg "is_kind" sIsKind ["given"]) (DS : Df K mg "is_side" sIsSide ["given", "things"]) (DI : Df K mg "is_comparison" sIsComparison ["weighing", "given"])
    (DA : Df K mg "agrees" sAgrees ["numbers", "comparison"]) (DG : Df K mg "agreeing" sAgreeing ["candidates", "comparison"]) (DT : Df K mg "tell_one_more" sTellOneMore ["weighing", "comparison"]) : FnOk P w K mg base CX0 4 f fd ["weighing", "given"] (spCmd C 1) := by
  obtain ⟨fi, fdi, FI, mI, bI⟩ := DI.ex
  obtain ⟨ft, fdt, FT, mT, bT⟩ := DT.ex
  have GI : FnOk P w K mg base CX0 2 fi fdi ["weighing", "given"] (spIsComparison C) := ok_isComparison FI T T0 DK DS
  have GT : FnOk P w K mg base CX0 3 ft fdt ["weighing", "comparison"] (spTellMore C) := ok_tellMore FT T T0 TC DA DG
  refine F.ok sc_tell sp_len (fun cdv A outer s H vs Q E hr h => ?_)
  obtain ⟨G, wa, t, gv, st, c, q, rfl, hk, co, gi, wg, hs, k⟩ := h
  obtain ⟨hh, rfl⟩ := hs.resolve_left (by decide)
  obtain ⟨ck, ca, crs⟩ := c
  obtain rfl : ck = 1 := hk
  obtain ⟨raw, fm⟩ := co.form
  have fm : KM.Form raw 1 ca crs q := fm
  have hr2 : Room 2 _ := hr.mono (by decide)
  obtain ⟨tn, en⟩ := TC.notRight
  refine ⟨_, pss_cons (ps_if (pt_not (pt_val (pe_call GI hr2 rfl mI FI.kp bI .nil pass0 (pa_cons (pv 0) (pa_cons (pv 1) pa_nil))))) (pss_one (ps_ret (pe_lst (pa_cons (pe_glob (v := .int (-22)) rfl en ⟨_, rfl⟩) pa_nil)))) pss_nil)
    (pss_one (ps_ret (pe_call GT hr rfl mT FT.kp bT .nil pass0 (pa_cons (pv 0) (pa_cons (pe_callTy call_tuple_of (by rfl) TC.tuple PyProof.Rows.boot_tuple (pa_cons (pv 1) pa_nil)) pa_nil))))), ?_⟩
  obtain ⟨kd, a, b, rfl, rfl, rfl⟩ := KM.form_inv fm
  focus
    obtain ⟨g, va, vb, rfl, hg, ha, hb⟩ := given_cmp gi
    have la : a.length < 256 := co.small a (List.mem_cons.mpr (.inl rfl))
    have lb : b.length < 256 := co.small b (List.mem_cons.mpr (.inr (List.mem_singleton.mpr rfl)))
    obtain ⟨dx, n, ff, us, h1, h2, rfl, n1, n4, t6, tok, pc, af, ws, rfl, hf, pf⟩ := wg.obj
    have ea : Krab.act (some hh) (.tell kd a b) = if (decide (2 < kd) || !(hh.side a && hh.side b)) = true then (some hh, Krab.say (-22)) else addAct hh ⟨a, b, kd⟩ := rfl
    have ed : KM.due (some hh) (.tell kd a b) = nums (Krab.act (some hh) (.tell kd a b)).2 := rfl
    rw [ed] at k
    rw [ea, cmpOk_bad] at k
    refine ⟨_, rfl, _, rfl, wa, g, dx, hh.n, kd, _, _, va, vb, a, b, rfl, h1, wg.le _ _ hg, ha.mono wg.le, hb.mono wg.le, la, lb, fun H1 s1 => ⟨_, rfl, ?_⟩⟩
    refine ite2 (fun c0 => ?_) fun c0 => ?_
    · rw [if_pos c0] at k
      exact ⟨(by show 1 ≤ sizeLine; decide), fun p hp => done_same (l := [-22]) wg s1 hp rfl k⟩
    · have e0 : cmpOk hh.n kd a b = true := by
        cases z : cmpOk hh.n kd a b with
        | true => rfl
        | false => rw [z] at c0; exact absurd rfl c0
      rw [if_neg c0] at k
      refine ⟨_, rfl, _, rfl, g, _, rfl, .inl ⟨SqL.of (s1 _ _ (wg.le _ _ hg)), fun l hl => ?_⟩⟩
      have fx1 : Fx G H G H1 := Fx.up (wg.le.trans s1)
      have fx2 := fx1.trans (Fx.lay (o := .tup [nv kd, va, vb]) fx1.le hl) (Same.there s1)
      have sm2 := s1.trans (same_upd (o := .tup [nv kd, va, vb]) hl)
      refine ⟨upd G l (.tup [nv kd, va, vb]), wa, t, .ref l, hh, ⟨a, b, kd⟩, rfl, wg.up fx2 sm2, ⟨l, va, vb, rfl, .inr upd_same, ha.mono fx2.sub, hb.mono fx2.sub⟩, cmpOk_tok e0, fun H' F' t' p po hp hp' => k H' F' t' p (Post.pre fx2 sm2 po) (sm2.free hp) hp'⟩
/-! ## differ -/
theorem sc_differ : FnScope ["weighing", "given", "first", "second"] ["weighing", "given"] (defScope sDiffer) := ⟨rfl, rfl, rfl, by decide +kernel, rfl, by decide +kernel, by decide +kernel⟩
theorem given_five {F : Hp} {v : V} {a : List Nat} (h : Given F v a []) : ∃ g, v = .ref g ∧ F g = some (.lst (a.map nv)) := by
  obtain ⟨g, vs, rfl, h1, h2⟩ := h
  cases h2
  rw [List.append_nil] at h1
  exact ⟨g, rfl, h1⟩
theorem ok_differ {f C : Addr} {fd : FuncData} (F : Fun K "differ" "differ" sDiffer f fd) (T : Txt mg) (T0 : Cl0 K mg C) (TC : Cn mg) (DK : Df K mg "is_kind" sIsKind ["given"]) (DS : Df K mg "side_of" sSideOf ["taken", "things"])
    (DA : Df K mg "agrees" sAgrees ["numbers", "comparison"]) (DG : Df K mg "agreeing" sAgreeing ["candidates", "comparison"]) (DT : Df K mg "tell_one_more" sTellOneMore ["weighing", "comparison"]) : FnOk P w K mg base CX0 4 f fd ["weighing", "given"] (spCmd C 2) := by
  obtain ⟨fk, fdk, FK, mK, bK⟩ := DK.ex
  obtain ⟨fs, fds, FS, mS, bS⟩ := DS.ex
  obtain ⟨ft, fdt, FT, mT, bT⟩ := DT.ex
  have GK : FnOk P w K mg base CX0 1 fk fdk ["given"] spIsKind := ok_isKind FK T
  have GS : FnOk P w K mg base CX0 1 fs fds ["taken", "things"] spSideOf := ok_sideOf FS T
  have GT : FnOk P w K mg base CX0 3 ft fdt ["weighing", "comparison"] (spTellMore C) := ok_tellMore FT T T0 TC DA DG
  refine F.ok sc_differ sp_len (fun cdv A outer s H vs Q E hr h => ?_)
  obtain ⟨G, wa, t, gv, st, c, q, rfl, hk, co, gi, wg, hs, k⟩ := h
  obtain ⟨hh, rfl⟩ := hs.resolve_left (by decide)
  obtain ⟨ck, ca, crs⟩ := c
  obtain rfl : ck = 2 := hk
  obtain ⟨raw, fm⟩ := co.form
  have fm : KM.Form raw 2 ca crs q := fm
  have hr1 : Room 1 _ := hr.mono (by decide)
  obtain ⟨tn, en⟩ := TC.notRight
  obtain ⟨ts, es⟩ := TC.noneSuch
  refine ⟨_, pss_cons (ps_if (pt_cmpR op_ge (pe_callB (cr_max rfl) (by rfl) TC.max boot_max (pa_cons (pe_slice sl_list (pv 1) (po_some pe_int) po_none) pa_nil)) (pe_fld (pv 0) rfl) (nomark _)) (pss_one (ps_ret (pe_lst (pa_cons (pe_glob (v := .int (-2)) rfl es ⟨_, rfl⟩) pa_nil)))) pss_nil)
    (pss_cons (ps_if (pt_not (pt_val (pe_call GK hr1 rfl mK FK.kp bK .nil pass0 (pa_cons (pe_ix ix_list (pv 1) pe_int (fun _ _ => rfl)) pa_nil)))) (pss_one (ps_ret (pe_lst (pa_cons (pe_glob (v := .int (-22)) rfl en ⟨_, rfl⟩) pa_nil)))) pss_nil)
    (pss_cons (ps_set (i := 2) sc_differ.nd rfl (Or.inl rfl) (pe_call GS hr1 rfl mS FS.kp bS .nil pass0 (pa_cons (pe_lst (pa_cons (pe_ix ix_list (pv 1) pe_int (fun _ _ => rfl)) (pa_cons (pe_ix ix_list (pv 1) pe_int (fun _ _ => rfl)) pa_nil))) (pa_cons (pe_fld (pv 0) rfl) pa_nil))))
    (pss_cons (ps_set (i := 3) sc_differ.nd rfl (Or.inl rfl) (pe_call GS hr1 rfl mS FS.kp bS .nil pass0 (pa_cons (pe_lst (pa_cons (pe_ix ix_list (pv 1) pe_int (fun _ _ => rfl)) (pa_cons (pe_ix ix_list (pv 1) pe_int (fun _ _ => rfl)) pa_nil))) (pa_cons (pe_fld (pv 0) rfl) pa_nil))))
    (pss_one (ps_ret (pe_call GT hr rfl mT FT.kp bT .nil pass0 (pa_cons (pv 0) (pa_cons (pe_tup (pa_cons (pe_ix ix_list (pv 1) pe_int (fun _ _ => rfl)) (pa_cons (pv 2) (pa_cons (pv 3) pa_nil)))) pa_nil)))))))), ?_⟩
  obtain ⟨kd, i, j, u, v, rfl, rfl, rfl⟩ := KM.form_inv fm
  focus
    obtain ⟨g, rfl, hg⟩ := given_five gi
    have hgH : H g = some (.lst [nv kd, nv i, nv j, nv u, nv v]) := wg.le _ _ hg
    obtain ⟨dx, n, ff, us, h1, h2, rfl, n1, n4, t6, tok, pc, af, ws, rfl, hf, pf⟩ := wg.obj
    have ea : Krab.act (some hh) (.differ kd i j u v) = if (decide (hh.n ≤ i) || (decide (hh.n ≤ j) || (decide (hh.n ≤ u) || decide (hh.n ≤ v)))) = true then (some hh, Krab.say (-2)) else if 2 < kd then (some hh, Krab.say (-22)) else addAct hh ⟨Krab.unit hh.n [i, v], Krab.unit hh.n [j, u], kd⟩ := rfl
    have ed : KM.due (some hh) (.differ kd i j u v) = nums (Krab.act (some hh) (.differ kd i j u v)).2 := rfl
    rw [ed] at k
    rw [ea] at k
    refine ⟨_, rfl, _, rfl, g, _, rfl, SqL.of hgH, fun p0 hp0 => ?_⟩
    have s0 := same_upd (o := .lst (cutV [nv kd, nv i, nv j, nv u, nv v] (some 1) none)) hp0
    have e4 : (upd H p0 (.lst (cutV [nv kd, nv i, nv j, nv u, nv v] (some 1) none))) p0 = some (.lst ((KM.zints [i, j, u, v]).map V.int)) := by
      rw [upd_same]
      rfl
    refine ⟨p0, KM.zints [i, j, u, v], rfl, SqL.of e4, (by show 0 < 4; decide), fun m hm hmax => ⟨_, rfl, wa, C, dx, _, _, rfl, s0 _ _ h1, T0.cl, T0.nTh, wf_things _ _ _, _, _, rfl, rfl, _, rfl, ?_⟩⟩
    have mem4 : ∀ z : Nat, z ∈ [i, j, u, v] → (z : Int) ≤ m := fun z hz => hmax z (List.mem_map.mpr ⟨z, hz, rfl⟩)
    have mi := mem4 i (by simp)
    have mj := mem4 j (by simp)
    have mu := mem4 u (by simp)
    have mv := mem4 v (by simp)
    obtain ⟨z, hz, ez⟩ := List.mem_map.mp hm
    have hz' : z = i ∨ z = j ∨ z = u ∨ z = v := by simpa using hz
    have ez' : (z : Int) = m := ez
    refine ite2 (fun c0 => ?_) fun c0 => ?_
    · have hge : (hh.n : Int) ≤ m := of_decide_eq_true c0
      have cc : (decide (hh.n ≤ i) || (decide (hh.n ≤ j) || (decide (hh.n ≤ u) || decide (hh.n ≤ v)))) = true := by
        simp only [Bool.or_eq_true, decide_eq_true_eq]
        rcases hz' with rfl | rfl | rfl | rfl <;> omega
      rw [if_pos cc] at k
      exact ⟨(by show 1 ≤ sizeLine; decide), fun p hp => done_same (l := [-2]) wg s0 hp rfl k⟩
    · have hlt : ¬ (hh.n : Int) ≤ m := fun z => c0 (decide_eq_true z)
      have cc : ¬ (decide (hh.n ≤ i) || (decide (hh.n ≤ j) || (decide (hh.n ≤ u) || decide (hh.n ≤ v)))) = true := by
        simp only [Bool.or_eq_true, decide_eq_true_eq]
        omega
      rw [if_neg cc] at k
      have g0 := s0 _ _ hgH
      refine ⟨_, rfl, g, _, _, _, rfl, rfl, SqL.of g0, atI_nat (j := 0) rfl, kd, rfl, _, rfl, ?_⟩
      refine ite2 (fun c1 => ?_) fun c1 => ?_
      · have h2k : 2 < kd := by
          by_cases z : kd ≤ 2
          · rw [decide_eq_true z] at c1; cases c1
          · omega
        rw [if_pos h2k] at k
        exact ⟨(by show 1 ≤ sizeLine; decide), fun p hp => done_same (l := [-22]) wg s0 hp rfl k⟩
      · have h2k : ¬ 2 < kd := fun z => by
          rw [decide_eq_false (by omega)] at c1
          exact absurd rfl c1
        rw [if_neg h2k] at k
        refine ⟨_, rfl, g, _, _, _, rfl, rfl, SqL.of g0, atI_nat (j := 1) rfl, _, rfl, g, _, _, _, rfl, rfl, SqL.of g0, atI_nat (j := 4) rfl, (by show 2 ≤ sizeLine; decide), fun p1 hp1 => ?_⟩
        have s1 := s0.trans (same_upd (o := .lst [nv i, nv v]) hp1)
        refine ⟨_, rfl, wa, C, dx, _, _, rfl, s1 _ _ h1, T0.cl, T0.nTh, wf_things _ _ _, .ref p1, [i, v], hh.n, rfl, ⟨p1, rfl, upd_same⟩, n4, fun H2 q1 s2 hq1 h2q => ?_⟩
        have s12 := s1.trans s2
        have gg2 := s12 _ _ hgH
        refine ⟨_, rfl, g, _, _, _, rfl, rfl, SqL.of gg2, atI_nat (j := 2) rfl, _, rfl, g, _, _, _, rfl, rfl, SqL.of gg2, atI_nat (j := 3) rfl, (by show 2 ≤ sizeLine; decide), fun p2 hp2 => ?_⟩
        have s3 := s12.trans (same_upd (o := .lst [nv j, nv u]) hp2)
        refine ⟨_, rfl, wa, C, dx, _, _, rfl, s3 _ _ h1, T0.cl, T0.nTh, wf_things _ _ _, .ref p2, [j, u], hh.n, rfl, ⟨p2, rfl, upd_same⟩, n4, fun H4 q2 s4 hq2 h4q => ?_⟩
        have s34 := s3.trans s4
        have gg4 := s34 _ _ hgH
        have h4q1 : H4 q1 = some (.lst ((Krab.unit hh.n [i, v]).map nv)) := s4 _ _ (same_upd hp2 _ _ h2q)
        refine ⟨_, rfl, _, rfl, g, _, _, _, rfl, rfl, SqL.of gg4, atI_nat (j := 0) rfl, _, rfl, _, rfl, (by show 3 ≤ sizeLine; decide), fun l hl => ?_⟩
        have f0 : Fx G H G H4 := Fx.up (wg.le.trans s34)
        have hq10 : H q1 = none := s1.free hq1
        have hq20 : H q2 = none := s3.free hq2
        have nq : q1 ≠ q2 := ne_of_none (same_upd (o := .lst [nv j, nv u]) hp2 _ _ h2q) hq2
        have f1 := Fx.fix f0 (wg.le.free hq10) hq10 h4q1
        have f2 := Fx.fix f1 (by rw [upd_ne (Ne.symm nq)]; exact wg.le.free hq20) hq20 h4q
        have f3 := f2.trans (Fx.lay (o := .tup [nv kd, .ref q1, .ref q2]) f2.le hl) (Same.there s34)
        have sm := s34.trans (same_upd (o := .tup [nv kd, .ref q1, .ref q2]) hl)
        have n1l : q1 ≠ l := ne_of_none h4q1 hl
        have n2l : q2 ≠ l := ne_of_none h4q hl
        refine ⟨_, wa, t, .ref l, hh, ⟨Krab.unit hh.n [i, v], Krab.unit hh.n [j, u], kd⟩, rfl, wg.up f3 sm, ⟨l, .ref q1, .ref q2, rfl, .inr upd_same, ⟨q1, rfl, ?_⟩, ⟨q2, rfl, ?_⟩⟩, ⟨unit_len _ _, unit_len _ _, fun x hx => Nat.le_trans (unit_le _ _ x hx) (by show 2 ≤ 3; decide), fun x hx => Nat.le_trans (unit_le _ _ x hx) (by show 2 ≤ 3; decide), by show kd ≤ 2; omega⟩,
          fun H' F' t' p po hp hp' => k H' F' t' p (Post.pre f3 sm po) (sm.free hp) hp'⟩
        · rw [upd_ne n1l, upd_ne nq, upd_same]
        · rw [upd_ne n2l, upd_same]
end
end KP

end
section
set_option Elab.async false
set_option linter.all false
set_option maxRecDepth 100000
set_option maxHeartbeats 4000000
namespace KP
open PySem PySem.Spec PyProof.Rows L2 KG KR
section
variable {P : Program} {w : World} {K : PySem.W.Frag} {mg : Str → Option Value} {base : Heap}
/-! ## untell -/
theorem sc_untell : FnScope ["weighing", "given", "gone"] ["weighing", "given"] (defScope sUntell) := ⟨rfl, rfl, rfl, by decide +kernel, rfl, by decide +kernel, by decide +kernel⟩
theorem ok_untell {f C : Addr} {fd : FuncData} (F : Fun K "untell" "untell" sUntell f fd) (T : Txt mg) (T0 : Cl0 K mg C) (TC : Cn mg) (DA : Df K mg "agrees" sAgrees ["numbers", "comparison"]) (DG : Df K mg "agreeing" sAgreeing ["candidates", "comparison"])
    (DN : Df K mg "all_numbers" sAllNumbers ["things"]) (DL : Df K mg "all_lists" sAllLists ["length", "lowest", "highest"]) (DF : Df K mg "all_that_fit" sAllThatFit ["things", "told"]) : FnOk P w K mg base CX0 4 f fd ["weighing", "given"] (spCmd C 3) := by
  obtain ⟨ff', fdf, FF, mF, bF⟩ := DF.ex
  have GF : FnOk P w K mg base CX0 3 ff' fdf ["things", "told"] spAllThatFit := ok_allThatFit FF T DA DG DN DL
  refine F.ok sc_untell sp_len (fun cdv A outer s H vs Q E hr h => ?_)
  obtain ⟨G, wa, t, gv, st, c, q, rfl, hk, co, gi, wg, hs, k⟩ := h
  obtain ⟨hh, rfl⟩ := hs.resolve_left (by decide)
  obtain ⟨ck, ca, crs⟩ := c
  obtain rfl : ck = 3 := hk
  obtain ⟨raw, fm⟩ := co.form
  have fm : KM.Form raw 3 ca crs q := fm
  obtain ⟨ts, es⟩ := TC.noneSuch
  refine ⟨_, pss_cons (ps_set (i := 2) sc_untell.nd rfl (Or.inl rfl) (pe_ix ix_list (pv 1) pe_int (fun _ _ => rfl)))
    (pss_cons (ps_if (pt_cmpR op_ge (pv 2) (pe_callB call_len_seq (by rfl) T.len PySem.boot_len (pa_cons (pe_fld (pv 0) rfl) pa_nil)) (nomark _)) (pss_one (ps_ret (pe_lst (pa_cons (pe_glob (v := .int (-2)) rfl es ⟨_, rfl⟩) pa_nil)))) pss_nil)
    (pss_cons (ps_expr (pe_bm PySem.F.plainAttrs_list PySem.F.slot_list_pop PySem.F.type_list_pop mt_popAt (pe_fld (pv 0) rfl) (pa_cons (pv 2) pa_nil)))
    (pss_cons (ps_fld (pv 0) (pe_call GF hr rfl mF FF.kp bF .nil pass0 (pa_cons (pe_fld (pv 0) rfl) (pa_cons (pe_fld (pv 0) rfl) pa_nil))) rfl)
    (pss_one (ps_ret (pe_lst (pa_cons (pe_callB call_len_seq (by rfl) T.len PySem.boot_len (pa_cons (pe_fld (pv 0) rfl) pa_nil)) pa_nil))))))), ?_⟩
  obtain ⟨m, rfl, rfl, rfl⟩ := KM.form_inv fm
  focus
    obtain ⟨g, rfl, hg⟩ := given_num gi
    have nwt := wg.wt
    obtain ⟨dx, n, ff, us, h1, h2, rfl, n1, n4, t6, tok, pc, af, ws, rfl, hf, pf⟩ := wg.obj
    have hul := paired_len pc
    have ea : Krab.act (some hh) (.untell m) = if hh.told.length ≤ m then (some hh, Krab.say (-2)) else (some { hh with told := hh.told.eraseIdx m }, Krab.say (hh.told.eraseIdx m).length) := rfl
    have ed : KM.due (some hh) (.untell m) = nums (Krab.act (some hh) (.untell m)).2 := rfl
    rw [ed] at k
    rw [ea] at k
    refine ⟨_, rfl, g, _, _, _, rfl, rfl, SqL.of (wg.le _ _ hg), atI_nat (j := 0) rfl, _, rfl, _, rfl, wa, C, dx, _, _, rfl, h1, T0.cl, T0.nTo, wf_told _ _ _, t, _, rfl, .inl (SqL.of h2), _, _, rfl, rfl, _, rfl, ?_⟩
    refine ite2 (fun c0 => ?_) fun c0 => ?_
    · have hge : hh.told.length ≤ m := by
        have := of_decide_eq_true c0
        omega
      rw [if_pos hge] at k
      exact ⟨(by show 1 ≤ sizeLine; decide), fun p hp => done_same (l := [-2]) wg (Same.refl _) hp rfl k⟩
    · have hlt : m < hh.told.length := by
        rcases Nat.lt_or_ge m hh.told.length with z | z
        · exact z
        · exact absurd (decide_eq_true (by omega)) c0
      rw [if_neg (by omega)] at k
      obtain ⟨y, hy⟩ : ∃ y, us[m]? = some y := ⟨_, List.getElem?_eq_getElem (by omega)⟩
      refine ⟨_, rfl, wa, C, dx, _, _, rfl, h1, T0.cl, T0.nTo, wf_told _ _ _, .inl ⟨rfl, _, SqL.of h2⟩, _, rfl, t, us, _, m, y, rfl, rfl, h2, by omega, by omega, ?_, hy, ?_⟩
      · rw [seqIndex_of (by omega) (by omega), Int.toNat_natCast]
      have sG1 : Same G (upd H t (.lst (us.eraseIdx m))) := same_off wg.le wg.ft
      have h1' : (upd H t (.lst (us.eraseIdx m))) wa = some (.ins C dx (wf hh.n (.ref t) (.ref af))) := by rw [upd_ne nwt]; exact h1
      refine ⟨_, rfl, wa, C, dx, _, _, rfl, h1', T0.cl, T0.nTh, wf_things _ _ _, _, rfl, wa, C, dx, _, _, rfl, h1', T0.cl, T0.nTo, wf_told _ _ _, G, hh.n, t, us.eraseIdx m, hh.told.eraseIdx m, rfl, sG1, n4, ⟨upd_same, paired_erase m pc⟩, fun x hx => tok x (List.mem_of_mem_eraseIdx hx), fun H2 F2 v2 s2 x2 r2 => ?_⟩
      have hw2 := s2 _ _ h1'
      have ht2 : H2 t = some (.lst (us.eraseIdx m)) := s2 _ _ upd_same
      refine ⟨_, rfl, wa, C, dx, _, rfl, hw2, T0.cl, T0.nFi, (by rw [wf_len]; decide), ?_⟩
      rw [wf_putFit]
      have ht3 : (upd H2 wa (.ins C dx (wf hh.n (.ref t) v2))) t = some (.lst (us.eraseIdx m)) := by rw [upd_ne (Ne.symm nwt)]; exact ht2
      refine ⟨_, rfl, wa, C, dx, _, _, rfl, upd_same, T0.cl, T0.nTo, wf_told _ _ _, t, _, rfl, .inl (SqL.of ht3), (by show 1 ≤ sizeLine; decide), fun p hp => ?_⟩
      have npt3 : t ≠ p := ne_of_none ht3 hp
      have npw3 : wa ≠ p := ne_of_none upd_same hp
      have hp3 : H p = none := by
        rw [upd_ne (Ne.symm npw3)] at hp
        have := s2.free hp
        rw [upd_ne (Ne.symm npt3)] at this
        exact this
      have fw : F2 wa = none := x2.new wa wg.fw (by rw [h1']; exact fun z => nomatch z)
      have ft : F2 t = none := x2.new t wg.ft (by rw [upd_same]; exact fun z => nomatch z)
      refine k _ F2 t p ⟨⟨(same_off x2.le fw).trans (same_upd hp), fw, ft, dx, hh.n, v2, us.eraseIdx m, same_upd hp _ _ upd_same, same_upd hp _ _ ht3, ?_⟩, x2.sub, fun b e z => ?_, fun b o e z1 z2 => ?_, .inl rfl⟩ hp3 ?_
      · refine ⟨rfl, n1, n4, ?_, fun x hx => tok x (List.mem_of_mem_eraseIdx hx), paired_mono (fun _ _ z => z.mono x2.sub) (paired_erase m pc), r2⟩
        show (hh.told.eraseIdx m).length ≤ 6
        rw [List.length_eraseIdx]
        split <;> omega
      · refine x2.new b e ?_
        by_cases q2 : b = t
        · rw [q2, upd_same]
          exact fun z => nomatch z
        · rw [upd_ne q2]
          exact z
      · refine same_upd hp _ _ ?_
        rw [upd_ne z1]
        refine s2 _ _ ?_
        rw [upd_ne z2]
        exact e
      · rw [upd_same, paired_len (paired_erase m pc)]
        rfl
/-! ## begin -/
theorem sc_begin : FnScope ["weighing", "given", "things"] ["weighing", "given"] (defScope sBegin) := ⟨rfl, rfl, rfl, by decide +kernel, rfl, by decide +kernel, by decide +kernel⟩
theorem ok_begin {f C : Addr} {fd : FuncData} (F : Fun K "begin" "begin" sBegin f fd) (T : Txt mg) (T0 : Cl0 K mg C) (TC : Cn mg) (DN : Df K mg "all_numbers" sAllNumbers ["things"]) (DL : Df K mg "all_lists" sAllLists ["length", "lowest", "highest"]) : FnOk P w K mg base CX0 3 f fd ["weighing", "given"] (spCmd C 0) := by
  obtain ⟨fn, fdn, FN, mN, bN⟩ := DN.ex
  have GN : FnOk P w K mg base CX0 2 fn fdn ["things"] spAllNumbers := ok_allNumbers FN T DL
  refine F.ok sc_begin sp_len (fun cdv A outer s H vs Q E hr h => ?_)
  obtain ⟨G, wa, t, gv, st, c, q, rfl, hk, co, gi, wg, hs, k⟩ := h
  obtain ⟨ck, ca, crs⟩ := c
  obtain rfl : ck = 0 := hk
  obtain ⟨raw, fm⟩ := co.form
  have fm : KM.Form raw 0 ca crs q := fm
  obtain ⟨ts, es⟩ := TC.notRight
  obtain ⟨t4, e4⟩ := T.mostThings
  refine ⟨_, pss_cons (ps_set (i := 2) sc_begin.nd rfl (Or.inl rfl) (pe_ix ix_list (pv 1) pe_int (fun _ _ => rfl)))
    (pss_cons (ps_if (pt_not (pt_chain op_le op_le pe_int (pv 2) (pe_glob (v := .int 4) rfl e4 ⟨_, rfl⟩))) (pss_one (ps_ret (pe_lst (pa_cons (pe_glob (v := .int (-22)) rfl es ⟨_, rfl⟩) pa_nil)))) pss_nil)
    (pss_cons (ps_fld (pv 0) (pv 2) rfl)
    (pss_cons (ps_fld (pv 0) (pe_lst pa_nil) rfl)
    (pss_cons (ps_fld (pv 0) (pe_call GN hr rfl mN FN.kp bN .nil pass0 (pa_cons (pv 2) pa_nil)) rfl)
    (pss_one (ps_ret (pe_lst (pa_cons pe_int pa_nil)))))))), ?_⟩
  obtain ⟨m, rfl, rfl, rfl⟩ := KM.form_inv fm
  focus
    obtain ⟨g, rfl, hg⟩ := given_num gi
    have nwt := wg.wt
    obtain ⟨dx, n, ff, us, h1, h2, h3⟩ := wg.obj
    have ea : Krab.act st (.begin_ m) = if m = 0 ∨ Krab.mostThings < m then (st, Krab.say (-22)) else (some ⟨m, []⟩, Krab.say 0) := by
      cases st <;> rfl
    have ed : KM.due st (.begin_ m) = nums (Krab.act st (.begin_ m)).2 := rfl
    rw [ed] at k
    rw [ea] at k
    have bad : (m = 0 ∨ Krab.mostThings < m) → tRet (tLst (tCons (tC (.int (-22))) tNil)) { nx := fun _ H' => Q .non H', rt := Q } [some (.ref wa), some (.ref g), some (nv m)] H := fun hb => by
      rw [if_pos hb] at k
      exact ⟨(by show 1 ≤ sizeLine; decide), fun p hp => done_same (l := [-22]) wg (Same.refl _) hp rfl k⟩
    refine ⟨_, rfl, g, _, _, _, rfl, rfl, SqL.of (wg.le _ _ hg), atI_nat (j := 0) rfl, _, rfl, _, _, rfl, rfl, _, rfl, ?_⟩
    refine ite2 (fun c0 => ?_) fun c0 => ?_
    · have m1 : 1 ≤ m := by
        have : (1 : Int) ≤ (m : Int) := of_decide_eq_true c0
        omega
      refine ⟨_, _, rfl, rfl, _, rfl, ?_⟩
      refine ite2 (fun c1 => ?_) fun c1 => ?_
      · refine bad (.inr ?_)
        show 4 < m
        by_cases z : m ≤ 4
        · rw [decide_eq_true (show (m : Int) ≤ 4 by omega)] at c1
          cases c1
        · omega
      · have m4 : m ≤ 4 := by
          by_cases z : m ≤ 4
          · exact z
          · rw [decide_eq_false (show ¬ (m : Int) ≤ 4 by omega)] at c1
            exact absurd rfl c1
        have hb : ¬ (m = 0 ∨ Krab.mostThings < m) := by
          show ¬ (m = 0 ∨ 4 < m)
          omega
        rw [if_neg hb] at k
        refine ⟨_, rfl, _, rfl, wa, C, dx, _, rfl, h1, T0.cl, T0.nTh, (by rw [wf_len]; decide), ?_⟩
        rw [wf_putThings]
        refine ⟨Nat.zero_le _, fun t1 ht1 => ⟨_, rfl, wa, C, dx, wf m (.ref t) ff, rfl, same_upd ht1 _ _ upd_same, T0.cl, T0.nTo, (by rw [wf_len]; decide), ?_⟩⟩
        rw [wf_putTold]
        have nw1 : wa ≠ t1 := ne_of_none upd_same ht1
        have ht10 : H t1 = none := by rw [upd_ne (Ne.symm nw1)] at ht1; exact ht1
        have hGt1 : G t1 = none := wg.le.free ht10
        have sG3 : Same G (upd (upd (upd H wa (.ins C dx (wf m (.ref t) ff))) t1 (.lst [])) wa (.ins C dx (wf m (.ref t1) ff))) := same_off (same_off (same_off wg.le wg.fw) hGt1) wg.fw
        refine ⟨_, rfl, G, m, rfl, sG3, m4, fun H4 F4 v4 s4 x4 r4 => ?_⟩
        have hw4 := s4 _ _ upd_same
        have ht3 : (upd (upd (upd H wa (.ins C dx (wf m (.ref t) ff))) t1 (.lst [])) wa (.ins C dx (wf m (.ref t1) ff))) t1 = some (.lst []) := by rw [upd_ne (Ne.symm nw1), upd_same]
        have ht4 := s4 _ _ ht3
        have kp : ∀ b o, H b = some o → b ≠ wa → H4 b = some o := fun b o e hb => by
          refine s4 _ _ ?_
          rw [upd_ne hb, upd_ne (ne_of_none e ht10), upd_ne hb]
          exact e
        refine ⟨_, rfl, wa, C, dx, _, rfl, hw4, T0.cl, T0.nFi, (by rw [wf_len]; decide), ?_⟩
        rw [wf_putFit]
        refine ⟨(by show 1 ≤ sizeLine; decide), fun p hp => ?_⟩
        have npw : wa ≠ p := ne_of_none upd_same hp
        have hp4 : H4 p = none := by rw [upd_ne (Ne.symm npw)] at hp; exact hp
        have hp0 : H p = none := by
          cases z : H p with
          | none => rfl
          | some o =>
            rw [kp p o z (Ne.symm npw)] at hp4
            cases hp4
        have fw : F4 wa = none := x4.new wa wg.fw (by rw [upd_same]; exact fun z => nomatch z)
        have ft : F4 t1 = none := x4.new t1 hGt1 (by rw [ht3]; exact fun z => nomatch z)
        refine k _ F4 t1 p ⟨⟨(same_off x4.le fw).trans (same_upd hp), fw, ft, dx, m, v4, [], same_upd hp _ _ upd_same, same_upd hp _ _ (by rw [upd_ne (Ne.symm nw1)]; exact ht4), ?_⟩, x4.sub, fun b e z => ?_, fun b o e z1 z2 => ?_, .inr ht10⟩ hp0 ?_
        · refine ⟨rfl, m1, m4, Nat.zero_le _, (fun x hx => nomatch hx), .nil, ?_⟩
          show Rows F4 v4 (Krab.fitBy m [])
          rw [KM.fit_nil]
          exact r4
        · refine x4.new b e ?_
          by_cases q1 : b = wa
          · rw [q1, upd_same]
            exact fun z => nomatch z
          · rw [upd_ne q1]
            by_cases q2 : b = t1
            · rw [q2, upd_same]
              exact fun z => nomatch z
            · rw [upd_ne q2, upd_ne q1]
              exact z
        · refine same_upd hp _ _ ?_
          rw [upd_ne z1]
          exact kp b o e z1
        · rw [upd_same]
          rfl
    · have m0 : m = 0 := by
        rcases Nat.eq_zero_or_pos m with z | z
        · exact z
        · exact absurd (decide_eq_true (show (1 : Int) ≤ (m : Int) by omega)) c0
      exact ⟨_, rfl, bad (.inl m0)⟩
end
end KP

end
section
set_option Elab.async false
set_option linter.all false
set_option maxRecDepth 100000
set_option maxHeartbeats 4000000
namespace KP
open PySem PySem.Spec PyProof.Rows L2 KG KR
abbrev sMay : Stmt := top 51
abbrev sMore : Stmt := top 52
abbrev sLeastGreatest : Stmt := top 53
abbrev sRangeOf : Stmt := top 54
abbrev sSums : Stmt := top 55
abbrev sClashes : Stmt := top 56
abbrev sSpare : Stmt := top 57
abbrev sCancels : Stmt := top 58
abbrev sCancel : Stmt := top 59
abbrev sBalance : Stmt := top 60
abbrev sLook : Stmt := top 61
abbrev sState : Stmt := top 62
/-- the defs that defs call -/
structure Ds (K : PySem.W.Frag) (mg : Str → Option Value) : Prop where
  isKind : Df K mg "is_kind" sIsKind ["given"]
  isSide : Df K mg "is_side" sIsSide ["given", "things"]
  isNumbers : Df K mg "is_numbers" sIsNumbers ["given", "things"]
  isHowOften : Df K mg "is_how_often" sIsHowOften ["given", "told"]
  sideOf : Df K mg "side_of" sSideOf ["taken", "things"]
  allLists : Df K mg "all_lists" sAllLists ["length", "lowest", "highest"]
  allNumbers : Df K mg "all_numbers" sAllNumbers ["things"]
  comesTo : Df K mg "comes_to" sComesTo ["side", "numbers"]
  agrees : Df K mg "agrees" sAgrees ["numbers", "comparison"]
  agreeing : Df K mg "agreeing" sAgreeing ["candidates", "comparison"]
  allThatFit : Df K mg "all_that_fit" sAllThatFit ["things", "told"]
  agreedSet : Df K mg "agreed_set" sAgreedSet ["numbers", "told"]
  agreedSets : Df K mg "agreed_sets" sAgreedSets ["things", "told"]
  someAgree : Df K mg "some_agree" sSomeAgree ["agreed", "asked"]
  isClash : Df K mg "is_clash" sIsClash ["agreed", "asked", "count"]
  balanceOf : Df K mg "balance_of" sBalanceOf ["how_often", "things", "told"]
  tellsOfMore : Df K mg "tells_of_more" sTellsOfMore ["how_often", "told"]
  doesCancel : Df K mg "does_cancel" sDoesCancel ["how_often", "things", "told"]
  allThatCancel : Df K mg "all_that_cancel" sAllThatCancel ["things", "told"]
  oneOrZero : Df K mg "one_or_zero" sOneOrZero ["holds"]
  isComparison : Df K mg "is_comparison" sIsComparison ["weighing", "given"]
  tellOneMore : Df K mg "tell_one_more" sTellOneMore ["weighing", "comparison"]
  notAgreed : Df K mg "not_agreed_with" sNotAgreed ["weighing", "numbers"]
  leastGreatest : Df K mg "least_and_greatest" sLeastGreatest ["weighing", "side"]
section
variable {P : Program} {w : World} {K : PySem.W.Frag} {mg : Str → Option Value} {base : Heap}
/-! ## may -/
theorem sc_may : FnScope ["weighing", "given"] ["weighing", "given"] (defScope sMay) := ⟨rfl, rfl, rfl, by decide +kernel, rfl, by decide +kernel, by decide +kernel⟩
theorem ok_may {f C : Addr} {fd : FuncData} (F : Fun K "may" "may" sMay f fd) (T : Txt mg) (T0 : Cl0 K mg C) (TC : Cn mg) (D : Ds K mg) : FnOk P w K mg base CX0 3 f fd ["weighing", "given"] (spCmd C 11) := by
  obtain ⟨fi, fdi, FI, mI, bI⟩ := D.isComparison.ex
  obtain ⟨fg, fdg, FG, mG, bG⟩ := D.agreeing.ex
  obtain ⟨fo, fdo, FO, mO, bO⟩ := D.oneOrZero.ex
  have GI : FnOk P w K mg base CX0 2 fi fdi ["weighing", "given"] (spIsComparison C) := ok_isComparison FI T T0 D.isKind D.isSide
  have GG : FnOk P w K mg base CX0 2 fg fdg ["candidates", "comparison"] spAgreeing := ok_agreeing FG T D.agrees
  have GO : FnOk P w K mg base CX0 1 fo fdo ["holds"] spOneOrZero := ok_oneOrZero FO
  refine F.ok sc_may sp_len (fun cdv A outer s H vs Q E hr h => ?_)
  obtain ⟨G, wa, t, gv, st, c, q, rfl, hk, co, gi, wg, hs, k⟩ := h
  obtain ⟨hh, rfl⟩ := hs.resolve_left (by decide)
  obtain ⟨ck, ca, crs⟩ := c
  obtain rfl : ck = 11 := hk
  obtain ⟨raw, fm⟩ := co.form
  have fm : KM.Form raw 11 ca crs q := fm
  have hr1 : Room 1 _ := hr.mono (by decide)
  obtain ⟨tn, en⟩ := TC.notRight
  refine ⟨_, pss_cons (ps_if (pt_not (pt_val (pe_call GI hr rfl mI FI.kp bI .nil pass0 (pa_cons (pv 0) (pa_cons (pv 1) pa_nil))))) (pss_one (ps_ret (pe_lst (pa_cons (pe_glob (v := .int (-22)) rfl en ⟨_, rfl⟩) pa_nil)))) pss_nil)
    (pss_one (ps_ret (pe_call GO hr1 rfl mO FO.kp bO .nil pass0 (pa_cons (pe_cmpR op_gt (pe_callB call_len_seq (by rfl) T.len PySem.boot_len (pa_cons (pe_call GG hr rfl mG FG.kp bG .nil pass0 (pa_cons (pe_fld (pv 0) rfl) (pa_cons (pv 1) pa_nil))) pa_nil)) pe_int (nomark _)) pa_nil)))), ?_⟩
  obtain ⟨kd, a, b, rfl, rfl, rfl⟩ := KM.form_inv fm
  focus
    obtain ⟨g, va, vb, rfl, hg, ha, hb⟩ := given_cmp gi
    have la : a.length < 256 := co.small a (List.mem_cons.mpr (.inl rfl))
    have lb : b.length < 256 := co.small b (List.mem_cons.mpr (.inr (List.mem_singleton.mpr rfl)))
    obtain ⟨dx, n, ff, us, h1, h2, rfl, n1, n4, t6, tok, pc, af, ws, rfl, hf, pf⟩ := wg.obj
    have ed : KM.due (some hh) (.may kd a b) = (if (decide (2 < kd) || !(hh.side a && hh.side b)) = true then Krab.say (-22) else Krab.say (if (Krab.fitBy hh.n hh.told).any fun z => (⟨a, b, kd⟩ : Krab.Told).holds z then 1 else 0)).num :: (if (decide (2 < kd) || !(hh.side a && hh.side b)) = true then Krab.say (-22) else Krab.say (if (Krab.fitBy hh.n hh.told).any fun z => (⟨a, b, kd⟩ : Krab.Told).holds z then 1 else 0)).nums := rfl
    rw [cmpOk_bad] at ed
    refine ⟨_, rfl, _, rfl, wa, g, dx, hh.n, kd, _, _, va, vb, a, b, rfl, h1, wg.le _ _ hg, ha.mono wg.le, hb.mono wg.le, la, lb, fun H1 s1 => ⟨_, rfl, ?_⟩⟩
    refine ite2 (fun c0 => ?_) fun c0 => ?_
    · refine ⟨(by show 1 ≤ sizeLine; decide), fun p hp => done_same (l := [-22]) wg s1 hp ?_ k⟩
      rw [ed, if_pos c0]
      rfl
    · have e0 : cmpOk hh.n kd a b = true := by
        cases z : cmpOk hh.n kd a b with
        | true => rfl
        | false => rw [z] at c0; exact absurd rfl c0
      have tk := cmpOk_tok e0
      rw [if_neg c0] at ed
      refine ⟨_, rfl, wa, C, dx, _, _, rfl, s1 _ _ h1, T0.cl, T0.nFi, wf_fit _ _ _, _, rfl, G, .ref af, .ref g, _, ⟨a, b, kd⟩, hh.n, rfl, wg.le.trans s1, ⟨af, ws, rfl, hf, pf⟩, ⟨g, va, vb, rfl, .inl (s1 _ _ (wg.le _ _ hg)), ha.mono (wg.le.trans s1), hb.mono (wg.le.trans s1)⟩, tk, n4, fun x hx => fit_ok hx, fit_4096 n4 _, fun H2 p2 us2 s2 hp2 h2' pu => ?_⟩
      refine ⟨p2, _, rfl, .inl (SqL.of h2'), _, _, rfl, rfl, _, rfl, fun p hp => ?_⟩
      refine done_same (l := [if decide ((0 : Int) < (us2.length : Int)) = true then 1 else 0]) wg (s1.trans s2) hp ?_ k
      rw [ed, KM.any_filter, paired_len pu]
      have e9 : decide ((0 : Int) < (((Krab.fitBy hh.n hh.told).filter fun x => (⟨a, b, kd⟩ : Krab.Told).holds x).length : Int)) = decide (0 < ((Krab.fitBy hh.n hh.told).filter fun x => (⟨a, b, kd⟩ : Krab.Told).holds x).length) := decide_eq_decide.mpr (by omega)
      rw [e9]
      rfl
/-! ## more -/
theorem sc_more : FnScope ["weighing", "given", "least_lead", "numbers"] ["weighing", "given"] (defScope sMore) := ⟨rfl, rfl, rfl, by decide +kernel, rfl, by decide +kernel, by decide +kernel⟩
theorem atI_getD {x : List Nat} {i : Nat} (h : i < x.length) : (x.map nv)[i]? = some (nv (x.getD i 0)) := by
  rw [List.getElem?_map, List.getElem?_eq_getElem h, List.getD_eq_getElem?_getD, List.getElem?_eq_getElem h]
  rfl
theorem leads_take {f : List (List Nat)} {i j m : Nat} {x : List Nat} (h : f[m]? = some x) : ((f.map (KM.leadOf i j)).take (m + 1)) = ((f.map (KM.leadOf i j)).take m) ++ [KM.leadOf i j x] := take_snoc (by rw [List.getElem?_map, h]; rfl)
theorem ok_more {f C : Addr} {fd : FuncData} (F : Fun K "more" "more" sMore f fd) (T : Txt mg) (T0 : Cl0 K mg C) (TC : Cn mg) (D : Ds K mg) : FnOk P w K mg base CX0 2 f fd ["weighing", "given"] (spCmd C 12) := by
  obtain ⟨fo, fdo, FO, mO, bO⟩ := D.oneOrZero.ex
  have GO : FnOk P w K mg base CX0 1 fo fdo ["holds"] spOneOrZero := ok_oneOrZero FO
  refine F.ok sc_more sp_len (fun cdv A outer s H vs Q E hr h => ?_)
  obtain ⟨G, wa, t, gv, st, c, q, rfl, hk, co, gi, wg, hs, k⟩ := h
  obtain ⟨hh, rfl⟩ := hs.resolve_left (by decide)
  obtain ⟨ck, ca, crs⟩ := c
  obtain rfl : ck = 12 := hk
  obtain ⟨raw, fm⟩ := co.form
  have fm : KM.Form raw 12 ca crs q := fm
  obtain ⟨ts, es⟩ := TC.noneSuch
  obtain ⟨tm, em⟩ := TC.thereIsNone
  refine ⟨_, pss_cons (ps_if (pt_cmpR op_ge (pe_callB (cr_max rfl) (by rfl) TC.max boot_max (pa_cons (pv 1) pa_nil)) (pe_fld (pv 0) rfl) (nomark _)) (pss_one (ps_ret (pe_lst (pa_cons (pe_glob (v := .int (-2)) rfl es ⟨_, rfl⟩) pa_nil)))) pss_nil)
    (pss_cons (ps_if (pt_cmpR op_eq (pe_callB call_len_seq (by rfl) T.len PySem.boot_len (pa_cons (pe_fld (pv 0) rfl) pa_nil)) pe_int (nomark _)) (pss_one (ps_ret (pe_lst (pa_cons (pe_glob (v := .int (-33)) rfl em ⟨_, rfl⟩) pa_nil)))) pss_nil)
    (pss_cons (ps_set (i := 2) sc_more.nd rfl (Or.inl rfl) (pe_callB (cr_min rfl) (by rfl) TC.min boot_min (pa_cons (pe_lc (own := [("numbers", 3)]) rfl sc_more.nd (pi_list (pe_fld (pv 0) rfl))
      (blkOk_by (by show blkC ["weighing", "given", "least_lead", "numbers"] (defScope sMore) _ _ = true; decide +kernel)) (fun _ _ _ _ _ => pg_name (i := 3) sc_more.nd rfl (Or.inl rfl)) (fun _ _ _ _ _ => pts_nil)
      (fun _ _ _ _ _ => pe_op op_sub (pe_ix (ixLK K rfl) (pv 3) (pe_ix (ixLK K rfl) (pv 1) pe_int (fun _ _ => rfl)) (fun _ _ => rfl)) (pe_ix (ixLK K rfl) (pv 3) (pe_ix (ixLK K rfl) (pv 1) pe_int (fun _ _ => rfl)) (fun _ _ => rfl)))) pa_nil)))
    (pss_cons (ps_if (pt_cmpR op_gt (pv 2) pe_int (nomark _)) (pss_one (ps_ret (pe_lst (pa_cons pe_int pa_nil)))) pss_nil)
    (pss_one (ps_ret (pe_call GO hr rfl mO FO.kp bO .nil pass0 (pa_cons (pe_cmpR op_eq (pv 2) pe_int (nomark _)) pa_nil))))))), ?_⟩
  obtain ⟨i, j, rfl, rfl, rfl⟩ := KM.form_inv fm
  focus
    obtain ⟨g, rfl, hg⟩ := given_five gi
    have hgH : H g = some (.lst [nv i, nv j]) := wg.le _ _ hg
    obtain ⟨dx, n, ff, us, h1, h2, rfl, n1, n4, t6, tok, pc, af, ws, rfl, hf, pf⟩ := wg.obj
    have hfH := wg.le _ _ hf
    have hlen := paired_len pf
    have ed : KM.due (some hh) (.more i j) = nums (if (decide (hh.n ≤ i) || decide (hh.n ≤ j)) = true then Krab.say (-2) else (match Krab.fitBy hh.n hh.told with
      | [] => Krab.say (-33)
      | _ :: _ => Krab.say (if (Krab.fitBy hh.n hh.told).all fun x => decide (x.getD j 0 < x.getD i 0) then 2 else if (Krab.fitBy hh.n hh.told).all fun x => decide (x.getD j 0 ≤ x.getD i 0) then 1 else 0))) := rfl
    have e2 : H g = some (.lst ((KM.zints [i, j]).map V.int)) := hgH
    refine ⟨_, rfl, g, KM.zints [i, j], rfl, SqL.of e2, (by show 0 < 2; decide), fun m hm hmax => ⟨_, rfl, wa, C, dx, _, _, rfl, h1, T0.cl, T0.nTh, wf_things _ _ _, _, _, rfl, rfl, _, rfl, ?_⟩⟩
    have mi : (i : Int) ≤ m := hmax i (List.mem_map.mpr ⟨i, by simp, rfl⟩)
    have mj : (j : Int) ≤ m := hmax j (List.mem_map.mpr ⟨j, by simp, rfl⟩)
    obtain ⟨z, hz, ez⟩ := List.mem_map.mp hm
    have hz' : z = i ∨ z = j := by simpa using hz
    have ez' : (z : Int) = m := ez
    refine ite2 (fun c0 => ?_) fun c0 => ?_
    · have hge : (hh.n : Int) ≤ m := of_decide_eq_true c0
      have cc : (decide (hh.n ≤ i) || decide (hh.n ≤ j)) = true := by
        simp only [Bool.or_eq_true, decide_eq_true_eq]
        rcases hz' with rfl | rfl <;> omega
      rw [if_pos cc] at ed
      exact ⟨(by show 1 ≤ sizeLine; decide), fun p hp => done_same (l := [-2]) wg (Same.refl _) hp ed.symm k⟩
    · have hlt : ¬ (hh.n : Int) ≤ m := fun z => c0 (decide_eq_true z)
      have cc : ¬ (decide (hh.n ≤ i) || decide (hh.n ≤ j)) = true := by
        simp only [Bool.or_eq_true, decide_eq_true_eq]
        omega
      rw [if_neg cc] at ed
      have hin : i < hh.n := by omega
      have hjn : j < hh.n := by omega
      refine ⟨_, rfl, wa, C, dx, _, _, rfl, h1, T0.cl, T0.nFi, wf_fit _ _ _, af, _, rfl, .inl (SqL.of hfH), rfl, _, rfl, ?_⟩
      rw [hlen]
      refine ite2 (fun c1 => ?_) fun c1 => ?_
      · have e1 : Krab.fitBy hh.n hh.told = [] := List.eq_nil_of_length_eq_zero (by have := V.int.inj (of_decide_eq_true c1); omega)
        rw [e1] at ed
        exact ⟨(by show 1 ≤ sizeLine; decide), fun p hp => done_same (l := [-33]) wg (Same.refl _) hp ed.symm k⟩
      · have hne : ∃ y r, Krab.fitBy hh.n hh.told = y :: r := by
          cases z : Krab.fitBy hh.n hh.told with
          | nil => rw [z] at c1; exact absurd rfl c1
          | cons y r => exact ⟨y, r, rfl⟩
        have h4 := fit_4096 n4 hh.told
        refine ⟨_, rfl, wa, C, dx, _, _, rfl, h1, T0.cl, T0.nFi, wf_fit _ _ _, af, rfl, ⟨_, SqL.of hfH⟩, fun D hD => lc_list (xs := ws) (fun m H' => Same H H' ∧ H' D = some (.lst ((((Krab.fitBy hh.n hh.told).map (KM.leadOf i j)).take m).map V.int))) ⟨same_upd hD, upd_same⟩ (fun m H' _ z => SqL.of (z.1 _ _ hfH)) ?_ ?_⟩
        · rintro m v H' hv ⟨sm, hd⟩
          obtain ⟨x, hx, px, rfl, hpx⟩ := paired_left pf hv
          have nok := fit_ok (List.mem_of_getElem? hx)
          have hpH := sm _ _ (wg.le _ _ hpx)
          have hm4 : m < (Krab.fitBy hh.n hh.told).length := (List.getElem?_eq_some_iff.mp hx).1
          refine ⟨rfl, ?_⟩
          refine iteT (B := True) ⟨_, rfl, _, rfl, g, _, _, _, rfl, rfl, SqL.of (sm _ _ hgH), atI_nat (j := 0) rfl, px, _, _, _, rfl, rfl, SqL.of hpH, atI_nat (atI_getD (by rw [nok.1]; exact hin)), _, rfl, _, rfl, g, _, _, _, rfl, rfl, SqL.of (sm _ _ hgH), atI_nat (j := 1) rfl, px, _, _, _, rfl, rfl, SqL.of hpH, atI_nat (atI_getD (by rw [nok.1]; exact hjn)), _, _, rfl, rfl, _, hd, ?_, same_off sm hD, ?_⟩
          · rw [List.length_map, List.length_take, List.length_map]
            exact small4096 (by omega)
          · rw [upd_same, leads_take hx, List.map_append]
            rfl
        · rintro H' ⟨sm, hd⟩
          rw [hlen, ← List.length_map (f := KM.leadOf i j), List.take_length] at hd
          refine ⟨D, (Krab.fitBy hh.n hh.told).map (KM.leadOf i j), rfl, SqL.of hd, ?_, fun l hl1 hl2 => ⟨_, rfl, _, _, rfl, rfl, _, rfl, ?_⟩⟩
          · obtain ⟨y, r, e⟩ := hne
            rw [e, List.length_map, List.length_cons]
            omega
          have em := KM.more_eq hl1 hl2
          have ed2 : KM.due (some hh) (.more i j) = [if 0 < l then 2 else if l = 0 then 1 else 0] := by
            rw [ed, ← em]
            obtain ⟨y, r, e⟩ := hne
            rw [e]
            rfl
          refine ite2 (fun c2 => ?_) fun c2 => ?_
          · have l0 : 0 < l := of_decide_eq_true c2
            rw [if_pos l0] at ed2
            exact ⟨(by show 1 ≤ sizeLine; decide), fun p hp => done_same (l := [2]) wg sm hp ed2.symm k⟩
          · have l0 : ¬ 0 < l := fun z => c2 (decide_eq_true z)
            rw [if_neg l0] at ed2
            refine ⟨_, rfl, rfl, _, rfl, fun p hp => ?_⟩
            refine done_same (l := [if decide (V.int l = V.int 0) = true then 1 else 0]) wg sm hp ?_ k
            rw [ed2]
            have e9 : decide (V.int l = V.int 0) = decide (l = 0) := decide_eq_decide.mpr ⟨fun z => V.int.inj z, fun z => by rw [z]⟩
            rw [e9]
            by_cases c : l = 0
            · rw [if_pos c, if_pos (decide_eq_true c)]
            · rw [if_neg c, if_neg (by rw [decide_eq_false c]; decide)]
/-! ## look, state -/
theorem sc_look : FnScope ["weighing", "given", "comparison"] ["weighing", "given"] (defScope sLook) := ⟨rfl, rfl, rfl, by decide +kernel, rfl, by decide +kernel, by decide +kernel⟩
theorem ok_look {f C : Addr} {fd : FuncData} (F : Fun K "look" "look" sLook f fd) (T : Txt mg) (T0 : Cl0 K mg C) (TC : Cn mg) : FnOk P w K mg base CX0 1 f fd ["weighing", "given"] (spCmd C 20) := by
  refine F.ok sc_look sp_len (fun cdv A outer s H vs Q E hr h => ?_)
  obtain ⟨G, wa, t, gv, st, c, q, rfl, hk, co, gi, wg, hs, k⟩ := h
  obtain ⟨hh, rfl⟩ := hs.resolve_left (by decide)
  obtain ⟨ck, ca, crs⟩ := c
  obtain rfl : ck = 20 := hk
  obtain ⟨raw, fm⟩ := co.form
  have fm : KM.Form raw 20 ca crs q := fm
  obtain ⟨ts, es⟩ := TC.noneSuch
  refine ⟨_, pss_cons (ps_if (pt_cmpR op_ge (pe_ix ix_list (pv 1) pe_int (fun _ _ => rfl)) (pe_callB call_len_seq (by rfl) T.len PySem.boot_len (pa_cons (pe_fld (pv 0) rfl) pa_nil)) (nomark _)) (pss_one (ps_ret (pe_lst (pa_cons (pe_glob (v := .int (-2)) rfl es ⟨_, rfl⟩) pa_nil)))) pss_nil)
    (pss_cons (ps_set (i := 2) sc_look.nd rfl (Or.inl rfl) (pe_ix ix_list (pe_fld (pv 0) rfl) (pe_ix ix_list (pv 1) pe_int (fun _ _ => rfl)) (fun _ _ => rfl)))
    (pss_one (ps_ret (pe_op op_cat (pe_op op_cat (pe_lst (pa_cons (pe_ix (ixSK K rfl) (pv 2) pe_int (fun _ _ => rfl)) pa_nil)) (pe_ix (ixSK K rfl) (pv 2) pe_int (fun _ _ => rfl))) (pe_ix (ixSK K rfl) (pv 2) pe_int (fun _ _ => rfl)))))), ?_⟩
  obtain ⟨m, rfl, rfl, rfl⟩ := KM.form_inv fm
  focus
    obtain ⟨g, rfl, hg⟩ := given_num gi
    have hgH := wg.le _ _ hg
    obtain ⟨dx, n, ff, us, h1, h2, rfl, n1, n4, t6, tok, pc, af, ws, rfl, hf, pf⟩ := wg.obj
    have hlen := paired_len pc
    have ed : KM.due (some hh) (.look m) = nums (match hh.told[m]? with
      | none => Krab.say (-2)
      | some x => ({ num := x.kind, nums := Krab.ints (x.a ++ x.b) } : Krab.Ans)) := rfl
    refine ⟨_, rfl, g, _, _, _, rfl, rfl, SqL.of hgH, atI_nat (j := 0) rfl, _, rfl, wa, C, dx, _, _, rfl, h1, T0.cl, T0.nTo, wf_told _ _ _, t, _, rfl, .inl (SqL.of h2), _, _, rfl, rfl, _, rfl, ?_⟩
    refine ite2 (fun c0 => ?_) fun c0 => ?_
    · have hge : us.length ≤ m := by
        have := of_decide_eq_true c0
        omega
      have e0 : hh.told[m]? = none := List.getElem?_eq_none_iff.mpr (by omega)
      rw [e0] at ed
      exact ⟨(by show 1 ≤ sizeLine; decide), fun p hp => done_same (l := [-2]) wg (Same.refl _) hp ed.symm k⟩
    · have hlt : m < us.length := by
        rcases Nat.lt_or_ge m us.length with z | z
        · exact z
        · exact absurd (decide_eq_true (by omega)) c0
      obtain ⟨x, hx⟩ : ∃ x, hh.told[m]? = some x := ⟨_, List.getElem?_eq_getElem (by omega)⟩
      obtain ⟨v, hv, cc, va, vb, rfl, hc, ⟨pa, rfl, hpa⟩, ⟨pb, rfl, hpb⟩⟩ := paired_right pc hx
      have tk := tok x (List.mem_of_getElem? hx)
      have hcH : H cc = some (.lst [nv x.kind, .ref pa, .ref pb]) ∨ H cc = some (.tup [nv x.kind, .ref pa, .ref pb]) := hc.elim (fun z => .inl (wg.le _ _ z)) fun z => .inr (wg.le _ _ z)
      have up : ∀ {H2 : Hp}, Same H H2 → (H2 cc = some (.lst [nv x.kind, .ref pa, .ref pb]) ∨ H2 cc = some (.tup [nv x.kind, .ref pa, .ref pb])) := fun sm => hcH.elim (fun z => .inl (sm _ _ z)) fun z => .inr (sm _ _ z)
      refine ⟨_, rfl, wa, C, dx, _, _, rfl, h1, T0.cl, T0.nTo, wf_told _ _ _, _, rfl, g, _, _, _, rfl, rfl, SqL.of hgH, atI_nat (j := 0) rfl, t, _, _, _, rfl, rfl, SqL.of h2, atI_nat hv, _, rfl, ix_cmp (i := 0) hcH rfl ⟨(by show 1 ≤ sizeLine; decide), fun e he => ⟨_, rfl, ix_cmp (i := 1) (up (same_upd he)) rfl ?_⟩⟩⟩
      have s1 := same_upd (o := .lst [nv x.kind]) he
      refine ⟨e, pa, _, _, rfl, rfl, upd_same, s1 _ _ (wg.le _ _ hpa), ?_, fun p1 hp1 => ⟨_, rfl, ix_cmp (i := 2) (up (s1.trans (same_upd hp1))) rfl ?_⟩⟩
      · rw [List.length_map, tk.la]
        exact Nat.le_of_lt (small1000 (by show 1 + hh.n ≤ 1000; omega))
      have s2 := s1.trans (same_upd (o := .lst ([nv x.kind] ++ x.a.map nv)) hp1)
      refine ⟨p1, pb, _, _, rfl, rfl, upd_same, s2 _ _ (wg.le _ _ hpb), ?_, fun p2 hp2 => ?_⟩
      · rw [List.length_append, List.length_map, List.length_map, tk.la, tk.lb]
        exact Nat.le_of_lt (small1000 (by show 1 + hh.n + hh.n ≤ 1000; omega))
      · have e1 : ([nv x.kind] ++ x.a.map nv ++ x.b.map nv) = ((x.kind : Int) :: KM.zints (x.a ++ x.b)).map V.int := by
          rw [List.map_cons, KR.ints_map, List.map_append, List.append_assoc]
          rfl
        rw [e1]
        refine done_same wg s2 hp2 ?_ k
        rw [ed, hx]
        rfl
theorem sc_state : FnScope ["weighing", "given"] ["weighing", "given"] (defScope sState) := ⟨rfl, rfl, rfl, by decide +kernel, rfl, by decide +kernel, by decide +kernel⟩
theorem ok_state {f C : Addr} {fd : FuncData} (F : Fun K "state" "state" sState f fd) (T : Txt mg) (T0 : Cl0 K mg C) : FnOk P w K mg base CX0 1 f fd ["weighing", "given"] (spCmd C 21) := by
  refine F.ok sc_state sp_len (fun cdv A outer s H vs Q E hr h => ?_)
  obtain ⟨G, wa, t, gv, st, c, q, rfl, hk, co, gi, wg, hs, k⟩ := h
  obtain ⟨hh, rfl⟩ := hs.resolve_left (by decide)
  obtain ⟨ck, ca, crs⟩ := c
  obtain rfl : ck = 21 := hk
  obtain ⟨raw, fm⟩ := co.form
  have fm : KM.Form raw 21 ca crs q := fm
  obtain ⟨dx, n, ff, us, h1, h2, rfl, n1, n4, t6, tok, pc, af, ws, rfl, hf, pf⟩ := wg.obj
  refine ⟨_, pss_one (ps_ret (pe_lst (pa_cons (pe_fld (pv 0) rfl) (pa_cons (pe_callB call_len_seq (by rfl) T.len PySem.boot_len (pa_cons (pe_fld (pv 0) rfl) pa_nil)) pa_nil)))), ?_⟩
  refine ⟨_, rfl, wa, C, dx, _, _, rfl, h1, T0.cl, T0.nTh, wf_things _ _ _, _, rfl, wa, C, dx, _, _, rfl, h1, T0.cl, T0.nTo, wf_told _ _ _, t, _, rfl, .inl (SqL.of h2), (by show 2 ≤ sizeLine; decide), fun p hp => ?_⟩
  obtain ⟨rfl, rfl, rfl⟩ := KM.form_inv fm
  refine done_same (l := [(hh.n : Int), (us.length : Int)]) wg (Same.refl _) hp ?_ k
  rw [paired_len pc]
  rfl
end
end KP

end
section
set_option Elab.async false
set_option linter.all false
set_option maxRecDepth 100000
set_option maxHeartbeats 4000000
namespace KP
open PySem PySem.Spec PyProof.Rows L2 KG KR
section
variable {P : Program} {w : World} {K : PySem.W.Frag} {mg : Str → Option Value} {base : Heap}
/-! ## is_how_often -/
def spIsHowOften : Sp := fun vs H Q _ => ∃ (v : V) (a : List Nat) (t : Addr) (us : List V), vs = [v, .ref t] ∧ Nums H v a ∧ a.length < 256 ∧ H t = some (.lst us) ∧ ∀ H', Same H H' → Q (.bl (a.length == us.length && a.all fun x => decide (x ≤ 3))) H'
theorem sc_isHowOften : FnScope ["given", "told", "times"] ["given", "told"] (defScope sIsHowOften) := ⟨rfl, rfl, rfl, by decide +kernel, rfl, by decide +kernel, by decide +kernel⟩
theorem ok_isHowOften {f : Addr} {fd : FuncData} (F : Fun K "is_how_often" "is_how_often" sIsHowOften f fd) (T : Txt mg) : FnOk P w K mg base CX0 1 f fd ["given", "told"] spIsHowOften := by
  refine F.ok sc_isHowOften (fun vs H Q E h => ?_) (fun cdv A outer s H vs Q E hr h => ?_)
  · obtain ⟨v, a, t, us, rfl, _⟩ := h
    rfl
  · obtain ⟨v, a, ta, us, rfl, ⟨p, rfl, hp⟩, hl, hta, q⟩ := h
    obtain ⟨t, e⟩ := T.mostTimes
    refine ⟨_, pss_one (ps_ret (pe_and (pe_cmpR op_eq (pe_callB call_len_seq (by rfl) T.len PySem.boot_len (pa_cons (pv 0) pa_nil)) (pe_callB call_len_seq (by rfl) T.len PySem.boot_len (pa_cons (pv 1) pa_nil)) (nomark _))
      (pe_one (pe_callB (cr_all rfl) (by rfl) T.all boot_all (pa_cons (pe_lc (own := [("times", 2)]) rfl sc_isHowOften.nd (pi_list (pv 0)) (blkOk_by (by show blkC ["given", "told", "times"] (defScope sIsHowOften) _ _ = true; decide +kernel))
        (fun _ _ _ _ _ => pg_name (i := 2) sc_isHowOften.nd rfl (Or.inl rfl)) (fun _ _ _ _ _ => pts_nil) (fun _ _ _ _ _ => pe_cmpR op_le (pv 2) (pe_glob (v := .int 3) rfl e ⟨_, rfl⟩) (nomark _))) pa_nil))))), ?_⟩
    refine ⟨_, rfl, p, _, rfl, .inl (SqL.of hp), _, rfl, ta, _, rfl, .inl (SqL.of hta), rfl, _, rfl, ?_⟩
    rw [List.length_map]
    refine ite2 (fun c => ?_) fun c => ?_
    · have el : a.length = us.length := by
        have := V.int.inj (of_decide_eq_true c)
        omega
      refine ⟨_, rfl, p, rfl, ⟨_, SqL.of hp⟩, fun D hD => lc_list (xs := a.map nv) (fun i H' => Same H H' ∧ H' D = some (.lst (((a.take i).map fun x => decide (x ≤ 3)).map V.bl))) ⟨same_upd hD, upd_same⟩ (fun i H' _ z => SqL.of (z.1 _ _ hp)) ?_ ?_⟩
      · rintro i x H' hx ⟨sm, hd⟩
        rw [List.getElem?_map] at hx
        obtain ⟨y, hy, rfl⟩ := Option.map_eq_some_iff.mp hx
        refine ⟨rfl, ?_⟩
        refine iteT (B := True) ⟨_, rfl, _, _, rfl, rfl, _, hd, ?_, same_off sm hD, ?_⟩
        · rw [List.length_map, List.length_map, List.length_take]
          exact small1000 (by omega)
        · rw [upd_same, take_snoc hy, List.map_append, List.map_append]
          have e2 : decide ((y : Int) ≤ 3) = decide (y ≤ 3) := decide_eq_decide.mpr (by omega)
          exact congrArg (fun z => some (HO.lst (((a.take i).map fun x => decide (x ≤ 3)).map V.bl ++ [V.bl z]))) e2
      · rintro H' ⟨sm, hd⟩
        rw [List.length_map, List.take_length] at hd
        refine ⟨D, _, rfl, SqL.of hd, ?_⟩
        have e3 : ((a.map fun x => decide (x ≤ 3)).all id) = (a.length == us.length && a.all fun x => decide (x ≤ 3)) := by
          rw [el, beq_self_eq_true, Bool.true_and, List.all_map]
          rfl
        rw [e3]
        exact q H' sm
    · have el : (a.length == us.length) = false := beq_eq_false_iff_ne.mpr fun z => c (decide_eq_true (by rw [z]))
      have r := q H (Same.refl H)
      rw [el, Bool.false_and] at r
      exact r
/-! ## comes_to -/
def spComesTo : Sp := fun vs H Q _ => ∃ (va vx : V) (a x : List Nat), vs = [va, vx] ∧ Nums H va a ∧ Nums H vx x ∧ a.length = x.length ∧ x.length ≤ 4 ∧ (∀ y ∈ x, y ≤ 8) ∧ ∀ H', Same H H' → Q (nv (Krab.sum a x)) H'
theorem sc_comesTo : FnScope ["side", "numbers", "often", "number"] ["side", "numbers"] (defScope sComesTo) := ⟨rfl, rfl, rfl, by decide +kernel, rfl, by decide +kernel, by decide +kernel⟩
theorem ok_comesTo {f : Addr} {fd : FuncData} (F : Fun K "comes_to" "comes_to" sComesTo f fd) (T : Txt mg) : FnOk P w K mg base CX0 1 f fd ["side", "numbers"] spComesTo := by
  refine F.ok sc_comesTo (fun vs H Q E h => ?_) (fun cdv A outer s H vs Q E hr h => ?_)
  · obtain ⟨va, vx, a, x, rfl, _⟩ := h
    rfl
  · obtain ⟨va, vx, a, x, rfl, ⟨pa, rfl, ha⟩, ⟨px, rfl, hx⟩, hl, h4, h8, q⟩ := h
    refine ⟨_, pss_one (ps_ret (pe_callB (cr_sum rfl) (by rfl) T.sum boot_sum (pa_cons (pe_lc (own := [("often", 2), ("number", 3)]) rfl sc_comesTo.nd
        (pi_zip (by rfl) T.zip (pa_cons (pv 0) (pa_cons (pv 1) pa_nil)))
        (blkOk_by (by show blkC ["side", "numbers", "often", "number"] (defScope sComesTo) _ _ = true; decide +kernel))
        (fun _ _ _ _ _ => pgtK (n := 2) K rfl rfl (pgs_cons (pg_name (i := 2) sc_comesTo.nd rfl (Or.inl rfl)) (pgs_cons (pg_name (i := 3) sc_comesTo.nd rfl (Or.inl rfl)) pgs_nil)))
        (fun _ _ _ _ _ => pts_nil) (fun _ _ _ _ _ => pe_op op_mul (pv 2) (pv 3))) pa_nil))), ?_⟩
    refine ⟨_, rfl, _, rfl, pa, px, _, _, rfl, SqL.of ha, SqL.of hx, fun D hD =>
      lc_zip (xs := a.map nv) (ys := x.map nv) (fun i H' => Same H H' ∧ H' D = some (.lst (((KM.prods a x).take i).map V.int))) ⟨same_upd hD, upd_same⟩ (by rw [List.length_map, List.length_map]; exact hl.symm)
        (fun i H' _ z => ⟨SqL.of (z.1 _ _ ha), SqL.of (z.1 _ _ hx)⟩) ?_ ?_⟩
    · rintro i p1 p2 H' U h1 h2 ⟨sm, hd⟩ hU
      rw [List.getElem?_map] at h1 h2
      obtain ⟨y1, g1, rfl⟩ := Option.map_eq_some_iff.mp h1
      obtain ⟨y2, g2, rfl⟩ := Option.map_eq_some_iff.mp h2
      have ii : i < x.length := (List.getElem?_eq_some_iff.mp g2).1
      have b8 : y2 ≤ 8 := h8 y2 (List.mem_of_getElem? g2)
      refine ⟨U, _, rfl, SqT.of upd_same, rfl, _, _, rfl, _, _, rfl, rfl, rfl, ?_⟩
      refine iteT (B := True) ⟨_, rfl, _, rfl, _, _, rfl, rfl, .inr ⟨by omega, by omega⟩, _, (upd_ne (ne_of_none hd hU)).trans hd, ?_, same_off (sm.trans (same_upd hU)) hD, ?_⟩
      · rw [List.length_map, List.length_take]
        exact small1000 (by omega)
      · rw [upd_same, take_snoc (KM.prods_at g1 g2), List.map_append]
        rfl
    · rintro H' ⟨sm, hd⟩
      rw [List.length_map, ← KM.prods_len a x hl, List.take_length] at hd
      refine ⟨D, _, rfl, SqL.of hd, ?_⟩
      rw [KM.prods_sum a x hl]
      exact q H' sm
/-! ## least_and_greatest -/
def spLG (C : Addr) : Sp := fun vs H Q _ => ∃ (F : Hp) (w t : Addr) (va : V) (a : List Nat) (h : Krab.House), vs = [.ref w, va] ∧ Wg C F H w t (some h) ∧ Nums H va a ∧ a.length = h.n ∧
  ∀ H' p, Same H H' → H' p = none → Q (.ref p) (upd H' p (.lst ((nums (Krab.firstLast ((Krab.fitBy h.n h.told).map fun z => Krab.sum a z))).map V.int)))
theorem sc_leastGreatest : FnScope ["weighing", "side", "found", "numbers"] ["weighing", "side"] (defScope sLeastGreatest) := ⟨rfl, rfl, rfl, by decide +kernel, rfl, by decide +kernel, by decide +kernel⟩
theorem ok_leastGreatest {f C : Addr} {fd : FuncData} (F : Fun K "least_and_greatest" "least_and_greatest" sLeastGreatest f fd) (T : Txt mg) (T0 : Cl0 K mg C) (TC : Cn mg) (D : Ds K mg) : FnOk P w K mg base CX0 2 f fd ["weighing", "side"] (spLG C) := by
  obtain ⟨fc, fdc, FC, mC, bC⟩ := D.comesTo.ex
  have GC : FnOk P w K mg base CX0 1 fc fdc ["side", "numbers"] spComesTo := ok_comesTo FC T
  refine F.ok sc_leastGreatest (fun vs H Q E h => ?_) (fun cdv A outer s H vs Q E hr h => ?_)
  · obtain ⟨F, w, t, va, a, h, rfl, _⟩ := h
    rfl
  · obtain ⟨G, wa, t, va, a, hh, rfl, wg, ha, hal, q⟩ := h
    obtain ⟨tm, em⟩ := TC.thereIsNone
    obtain ⟨dx, n, ff, us, h1, h2, rfl, n1, n4, t6, tok, pc, af, ws, rfl, hf, pf⟩ := wg.obj
    have hfH := wg.le _ _ hf
    have hlen := paired_len pf
    refine ⟨_, pss_cons (ps_if (pt_cmpR op_eq (pe_callB call_len_seq (by rfl) T.len PySem.boot_len (pa_cons (pe_fld (pv 0) rfl) pa_nil)) pe_int (nomark _)) (pss_one (ps_ret (pe_lst (pa_cons (pe_glob (v := .int (-33)) rfl em ⟨_, rfl⟩) pa_nil)))) pss_nil)
      (pss_cons (ps_setLc (i := 2) (own := [("numbers", 3)]) rfl sc_leastGreatest.nd rfl rfl (sw_true rfl rfl rfl rfl) (pi_list (pe_fld (pv 0) rfl))
        (blkOk_by (by show blkC ["weighing", "side", "found", "numbers"] (defScope sLeastGreatest) _ _ = true; decide +kernel)) (fun _ _ _ _ _ => pg_name (i := 3) sc_leastGreatest.nd rfl (Or.inl rfl)) (fun _ _ _ _ _ => pts_nil)
        (fun _ _ _ _ _ => pe_call GC hr rfl mC FC.kp bC .nil pass0 (pa_cons (pv 1) (pa_cons (pv 3) pa_nil))))
      (pss_one (ps_ret (pe_lst (pa_cons (pe_callB (cr_min rfl) (by rfl) TC.min boot_min (pa_cons (pv 2) pa_nil)) (pa_cons (pe_callB (cr_max rfl) (by rfl) TC.max boot_max (pa_cons (pv 2) pa_nil)) pa_nil)))))), ?_⟩
    refine ⟨_, rfl, wa, C, dx, _, _, rfl, h1, T0.cl, T0.nFi, wf_fit _ _ _, af, _, rfl, .inl (SqL.of hfH), rfl, _, rfl, ?_⟩
    rw [hlen]
    refine ite2 (fun c1 => ?_) fun c1 => ?_
    · have e1 : Krab.fitBy hh.n hh.told = [] := List.eq_nil_of_length_eq_zero (by have := V.int.inj (of_decide_eq_true c1); omega)
      refine ⟨(by show 1 ≤ sizeLine; decide), fun p hp => ?_⟩
      have r := q H p (Same.refl _) hp
      rw [e1] at r
      exact r
    · have hne : 0 < (Krab.fitBy hh.n hh.told).length := by
        rcases Nat.eq_zero_or_pos (Krab.fitBy hh.n hh.told).length with z | z
        · exact absurd (decide_eq_true (by rw [z]; rfl)) c1
        · exact z
      have h4 := fit_4096 n4 hh.told
      refine ⟨_, rfl, wa, C, dx, _, _, rfl, h1, T0.cl, T0.nFi, wf_fit _ _ _, af, rfl, ⟨_, SqL.of hfH⟩, fun D hD => lc_list (xs := ws) (fun m H' => Same H H' ∧ H' D = some (.lst ((((Krab.fitBy hh.n hh.told).map fun z => Krab.sum a z).take m).map nv))) ⟨same_upd hD, upd_same⟩ (fun m H' _ z => SqL.of (z.1 _ _ hfH)) ?_ ?_⟩
      · rintro m v H' hv ⟨sm, hd⟩
        obtain ⟨x, hx, hpx⟩ := paired_left pf hv
        have nok := fit_ok (List.mem_of_getElem? hx)
        have hm4 : m < (Krab.fitBy hh.n hh.told).length := (List.getElem?_eq_some_iff.mp hx).1
        refine ⟨rfl, ?_⟩
        refine iteT (B := True) ⟨_, rfl, _, rfl, va, v, a, x, rfl, ha.mono sm, hpx.mono (wg.le.trans sm), by rw [hal, nok.1], by rw [nok.1]; exact n4, nok.2, fun H2 s2 => ⟨_, s2 _ _ hd, ?_, same_off (sm.trans s2) hD, ?_⟩⟩
        · rw [List.length_map, List.length_take, List.length_map]
          exact small4096 (by omega)
        · have e9 : ((Krab.fitBy hh.n hh.told).map fun z => Krab.sum a z)[m]? = some (Krab.sum a x) := by rw [List.getElem?_map, hx]; rfl
          rw [upd_same, take_snoc e9, List.map_append]
          rfl
      · rintro H' ⟨sm, hd⟩
        have e5 : ws.length = ((Krab.fitBy hh.n hh.told).map fun z => Krab.sum a z).length := by rw [List.length_map]; exact hlen
        rw [e5, List.take_length, ← KR.ints_map] at hd
        have hpos : 0 < (KM.zints ((Krab.fitBy hh.n hh.told).map fun z => Krab.sum a z)).length := by
          rw [KM.ints_length, List.length_map]
          exact hne
        refine ⟨_, rfl, D, _, rfl, SqL.of hd, hpos, fun mn a1 a2 => ⟨_, rfl, D, _, rfl, SqL.of hd, hpos, fun mx b1 b2 => ⟨(by show 2 ≤ sizeLine; decide), fun p hp => ?_⟩⟩⟩
        have r := q H' p sm hp
        rw [KM.firstLast_int a1 b1 a2 b2] at r
        exact r
/-! ## range_of, sums -/
theorem sc_rangeOf : FnScope ["weighing", "given", "thing"] ["weighing", "given"] (defScope sRangeOf) := ⟨rfl, rfl, rfl, by decide +kernel, rfl, by decide +kernel, by decide +kernel⟩
theorem ok_rangeOf {f C : Addr} {fd : FuncData} (F : Fun K "range_of" "range_of" sRangeOf f fd) (T : Txt mg) (T0 : Cl0 K mg C) (TC : Cn mg) (D : Ds K mg) : FnOk P w K mg base CX0 3 f fd ["weighing", "given"] (spCmd C 13) := by
  obtain ⟨fl, fdl, FL, mL, bL⟩ := D.leastGreatest.ex
  obtain ⟨fs, fds, FS, mS, bS⟩ := D.sideOf.ex
  have GL : FnOk P w K mg base CX0 2 fl fdl ["weighing", "side"] (spLG C) := ok_leastGreatest FL T T0 TC D
  have GS : FnOk P w K mg base CX0 1 fs fds ["taken", "things"] spSideOf := ok_sideOf FS T
  refine F.ok sc_rangeOf sp_len (fun cdv A outer s H vs Q E hr h => ?_)
  obtain ⟨G, wa, t, gv, st, c, q, rfl, hk, co, gi, wg, hs, k⟩ := h
  obtain ⟨hh, rfl⟩ := hs.resolve_left (by decide)
  obtain ⟨ck, ca, crs⟩ := c
  obtain rfl : ck = 13 := hk
  obtain ⟨raw, fm⟩ := co.form
  have fm : KM.Form raw 13 ca crs q := fm
  have hr1 : Room 1 _ := hr.mono (by decide)
  obtain ⟨ts, es⟩ := TC.noneSuch
  refine ⟨_, pss_cons (ps_set (i := 2) sc_rangeOf.nd rfl (Or.inl rfl) (pe_ix ix_list (pv 1) pe_int (fun _ _ => rfl)))
    (pss_cons (ps_if (pt_cmpR op_ge (pv 2) (pe_fld (pv 0) rfl) (nomark _)) (pss_one (ps_ret (pe_lst (pa_cons (pe_glob (v := .int (-2)) rfl es ⟨_, rfl⟩) pa_nil)))) pss_nil)
    (pss_one (ps_ret (pe_call GL hr rfl mL FL.kp bL .nil pass0 (pa_cons (pv 0) (pa_cons (pe_call GS hr1 rfl mS FS.kp bS .nil pass0 (pa_cons (pe_lst (pa_cons (pv 2) pa_nil)) (pa_cons (pe_fld (pv 0) rfl) pa_nil))) pa_nil)))))), ?_⟩
  obtain ⟨i, rfl, rfl, rfl⟩ := KM.form_inv fm
  focus
    obtain ⟨g, rfl, hg⟩ := given_num gi
    have hgH := wg.le _ _ hg
    obtain ⟨dx, n, ff, us, h1, h2, rfl, n1, n4, t6, tok, pc, af, ws, rfl, hf, pf⟩ := id wg.obj
    have ed : KM.due (some hh) (.range_ i) = nums (if decide (hh.n ≤ i) = true then Krab.say (-2) else Krab.firstLast ((Krab.fitBy hh.n hh.told).map fun x => x.getD i 0)) := rfl
    refine ⟨_, rfl, g, _, _, _, rfl, rfl, SqL.of hgH, atI_nat (j := 0) rfl, _, rfl, _, rfl, wa, C, dx, _, _, rfl, h1, T0.cl, T0.nTh, wf_things _ _ _, _, _, rfl, rfl, _, rfl, ?_⟩
    refine ite2 (fun c0 => ?_) fun c0 => ?_
    · have cc : decide (hh.n ≤ i) = true := decide_eq_true (by have := of_decide_eq_true c0; omega)
      rw [if_pos cc] at ed
      exact ⟨(by show 1 ≤ sizeLine; decide), fun p hp => done_same (l := [-2]) wg (Same.refl _) hp ed.symm k⟩
    · have hlt : ¬ hh.n ≤ i := fun z => c0 (decide_eq_true (by omega))
      rw [if_neg (by rw [decide_eq_false hlt]; decide)] at ed
      refine ⟨_, rfl, _, rfl, (by show 1 ≤ sizeLine; decide), fun l hl => ⟨_, rfl, wa, C, dx, _, _, rfl, same_upd hl _ _ h1, T0.cl, T0.nTh, wf_things _ _ _, .ref l, [i], hh.n, rfl, ⟨l, rfl, upd_same⟩, n4, fun H1 p1 s1 hp1 h1p => ?_⟩⟩
      have sm := (same_upd (o := .lst [nv i]) hl).trans s1
      refine ⟨G, wa, t, .ref p1, Krab.unit hh.n [i], hh, rfl, (Post.same wg sm).wg, ⟨p1, rfl, h1p⟩, KM.unit_len _ _, fun H2 p s2 hp => ?_⟩
      have e9 : ((Krab.fitBy hh.n hh.told).map fun z => Krab.sum (Krab.unit hh.n [i]) z) = (Krab.fitBy hh.n hh.told).map fun x => x.getD i 0 := List.map_congr_left fun x hx => KM.sum_unit (KM.fit_len hx)
      rw [e9]
      exact done_same wg (sm.trans s2) hp ed.symm k
theorem side_iff {h : Krab.House} {a : List Nat} : (a.length == h.n && a.all fun x => decide (x ≤ 3)) = h.side a := rfl
theorem sc_sums : FnScope ["weighing", "given"] ["weighing", "given"] (defScope sSums) := ⟨rfl, rfl, rfl, by decide +kernel, rfl, by decide +kernel, by decide +kernel⟩
theorem ok_sums {f C : Addr} {fd : FuncData} (F : Fun K "sums" "sums" sSums f fd) (T : Txt mg) (T0 : Cl0 K mg C) (TC : Cn mg) (D : Ds K mg) : FnOk P w K mg base CX0 3 f fd ["weighing", "given"] (spCmd C 14) := by
  obtain ⟨fl, fdl, FL, mL, bL⟩ := D.leastGreatest.ex
  obtain ⟨fi, fdi, FI, mI, bI⟩ := D.isSide.ex
  have GL : FnOk P w K mg base CX0 2 fl fdl ["weighing", "side"] (spLG C) := ok_leastGreatest FL T T0 TC D
  have GI : FnOk P w K mg base CX0 1 fi fdi ["given", "things"] spIsSide := ok_isSide FI T
  refine F.ok sc_sums sp_len (fun cdv A outer s H vs Q E hr h => ?_)
  obtain ⟨G, wa, t, gv, st, c, q, rfl, hk, co, gi, wg, hs, k⟩ := h
  obtain ⟨hh, rfl⟩ := hs.resolve_left (by decide)
  obtain ⟨ck, ca, crs⟩ := c
  obtain rfl : ck = 14 := hk
  obtain ⟨raw, fm⟩ := co.form
  have fm : KM.Form raw 14 ca crs q := fm
  have hr1 : Room 1 _ := hr.mono (by decide)
  obtain ⟨tn, en⟩ := TC.notRight
  refine ⟨_, pss_cons (ps_if (pt_not (pt_val (pe_call GI hr1 rfl mI FI.kp bI .nil pass0 (pa_cons (pe_ix ix_list (pv 1) pe_int (fun _ _ => rfl)) (pa_cons (pe_fld (pv 0) rfl) pa_nil))))) (pss_one (ps_ret (pe_lst (pa_cons (pe_glob (v := .int (-22)) rfl en ⟨_, rfl⟩) pa_nil)))) pss_nil)
    (pss_one (ps_ret (pe_call GL hr rfl mL FL.kp bL .nil pass0 (pa_cons (pv 0) (pa_cons (pe_ix ix_list (pv 1) pe_int (fun _ _ => rfl)) pa_nil))))), ?_⟩
  obtain ⟨x, rfl, rfl, rfl⟩ := KM.form_inv fm
  focus
    obtain ⟨g, vx, rfl, hg, hx⟩ := given_row gi
    have hsm : x.length < 256 := co.small x (List.mem_singleton.mpr rfl)
    obtain ⟨dx, n, ff, us, h1, h2, rfl, n1, n4, t6, tok, pc, af, ws, rfl, hf, pf⟩ := id wg.obj
    have ed : KM.due (some hh) (.sums x) = nums (if hh.side x = false then Krab.say (-22) else Krab.firstLast ((Krab.fitBy hh.n hh.told).map fun z => Krab.sum x z)) := rfl
    refine ⟨_, rfl, g, _, _, _, rfl, rfl, SqL.of (wg.le _ _ hg), atI_nat (j := 0) rfl, _, rfl, wa, C, dx, _, _, rfl, h1, T0.cl, T0.nTh, wf_things _ _ _, vx, x, hh.n, rfl, hx.mono wg.le, hsm, fun H1 s1 => ⟨_, rfl, ?_⟩⟩
    rw [side_iff]
    refine ite2 (fun c0 => ?_) fun c0 => ?_
    · have e0 : hh.side x = false := by
        cases z : hh.side x with
        | false => rfl
        | true => rw [z] at c0; cases c0
      rw [if_pos e0] at ed
      exact ⟨(by show 1 ≤ sizeLine; decide), fun p hp => done_same (l := [-22]) wg s1 hp ed.symm k⟩
    · have e0 : hh.side x = true := by
        cases z : hh.side x with
        | true => rfl
        | false => rw [z] at c0; exact absurd rfl c0
      rw [if_neg (by rw [e0]; decide)] at ed
      have el : x.length = hh.n := by
        rw [← side_iff, Bool.and_eq_true] at e0
        exact eq_of_beq e0.1
      refine ⟨_, rfl, _, rfl, g, _, _, _, rfl, rfl, SqL.of (s1 _ _ (wg.le _ _ hg)), atI_nat (j := 0) rfl, G, wa, t, vx, x, hh, rfl, (Post.same wg s1).wg, hx.mono (wg.le.trans s1), el, fun H2 p s2 hp => ?_⟩
      exact done_same wg (s1.trans s2) hp ed.symm k
end
end KP

end
section
set_option Elab.async false
set_option linter.all false
set_option maxRecDepth 100000
set_option maxHeartbeats 4000000
namespace KP
open PySem PySem.Spec PyProof.Rows L2 KG KR
/-- of what is told, what x agrees with -/
def agB (ts : List Krab.Told) (x : List Nat) (i : Nat) : Bool := (ts.getD i ⟨[], [], 2⟩).holds x
theorem putK_keys {kvs : List (Key × V)} {ns : List Int} (e : kvs.map (·.1) = ns.map Sum.inl) (z : Int) (v : V) : ∃ ns' : List Int, (putK kvs (.inl z) v).map (·.1) = ns'.map Sum.inl ∧ (∀ y, y ∈ ns' ↔ y ∈ ns ∨ y = z) ∧ ns'.length ≤ ns.length + 1 := by
  unfold putK
  split
  · rename_i h
    refine ⟨ns, ?_, fun y => ⟨.inl, fun h' => h'.elim id fun e2 => ?_⟩, Nat.le_succ _⟩
    · rw [← e, List.map_map]
      refine List.map_congr_left fun kv _ => ?_
      show (if kv.1 = Sum.inl z then (kv.1, v) else kv).1 = kv.1
      by_cases c : kv.1 = Sum.inl z
      · rw [if_pos c]
      · rw [if_neg c]
    · obtain ⟨kv, h1, h2⟩ := List.any_eq_true.mp h
      have h3 : kv.1 ∈ ns.map Sum.inl := by rw [← e]; exact List.mem_map.mpr ⟨kv, h1, rfl⟩
      rw [of_decide_eq_true h2] at h3
      obtain ⟨u, hu, eu⟩ := List.mem_map.mp h3
      rw [e2, ← Sum.inl.inj eu]
      exact hu
  · refine ⟨ns ++ [z], ?_, fun y => ?_, ?_⟩
    · rw [List.map_append, List.map_append, e]
      rfl
    · rw [List.mem_append, List.mem_singleton]
    · rw [List.length_append]
      exact Nat.le_refl _
theorem nats_ints {ns : List Int} (h : ∀ z ∈ ns, ∃ n : Nat, z = (n : Int)) : ns = KM.zints (ns.map Int.toNat) := by
  unfold KM.zints
  rw [List.map_map]
  refine (List.map_id ns).symm.trans (List.map_congr_left fun z hz => ?_)
  obtain ⟨n, rfl⟩ := h z hz
  rfl
theorem and_int (a b : Nat) : decide (V.int (Builtin.bitAnd (a : Int) (b : Int)) = V.int (b : Int)) = (a &&& b == b) := by
  rw [bitAnd_pp (by omega) (by omega), Int.toNat_natCast, Int.toNat_natCast]
  show _ = decide (a &&& b = b)
  exact decide_eq_decide.mpr ⟨fun z => by have := V.int.inj z; omega, fun z => by rw [z]⟩
theorem bit_int (a t : Nat) : (!decide (V.int (Builtin.bitAnd (a : Int) (1 * 2 ^ ((t : Nat) : Int).toNat)) = V.int 0)) = a.testBit t := by
  have e1 : (1 : Int) * 2 ^ ((t : Nat) : Int).toNat = ((2 ^ t : Nat) : Int) := by
    rw [Int.one_mul, Int.toNat_natCast, Int.natCast_pow]
    rfl
  rw [e1, bitAnd_pp (Int.natCast_nonneg _) (Int.natCast_nonneg _), Int.toNat_natCast, Int.toNat_natCast]
  cases c : a.testBit t with
  | false =>
    rw [KM.and_pow.mpr c]
    rfl
  | true =>
    rw [decide_eq_false fun z => ?_]
    · rfl
    · have h0 : a &&& 2 ^ t = 0 := by have := V.int.inj z; omega
      rw [KM.and_pow.mp h0] at c
      cases c
theorem shl_int (t : Nat) : (1 : Int) * 2 ^ ((t : Nat) : Int).toNat = ((2 ^ t : Nat) : Int) := by
  rw [Int.one_mul, Int.toNat_natCast, Int.natCast_pow]
  rfl
section
variable {P : Program} {w : World} {K : PySem.W.Frag} {mg : Str → Option Value} {base : Heap}
/-! ## agreed_set -/
def spAgreedSet : Sp := fun vs H Q _ => ∃ (F : Hp) (vx : V) (x : List Nat) (n : Nat) (a : Addr) (us : List V) (ts : List Krab.Told), vs = [vx, .ref a] ∧ Same F H ∧ Nums H vx x ∧ NumOk n x ∧ n ≤ 4 ∧ TellsAt F H a us ts ∧ (∀ t ∈ ts, KM.TOk n t) ∧ ts.length ≤ 6 ∧
  ∀ H', Same H H' → Q (nv (KM.bitsOf (agB ts x) ts.length)) H'
theorem sc_agreedSet : FnScope ["numbers", "told", "t", "comparison"] ["numbers", "told"] (defScope sAgreedSet) := ⟨rfl, rfl, rfl, by decide +kernel, rfl, by decide +kernel, by decide +kernel⟩
theorem ok_agreedSet {f : Addr} {fd : FuncData} (F : Fun K "agreed_set" "agreed_set" sAgreedSet f fd) (T : Txt mg) (D : Ds K mg) : FnOk P w K mg base CX0 2 f fd ["numbers", "told"] spAgreedSet := by
  obtain ⟨fa, fda, FA, mA, bA⟩ := D.agrees.ex
  have GA : FnOk P w K mg base CX0 1 fa fda ["numbers", "comparison"] spAgrees := ok_agrees FA T
  refine F.ok sc_agreedSet (fun vs H Q E h => ?_) (fun cdv A outer s H vs Q E hr h => ?_)
  · obtain ⟨F, vx, x, n, a, us, ts, rfl, _⟩ := h
    rfl
  · obtain ⟨G, vx, x, n, a, us, ts, rfl, sG, hx, nok, n4, ⟨ha, pc⟩, tok, t6, q⟩ := h
    refine ⟨_, pss_one (ps_ret (pe_callB (cr_sum rfl) (by rfl) T.sum boot_sum (pa_cons (pe_lc (own := [("t", 2), ("comparison", 3)]) rfl sc_agreedSet.nd (pi_enum (by rfl) T.enumerate (pa_cons (pv 1) pa_nil)) (blkOk_by (by show blkC ["numbers", "told", "t", "comparison"] (defScope sAgreedSet) _ _ = true; decide +kernel))
      (fun _ _ _ _ _ => pgtK (n := 2) K rfl rfl (pgs_cons (pg_name (i := 2) sc_agreedSet.nd rfl (Or.inl rfl)) (pgs_cons (pg_name (i := 3) sc_agreedSet.nd rfl (Or.inl rfl)) pgs_nil)))
      (fun _ _ _ _ _ => pts_one (pt_val (pe_call GA hr rfl mA FA.kp bA .nil pass0 (pa_cons (pv 0) (pa_cons (pv 3) pa_nil))))) (fun _ _ _ _ _ => pe_op op_shl pe_int (pv 2))) pa_nil))), ?_⟩
    refine ⟨_, rfl, a, us, rfl, SqL.of ha, fun D hD => lc_enum (xs := us) (fun i H' => Same H H' ∧ H' D = some (.lst ((KM.pows (agB ts x) i).map V.int))) ⟨same_upd hD, upd_same⟩ (fun i H' _ z => SqL.of (z.1 _ _ ha)) ?_ ?_⟩
    · rintro i v H' U hv ⟨sm, hd⟩ hU
      obtain ⟨tt, ht, hc⟩ := paired_left pc hv
      have hi6 : i < 6 := by
        have := (List.getElem?_eq_some_iff.mp ht).1
        omega
      have sm2 : Same H (upd H' U (.tup [.int (i : Nat), v])) := sm.trans (same_upd hU)
      refine ⟨U, _, rfl, SqT.of upd_same, rfl, _, _, rfl, _, _, rfl, rfl, rfl, _, rfl, _, rfl, vx, v, x, tt, n, rfl, hx.mono sm2, hc.mono (sG.trans sm2), tok tt (List.mem_of_getElem? ht), nok.1, n4, nok.2, fun H2 s2 => ⟨_, rfl, ?_⟩⟩
      have hd2 := s2 _ _ (same_upd (o := .tup [.int (i : Nat), v]) hU _ _ hd)
      have eg : agB ts x i = tt.holds x := by
        unfold agB
        rw [getD_of ht]
      have hlen : ((KM.pows (agB ts x) i).map V.int).length < sizeLine := by
        unfold KM.pows
        rw [List.length_map, List.length_map]
        refine small1000 (Nat.le_trans (List.length_filter_le _ _) ?_)
        rw [List.length_range]
        omega
      refine ite2 (fun c => ?_) fun c => ?_
      · refine ⟨_, rfl, _, _, rfl, rfl, ⟨by omega, by omega, by decide⟩, _, hd2, hlen, same_off (sm2.trans s2) hD, ?_⟩
        rw [upd_same]
        unfold KM.pows
        rw [List.range_succ, List.filter_append, List.map_append, List.map_append, List.filter_cons, if_pos (by rw [eg]; exact c)]
        show some (HO.lst (_ ++ [V.int ((1 : Int) * 2 ^ ((i : Nat) : Int).toNat)])) = _
        rw [shl_int, Int.natCast_pow]
        rfl
      · refine ⟨sm2.trans s2, ?_⟩
        unfold KM.pows
        rw [List.range_succ, List.filter_append, List.filter_cons, if_neg (by rw [eg]; exact c), List.filter_nil, List.append_nil]
        exact hd2
    · rintro H' ⟨sm, hd⟩
      rw [paired_len pc] at hd
      refine ⟨D, _, rfl, SqL.of hd, ?_⟩
      rw [KM.pows_sum]
      exact q H' sm
/-! ## agreed_sets -/
def spAgreedSets : Sp := fun vs H Q _ => ∃ (F : Hp) (n : Nat) (a : Addr) (us : List V) (ts : List Krab.Told), vs = [nv n, .ref a] ∧ Same F H ∧ n ≤ 4 ∧ TellsAt F H a us ts ∧ (∀ t ∈ ts, KM.TOk n t) ∧ ts.length ≤ 6 ∧
  ∀ H' p g, Same H H' → H p = none → H' p = some (.lst (g.map nv)) → KM.Sets ⟨n, ts⟩ g → g.length ≤ 4096 → Q (.ref p) H'
theorem sc_agreedSets : FnScope ["things", "told", "found", "numbers"] ["things", "told"] (defScope sAgreedSets) := ⟨rfl, rfl, rfl, by decide +kernel, rfl, by decide +kernel, by decide +kernel⟩
theorem ok_agreedSets {f : Addr} {fd : FuncData} (F : Fun K "agreed_sets" "agreed_sets" sAgreedSets f fd) (T : Txt mg) (D : Ds K mg) : FnOk P w K mg base CX0 3 f fd ["things", "told"] spAgreedSets := by
  obtain ⟨fs, fds, FS, mS, bS⟩ := D.agreedSet.ex
  obtain ⟨fn, fdn, FN, mN, bN⟩ := D.allNumbers.ex
  have GS : FnOk P w K mg base CX0 2 fs fds ["numbers", "told"] spAgreedSet := ok_agreedSet FS T D
  have GN : FnOk P w K mg base CX0 2 fn fdn ["things"] spAllNumbers := ok_allNumbers FN T D.allLists
  refine F.ok sc_agreedSets (fun vs H Q E h => ?_) (fun cdv A outer s H vs Q E hr h => ?_)
  · obtain ⟨F, n, a, us, ts, rfl, _⟩ := h
    rfl
  · obtain ⟨G, n, a, us, ts, rfl, sG, n4, ⟨ha, pc⟩, tok, t6, q⟩ := h
    have hu := hr.units
    refine ⟨_, pss_cons (ps_set (i := 2) sc_agreedSets.nd rfl (Or.inl rfl) pe_dnewK)
      (pss_cons (ps_for PassesOwn.never rfl (pi_list (pe_call GN hr rfl mN FN.kp bN .nil pass0 (pa_cons (pv 0) pa_nil))) (pg_name (i := 3) sc_agreedSets.nd rfl (Or.inl rfl))
        (pss_one (ps_dput (Nat.lt_of_le_of_lt (Nat.add_le_add_left (by decide) _) hu) (pv 2) (pe_call GS hr rfl mS FS.kp bS .nil pass0 (pa_cons (pv 3) (pa_cons (pv 1) pa_nil))) pe_bl rfl)))
      (pss_one (ps_ret (pe_callB (cr_sortedD rfl) (by rfl) T.sorted bt_sorted (pa_cons (pv 2) pa_nil))))), ?_⟩
    intro d hd0
    have sG0 : Same G (upd H d (.dK [])) := sG.trans (same_upd hd0)
    refine ⟨_, rfl, G, n, rfl, sG0, n4, fun H1 F1 v1 s1 x1 r1 => ?_⟩
    obtain ⟨al, ws, rfl, hal, pw⟩ := r1
    have hF1d : F1 d = none := x1.new d (sG.free hd0) (by rw [upd_same]; exact fun z => nomatch z)
    have h1d : H1 d = some (.dK []) := s1 _ _ upd_same
    have sH1 : Same H H1 := (same_upd hd0).trans s1
    have hrc : (Krab.rows n).length ≤ 4096 := by
      rw [KM.rows_count]
      exact pow84 n4
    refine ⟨al, rfl, ⟨_, SqL.of (x1.le _ _ hal)⟩, for_list (xs := ws) (fun i σ' H' => ∃ (o : Option V) (kvs : List (Key × V)) (ns : List Int), σ' = [some (nv n), some (.ref a), some (.ref d), o] ∧ Same H H' ∧ Same F1 H' ∧ H' d = some (.dK kvs) ∧ kvs.map (·.1) = ns.map Sum.inl ∧ ns.length ≤ i ∧
      ∀ z, z ∈ ns ↔ ∃ x ∈ (Krab.rows n).take i, z = ((KM.bitsOf (agB ts x) ts.length : Nat) : Int)) ?_ (fun i σ' H' _ ⟨_, _, _, _, _, sF, _⟩ => SqL.of (sF _ _ hal)) ?_ ?_⟩
    · exact ⟨none, [], [], rfl, sH1, x1.le, h1d, rfl, Nat.le_refl _, fun z => ⟨(fun y => nomatch y), fun ⟨x, hx, _⟩ => by rw [List.take_zero] at hx; cases hx⟩⟩
    · rintro i v σ' H' hv ⟨o, kvs, ns, rfl, sm, sF, hd, ek, hnl, mem⟩
      obtain ⟨x, hx, hnx⟩ := paired_left pw hv
      have hxm := List.mem_of_getElem? hx
      have nok : NumOk n x := ⟨KM.rows_len n x hxm, fun y hy => (KM.rows_le n x hxm y hy).2⟩
      have hi : i < (Krab.rows n).length := (List.getElem?_eq_some_iff.mp hx).1
      have hkl : kvs.length = ns.length := by
        have := congrArg List.length ek
        rw [List.length_map, List.length_map] at this
        exact this
      refine ⟨_, rfl, _, rfl, _, rfl, G, v, x, n, a, us, ts, rfl, sG.trans sm, hnx.mono sF, nok, n4, ⟨sm _ _ ha, pc⟩, tok, t6, fun H2 s2 => ?_⟩
      refine ⟨d, _, rfl, DPut.k (k := .inl ((KM.bitsOf (agB ts x) ts.length : Nat) : Int)) (s2 _ _ hd) (small4096 (by omega)), ?_⟩
      obtain ⟨ns', e', m', l'⟩ := putK_keys ek ((KM.bitsOf (agB ts x) ts.length : Nat) : Int) (.bl true)
      refine ⟨some v, _, ns', rfl, same_off (sm.trans s2) hd0, same_off (sF.trans s2) hF1d, upd_same, e', by omega, fun z => ?_⟩
      rw [m', mem, take_snoc hx]
      constructor
      · rintro (⟨y, hy, e⟩ | e)
        · exact ⟨y, List.mem_append_left _ hy, e⟩
        · exact ⟨x, List.mem_append_right _ (List.mem_singleton.mpr rfl), e⟩
      · rintro ⟨y, hy, e⟩
        rcases List.mem_append.mp hy with h' | h'
        · exact .inl ⟨y, h', e⟩
        · rw [List.mem_singleton.mp h'] at e
          exact .inr e
    · rintro σ' H' ⟨o, kvs, ns, rfl, sm, sF, hd, ek, hnl, mem⟩
      rw [paired_len pw] at hnl mem
      rw [List.take_length] at mem
      refine ⟨_, rfl, d, kvs, ns, rfl, hd, ek, fun ns' p pm hp => ?_⟩
      have hn : ns' = KM.zints (ns'.map Int.toNat) := nats_ints fun z hz => by
        obtain ⟨x, _, e⟩ := (mem z).mp (pm.mem_iff.mp hz)
        exact ⟨_, e⟩
      refine q _ p (ns'.map Int.toNat) (sm.trans (same_upd hp)) (sm.free hp) ?_ (fun z => ?_) (by rw [List.length_map, pm.length_eq]; omega)
      · rw [upd_same, ← KR.ints_map, ← hn]
      · have mz : z ∈ ns'.map Int.toNat ↔ (z : Int) ∈ ns' := by
          constructor
          · intro h'
            rw [hn]
            exact List.mem_map.mpr ⟨z, h', rfl⟩
          · intro h'
            exact List.mem_map.mpr ⟨(z : Int), h', rfl⟩
        rw [mz, pm.mem_iff, mem]
        constructor
        · rintro ⟨x, hx, e⟩
          refine ⟨x, hx, ?_⟩
          have : z = KM.bitsOf (agB ts x) ts.length := by omega
          rw [this]
          rfl
        · rintro ⟨x, hx, e⟩
          exact ⟨x, hx, by rw [← e]; rfl⟩
/-! ## some_agree, is_clash -/
def spSomeAgree : Sp := fun vs H Q _ => ∃ (p : Addr) (g : List Nat) (s : Nat), vs = [.ref p, nv s] ∧ H p = some (.lst (g.map nv)) ∧ g.length ≤ 4096 ∧ ∀ H', Same H H' → Q (.bl (KM.someB g s)) H'
theorem sc_someAgree : FnScope ["agreed", "asked", "one"] ["agreed", "asked"] (defScope sSomeAgree) := ⟨rfl, rfl, rfl, by decide +kernel, rfl, by decide +kernel, by decide +kernel⟩
theorem ok_someAgree {f : Addr} {fd : FuncData} (F : Fun K "some_agree" "some_agree" sSomeAgree f fd) (T : Txt mg) : FnOk P w K mg base CX0 1 f fd ["agreed", "asked"] spSomeAgree := by
  refine F.ok sc_someAgree (fun vs H Q E h => ?_) (fun cdv A outer s H vs Q E hr h => ?_)
  · obtain ⟨p, g, s, rfl, _⟩ := h
    rfl
  · obtain ⟨p, g, s', rfl, hp, hl, q⟩ := h
    refine ⟨_, pss_one (ps_ret (pe_callB (cr_any rfl) (by rfl) T.any bt_any (pa_cons (pe_lc (own := [("one", 2)]) rfl sc_someAgree.nd (pi_list (pv 0)) (blkOk_by (by show blkC ["agreed", "asked", "one"] (defScope sSomeAgree) _ _ = true; decide +kernel))
        (fun _ _ _ _ _ => pg_name (i := 2) sc_someAgree.nd rfl (Or.inl rfl)) (fun _ _ _ _ _ => pts_nil) (fun _ _ _ _ _ => pe_cmpR op_eq (pe_op op_and (pv 2) (pv 1)) (pv 1) (nomark _))) pa_nil))), ?_⟩
    refine ⟨_, rfl, p, rfl, ⟨_, SqL.of hp⟩, fun D hD => lc_list (xs := g.map nv) (fun i H' => Same H H' ∧ H' D = some (.lst (((g.take i).map fun x => x &&& s' == s').map V.bl))) ⟨same_upd hD, upd_same⟩ (fun i H' _ z => SqL.of (z.1 _ _ hp)) ?_ ?_⟩
    · rintro i x H' hx ⟨sm, hd⟩
      rw [List.getElem?_map] at hx
      obtain ⟨y, hy, rfl⟩ := Option.map_eq_some_iff.mp hx
      refine ⟨rfl, ?_⟩
      refine iteT (B := True) ⟨_, rfl, _, rfl, _, _, rfl, rfl, _, rfl, rfl, _, hd, ?_, same_off sm hD, ?_⟩
      · rw [List.length_map, List.length_map, List.length_take]
        exact small4096 (by omega)
      · rw [upd_same, take_snoc hy, List.map_append, List.map_append]
        exact congrArg (fun z => some (HO.lst (((g.take i).map fun x => x &&& s' == s').map V.bl ++ [V.bl z]))) (and_int y s')
    · rintro H' ⟨sm, hd⟩
      rw [List.length_map, List.take_length] at hd
      refine ⟨D, _, rfl, SqL.of hd, ?_⟩
      have e3 : ((g.map fun x => x &&& s' == s').any id) = KM.someB g s' := by
        rw [List.any_map]
        rfl
      rw [e3]
      exact q H' sm
def spIsClash : Sp := fun vs H Q _ => ∃ (p : Addr) (g : List Nat) (s c : Nat), vs = [.ref p, nv s, nv c] ∧ H p = some (.lst (g.map nv)) ∧ g.length ≤ 4096 ∧ s < 2 ^ c ∧ c ≤ 6 ∧ ∀ H', Same H H' → Q (.bl (KM.clashB g c s)) H'
theorem sc_isClash : FnScope ["agreed", "asked", "count", "t"] ["agreed", "asked", "count"] (defScope sIsClash) := ⟨rfl, rfl, rfl, by decide +kernel, rfl, by decide +kernel, by decide +kernel⟩
theorem ok_isClash {f : Addr} {fd : FuncData} (F : Fun K "is_clash" "is_clash" sIsClash f fd) (T : Txt mg) (D : Ds K mg) : FnOk P w K mg base CX0 2 f fd ["agreed", "asked", "count"] spIsClash := by
  obtain ⟨fs, fds, FS, mS, bS⟩ := D.someAgree.ex
  have GS : FnOk P w K mg base CX0 1 fs fds ["agreed", "asked"] spSomeAgree := ok_someAgree FS T
  refine F.ok sc_isClash (fun vs H Q E h => ?_) (fun cdv A outer s H vs Q E hr h => ?_)
  · obtain ⟨p, g, s, c, rfl, _⟩ := h
    rfl
  · obtain ⟨p, g, s', c, rfl, hp, hl, hs, c6, q⟩ := h
    refine ⟨_, pss_cons (ps_if (pt_val (pe_call GS hr rfl mS FS.kp bS .nil pass0 (pa_cons (pv 0) (pa_cons (pv 1) pa_nil)))) (pss_one (ps_ret pe_bl)) pss_nil)
      (pss_one (ps_ret (pe_callB (cr_all rfl) (by rfl) T.all boot_all (pa_cons (pe_lc (own := [("t", 3)]) rfl sc_isClash.nd (pi_range1 (by rfl) T.range (pa_cons (pv 2) pa_nil)) (blkOk_by (by show blkC ["agreed", "asked", "count", "t"] (defScope sIsClash) _ _ = true; decide +kernel))
        (fun _ _ _ _ _ => pg_name (i := 3) sc_isClash.nd rfl (Or.inl rfl)) (fun _ _ _ _ _ => pts_one (pt_cmpR op_ne (pe_op op_and (pv 1) (pe_op op_shl pe_int (pv 3))) pe_int (nomark _)))
        (fun _ _ _ _ _ => pe_call GS hr rfl mS FS.kp bS .nil pass0 (pa_cons (pv 0) (pa_cons (pe_op op_sub (pv 1) (pe_op op_shl pe_int (pv 3))) pa_nil)))) pa_nil)))), ?_⟩
    refine ⟨_, rfl, _, rfl, p, g, s', rfl, hp, hl, fun H1 s1 => ⟨_, rfl, ?_⟩⟩
    refine ite2 (fun c0 => ?_) fun c0 => ?_
    · have r := q H1 s1
      unfold KM.clashB at r
      rw [c0] at r
      exact r
    · have c0' : KM.someB g s' = false := Bool.eq_false_iff.mpr c0
      refine ⟨_, rfl, (c : Int), rfl, by omega, by omega, fun D hD => lc_range (fun i H' => Same H1 H' ∧ H' D = some (.lst ((((List.range i).filter fun t => s'.testBit t).map fun t => KM.someB g (s' - 2 ^ t)).map V.bl))) ⟨same_upd hD, upd_same⟩ ?_ ?_⟩
      · rintro i H' hi ⟨sm, hd⟩
        have hic : i < c := by omega
        have e0 : (0 : Int) + (i : Nat) = ((i : Nat) : Int) := Int.zero_add _
        rw [e0]
        have hlen : ((((List.range i).filter fun t => s'.testBit t).map fun t => KM.someB g (s' - 2 ^ t)).map V.bl).length < sizeLine := by
          rw [List.length_map, List.length_map]
          refine small1000 (Nat.le_trans (List.length_filter_le _ _) ?_)
          rw [List.length_range]
          omega
        refine ⟨rfl, _, rfl, _, rfl, _, _, rfl, rfl, ⟨by omega, by omega, by decide⟩, _, _, rfl, rfl, rfl, _, rfl, ?_⟩
        rw [bit_int]
        refine ite2 (fun c1 => ?_) fun c1 => ?_
        · have hle := (KM.less_bits hs c1).1
          refine ⟨_, rfl, _, rfl, _, rfl, _, _, rfl, rfl, ⟨by omega, by omega, by decide⟩, _, _, rfl, rfl, p, g, s' - 2 ^ i, ?_, (s1.trans sm) _ _ hp, hl, fun H2 s2 => ⟨_, s2 _ _ hd, hlen, same_off (sm.trans s2) hD, ?_⟩⟩
          · show [V.ref p, V.int ((s' : Int) - 1 * 2 ^ ((i : Nat) : Int).toNat)] = _
            rw [shl_int]
            have e7 : ((s' : Nat) : Int) - ((2 ^ i : Nat) : Int) = ((s' - 2 ^ i : Nat) : Int) := by omega
            rw [e7]
          · rw [upd_same, List.range_succ, List.filter_append, List.map_append, List.map_append, List.filter_cons, if_pos c1]
            rfl
        · refine ⟨sm, ?_⟩
          rw [List.range_succ, List.filter_append, List.filter_cons, if_neg c1, List.filter_nil, List.append_nil]
          exact hd
      · rintro H' ⟨sm, hd⟩
        rw [Int.toNat_natCast] at hd
        refine ⟨D, _, rfl, SqL.of hd, ?_⟩
        have r := q H' (s1.trans sm)
        unfold KM.clashB at r
        rw [c0'] at r
        have e3 : ((((List.range c).filter fun t => s'.testBit t).map fun t => KM.someB g (s' - 2 ^ t)).all id) = (!false && ((List.range c).filter fun t => s'.testBit t).all fun t => KM.someB g (s' - 2 ^ t)) := by
          rw [List.all_map]
          rfl
        rw [e3]
        exact r
end
end KP

end
section
set_option Elab.async false
set_option linter.all false
set_option maxRecDepth 100000
set_option maxHeartbeats 4000000
namespace KP
open PySem PySem.Spec PyProof.Rows L2 KG KR
section
variable {P : Program} {w : World} {K : PySem.W.Frag} {mg : Str → Option Value} {base : Heap}
/-- a count and then the list -/
theorem list_ints (l : List Nat) : ([V.int ((l.map nv).length : Int)] ++ l.map nv) = (nums (Krab.list l)).map V.int := by
  show _ = ((l.length : Int) :: KM.zints l).map V.int
  rw [List.map_cons, KR.ints_map, List.length_map]
  rfl
theorem pow2_64 {c : Nat} (h : c ≤ 6) : 2 ^ c ≤ 64 := Nat.le_trans (Nat.pow_le_pow_right (by decide) h) (by decide)
theorem small_cast {m : Nat} (h : m ≤ 64) : -(2 ^ 62) ≤ (m : Int) ∧ (m : Int) < 2 ^ 62 := by omega
/-! ## clashes -/
theorem sc_clashes : FnScope ["weighing", "given", "count", "agreed", "found", "asked"] ["weighing", "given"] (defScope sClashes) := ⟨rfl, rfl, rfl, by decide +kernel, rfl, by decide +kernel, by decide +kernel⟩
theorem ok_clashes {f C : Addr} {fd : FuncData} (F : Fun K "clashes" "clashes" sClashes f fd) (T : Txt mg) (T0 : Cl0 K mg C) (TC : Cn mg) (D : Ds K mg) : FnOk P w K mg base CX0 4 f fd ["weighing", "given"] (spCmd C 15) := by
  obtain ⟨fs, fds, FS, mS, bS⟩ := D.agreedSets.ex
  obtain ⟨fc, fdc, FC, mC, bC⟩ := D.isClash.ex
  have GS : FnOk P w K mg base CX0 3 fs fds ["things", "told"] spAgreedSets := ok_agreedSets FS T D
  have GC : FnOk P w K mg base CX0 2 fc fdc ["agreed", "asked", "count"] spIsClash := ok_isClash FC T D
  refine F.ok sc_clashes sp_len (fun cdv A outer s H vs Q E hr h => ?_)
  obtain ⟨G, wa, t, gv, st, c, q, rfl, hk, co, gi, wg, hs, k⟩ := h
  obtain ⟨hh, rfl⟩ := hs.resolve_left (by decide)
  obtain ⟨ck, ca, crs⟩ := c
  obtain rfl : ck = 15 := hk
  obtain ⟨raw, fm⟩ := co.form
  have fm : KM.Form raw 15 ca crs q := fm
  have hr2 : Room 2 _ := hr.mono (by decide)
  obtain ⟨tm, em⟩ := TC.thereIsNone
  refine ⟨_, pss_cons (ps_if (pt_cmpR op_gt (pe_callB call_len_seq (by rfl) T.len PySem.boot_len (pa_cons (pe_fld (pv 0) rfl) pa_nil)) pe_int (nomark _)) (pss_one (ps_ret (pe_lst (pa_cons (pe_glob (v := .int (-33)) rfl em ⟨_, rfl⟩) pa_nil)))) pss_nil)
    (pss_cons (ps_set (i := 2) sc_clashes.nd rfl (Or.inr rfl) (pe_callB call_len_seq (by rfl) T.len PySem.boot_len (pa_cons (pe_fld (pv 0) rfl) pa_nil)))
    (pss_cons (ps_set (i := 3) sc_clashes.nd rfl (Or.inr rfl) (pe_call GS hr rfl mS FS.kp bS .nil pass0 (pa_cons (pe_fld (pv 0) rfl) (pa_cons (pe_fld (pv 0) rfl) pa_nil))))
    (pss_cons (ps_setLc (i := 4) (own := [("asked", 5)]) rfl sc_clashes.nd rfl rfl (sw_true rfl rfl rfl rfl) (pi_range1 (by rfl) T.range (pa_cons (pe_op op_shl pe_int (pv 2)) pa_nil))
      (blkOk_by (by show blkC ["weighing", "given", "count", "agreed", "found", "asked"] (defScope sClashes) _ _ = true; decide +kernel)) (fun _ _ _ _ _ => pg_name (i := 5) sc_clashes.nd rfl (Or.inl rfl))
      (fun _ _ _ _ _ => pts_one (pt_val (pe_call GC hr2 rfl mC FC.kp bC .nil pass0 (pa_cons (pv 3) (pa_cons (pv 5) (pa_cons (pv 2) pa_nil)))))) (fun _ _ _ _ _ => pv 5))
    (pss_one (ps_ret (pe_op op_cat (pe_lst (pa_cons (pe_callB call_len_seq (by rfl) T.len PySem.boot_len (pa_cons (pv 4) pa_nil)) pa_nil)) (pv 4))))))), ?_⟩
  obtain ⟨rfl, rfl, rfl⟩ := KM.form_inv fm
  obtain ⟨dx, n, ff, us, h1, h2, rfl, n1, n4, t6, tok, pc, af, ws, rfl, hf, pf⟩ := id wg.obj
  have hfH := wg.le _ _ hf
  have hlen := paired_len pf
  have hlt := paired_len pc
  have ed : KM.due (some hh) .clashes = nums (if Krab.fitBy hh.n hh.told = [] then Krab.list hh.clashes else Krab.say (-33)) := rfl
  refine ⟨_, rfl, wa, C, dx, _, _, rfl, h1, T0.cl, T0.nFi, wf_fit _ _ _, af, _, rfl, .inl (SqL.of hfH), _, _, rfl, rfl, _, rfl, ?_⟩
  rw [hlen]
  refine ite2 (fun c0 => ?_) fun c0 => ?_
  · have hne : ¬ Krab.fitBy hh.n hh.told = [] := fun z => by
      rw [z] at c0
      exact absurd (of_decide_eq_true c0) (by decide)
    rw [if_neg hne] at ed
    exact ⟨(by show 1 ≤ sizeLine; decide), fun p hp => done_same (l := [-33]) wg (Same.refl _) hp ed.symm k⟩
  · have e0 : Krab.fitBy hh.n hh.told = [] := List.eq_nil_of_length_eq_zero (by
      rcases Nat.eq_zero_or_pos (Krab.fitBy hh.n hh.told).length with z | z
      · exact z
      · exact absurd (decide_eq_true (by omega)) c0)
    rw [if_pos e0] at ed
    refine ⟨_, rfl, wa, C, dx, _, _, rfl, h1, T0.cl, T0.nTo, wf_told _ _ _, t, _, rfl, .inl (SqL.of h2), ?_⟩
    refine ⟨_, rfl, wa, C, dx, _, _, rfl, h1, T0.cl, T0.nTh, wf_things _ _ _, _, rfl, wa, C, dx, _, _, rfl, h1, T0.cl, T0.nTo, wf_told _ _ _, G, hh.n, t, us, hh.told, rfl, wg.le, n4, ⟨h2, pc⟩, tok, t6, fun H1 p1 g s1 hp1 h1p hg hgl => ?_⟩
    have hp64 := pow2_64 t6
    have ec : (1 : Int) * 2 ^ ((us.length : Nat) : Int).toNat = ((2 ^ hh.told.length : Nat) : Int) := by rw [shl_int, hlt]
    refine ⟨_, rfl, _, _, rfl, rfl, ⟨by omega, by omega, by decide⟩, ((2 ^ hh.told.length : Nat) : Int), ?_, (small_cast hp64).1, (small_cast hp64).2, fun D hD => lc_range (fun i H' => Same H1 H' ∧ H' D = some (.lst (((List.range i).filter (KM.clashB g hh.told.length)).map nv))) ⟨same_upd hD, upd_same⟩ ?_ ?_⟩
    · show [V.int ((1 : Int) * 2 ^ ((us.length : Nat) : Int).toNat)] = _
      rw [ec]
    · rintro i H' hi ⟨sm, hd⟩
      have hi2 : i < 2 ^ hh.told.length := by omega
      have e0 : (0 : Int) + (i : Nat) = ((i : Nat) : Int) := Int.zero_add _
      rw [e0]
      refine ⟨rfl, _, rfl, _, rfl, _, rfl, p1, g, i, hh.told.length, (by rw [hlt]; rfl), sm _ _ h1p, hgl, hi2, t6, fun H2 s2 => ⟨_, rfl, ?_⟩⟩
      refine ite2 (fun c1 => ?_) fun c1 => ?_
      · refine ⟨_, rfl, _, s2 _ _ hd, ?_, same_off (sm.trans s2) hD, ?_⟩
        · rw [List.length_map]
          refine small1000 (Nat.le_trans (List.length_filter_le _ _) ?_)
          rw [List.length_range]
          omega
        · rw [upd_same, List.range_succ, List.filter_append, List.map_append, List.filter_cons, if_pos c1]
          rfl
      · refine ⟨sm.trans s2, ?_⟩
        rw [List.range_succ, List.filter_append, List.filter_cons, if_neg c1, List.filter_nil, List.append_nil]
        exact s2 _ _ hd
    · rintro H' ⟨sm, hd⟩
      rw [Int.toNat_natCast, ← KM.clashes_of hg] at hd
      have hcl : hh.clashes.length ≤ 64 := by
        rw [KM.clashes_of hg]
        refine Nat.le_trans (List.length_filter_le _ _) ?_
        rw [List.length_range]
        exact hp64
      refine ⟨_, rfl, D, _, rfl, .inl (SqL.of hd), (by show 1 ≤ sizeLine; decide), fun e he => ⟨_, rfl, e, D, _, _, rfl, rfl, upd_same, same_upd he _ _ hd, ?_, fun p hp => ?_⟩⟩
      · rw [List.length_map]
        exact Nat.le_of_lt (small1000 (by show 1 + hh.clashes.length ≤ 1000; omega))
      · rw [list_ints]
        exact done_same wg ((s1.trans sm).trans (same_upd he)) hp ed.symm k
/-! ## spare -/
theorem inV_nat (z : Nat) (g : List Nat) : inV (nv z) (g.map nv) = decide (z ∈ g) := by
  unfold inV
  rw [List.any_map]
  by_cases c : z ∈ g
  · rw [decide_eq_true c, List.any_eq_true]
    exact ⟨z, c, beq_self_eq_true _⟩
  · rw [decide_eq_false c, List.any_eq_false]
    intro y hy z2
    have : ((y : Int) == (z : Int)) = true := z2
    have e := eq_of_beq this
    exact c (by rw [show z = y by omega]; exact hy)
theorem flat_nat (g : List Nat) : (g.map nv).all flatV = true := by
  rw [List.all_map, List.all_eq_true]
  exact fun _ _ => rfl
theorem sc_spare : FnScope ["weighing", "given", "count", "agreed", "everything", "these", "t"] ["weighing", "given"] (defScope sSpare) := ⟨rfl, rfl, rfl, by decide +kernel, rfl, by decide +kernel, by decide +kernel⟩
theorem ok_spare {f C : Addr} {fd : FuncData} (F : Fun K "spare" "spare" sSpare f fd) (T : Txt mg) (T0 : Cl0 K mg C) (TC : Cn mg) (D : Ds K mg) : FnOk P w K mg base CX0 4 f fd ["weighing", "given"] (spCmd C 16) := by
  obtain ⟨fs, fds, FS, mS, bS⟩ := D.agreedSets.ex
  have GS : FnOk P w K mg base CX0 3 fs fds ["things", "told"] spAgreedSets := ok_agreedSets FS T D
  refine F.ok sc_spare sp_len (fun cdv A outer s H vs Q E hr h => ?_)
  obtain ⟨G, wa, t, gv, st, c, q, rfl, hk, co, gi, wg, hs, k⟩ := h
  obtain ⟨hh, rfl⟩ := hs.resolve_left (by decide)
  obtain ⟨ck, ca, crs⟩ := c
  obtain rfl : ck = 16 := hk
  obtain ⟨raw, fm⟩ := co.form
  have fm : KM.Form raw 16 ca crs q := fm
  obtain ⟨tm, em⟩ := TC.thereIsNone
  refine ⟨_, pss_cons (ps_if (pt_cmpR op_eq (pe_callB call_len_seq (by rfl) T.len PySem.boot_len (pa_cons (pe_fld (pv 0) rfl) pa_nil)) pe_int (nomark _)) (pss_one (ps_ret (pe_lst (pa_cons (pe_glob (v := .int (-33)) rfl em ⟨_, rfl⟩) pa_nil)))) pss_nil)
    (pss_cons (ps_set (i := 2) sc_spare.nd rfl (Or.inl rfl) (pe_callB call_len_seq (by rfl) T.len PySem.boot_len (pa_cons (pe_fld (pv 0) rfl) pa_nil)))
    (pss_cons (ps_set (i := 3) sc_spare.nd rfl (Or.inr rfl) (pe_call GS hr rfl mS FS.kp bS .nil pass0 (pa_cons (pe_fld (pv 0) rfl) (pa_cons (pe_fld (pv 0) rfl) pa_nil))))
    (pss_cons (ps_set (i := 4) sc_spare.nd rfl (Or.inr rfl) (pe_op op_sub (pe_op op_shl pe_int (pv 2)) pe_int))
    (pss_cons (ps_setLc (i := 5) (own := [("t", 6)]) rfl sc_spare.nd rfl rfl (sw_true rfl rfl rfl rfl) (pi_range1 (by rfl) T.range (pa_cons (pv 2) pa_nil))
      (blkOk_by (by show blkC ["weighing", "given", "count", "agreed", "everything", "these", "t"] (defScope sSpare) _ _ = true; decide +kernel)) (fun _ _ _ _ _ => pg_name (i := 6) sc_spare.nd rfl (Or.inl rfl))
      (fun _ _ _ _ _ => pts_one (pt_cmpR (notInK K rfl) (pe_op op_sub (pv 4) (pe_op op_shl pe_int (pv 6))) (pv 3) rfl)) (fun _ _ _ _ _ => pv 6))
    (pss_one (ps_ret (pe_op op_cat (pe_lst (pa_cons (pe_callB call_len_seq (by rfl) T.len PySem.boot_len (pa_cons (pv 5) pa_nil)) pa_nil)) (pv 5)))))))), ?_⟩
  obtain ⟨rfl, rfl, rfl⟩ := KM.form_inv fm
  obtain ⟨dx, n, ff, us, h1, h2, rfl, n1, n4, t6, tok, pc, af, ws, rfl, hf, pf⟩ := id wg.obj
  have hfH := wg.le _ _ hf
  have hlen := paired_len pf
  have hlt := paired_len pc
  have ed : KM.due (some hh) .spare = nums (match Krab.fitBy hh.n hh.told with
    | [] => Krab.say (-33)
    | _ :: _ => Krab.list ((List.range hh.told.length).filter fun i => (Krab.fitBy hh.n (hh.told.eraseIdx i)).length == (Krab.fitBy hh.n hh.told).length)) := rfl
  refine ⟨_, rfl, wa, C, dx, _, _, rfl, h1, T0.cl, T0.nFi, wf_fit _ _ _, af, _, rfl, .inl (SqL.of hfH), rfl, _, rfl, ?_⟩
  rw [hlen]
  refine ite2 (fun c1 => ?_) fun c1 => ?_
  · have e1 : Krab.fitBy hh.n hh.told = [] := List.eq_nil_of_length_eq_zero (by have := V.int.inj (of_decide_eq_true c1); omega)
    rw [e1] at ed
    exact ⟨(by show 1 ≤ sizeLine; decide), fun p hp => done_same (l := [-33]) wg (Same.refl _) hp ed.symm k⟩
  · have ed2 : KM.due (some hh) .spare = nums (Krab.list ((List.range hh.told.length).filter fun i => (Krab.fitBy hh.n (hh.told.eraseIdx i)).length == (Krab.fitBy hh.n hh.told).length)) := by
      rw [ed]
      cases z : Krab.fitBy hh.n hh.told with
      | nil => rw [z] at c1; exact absurd rfl c1
      | cons y r => rfl
    refine ⟨_, rfl, wa, C, dx, _, _, rfl, h1, T0.cl, T0.nTo, wf_told _ _ _, t, _, rfl, .inl (SqL.of h2), ?_⟩
    refine ⟨_, rfl, wa, C, dx, _, _, rfl, h1, T0.cl, T0.nTh, wf_things _ _ _, _, rfl, wa, C, dx, _, _, rfl, h1, T0.cl, T0.nTo, wf_told _ _ _, G, hh.n, t, us, hh.told, rfl, wg.le, n4, ⟨h2, pc⟩, tok, t6, fun H1 p1 g s1 hp1 h1p hg hgl => ?_⟩
    have hp64 := pow2_64 t6
    have hpp := Nat.two_pow_pos hh.told.length
    have ec : (1 : Int) * 2 ^ ((us.length : Nat) : Int).toNat = ((2 ^ hh.told.length : Nat) : Int) := by rw [shl_int, hlt]
    refine ⟨_, rfl, _, _, rfl, rfl, ⟨by omega, by omega, by decide⟩, _, _, rfl, rfl, ?_⟩
    refine ⟨_, rfl, _, rfl, by omega, by omega, fun D hD => lc_range (fun i H' => Same H1 H' ∧ H' D = some (.lst (((List.range i).filter fun i => (Krab.fitBy hh.n (hh.told.eraseIdx i)).length == (Krab.fitBy hh.n hh.told).length).map nv))) ⟨same_upd hD, upd_same⟩ ?_ ?_⟩
    · rintro i H' hi ⟨sm, hd⟩
      have hi2 : i < hh.told.length := by omega
      have e0 : (0 : Int) + (i : Nat) = ((i : Nat) : Int) := Int.zero_add _
      rw [e0]
      have e7 : (1 : Int) * 2 ^ ((us.length : Nat) : Int).toNat - 1 - 1 * 2 ^ ((i : Nat) : Int).toNat = ((2 ^ hh.told.length - 1 - 2 ^ i : Nat) : Int) := by
        rw [ec, shl_int]
        have := (KM.all_less hi2).2
        generalize 2 ^ hh.told.length = a at this hpp ⊢
        generalize 2 ^ i = b at this ⊢
        omega
      refine ⟨rfl, _, rfl, _, rfl, _, _, rfl, rfl, ⟨by omega, by omega, by decide⟩, _, _, rfl, rfl, _, rfl, p1, _, rfl, .inl (SqL.of (sm _ _ h1p)), rfl, flat_nat g, _, rfl, ?_⟩
      have e8 : (if true = true then !inV (V.int ((1 : Int) * 2 ^ ((us.length : Nat) : Int).toNat - 1 - 1 * 2 ^ ((i : Nat) : Int).toNat)) (g.map nv) else inV (V.int ((1 : Int) * 2 ^ ((us.length : Nat) : Int).toNat - 1 - 1 * 2 ^ ((i : Nat) : Int).toNat)) (g.map nv)) = ((Krab.fitBy hh.n (hh.told.eraseIdx i)).length == (Krab.fitBy hh.n hh.told).length) := by
        rw [if_pos rfl, e7, inV_nat, KM.spare_of hg hi2]
      refine ite2 (fun c2 => ?_) fun c2 => ?_
      · have c2 : ((Krab.fitBy hh.n (hh.told.eraseIdx i)).length == (Krab.fitBy hh.n hh.told).length) = true := e8.symm.trans c2
        refine ⟨_, rfl, _, hd, ?_, same_off sm hD, ?_⟩
        · rw [List.length_map]
          refine small1000 (Nat.le_trans (List.length_filter_le _ _) ?_)
          rw [List.length_range]
          omega
        · rw [upd_same, List.range_succ, List.filter_append, List.map_append, List.filter_cons, if_pos c2]
          rfl
      · have c2 : ¬ ((Krab.fitBy hh.n (hh.told.eraseIdx i)).length == (Krab.fitBy hh.n hh.told).length) = true := fun z => c2 (e8.trans z)
        refine ⟨sm, ?_⟩
        rw [List.range_succ, List.filter_append, List.filter_cons, if_neg c2, List.filter_nil, List.append_nil]
        exact hd
    · rintro H' ⟨sm, hd⟩
      rw [Int.toNat_natCast, hlt] at hd
      have hcl : ((List.range hh.told.length).filter fun i => (Krab.fitBy hh.n (hh.told.eraseIdx i)).length == (Krab.fitBy hh.n hh.told).length).length ≤ 6 := by
        refine Nat.le_trans (List.length_filter_le _ _) ?_
        rw [List.length_range]
        exact t6
      refine ⟨_, rfl, D, _, rfl, .inl (SqL.of hd), (by show 1 ≤ sizeLine; decide), fun e he => ⟨_, rfl, e, D, _, _, rfl, rfl, upd_same, same_upd he _ _ hd, ?_, fun p hp => ?_⟩⟩
      · rw [List.length_map]
        refine Nat.le_of_lt (small1000 ?_)
        show 1 + _ ≤ 1000
        omega
      · rw [list_ints]
        exact done_same wg ((s1.trans sm).trans (same_upd he)) hp ed2.symm k
end
end KP

end
section
set_option Elab.async false
set_option linter.all false
set_option maxRecDepth 100000
set_option maxHeartbeats 4000000
namespace KP
open PySem PySem.Spec PyProof.Rows L2 KG KR
theorem rep_zero (n : Nat) : (List.replicate n [V.int 0]).flatten = ((List.range n).map fun _ => (0 : Int)).map V.int := by
  induction n with
  | zero => rfl
  | succ n ih =>
    rw [List.replicate_succ', List.flatten_append, ih, List.range_succ, List.map_append, List.map_append]
    rfl
theorem set_ints (n p : Nat) (g : Nat → Int) (v : Int) : (((List.range n).map g).map V.int).set p (V.int v) = ((List.range n).map fun i => if i = p then v else g i).map V.int := by
  rw [← List.map_set, KM.set_range]
theorem at_ints {n p : Nat} (g : Nat → Int) (h : p < n) : (((List.range n).map g).map V.int)[p]? = some (V.int (g p)) := by
  rw [List.getElem?_map, List.getElem?_map, List.getElem?_range h]
  rfl
theorem exists_min : ∀ l : List Int, 0 < l.length → ∃ m, m ∈ l ∧ ∀ y ∈ l, m ≤ y
  | [x], _ => ⟨x, List.mem_singleton.mpr rfl, fun y hy => by rw [List.mem_singleton.mp hy]; exact Int.le_refl _⟩
  | x :: y :: r, _ => by
    obtain ⟨m, h1, h2⟩ := exists_min (y :: r) (by simp)
    by_cases c : x ≤ m
    · refine ⟨x, List.mem_cons_self .., fun z hz => ?_⟩
      rcases List.mem_cons.mp hz with e | hz
      · rw [e]; exact Int.le_refl _
      · exact Int.le_trans c (h2 z hz)
    · refine ⟨m, List.mem_cons_of_mem _ h1, fun z hz => ?_⟩
      rcases List.mem_cons.mp hz with e | hz
      · rw [e]; omega
      · exact h2 z hz
theorem ixN_nat {n p : Nat} (h : p < n) : ixN n (p : Int) = some p := by
  unfold ixN
  rw [if_pos (by omega), if_pos (by omega), Int.toNat_natCast]
section
variable {P : Program} {w : World} {K : PySem.W.Frag} {mg : Str → Option Value} {base : Heap}
/-- how often, and what is told -/
structure Often (F H : Hp) (vm : V) (n : Nat) (a : Addr) (us : List V) (ts : List Krab.Told) (m : List Nat) : Prop where
  le : Same F H
  vm : Nums H vm m
  at_ : TellsAt F H a us ts
  tok : ∀ t ∈ ts, KM.TOk n t
  len : m.length = ts.length
  n1 : 1 ≤ n
  n4 : n ≤ 4
  t6 : ts.length ≤ 6
theorem Often.up {F H H' : Hp} {vm : V} {n : Nat} {a : Addr} {us : List V} {ts : List Krab.Told} {m : List Nat} (x : Often F H vm n a us ts m) (sm : Same H H') : Often F H' vm n a us ts m :=
  ⟨x.le.trans sm, x.vm.mono sm, ⟨sm _ _ x.at_.1, x.at_.2⟩, x.tok, x.len, x.n1, x.n4, x.t6⟩
/-! ## balance_of -/
def spBalanceOf : Sp := fun vs H Q _ => ∃ (F : Hp) (vm : V) (n : Nat) (a : Addr) (us : List V) (ts : List Krab.Told) (m : List Nat), vs = [vm, nv n, .ref a] ∧ Often F H vm n a us ts m ∧
  ∀ H' p, Same H H' → H p = none → H' p = some (.lst ((Krab.balance n ts m).map V.int)) → Q (.ref p) H'
theorem sc_balanceOf : FnScope ["how_often", "things", "told", "balances", "times", "comparison", "thing"] ["how_often", "things", "told"] (defScope sBalanceOf) := ⟨rfl, rfl, rfl, by decide +kernel, rfl, by decide +kernel, by decide +kernel⟩
theorem ok_balanceOf {f : Addr} {fd : FuncData} (F : Fun K "balance_of" "balance_of" sBalanceOf f fd) (T : Txt mg) : FnOk P w K mg base CX0 1 f fd ["how_often", "things", "told"] spBalanceOf := by
  refine F.ok sc_balanceOf (fun vs H Q E h => ?_) (fun cdv A outer s H vs Q E hr h => ?_)
  · obtain ⟨F, vm, n, a, us, ts, m, rfl, _⟩ := h
    rfl
  · obtain ⟨G, vm, n, a, us, ts, m, rfl, ⟨sG, ⟨am, rfl, hm⟩, ⟨ha, pc⟩, tok, hml, n1, n4, t6⟩, q⟩ := h
    refine ⟨_, pss_cons (ps_set (i := 3) sc_balanceOf.nd rfl (Or.inl rfl) (pe_op op_rep (pe_lst (pa_cons pe_int pa_nil)) (pv 1)))
      (pss_cons (ps_for PassesOwn.never rfl (pi_zip (by rfl) T.zip (pa_cons (pv 0) (pa_cons (pv 2) pa_nil))) (pg_tup rfl (pgs_cons (pg_name (i := 4) sc_balanceOf.nd rfl (Or.inl rfl)) (pgs_cons (pg_name (i := 5) sc_balanceOf.nd rfl (Or.inl rfl)) pgs_nil)) (n := 2))
        (pss_one (ps_for PassesOwn.never rfl (pi_range1 (by rfl) T.range (pa_cons (pv 1) pa_nil)) (pg_name (i := 6) sc_balanceOf.nd rfl (Or.inl rfl))
          (pss_one (ps_augS (pv 3) (pv 6) get_list (pe_op op_mul (pv 4) (pe_op op_sub (pe_ix ix_list (pe_ix (ixSK K rfl) (pv 5) pe_int (fun _ _ => rfl)) (pv 6) (fun _ _ => rfl)) (pe_ix ix_list (pe_ix (ixSK K rfl) (pv 5) pe_int (fun _ _ => rfl)) (pv 6) (fun _ _ => rfl)))) ip_add set_list)))))
      (pss_one (ps_ret (pv 3)))), ?_⟩
    refine ⟨(by show 1 ≤ sizeLine; decide), fun l hl => ⟨_, rfl, l, _, _, rfl, rfl, upd_same, by omega, by omega, ?_, fun b hb => ?_⟩⟩
    · rw [Int.toNat_natCast]
      exact Nat.le_of_lt (small1000 (by show 1 * n ≤ 1000; omega))
    rw [Int.toNat_natCast, rep_zero]
    have s0 : Same H (upd H l (.lst [.int 0])) := same_upd hl
    have hbH : H b = none := s0.free hb
    have hcl := paired_len pc
    refine ⟨_, rfl, _, rfl, am, a, _, _, rfl, SqL.of (same_upd hb _ _ (s0 _ _ hm)), SqL.of (same_upd hb _ _ (s0 _ _ ha)), for_zip (xs := m.map nv) (ys := us) (fun j σ' H' => ∃ o4 o5 o6 : Option V, σ' = [some (.ref am), some (nv n), some (.ref a), some (.ref b), o4, o5, o6] ∧ Same H H' ∧ H' b = some (.lst (((List.range n).map (KM.balTo ts m j)).map V.int))) ?_
      (by rw [List.length_map, hcl, hml]) (fun j σ' H' _ ⟨_, _, _, _, sm, _⟩ => ⟨SqL.of (sm _ _ hm), SqL.of (sm _ _ ha)⟩) ?_ ?_⟩
    · exact ⟨none, none, none, rfl, s0.trans (same_upd hb), upd_same⟩
    · rintro j v1 v2 σ' H' U hv1 hv2 ⟨o4, o5, o6, rfl, sm, hbl⟩ hU
      rw [List.getElem?_map] at hv1
      obtain ⟨tm, htm, rfl⟩ := Option.map_eq_some_iff.mp hv1
      obtain ⟨tt, htt, cc, va, vb, rfl, hc, ⟨pa, rfl, hpa⟩, ⟨pb, rfl, hpb⟩⟩ := paired_left pc hv2
      have tk := tok tt (List.mem_of_getElem? htt)
      have smU : Same H (upd H' U (.tup [nv tm, .ref cc])) := sm.trans (same_upd hU)
      have hbU := same_upd (o := .tup [nv tm, .ref cc]) hU _ _ hbl
      refine ⟨U, _, rfl, SqT.of upd_same, rfl, _, _, rfl, _, _, rfl, rfl, ?_⟩
      refine ⟨_, rfl, (n : Int), rfl, by omega, by omega, for_range (n := (n : Int).toNat) (fun p σ2 H2 => ∃ o6 : Option V, σ2 = [some (.ref am), some (nv n), some (.ref a), some (.ref b), some (nv tm), some (.ref cc), o6] ∧ Same H H2 ∧ H2 b = some (.lst (((List.range n).map fun i => if i < p then KM.balTo ts m (j + 1) i else KM.balTo ts m j i).map V.int))) ?_ ?_ ?_⟩
      · refine ⟨o6, rfl, smU, ?_⟩
        rw [hbU]
        have e9 : (fun i => if i < 0 then KM.balTo ts m (j + 1) i else KM.balTo ts m j i) = KM.balTo ts m j := by
          funext i
          rw [if_neg (by omega)]
        rw [e9]
      · rintro p σ2 H2 hp ⟨o6, rfl, sm2, hb2⟩
        have hpn : p < n := by omega
        have e0 : (0 : Int) + (p : Nat) = ((p : Nat) : Int) := Int.zero_add _
        rw [e0]
        have hc2 : H2 cc = some (.lst [nv tt.kind, .ref pa, .ref pb]) ∨ H2 cc = some (.tup [nv tt.kind, .ref pa, .ref pb]) := hc.elim (fun z => .inl (sm2 _ _ (sG _ _ z))) fun z => .inr (sm2 _ _ (sG _ _ z))
        have ga : (tt.a.map nv)[p]? = some (nv (tt.a.getD p 0)) := atI_getD (by rw [tk.la]; exact hpn)
        have gb : (tt.b.map nv)[p]? = some (nv (tt.b.getD p 0)) := atI_getD (by rw [tk.lb]; exact hpn)
        have ba : tt.a.getD p 0 ≤ 3 := by
          rw [List.getD_eq_getElem?_getD, List.getElem?_eq_getElem (by rw [tk.la]; exact hpn)]
          exact tk.a3 _ (List.getElem_mem _)
        have bb : tt.b.getD p 0 ≤ 3 := by
          rw [List.getD_eq_getElem?_getD, List.getElem?_eq_getElem (by rw [tk.lb]; exact hpn)]
          exact tk.b3 _ (List.getElem_mem _)
        refine ⟨_, rfl, _, rfl, b, _, p, _, rfl, rfl, SqL.of hb2, at_ints _ hpn, _, rfl, _, rfl, ix_cmp (i := 1) hc2 rfl ⟨_, rfl, pa, _, _, _, rfl, rfl, SqL.of (sm2 _ _ (sG _ _ hpa)), atI_nat ga, _, rfl, ix_cmp (i := 2) hc2 rfl ⟨_, rfl, pb, _, _, _, rfl, rfl, SqL.of (sm2 _ _ (sG _ _ hpb)), atI_nat gb, _, _, rfl, rfl, _, _, rfl, rfl, .inr ⟨by omega, by omega⟩, _, _, rfl, rfl,
          b, _, _, p, rfl, rfl, hb2, ixN_nat (by rw [List.length_map, List.length_map, List.length_range]; exact hpn), some _, rfl, same_off sm2 hbH, ?_⟩⟩⟩
        rw [upd_same, set_ints]
        have et : KM.term ts m p j = (tm : Int) * ((tt.a.getD p 0 : Int) - (tt.b.getD p 0 : Int)) := by
          unfold KM.term
          rw [getD_of htm, getD_of htt]
        have e9 : ((List.range n).map fun i => if i = p then (if p < p then KM.balTo ts m (j + 1) p else KM.balTo ts m j p) + (tm : Int) * ((tt.a.getD p 0 : Int) - (tt.b.getD p 0 : Int)) else if i < p then KM.balTo ts m (j + 1) i else KM.balTo ts m j i) =
            (List.range n).map fun i => if i < p + 1 then KM.balTo ts m (j + 1) i else KM.balTo ts m j i := List.map_congr_left fun i _ => by
          by_cases c : i = p
          · subst c
            rw [if_pos rfl, if_neg (Nat.lt_irrefl _), if_pos (Nat.lt_succ_self _), KM.balTo_succ, et]
          · rw [if_neg c]
            by_cases c2 : i < p
            · rw [if_pos c2, if_pos (by omega)]
            · rw [if_neg c2, if_neg (by omega)]
        rw [← e9]
      · rintro σ2 H2 ⟨o6, rfl, sm2, hb2⟩
        refine ⟨some (nv tm), some (.ref cc), o6, rfl, sm2, ?_⟩
        rw [hb2]
        have e9 : ((List.range n).map fun i => if i < (n : Int).toNat then KM.balTo ts m (j + 1) i else KM.balTo ts m j i) = (List.range n).map (KM.balTo ts m (j + 1)) := List.map_congr_left fun i hi => by
          have := List.mem_range.mp hi
          rw [if_pos (by omega)]
        rw [e9]
    · rintro σ' H' ⟨o4, o5, o6, rfl, sm, hbl⟩
      refine ⟨_, rfl, q H' b sm hbH ?_⟩
      rw [hbl, List.length_map, hml, KM.balance_eq]
/-! ## tells_of_more -/
def spTellsOfMore : Sp := fun vs H Q _ => ∃ (F : Hp) (vm : V) (n : Nat) (a : Addr) (us : List V) (ts : List Krab.Told) (m : List Nat), vs = [vm, .ref a] ∧ Often F H vm n a us ts m ∧
  ∀ H', Same H H' → Q (.bl ((List.range ts.length).any (KM.moreB ts m))) H'
theorem sc_tellsOfMore : FnScope ["how_often", "told", "times", "comparison"] ["how_often", "told"] (defScope sTellsOfMore) := ⟨rfl, rfl, rfl, by decide +kernel, rfl, by decide +kernel, by decide +kernel⟩
theorem ok_tellsOfMore {f : Addr} {fd : FuncData} (F : Fun K "tells_of_more" "tells_of_more" sTellsOfMore f fd) (T : Txt mg) : FnOk P w K mg base CX0 1 f fd ["how_often", "told"] spTellsOfMore := by
  refine F.ok sc_tellsOfMore (fun vs H Q E h => ?_) (fun cdv A outer s H vs Q E hr h => ?_)
  · obtain ⟨F, vm, n, a, us, ts, m, rfl, _⟩ := h
    rfl
  · obtain ⟨G, vm, n, a, us, ts, m, rfl, ⟨sG, ⟨am, rfl, hm⟩, ⟨ha, pc⟩, tok, hml, n1, n4, t6⟩, q⟩ := h
    obtain ⟨t0, e0⟩ := T.more
    refine ⟨_, pss_one (ps_ret (pe_callB (cr_any rfl) (by rfl) T.any bt_any (pa_cons (pe_lc (own := [("times", 2), ("comparison", 3)]) rfl sc_tellsOfMore.nd
        (pi_zip (by rfl) T.zip (pa_cons (pv 0) (pa_cons (pv 1) pa_nil)))
        (blkOk_by (by show blkC ["how_often", "told", "times", "comparison"] (defScope sTellsOfMore) _ _ = true; decide +kernel))
        (fun _ _ _ _ _ => pgtK (n := 2) K rfl rfl (pgs_cons (pg_name (i := 2) sc_tellsOfMore.nd rfl (Or.inl rfl)) (pgs_cons (pg_name (i := 3) sc_tellsOfMore.nd rfl (Or.inl rfl)) pgs_nil)))
        (fun _ _ _ _ _ => pts_nil) (fun _ _ _ _ _ => pe_and (pe_cmpR op_gt (pv 2) pe_int (nomark _)) (pe_one (pe_cmpR op_eq (pe_ix (ixSK K rfl) (pv 3) pe_int (fun _ _ => rfl)) (pe_glob (v := .int 0) rfl e0 ⟨_, rfl⟩) (nomark _))))) pa_nil))), ?_⟩
    have hcl := paired_len pc
    refine ⟨_, rfl, _, rfl, am, a, _, _, rfl, SqL.of hm, SqL.of ha, fun D hD =>
      lc_zip (xs := m.map nv) (ys := us) (fun i H' => Same H H' ∧ H' D = some (.lst (((List.range i).map (KM.moreB ts m)).map V.bl))) ⟨same_upd hD, upd_same⟩ (by rw [List.length_map, hcl, hml])
        (fun i H' _ z => ⟨SqL.of (z.1 _ _ hm), SqL.of (z.1 _ _ ha)⟩) ?_ ?_⟩
    · rintro i v1 v2 H' U hv1 hv2 ⟨sm, hd⟩ hU
      rw [List.getElem?_map] at hv1
      obtain ⟨tm, htm, rfl⟩ := Option.map_eq_some_iff.mp hv1
      obtain ⟨tt, htt, cc, va, vb, rfl, hc, _, _⟩ := paired_left pc hv2
      have hi6 : i < 6 := by
        have := (List.getElem?_eq_some_iff.mp htt).1
        omega
      have sm2 : Same H (upd H' U (.tup [nv tm, .ref cc])) := sm.trans (same_upd hU)
      have hc2 : (upd H' U (.tup [nv tm, .ref cc])) cc = some (.lst [nv tt.kind, va, vb]) ∨ (upd H' U (.tup [nv tm, .ref cc])) cc = some (.tup [nv tt.kind, va, vb]) := hc.elim (fun z => .inl (sm2 _ _ (sG _ _ z))) fun z => .inr (sm2 _ _ (sG _ _ z))
      have fin : ∀ bb : Bool, bb = KM.moreB ts m i → ∃ acc, (upd H' U (.tup [nv tm, .ref cc])) D = some (HO.lst acc) ∧ acc.length < sizeLine ∧ Same H (upd (upd H' U (.tup [nv tm, .ref cc])) D (.lst (acc ++ [V.bl bb]))) ∧
          upd (upd H' U (.tup [nv tm, .ref cc])) D (.lst (acc ++ [V.bl bb])) D = some (.lst (((List.range (i + 1)).map (KM.moreB ts m)).map V.bl)) := fun bb eb => by
        refine ⟨_, same_upd hU _ _ hd, ?_, same_off sm2 hD, ?_⟩
        · rw [List.length_map, List.length_map, List.length_range]
          exact small1000 (by omega)
        · rw [upd_same, List.range_succ, List.map_append, List.map_append, eb]
          rfl
      have em : KM.moreB ts m i = (decide (0 < tm) && tt.kind == 0) := by
        unfold KM.moreB
        rw [getD_of htm, getD_of htt]
      refine ⟨U, _, rfl, SqT.of upd_same, rfl, _, _, rfl, _, _, rfl, rfl, rfl, ?_⟩
      refine iteT (B := True) ⟨_, rfl, _, _, rfl, rfl, _, rfl, ?_⟩
      refine ite2 (fun c1 => ?_) fun c1 => ?_
      · have k1 : 0 < tm := by have := of_decide_eq_true c1; omega
        refine ⟨_, rfl, ix_cmp (i := 0) hc2 rfl ⟨rfl, fin _ ?_⟩⟩
        rw [em, decide_eq_true k1, Bool.true_and]
        show decide _ = decide (tt.kind = 0)
        exact decide_eq_decide.mpr ⟨fun z => by have := V.int.inj z; omega, fun z => by rw [z]; rfl⟩
      · have k1 : ¬ 0 < tm := fun z => c1 (decide_eq_true (by omega))
        refine fin _ ?_
        rw [em, decide_eq_false k1, Bool.false_and]
    · rintro H' ⟨sm, hd⟩
      rw [List.length_map, hml] at hd
      refine ⟨D, _, rfl, SqL.of hd, ?_⟩
      have e3 : (((List.range ts.length).map (KM.moreB ts m)).any id) = (List.range ts.length).any (KM.moreB ts m) := by
        rw [List.any_map]
        rfl
      rw [e3]
      exact q H' sm
/-! ## does_cancel -/
def spDoesCancel : Sp := fun vs H Q _ => ∃ (F : Hp) (vm : V) (n : Nat) (a : Addr) (us : List V) (ts : List Krab.Told) (m : List Nat), vs = [vm, nv n, .ref a] ∧ Often F H vm n a us ts m ∧
  ∀ H', Same H H' → Q (.bl (Krab.cancels n ts m)) H'
theorem sc_doesCancel : FnScope ["how_often", "things", "told", "balances"] ["how_often", "things", "told"] (defScope sDoesCancel) := ⟨rfl, rfl, rfl, by decide +kernel, rfl, by decide +kernel, by decide +kernel⟩
theorem ok_doesCancel {f : Addr} {fd : FuncData} (F : Fun K "does_cancel" "does_cancel" sDoesCancel f fd) (T : Txt mg) (D : Ds K mg) : FnOk P w K mg base CX0 2 f fd ["how_often", "things", "told"] spDoesCancel := by
  obtain ⟨fb, fdb, FB, mB, bB⟩ := D.balanceOf.ex
  obtain ⟨ft, fdt, FT, mT, bT⟩ := D.tellsOfMore.ex
  have GB : FnOk P w K mg base CX0 1 fb fdb ["how_often", "things", "told"] spBalanceOf := ok_balanceOf FB T
  have GT : FnOk P w K mg base CX0 1 ft fdt ["how_often", "told"] spTellsOfMore := ok_tellsOfMore FT T
  refine F.ok sc_doesCancel (fun vs H Q E h => ?_) (fun cdv A outer s H vs Q E hr h => ?_)
  · obtain ⟨F, vm, n, a, us, ts, m, rfl, _⟩ := h
    rfl
  · obtain ⟨G, vm, n, a, us, ts, m, rfl, oft, q⟩ := h
    refine ⟨_, pss_cons (ps_set (i := 3) sc_doesCancel.nd rfl (Or.inl rfl) (pe_call GB hr rfl mB FB.kp bB .nil pass0 (pa_cons (pv 0) (pa_cons (pv 1) (pa_cons (pv 2) pa_nil)))))
      (pss_one (ps_ret (pe_and (pe_cmpR op_le (pe_callB (cr_max rfl) (by rfl) T.max boot_max (pa_cons (pv 3) pa_nil)) pe_int (nomark _))
        (pe_one (pe_or (pe_cmpR op_lt (pe_callB (cr_min rfl) (by rfl) T.min boot_min (pa_cons (pv 3) pa_nil)) pe_int (nomark _)) (pe_one (pe_call GT hr rfl mT FT.kp bT .nil pass0 (pa_cons (pv 0) (pa_cons (pv 2) pa_nil))))))))), ?_⟩
    refine ⟨_, rfl, _, rfl, _, rfl, G, vm, n, a, us, ts, m, rfl, oft, fun H1 p s1 hp hb => ?_⟩
    have hpos : 0 < (Krab.balance n ts m).length := by
      rw [KM.balance_eq, List.length_map, List.length_range]
      exact oft.n1
    refine ⟨_, rfl, p, _, rfl, SqL.of hb, hpos, fun mx a1 a2 => ⟨_, _, rfl, rfl, _, rfl, ?_⟩⟩
    refine ite2 (fun c1 => ?_) fun c1 => ?_
    · refine ⟨_, rfl, p, _, rfl, SqL.of hb, hpos, fun mn b1 b2 => ⟨_, _, rfl, rfl, _, rfl, ?_⟩⟩
      have ec := KM.cancels_eq (n := n) (l := ts) (m := m) rfl a1 a2 b1 b2
      rw [c1, Bool.true_and] at ec
      refine ite2 (fun c2 => ?_) fun c2 => ?_
      · rw [c2, Bool.true_or] at ec
        have r := q H1 s1
        rw [ec] at r
        exact r
      · rw [Bool.eq_false_iff.mpr c2, Bool.false_or] at ec
        refine ⟨_, rfl, _, rfl, G, vm, n, a, us, ts, m, rfl, oft.up s1, fun H2 s2 => ?_⟩
        have r := q H2 (s1.trans s2)
        rw [ec] at r
        exact r
    · obtain ⟨b1, b2⟩ : ∃ mn : Int, mn ∈ Krab.balance n ts m ∧ ∀ y ∈ Krab.balance n ts m, mn ≤ y := exists_min _ hpos
      have ec := KM.cancels_eq (n := n) (l := ts) (m := m) rfl a1 a2 b2.1 b2.2
      rw [Bool.eq_false_iff.mpr c1, Bool.false_and] at ec
      have r := q H1 s1
      rw [ec] at r
      exact r
/-! ## all_that_cancel -/
def spAllThatCancel : Sp := fun vs H Q _ => ∃ (F : Hp) (n : Nat) (a : Addr) (us : List V) (ts : List Krab.Told), vs = [nv n, .ref a] ∧ Same F H ∧ TellsAt F H a us ts ∧ (∀ t ∈ ts, KM.TOk n t) ∧ 1 ≤ n ∧ n ≤ 4 ∧ ts.length ≤ 6 ∧
  ∀ H' p ws, Same H H' → H' p = some (.lst ws) → Paired (Nums H') ws ((Krab.often ts.length).filter fun m => Krab.cancels n ts m) → Q (.ref p) H'
theorem sc_allThatCancel : FnScope ["things", "told", "how_often"] ["things", "told"] (defScope sAllThatCancel) := ⟨rfl, rfl, rfl, by decide +kernel, rfl, by decide +kernel, by decide +kernel⟩
theorem ok_allThatCancel {f : Addr} {fd : FuncData} (F : Fun K "all_that_cancel" "all_that_cancel" sAllThatCancel f fd) (T : Txt mg) (D : Ds K mg) : FnOk P w K mg base CX0 3 f fd ["things", "told"] spAllThatCancel := by
  obtain ⟨fl, fdl, FL, mL, bL⟩ := D.allLists.ex
  obtain ⟨fd', fdd, FD, mD, bD⟩ := D.doesCancel.ex
  have GL : FnOk P w K mg base CX0 1 fl fdl ["length", "lowest", "highest"] spAllLists := ok_allLists FL T
  have GD : FnOk P w K mg base CX0 2 fd' fdd ["how_often", "things", "told"] spDoesCancel := ok_doesCancel FD T D
  refine F.ok sc_allThatCancel (fun vs H Q E h => ?_) (fun cdv A outer s H vs Q E hr h => ?_)
  · obtain ⟨F, n, a, us, ts, rfl, _⟩ := h
    rfl
  · obtain ⟨G, n, a, us, ts, rfl, sG, ⟨ha, pc⟩, tok, n1, n4, t6, q⟩ := h
    obtain ⟨t3, e3⟩ := T.mostTimes
    have hr1 : Room 1 _ := hr.mono (by decide)
    refine ⟨_, pss_one (ps_ret (pe_lc (own := [("how_often", 2)]) rfl sc_allThatCancel.nd (pi_list (pe_call GL hr1 rfl mL FL.kp bL .nil pass0 (pa_cons (pe_callB call_len_seq (by rfl) T.len PySem.boot_len (pa_cons (pv 1) pa_nil)) (pa_cons pe_int (pa_cons (pe_glob (v := .int 3) rfl e3 ⟨_, rfl⟩) pa_nil)))))
      (blkOk_by (by show blkC ["things", "told", "how_often"] (defScope sAllThatCancel) _ _ = true; decide +kernel)) (fun _ _ _ _ _ => pg_name (i := 2) sc_allThatCancel.nd rfl (Or.inl rfl))
      (fun _ _ _ _ _ => pts_one (pt_val (pe_call GD hr rfl mD FD.kp bD .nil pass0 (pa_cons (pv 2) (pa_cons (pv 0) (pa_cons (pv 1) pa_nil)))))) (fun _ _ _ _ _ => pv 2))), ?_⟩
    have hcl := paired_len pc
    refine ⟨_, rfl, a, _, rfl, .inl (SqL.of ha), G, us.length, 0, 3, 4, rfl, sG, rfl, by decide, by decide, by decide, by omega, pow46 (by omega), fun H1 F1 v1 s1 x1 r1 => ?_⟩
    rw [hcl, KM.often_lists] at r1
    obtain ⟨al, ws, rfl, hal, pw⟩ := r1
    have hoc : (Krab.often ts.length).length ≤ 4096 := by
      rw [KM.often_count]
      exact pow46 t6
    refine ⟨al, rfl, ⟨_, SqL.of (x1.le _ _ hal)⟩, fun D hD => lc_list (xs := ws) (fun i H' => Same H1 H' ∧ ∃ us', H' D = some (.lst us') ∧ Paired (Nums F1) us' (((Krab.often ts.length).take i).filter fun m => Krab.cancels n ts m)) ⟨same_upd hD, _, upd_same, .nil⟩ (fun i H' _ z => SqL.of (z.1 _ _ (x1.le _ _ hal))) ?_ ?_⟩
    · rintro i v H' hv ⟨sm, us', hd, pu⟩
      obtain ⟨m, hm, hnv⟩ := paired_left pw hv
      have hlen : us'.length ≤ 4096 := by
        rw [paired_len pu]
        refine Nat.le_trans (List.length_filter_le _ _) ?_
        rw [List.length_take]
        omega
      have hml : m.length = ts.length := KM.often_len _ m (List.mem_of_getElem? hm)
      have smH : Same H H' := s1.trans sm
      refine ⟨rfl, _, rfl, _, rfl, _, rfl, G, v, n, a, us, ts, m, rfl, ⟨sG.trans smH, hnv.mono (x1.le.trans sm), ⟨smH _ _ ha, pc⟩, tok, hml, n1, n4, t6⟩, fun H2 s2 => ⟨_, rfl, ?_⟩⟩
      have hd2 := s2 _ _ hd
      refine ite2 (fun c => ?_) fun c => ?_
      · refine ⟨_, rfl, us', hd2, small4096 hlen, same_off (sm.trans s2) hD, _, upd_same, ?_⟩
        rw [take_snoc hm, List.filter_append]
        refine paired_append pu ?_
        rw [List.filter_cons, if_pos c]
        exact .cons hnv .nil
      · refine ⟨sm.trans s2, us', hd2, ?_⟩
        rw [take_snoc hm, List.filter_append, List.filter_cons, if_neg c, List.filter_nil, List.append_nil]
        exact pu
    · rintro H' ⟨sm, us', hd, pu⟩
      rw [paired_len pw, List.take_length] at pu
      exact q H' D us' (s1.trans sm) hd (paired_mono (fun _ _ z => z.mono (x1.le.trans sm)) pu)
end
end KP

end
section
set_option Elab.async false
set_option linter.all false
set_option maxRecDepth 100000
set_option maxHeartbeats 4000000
namespace KP
open PySem PySem.Spec PyProof.Rows L2 KG KR
theorem times_iff {h : Krab.House} {m : List Nat} {us : List V} (e : us.length = h.told.length) : (m.length == us.length && m.all fun x => decide (x ≤ 3)) = h.times m := by
  rw [e]
  rfl
theorem times_len {h : Krab.House} {m : List Nat} (e : h.times m = true) : m.length = h.told.length := by
  unfold Krab.House.times at e
  rw [Bool.and_eq_true] at e
  exact eq_of_beq e.1
section
variable {P : Program} {w : World} {K : PySem.W.Frag} {mg : Str → Option Value} {base : Heap}
/-! ## cancels -/
theorem sc_cancels : FnScope ["weighing", "given"] ["weighing", "given"] (defScope sCancels) := ⟨rfl, rfl, rfl, by decide +kernel, rfl, by decide +kernel, by decide +kernel⟩
theorem ok_cancels {f C : Addr} {fd : FuncData} (F : Fun K "cancels" "cancels" sCancels f fd) (T : Txt mg) (T0 : Cl0 K mg C) (TC : Cn mg) (D : Ds K mg) : FnOk P w K mg base CX0 3 f fd ["weighing", "given"] (spCmd C 17) := by
  obtain ⟨fi, fdi, FI, mI, bI⟩ := D.isHowOften.ex
  obtain ⟨fd', fdd, FD, mD, bD⟩ := D.doesCancel.ex
  obtain ⟨fo, fdo, FO, mO, bO⟩ := D.oneOrZero.ex
  have GI : FnOk P w K mg base CX0 1 fi fdi ["given", "told"] spIsHowOften := ok_isHowOften FI T
  have GD : FnOk P w K mg base CX0 2 fd' fdd ["how_often", "things", "told"] spDoesCancel := ok_doesCancel FD T D
  have GO : FnOk P w K mg base CX0 1 fo fdo ["holds"] spOneOrZero := ok_oneOrZero FO
  refine F.ok sc_cancels sp_len (fun cdv A outer s H vs Q E hr h => ?_)
  obtain ⟨G, wa, t, gv, st, c, q, rfl, hk, co, gi, wg, hs, k⟩ := h
  obtain ⟨hh, rfl⟩ := hs.resolve_left (by decide)
  obtain ⟨ck, ca, crs⟩ := c
  obtain rfl : ck = 17 := hk
  obtain ⟨raw, fm⟩ := co.form
  have fm : KM.Form raw 17 ca crs q := fm
  have hr1 : Room 1 _ := hr.mono (by decide)
  obtain ⟨tn, en⟩ := TC.notRight
  refine ⟨_, pss_cons (ps_if (pt_not (pt_val (pe_call GI hr1 rfl mI FI.kp bI .nil pass0 (pa_cons (pe_ix ix_list (pv 1) pe_int (fun _ _ => rfl)) (pa_cons (pe_fld (pv 0) rfl) pa_nil))))) (pss_one (ps_ret (pe_lst (pa_cons (pe_glob (v := .int (-22)) rfl en ⟨_, rfl⟩) pa_nil)))) pss_nil)
    (pss_one (ps_ret (pe_call GO hr1 rfl mO FO.kp bO .nil pass0 (pa_cons (pe_call GD hr rfl mD FD.kp bD .nil pass0 (pa_cons (pe_ix ix_list (pv 1) pe_int (fun _ _ => rfl)) (pa_cons (pe_fld (pv 0) rfl) (pa_cons (pe_fld (pv 0) rfl) pa_nil)))) pa_nil)))), ?_⟩
  obtain ⟨x, rfl, rfl, rfl⟩ := KM.form_inv fm
  focus
    obtain ⟨g, vx, rfl, hg, hx⟩ := given_row gi
    have hsm : x.length < 256 := co.small x (List.mem_singleton.mpr rfl)
    obtain ⟨dx, n, ff, us, h1, h2, rfl, n1, n4, t6, tok, pc, af, ws, rfl, hf, pf⟩ := id wg.obj
    have ed : KM.due (some hh) (.cancels x) = nums (if hh.times x = false then Krab.say (-22) else Krab.say (if Krab.cancels hh.n hh.told x then 1 else 0)) := rfl
    refine ⟨_, rfl, g, _, _, _, rfl, rfl, SqL.of (wg.le _ _ hg), atI_nat (j := 0) rfl, _, rfl, wa, C, dx, _, _, rfl, h1, T0.cl, T0.nTo, wf_told _ _ _, vx, x, t, us, rfl, hx.mono wg.le, hsm, h2, fun H1 s1 => ⟨_, rfl, ?_⟩⟩
    rw [times_iff (paired_len pc)]
    refine ite2 (fun c0 => ?_) fun c0 => ?_
    · have e0 : hh.times x = false := by
        cases z : hh.times x with
        | false => rfl
        | true => rw [z] at c0; cases c0
      rw [if_pos e0] at ed
      exact ⟨(by show 1 ≤ sizeLine; decide), fun p hp => done_same (l := [-22]) wg s1 hp ed.symm k⟩
    · have e0 : hh.times x = true := by
        cases z : hh.times x with
        | true => rfl
        | false => rw [z] at c0; exact absurd rfl c0
      rw [if_neg (by rw [e0]; decide)] at ed
      refine ⟨_, rfl, g, _, _, _, rfl, rfl, SqL.of (s1 _ _ (wg.le _ _ hg)), atI_nat (j := 0) rfl, _, rfl, wa, C, dx, _, _, rfl, s1 _ _ h1, T0.cl, T0.nTh, wf_things _ _ _, _, rfl, wa, C, dx, _, _, rfl, s1 _ _ h1, T0.cl, T0.nTo, wf_told _ _ _, G, vx, hh.n, t, us, hh.told, x, rfl,
        ⟨wg.le.trans s1, hx.mono (wg.le.trans s1), ⟨s1 _ _ h2, pc⟩, tok, times_len e0, n1, n4, t6⟩, fun H2 s2 => ⟨_, rfl, fun p hp => ?_⟩⟩
      exact done_same (l := [if Krab.cancels hh.n hh.told x = true then 1 else 0]) wg (s1.trans s2) hp ed.symm k
/-! ## balance -/
theorem sc_balance : FnScope ["weighing", "given"] ["weighing", "given"] (defScope sBalance) := ⟨rfl, rfl, rfl, by decide +kernel, rfl, by decide +kernel, by decide +kernel⟩
theorem ok_balance {f C : Addr} {fd : FuncData} (F : Fun K "balance" "balance" sBalance f fd) (T : Txt mg) (T0 : Cl0 K mg C) (TC : Cn mg) (D : Ds K mg) : FnOk P w K mg base CX0 2 f fd ["weighing", "given"] (spCmd C 19) := by
  obtain ⟨fi, fdi, FI, mI, bI⟩ := D.isHowOften.ex
  obtain ⟨fb, fdb, FB, mB, bB⟩ := D.balanceOf.ex
  have GI : FnOk P w K mg base CX0 1 fi fdi ["given", "told"] spIsHowOften := ok_isHowOften FI T
  have GB : FnOk P w K mg base CX0 1 fb fdb ["how_often", "things", "told"] spBalanceOf := ok_balanceOf FB T
  refine F.ok sc_balance sp_len (fun cdv A outer s H vs Q E hr h => ?_)
  obtain ⟨G, wa, t, gv, st, c, q, rfl, hk, co, gi, wg, hs, k⟩ := h
  obtain ⟨hh, rfl⟩ := hs.resolve_left (by decide)
  obtain ⟨ck, ca, crs⟩ := c
  obtain rfl : ck = 19 := hk
  obtain ⟨raw, fm⟩ := co.form
  have fm : KM.Form raw 19 ca crs q := fm
  obtain ⟨tn, en⟩ := TC.notRight
  refine ⟨_, pss_cons (ps_if (pt_not (pt_val (pe_call GI hr rfl mI FI.kp bI .nil pass0 (pa_cons (pe_ix ix_list (pv 1) pe_int (fun _ _ => rfl)) (pa_cons (pe_fld (pv 0) rfl) pa_nil))))) (pss_one (ps_ret (pe_lst (pa_cons (pe_glob (v := .int (-22)) rfl en ⟨_, rfl⟩) pa_nil)))) pss_nil)
    (pss_one (ps_ret (pe_op op_cat (pe_lst (pa_cons (pe_fld (pv 0) rfl) pa_nil)) (pe_call GB hr rfl mB FB.kp bB .nil pass0 (pa_cons (pe_ix ix_list (pv 1) pe_int (fun _ _ => rfl)) (pa_cons (pe_fld (pv 0) rfl) (pa_cons (pe_fld (pv 0) rfl) pa_nil))))))), ?_⟩
  obtain ⟨x, rfl, rfl, rfl⟩ := KM.form_inv fm
  focus
    obtain ⟨g, vx, rfl, hg, hx⟩ := given_row gi
    have hsm : x.length < 256 := co.small x (List.mem_singleton.mpr rfl)
    obtain ⟨dx, n, ff, us, h1, h2, rfl, n1, n4, t6, tok, pc, af, ws, rfl, hf, pf⟩ := id wg.obj
    have ed : KM.due (some hh) (.balance x) = nums (if hh.times x = false then Krab.say (-22) else ({ num := hh.n, nums := Krab.balance hh.n hh.told x } : Krab.Ans)) := rfl
    refine ⟨_, rfl, g, _, _, _, rfl, rfl, SqL.of (wg.le _ _ hg), atI_nat (j := 0) rfl, _, rfl, wa, C, dx, _, _, rfl, h1, T0.cl, T0.nTo, wf_told _ _ _, vx, x, t, us, rfl, hx.mono wg.le, hsm, h2, fun H1 s1 => ⟨_, rfl, ?_⟩⟩
    rw [times_iff (paired_len pc)]
    refine ite2 (fun c0 => ?_) fun c0 => ?_
    · have e0 : hh.times x = false := by
        cases z : hh.times x with
        | false => rfl
        | true => rw [z] at c0; cases c0
      rw [if_pos e0] at ed
      exact ⟨(by show 1 ≤ sizeLine; decide), fun p hp => done_same (l := [-22]) wg s1 hp ed.symm k⟩
    · have e0 : hh.times x = true := by
        cases z : hh.times x with
        | true => rfl
        | false => rw [z] at c0; exact absurd rfl c0
      rw [if_neg (by rw [e0]; decide)] at ed
      refine ⟨_, rfl, wa, C, dx, _, _, rfl, s1 _ _ h1, T0.cl, T0.nTh, wf_things _ _ _, (by show 1 ≤ sizeLine; decide), fun e he => ?_⟩
      have sm := s1.trans (same_upd (o := .lst [nv hh.n]) he)
      refine ⟨_, rfl, g, _, _, _, rfl, rfl, SqL.of (sm _ _ (wg.le _ _ hg)), atI_nat (j := 0) rfl, _, rfl, wa, C, dx, _, _, rfl, sm _ _ h1, T0.cl, T0.nTh, wf_things _ _ _, _, rfl, wa, C, dx, _, _, rfl, sm _ _ h1, T0.cl, T0.nTo, wf_told _ _ _, G, vx, hh.n, t, us, hh.told, x, rfl,
        ⟨wg.le.trans sm, hx.mono (wg.le.trans sm), ⟨sm _ _ h2, pc⟩, tok, times_len e0, n1, n4, t6⟩, fun H2 p2 s2 hp2 hb => ?_⟩
      refine ⟨e, p2, _, _, rfl, rfl, s2 _ _ upd_same, hb, ?_, fun p hp => ?_⟩
      · rw [List.length_map, KM.balance_eq, List.length_map, List.length_range]
        exact Nat.le_of_lt (small1000 (by show 1 + hh.n ≤ 1000; omega))
      · have e1 : ([nv hh.n] ++ (Krab.balance hh.n hh.told x).map V.int) = ((hh.n : Int) :: Krab.balance hh.n hh.told x).map V.int := rfl
        rw [e1]
        exact done_same wg (sm.trans s2) hp ed.symm k
/-! ## cancel -/
theorem sc_cancel : FnScope ["weighing", "given", "found", "how_often"] ["weighing", "given"] (defScope sCancel) := ⟨rfl, rfl, rfl, by decide +kernel, rfl, by decide +kernel, by decide +kernel⟩
theorem ok_cancel {f C : Addr} {fd : FuncData} (F : Fun K "cancel" "cancel" sCancel f fd) (T : Txt mg) (T0 : Cl0 K mg C) (TC : Cn mg) (D : Ds K mg) : FnOk P w K mg base CX0 4 f fd ["weighing", "given"] (spCmd C 18) := by
  obtain ⟨fc, fdc, FC, mC, bC⟩ := D.allThatCancel.ex
  have GC : FnOk P w K mg base CX0 3 fc fdc ["things", "told"] spAllThatCancel := ok_allThatCancel FC T D
  refine F.ok sc_cancel sp_len (fun cdv A outer s H vs Q E hr h => ?_)
  obtain ⟨G, wa, t, gv, st, c, q, rfl, hk, co, gi, wg, hs, k⟩ := h
  obtain ⟨hh, rfl⟩ := hs.resolve_left (by decide)
  obtain ⟨ck, ca, crs⟩ := c
  obtain rfl : ck = 18 := hk
  obtain ⟨raw, fm⟩ := co.form
  have fm : KM.Form raw 18 ca crs q := fm
  obtain ⟨dx, n, ff, us, h1, h2, rfl, n1, n4, t6, tok, pc, af, ws, rfl, hf, pf⟩ := id wg.obj
  obtain ⟨tn, en⟩ := TC.thereIsNone
  refine ⟨_, pss_cons (ps_set (i := 2) sc_cancel.nd rfl (Or.inl rfl) (pe_call GC hr rfl mC FC.kp bC .nil pass0 (pa_cons (pe_fld (pv 0) rfl) (pa_cons (pe_fld (pv 0) rfl) pa_nil))))
    (pss_cons (ps_if (pt_cmpR op_eq (pe_callB call_len_seq (by rfl) T.len PySem.boot_len (pa_cons (pv 2) pa_nil)) pe_int (nomark _)) (pss_one (ps_ret (pe_lst (pa_cons (pe_glob (v := .int (-33)) rfl en ⟨_, rfl⟩) pa_nil)))) pss_nil)
    (pss_cons (ps_set (i := 3) sc_cancel.nd rfl (Or.inl rfl) (pe_minSum rfl (by rfl) TC.min (by rfl) T.sum (pv 2)))
    (pss_one (ps_ret (pe_op op_cat (pe_lst (pa_cons (pe_callB (cr_sum rfl) (by rfl) T.sum boot_sum (pa_cons (pv 3) pa_nil)) pa_nil)) (pv 3)))))), ?_⟩
  obtain ⟨rfl, rfl, rfl⟩ := KM.form_inv fm
  have ed : KM.due (some hh) .cancel = nums (match Krab.least ((Krab.often hh.told.length).filter fun m => Krab.cancels hh.n hh.told m) with
    | none => Krab.say (-33)
    | some x => ({ num := Krab.total x, nums := Krab.ints x } : Krab.Ans)) := rfl
  refine ⟨_, rfl, wa, C, dx, _, _, rfl, h1, T0.cl, T0.nTh, wf_things _ _ _, _, rfl, wa, C, dx, _, _, rfl, h1, T0.cl, T0.nTo, wf_told _ _ _, G, hh.n, t, us, hh.told, rfl, wg.le, ⟨h2, pc⟩, tok, n1, n4, t6, fun H1 p1 ws1 s1 hp1 pw => ?_⟩
  obtain ⟨ps, rfl, hps⟩ := rows_refs pw
  have hlen := paired_len hps
  refine ⟨_, rfl, p1, _, rfl, .inl (SqL.of hp1), rfl, _, rfl, ?_⟩
  rw [List.length_map, hlen]
  refine ite2 (fun c0 => ?_) fun c0 => ?_
  · have e0 : ((Krab.often hh.told.length).filter fun m => Krab.cancels hh.n hh.told m) = [] := List.eq_nil_of_length_eq_zero (by have := V.int.inj (of_decide_eq_true c0); omega)
    rw [e0] at ed
    exact ⟨(by show 1 ≤ sizeLine; decide), fun p hp => done_same (l := [-33]) wg s1 hp ed.symm k⟩
  · have hne : 0 < ((Krab.often hh.told.length).filter fun m => Krab.cancels hh.n hh.told m).length := by
      rcases Nat.eq_zero_or_pos ((Krab.often hh.told.length).filter fun m => Krab.cancels hh.n hh.told m).length with z | z
      · exact absurd (decide_eq_true (by rw [z]; rfl)) c0
      · exact z
    refine ⟨_, rfl, p1, ps, _, rfl, SqL.of hp1, paired_ints (Same.refl _) hps, by omega, fun i p ns hi hn hb => ?_⟩
    obtain ⟨x, hx, hpx⟩ := paired_left hps hi
    rw [List.getElem?_map, hx] at hn
    obtain rfl : KM.zints x = ns := Option.some.inj hn
    have hxl : x.length = hh.told.length := KM.often_len _ x (List.mem_filter.mp (List.mem_of_getElem? hx)).1
    have hl : Krab.least ((Krab.often hh.told.length).filter fun m => Krab.cancels hh.n hh.told m) = some x := KM.least_at hx fun j y hy => by
      have := hb j (KM.zints y) (by rw [List.getElem?_map, hy]; rfl)
      rw [KM.sum_ints, KM.sum_ints] at this
      exact ⟨by omega, fun z => by have := this.2 z; omega⟩
    rw [hl] at ed
    refine ⟨_, rfl, p, KM.zints x, rfl, (by rw [KR.ints_map]; exact SqL.of hpx), (by show 1 ≤ sizeLine; decide), fun e he => ⟨_, rfl, e, p, _, _, rfl, rfl, upd_same, same_upd he _ _ hpx, ?_, fun p2 hp2 => ?_⟩⟩
    · rw [List.length_map, hxl]
      exact Nat.le_of_lt (small1000 (by show 1 + hh.told.length ≤ 1000; omega))
    · have e1 : ([V.int (KM.zints x).sum] ++ x.map nv) = ((KM.zints x).sum :: KM.zints x).map V.int := by
        rw [List.map_cons, KR.ints_map]
        rfl
      rw [e1]
      refine done_same wg (s1.trans (same_upd he)) hp2 ?_ k
      rw [ed, KM.sum_ints]
      rfl
end
end KP

end
section
set_option Elab.async false
set_option linter.all false
set_option maxRecDepth 100000
set_option maxHeartbeats 4000000
namespace KP
open PySem PySem.Spec PyProof.Rows L2 KG KR
theorem df_mk {K : PySem.W.Frag} {h : Heap} {mg : Str → Option Value} {x : Str} {st : Stmt} {ps : List Str} (X : K.In h) (G : h.Ns mainGlobals mg) {f : Addr} {oc : Value} {od an : Option Addr} {osl : Array (Option Value)} {kV doc pm cdv ct : Value} (a : PySem.W.nsIn K mainGlobals x = some (some (.ref f)))
    (l : K.lookup f = some ⟨oc, od, .func (PySem.W.fnOf x x (defArgs st) (defBody st) (defScope st) .none kV doc pm an cdv ct), osl⟩) (c : PySem.W.codeIn K cdv x = true) (k : PySem.W.keepIn K (.ref f) = true)
    (hb : ∀ (kV doc pm : Value) (an : Option Addr) (cdv ct : Value) (us : List Value), us.length = ps.length → bindArgs (PySem.W.fnOf x x (defArgs st) (defBody st) (defScope st) .none kV doc pm an cdv ct) ⟨us, []⟩ = pure (ps.zip us)) : Df K mg x st ps :=
  ⟨f, _, fun_mk l c k, PySem.W.mg_of X G a, (fun_mk (st := st) l c k).binds hb⟩
theorem int_mk {K : PySem.W.Frag} {h : Heap} {mg : Str → Option Value} {x : Str} {n : Int} {t : Tok} (X : K.In h) (G : h.Ns mainGlobals mg) (a : PySem.W.nsIn K mainGlobals x = some (some (.int n t))) : ∃ t, mg x = some (.int n t) := ⟨t, PySem.W.mg_of X G a⟩
theorem row_mk {K : PySem.W.Frag} {tp f : Addr} {a b : Nat} {o : Option Addr} {n : Nat} {sl : Array (Option Value)} {x y : Tok} (l : K.lookup tp = some ⟨.type "tuple", o, .seq #[.ref f, .int (a : Int) x, .int (b : Int) y] n, sl⟩) (H : Hp) : SqT K H tp [.ref f, nv a, nv b] :=
  .inr ⟨_, _, _, l, rfl, rfl, (by show 3 ≤ sizeLine; decide), .cons rfl (.cons ⟨_, rfl⟩ (.cons ⟨_, rfl⟩ .nil))⟩
/-- a def of the table, its promise at level M -/
theorem cmd_mk {P : Program} {w : World} {K : PySem.W.Frag} {mg : Str → Option Value} {base : Heap} {j M : Nat} {f : Addr} {fd : FuncData} {sp : Sp} {ps : List Str} (F : FnOk P w K mg base CX0 j f fd ps sp) (h : j ≤ M) (kp : PySem.W.keepIn K (.ref f) = true) (b : Binds K fd ps []) :
    ∃ fd, FnOk P w K mg base CX0 M f fd ps sp ∧ PySem.W.keepIn K (.ref f) = true ∧ Binds K fd ps [] := ⟨fd, F.mono h, kp, b⟩
theorem all_mk {P : Program} {w : World} {K : PySem.W.Frag} {h : Heap} {mg : Str → Option Value} (KX : K.In h) (G : h.Ns mainGlobals mg) {fa C cT fI : Addr}
    (hfa : mg "answers" = some (.ref fa))
    {f0 : Addr} {oc0 kV0 dc0 pm0 cd0 ct0 : Value} {od0 an0 : Option Addr} {sl0 : Array (Option Value)}
    {f1 : Addr} {oc1 kV1 dc1 pm1 cd1 ct1 : Value} {od1 an1 : Option Addr} {sl1 : Array (Option Value)}
    {f2 : Addr} {oc2 kV2 dc2 pm2 cd2 ct2 : Value} {od2 an2 : Option Addr} {sl2 : Array (Option Value)}
    {f3 : Addr} {oc3 kV3 dc3 pm3 cd3 ct3 : Value} {od3 an3 : Option Addr} {sl3 : Array (Option Value)}
    {f4 : Addr} {oc4 kV4 dc4 pm4 cd4 ct4 : Value} {od4 an4 : Option Addr} {sl4 : Array (Option Value)}
    {f5 : Addr} {oc5 kV5 dc5 pm5 cd5 ct5 : Value} {od5 an5 : Option Addr} {sl5 : Array (Option Value)}
    {f6 : Addr} {oc6 kV6 dc6 pm6 cd6 ct6 : Value} {od6 an6 : Option Addr} {sl6 : Array (Option Value)}
    {f7 : Addr} {oc7 kV7 dc7 pm7 cd7 ct7 : Value} {od7 an7 : Option Addr} {sl7 : Array (Option Value)}
    {f8 : Addr} {oc8 kV8 dc8 pm8 cd8 ct8 : Value} {od8 an8 : Option Addr} {sl8 : Array (Option Value)}
    {f9 : Addr} {oc9 kV9 dc9 pm9 cd9 ct9 : Value} {od9 an9 : Option Addr} {sl9 : Array (Option Value)}
    {f10 : Addr} {oc10 kV10 dc10 pm10 cd10 ct10 : Value} {od10 an10 : Option Addr} {sl10 : Array (Option Value)}
    {f11 : Addr} {oc11 kV11 dc11 pm11 cd11 ct11 : Value} {od11 an11 : Option Addr} {sl11 : Array (Option Value)}
    {f12 : Addr} {oc12 kV12 dc12 pm12 cd12 ct12 : Value} {od12 an12 : Option Addr} {sl12 : Array (Option Value)}
    {f13 : Addr} {oc13 kV13 dc13 pm13 cd13 ct13 : Value} {od13 an13 : Option Addr} {sl13 : Array (Option Value)}
    {f14 : Addr} {oc14 kV14 dc14 pm14 cd14 ct14 : Value} {od14 an14 : Option Addr} {sl14 : Array (Option Value)}
    {f15 : Addr} {oc15 kV15 dc15 pm15 cd15 ct15 : Value} {od15 an15 : Option Addr} {sl15 : Array (Option Value)}
    {f16 : Addr} {oc16 kV16 dc16 pm16 cd16 ct16 : Value} {od16 an16 : Option Addr} {sl16 : Array (Option Value)}
    {f17 : Addr} {oc17 kV17 dc17 pm17 cd17 ct17 : Value} {od17 an17 : Option Addr} {sl17 : Array (Option Value)}
    {f18 : Addr} {oc18 kV18 dc18 pm18 cd18 ct18 : Value} {od18 an18 : Option Addr} {sl18 : Array (Option Value)}
    {f19 : Addr} {oc19 kV19 dc19 pm19 cd19 ct19 : Value} {od19 an19 : Option Addr} {sl19 : Array (Option Value)}
    {f20 : Addr} {oc20 kV20 dc20 pm20 cd20 ct20 : Value} {od20 an20 : Option Addr} {sl20 : Array (Option Value)}
    {f21 : Addr} {oc21 kV21 dc21 pm21 cd21 ct21 : Value} {od21 an21 : Option Addr} {sl21 : Array (Option Value)}
    {f22 : Addr} {oc22 kV22 dc22 pm22 cd22 ct22 : Value} {od22 an22 : Option Addr} {sl22 : Array (Option Value)}
    {f23 : Addr} {oc23 kV23 dc23 pm23 cd23 ct23 : Value} {od23 an23 : Option Addr} {sl23 : Array (Option Value)}
    {f24 : Addr} {oc24 kV24 dc24 pm24 cd24 ct24 : Value} {od24 an24 : Option Addr} {sl24 : Array (Option Value)}
    {f25 : Addr} {oc25 kV25 dc25 pm25 cd25 ct25 : Value} {od25 an25 : Option Addr} {sl25 : Array (Option Value)}
    {f26 : Addr} {oc26 kV26 dc26 pm26 cd26 ct26 : Value} {od26 an26 : Option Addr} {sl26 : Array (Option Value)}
    {f27 : Addr} {oc27 kV27 dc27 pm27 cd27 ct27 : Value} {od27 an27 : Option Addr} {sl27 : Array (Option Value)}
    {f28 : Addr} {oc28 kV28 dc28 pm28 cd28 ct28 : Value} {od28 an28 : Option Addr} {sl28 : Array (Option Value)}
    {f29 : Addr} {oc29 kV29 dc29 pm29 cd29 ct29 : Value} {od29 an29 : Option Addr} {sl29 : Array (Option Value)}
    {f30 : Addr} {oc30 kV30 dc30 pm30 cd30 ct30 : Value} {od30 an30 : Option Addr} {sl30 : Array (Option Value)}
    {f31 : Addr} {oc31 kV31 dc31 pm31 cd31 ct31 : Value} {od31 an31 : Option Addr} {sl31 : Array (Option Value)}
    {f32 : Addr} {oc32 kV32 dc32 pm32 cd32 ct32 : Value} {od32 an32 : Option Addr} {sl32 : Array (Option Value)}
    {f33 : Addr} {oc33 kV33 dc33 pm33 cd33 ct33 : Value} {od33 an33 : Option Addr} {sl33 : Array (Option Value)}
    {f34 : Addr} {oc34 kV34 dc34 pm34 cd34 ct34 : Value} {od34 an34 : Option Addr} {sl34 : Array (Option Value)}
    {f35 : Addr} {oc35 kV35 dc35 pm35 cd35 ct35 : Value} {od35 an35 : Option Addr} {sl35 : Array (Option Value)}
    {f36 : Addr} {oc36 kV36 dc36 pm36 cd36 ct36 : Value} {od36 an36 : Option Addr} {sl36 : Array (Option Value)}
    {f37 : Addr} {oc37 kV37 dc37 pm37 cd37 ct37 : Value} {od37 an37 : Option Addr} {sl37 : Array (Option Value)}
    {f38 : Addr} {oc38 kV38 dc38 pm38 cd38 ct38 : Value} {od38 an38 : Option Addr} {sl38 : Array (Option Value)}
    {f39 : Addr} {oc39 kV39 dc39 pm39 cd39 ct39 : Value} {od39 an39 : Option Addr} {sl39 : Array (Option Value)}
    {f40 : Addr} {oc40 kV40 dc40 pm40 cd40 ct40 : Value} {od40 an40 : Option Addr} {sl40 : Array (Option Value)}
    {f41 : Addr} {oc41 kV41 dc41 pm41 cd41 ct41 : Value} {od41 an41 : Option Addr} {sl41 : Array (Option Value)}
    {f42 : Addr} {oc42 kV42 dc42 pm42 cd42 ct42 : Value} {od42 an42 : Option Addr} {sl42 : Array (Option Value)}
    {f43 : Addr} {oc43 kV43 dc43 pm43 cd43 ct43 : Value} {od43 an43 : Option Addr} {sl43 : Array (Option Value)}
    {f44 : Addr} {oc44 kV44 dc44 pm44 cd44 ct44 : Value} {od44 an44 : Option Addr} {sl44 : Array (Option Value)}
    {f45 : Addr} {oc45 kV45 dc45 pm45 cd45 ct45 : Value} {od45 an45 : Option Addr} {sl45 : Array (Option Value)}
    {f46 : Addr} {oc46 kV46 dc46 pm46 cd46 ct46 : Value} {od46 an46 : Option Addr} {sl46 : Array (Option Value)}
    {f47 : Addr} {oc47 kV47 dc47 pm47 cd47 ct47 : Value} {od47 an47 : Option Addr} {sl47 : Array (Option Value)}
    {f48 : Addr} {oc48 kV48 dc48 pm48 cd48 ct48 : Value} {od48 an48 : Option Addr} {sl48 : Array (Option Value)}
    {ti0 : Tok}
    {ti1 : Tok}
    {ti2 : Tok}
    {ti3 : Tok}
    {ti4 : Tok}
    {ti5 : Tok}
    {ti6 : Tok}
    {ti7 : Tok}
    {ti8 : Tok}
    {ti9 : Tok}
    {ti10 : Tok}
    {ti11 : Tok}
    {ti12 : Tok}
    {ti13 : Tok}
    {ti14 : Tok}
    {ocI kVI dcI pmI cdI ctI : Value} {odI anI : Option Addr} {slI : Array (Option Value)}
    {odT : Option Addr} {nT : Nat} {slT : Array (Option Value)}
    {t0 t1 t2 t3 t4 t5 t6 t7 t8 t9 t10 t11 t12 t13 t14 t15 t16 t17 t18 t19 t20 t21 : Addr}
    {odT0 : Option Addr} {nT0 : Nat} {slT0 : Array (Option Value)} {xa0 xb0 : Tok}
    {odT1 : Option Addr} {nT1 : Nat} {slT1 : Array (Option Value)} {xa1 xb1 : Tok}
    {odT2 : Option Addr} {nT2 : Nat} {slT2 : Array (Option Value)} {xa2 xb2 : Tok}
    {odT3 : Option Addr} {nT3 : Nat} {slT3 : Array (Option Value)} {xa3 xb3 : Tok}
    {odT4 : Option Addr} {nT4 : Nat} {slT4 : Array (Option Value)} {xa4 xb4 : Tok}
    {odT5 : Option Addr} {nT5 : Nat} {slT5 : Array (Option Value)} {xa5 xb5 : Tok}
    {odT6 : Option Addr} {nT6 : Nat} {slT6 : Array (Option Value)} {xa6 xb6 : Tok}
    {odT7 : Option Addr} {nT7 : Nat} {slT7 : Array (Option Value)} {xa7 xb7 : Tok}
    {odT8 : Option Addr} {nT8 : Nat} {slT8 : Array (Option Value)} {xa8 xb8 : Tok}
    {odT9 : Option Addr} {nT9 : Nat} {slT9 : Array (Option Value)} {xa9 xb9 : Tok}
    {odT10 : Option Addr} {nT10 : Nat} {slT10 : Array (Option Value)} {xa10 xb10 : Tok}
    {odT11 : Option Addr} {nT11 : Nat} {slT11 : Array (Option Value)} {xa11 xb11 : Tok}
    {odT12 : Option Addr} {nT12 : Nat} {slT12 : Array (Option Value)} {xa12 xb12 : Tok}
    {odT13 : Option Addr} {nT13 : Nat} {slT13 : Array (Option Value)} {xa13 xb13 : Tok}
    {odT14 : Option Addr} {nT14 : Nat} {slT14 : Array (Option Value)} {xa14 xb14 : Tok}
    {odT15 : Option Addr} {nT15 : Nat} {slT15 : Array (Option Value)} {xa15 xb15 : Tok}
    {odT16 : Option Addr} {nT16 : Nat} {slT16 : Array (Option Value)} {xa16 xb16 : Tok}
    {odT17 : Option Addr} {nT17 : Nat} {slT17 : Array (Option Value)} {xa17 xb17 : Tok}
    {odT18 : Option Addr} {nT18 : Nat} {slT18 : Array (Option Value)} {xa18 xb18 : Tok}
    {odT19 : Option Addr} {nT19 : Nat} {slT19 : Array (Option Value)} {xa19 xb19 : Tok}
    {odT20 : Option Addr} {nT20 : Nat} {slT20 : Array (Option Value)} {xa20 xb20 : Tok}
    {odT21 : Option Addr} {nT21 : Nat} {slT21 : Array (Option Value)} {xa21 xb21 : Tok}
    (a0 : PySem.W.nsIn K mainGlobals "is_kind" = some (some (.ref f0)))
    (l0 : K.lookup f0 = some ⟨oc0, od0, .func (PySem.W.fnOf "is_kind" "is_kind" (defArgs (top 10)) (defBody (top 10)) (defScope (top 10)) .none kV0 dc0 pm0 an0 cd0 ct0), sl0⟩)
    (c0 : PySem.W.codeIn K cd0 "is_kind" = true)
    (k0 : PySem.W.keepIn K (.ref f0) = true)
    (a1 : PySem.W.nsIn K mainGlobals "is_side" = some (some (.ref f1)))
    (l1 : K.lookup f1 = some ⟨oc1, od1, .func (PySem.W.fnOf "is_side" "is_side" (defArgs (top 11)) (defBody (top 11)) (defScope (top 11)) .none kV1 dc1 pm1 an1 cd1 ct1), sl1⟩)
    (c1 : PySem.W.codeIn K cd1 "is_side" = true)
    (k1 : PySem.W.keepIn K (.ref f1) = true)
    (a2 : PySem.W.nsIn K mainGlobals "is_numbers" = some (some (.ref f2)))
    (l2 : K.lookup f2 = some ⟨oc2, od2, .func (PySem.W.fnOf "is_numbers" "is_numbers" (defArgs (top 12)) (defBody (top 12)) (defScope (top 12)) .none kV2 dc2 pm2 an2 cd2 ct2), sl2⟩)
    (c2 : PySem.W.codeIn K cd2 "is_numbers" = true)
    (k2 : PySem.W.keepIn K (.ref f2) = true)
    (a3 : PySem.W.nsIn K mainGlobals "is_how_often" = some (some (.ref f3)))
    (l3 : K.lookup f3 = some ⟨oc3, od3, .func (PySem.W.fnOf "is_how_often" "is_how_often" (defArgs (top 13)) (defBody (top 13)) (defScope (top 13)) .none kV3 dc3 pm3 an3 cd3 ct3), sl3⟩)
    (c3 : PySem.W.codeIn K cd3 "is_how_often" = true)
    (k3 : PySem.W.keepIn K (.ref f3) = true)
    (a4 : PySem.W.nsIn K mainGlobals "side_of" = some (some (.ref f4)))
    (l4 : K.lookup f4 = some ⟨oc4, od4, .func (PySem.W.fnOf "side_of" "side_of" (defArgs (top 14)) (defBody (top 14)) (defScope (top 14)) .none kV4 dc4 pm4 an4 cd4 ct4), sl4⟩)
    (c4 : PySem.W.codeIn K cd4 "side_of" = true)
    (k4 : PySem.W.keepIn K (.ref f4) = true)
    (a5 : PySem.W.nsIn K mainGlobals "all_lists" = some (some (.ref f5)))
    (l5 : K.lookup f5 = some ⟨oc5, od5, .func (PySem.W.fnOf "all_lists" "all_lists" (defArgs (top 15)) (defBody (top 15)) (defScope (top 15)) .none kV5 dc5 pm5 an5 cd5 ct5), sl5⟩)
    (c5 : PySem.W.codeIn K cd5 "all_lists" = true)
    (k5 : PySem.W.keepIn K (.ref f5) = true)
    (a6 : PySem.W.nsIn K mainGlobals "all_numbers" = some (some (.ref f6)))
    (l6 : K.lookup f6 = some ⟨oc6, od6, .func (PySem.W.fnOf "all_numbers" "all_numbers" (defArgs (top 16)) (defBody (top 16)) (defScope (top 16)) .none kV6 dc6 pm6 an6 cd6 ct6), sl6⟩)
    (c6 : PySem.W.codeIn K cd6 "all_numbers" = true)
    (k6 : PySem.W.keepIn K (.ref f6) = true)
    (a7 : PySem.W.nsIn K mainGlobals "comes_to" = some (some (.ref f7)))
    (l7 : K.lookup f7 = some ⟨oc7, od7, .func (PySem.W.fnOf "comes_to" "comes_to" (defArgs (top 17)) (defBody (top 17)) (defScope (top 17)) .none kV7 dc7 pm7 an7 cd7 ct7), sl7⟩)
    (c7 : PySem.W.codeIn K cd7 "comes_to" = true)
    (k7 : PySem.W.keepIn K (.ref f7) = true)
    (a8 : PySem.W.nsIn K mainGlobals "agrees" = some (some (.ref f8)))
    (l8 : K.lookup f8 = some ⟨oc8, od8, .func (PySem.W.fnOf "agrees" "agrees" (defArgs (top 18)) (defBody (top 18)) (defScope (top 18)) .none kV8 dc8 pm8 an8 cd8 ct8), sl8⟩)
    (c8 : PySem.W.codeIn K cd8 "agrees" = true)
    (k8 : PySem.W.keepIn K (.ref f8) = true)
    (a9 : PySem.W.nsIn K mainGlobals "agreeing" = some (some (.ref f9)))
    (l9 : K.lookup f9 = some ⟨oc9, od9, .func (PySem.W.fnOf "agreeing" "agreeing" (defArgs (top 19)) (defBody (top 19)) (defScope (top 19)) .none kV9 dc9 pm9 an9 cd9 ct9), sl9⟩)
    (c9 : PySem.W.codeIn K cd9 "agreeing" = true)
    (k9 : PySem.W.keepIn K (.ref f9) = true)
    (a10 : PySem.W.nsIn K mainGlobals "all_that_fit" = some (some (.ref f10)))
    (l10 : K.lookup f10 = some ⟨oc10, od10, .func (PySem.W.fnOf "all_that_fit" "all_that_fit" (defArgs (top 20)) (defBody (top 20)) (defScope (top 20)) .none kV10 dc10 pm10 an10 cd10 ct10), sl10⟩)
    (c10 : PySem.W.codeIn K cd10 "all_that_fit" = true)
    (k10 : PySem.W.keepIn K (.ref f10) = true)
    (a11 : PySem.W.nsIn K mainGlobals "agreed_set" = some (some (.ref f11)))
    (l11 : K.lookup f11 = some ⟨oc11, od11, .func (PySem.W.fnOf "agreed_set" "agreed_set" (defArgs (top 21)) (defBody (top 21)) (defScope (top 21)) .none kV11 dc11 pm11 an11 cd11 ct11), sl11⟩)
    (c11 : PySem.W.codeIn K cd11 "agreed_set" = true)
    (k11 : PySem.W.keepIn K (.ref f11) = true)
    (a12 : PySem.W.nsIn K mainGlobals "agreed_sets" = some (some (.ref f12)))
    (l12 : K.lookup f12 = some ⟨oc12, od12, .func (PySem.W.fnOf "agreed_sets" "agreed_sets" (defArgs (top 22)) (defBody (top 22)) (defScope (top 22)) .none kV12 dc12 pm12 an12 cd12 ct12), sl12⟩)
    (c12 : PySem.W.codeIn K cd12 "agreed_sets" = true)
    (k12 : PySem.W.keepIn K (.ref f12) = true)
    (a13 : PySem.W.nsIn K mainGlobals "some_agree" = some (some (.ref f13)))
    (l13 : K.lookup f13 = some ⟨oc13, od13, .func (PySem.W.fnOf "some_agree" "some_agree" (defArgs (top 23)) (defBody (top 23)) (defScope (top 23)) .none kV13 dc13 pm13 an13 cd13 ct13), sl13⟩)
    (c13 : PySem.W.codeIn K cd13 "some_agree" = true)
    (k13 : PySem.W.keepIn K (.ref f13) = true)
    (a14 : PySem.W.nsIn K mainGlobals "is_clash" = some (some (.ref f14)))
    (l14 : K.lookup f14 = some ⟨oc14, od14, .func (PySem.W.fnOf "is_clash" "is_clash" (defArgs (top 24)) (defBody (top 24)) (defScope (top 24)) .none kV14 dc14 pm14 an14 cd14 ct14), sl14⟩)
    (c14 : PySem.W.codeIn K cd14 "is_clash" = true)
    (k14 : PySem.W.keepIn K (.ref f14) = true)
    (a15 : PySem.W.nsIn K mainGlobals "balance_of" = some (some (.ref f15)))
    (l15 : K.lookup f15 = some ⟨oc15, od15, .func (PySem.W.fnOf "balance_of" "balance_of" (defArgs (top 25)) (defBody (top 25)) (defScope (top 25)) .none kV15 dc15 pm15 an15 cd15 ct15), sl15⟩)
    (c15 : PySem.W.codeIn K cd15 "balance_of" = true)
    (k15 : PySem.W.keepIn K (.ref f15) = true)
    (a16 : PySem.W.nsIn K mainGlobals "tells_of_more" = some (some (.ref f16)))
    (l16 : K.lookup f16 = some ⟨oc16, od16, .func (PySem.W.fnOf "tells_of_more" "tells_of_more" (defArgs (top 26)) (defBody (top 26)) (defScope (top 26)) .none kV16 dc16 pm16 an16 cd16 ct16), sl16⟩)
    (c16 : PySem.W.codeIn K cd16 "tells_of_more" = true)
    (k16 : PySem.W.keepIn K (.ref f16) = true)
    (a17 : PySem.W.nsIn K mainGlobals "does_cancel" = some (some (.ref f17)))
    (l17 : K.lookup f17 = some ⟨oc17, od17, .func (PySem.W.fnOf "does_cancel" "does_cancel" (defArgs (top 27)) (defBody (top 27)) (defScope (top 27)) .none kV17 dc17 pm17 an17 cd17 ct17), sl17⟩)
    (c17 : PySem.W.codeIn K cd17 "does_cancel" = true)
    (k17 : PySem.W.keepIn K (.ref f17) = true)
    (a18 : PySem.W.nsIn K mainGlobals "all_that_cancel" = some (some (.ref f18)))
    (l18 : K.lookup f18 = some ⟨oc18, od18, .func (PySem.W.fnOf "all_that_cancel" "all_that_cancel" (defArgs (top 28)) (defBody (top 28)) (defScope (top 28)) .none kV18 dc18 pm18 an18 cd18 ct18), sl18⟩)
    (c18 : PySem.W.codeIn K cd18 "all_that_cancel" = true)
    (k18 : PySem.W.keepIn K (.ref f18) = true)
    (a19 : PySem.W.nsIn K mainGlobals "one_or_zero" = some (some (.ref f19)))
    (l19 : K.lookup f19 = some ⟨oc19, od19, .func (PySem.W.fnOf "one_or_zero" "one_or_zero" (defArgs (top 36)) (defBody (top 36)) (defScope (top 36)) .none kV19 dc19 pm19 an19 cd19 ct19), sl19⟩)
    (c19 : PySem.W.codeIn K cd19 "one_or_zero" = true)
    (k19 : PySem.W.keepIn K (.ref f19) = true)
    (a20 : PySem.W.nsIn K mainGlobals "begin" = some (some (.ref f20)))
    (l20 : K.lookup f20 = some ⟨oc20, od20, .func (PySem.W.fnOf "begin" "begin" (defArgs (top 37)) (defBody (top 37)) (defScope (top 37)) .none kV20 dc20 pm20 an20 cd20 ct20), sl20⟩)
    (c20 : PySem.W.codeIn K cd20 "begin" = true)
    (k20 : PySem.W.keepIn K (.ref f20) = true)
    (a21 : PySem.W.nsIn K mainGlobals "is_comparison" = some (some (.ref f21)))
    (l21 : K.lookup f21 = some ⟨oc21, od21, .func (PySem.W.fnOf "is_comparison" "is_comparison" (defArgs (top 38)) (defBody (top 38)) (defScope (top 38)) .none kV21 dc21 pm21 an21 cd21 ct21), sl21⟩)
    (c21 : PySem.W.codeIn K cd21 "is_comparison" = true)
    (k21 : PySem.W.keepIn K (.ref f21) = true)
    (a22 : PySem.W.nsIn K mainGlobals "tell_one_more" = some (some (.ref f22)))
    (l22 : K.lookup f22 = some ⟨oc22, od22, .func (PySem.W.fnOf "tell_one_more" "tell_one_more" (defArgs (top 39)) (defBody (top 39)) (defScope (top 39)) .none kV22 dc22 pm22 an22 cd22 ct22), sl22⟩)
    (c22 : PySem.W.codeIn K cd22 "tell_one_more" = true)
    (k22 : PySem.W.keepIn K (.ref f22) = true)
    (a23 : PySem.W.nsIn K mainGlobals "tell" = some (some (.ref f23)))
    (l23 : K.lookup f23 = some ⟨oc23, od23, .func (PySem.W.fnOf "tell" "tell" (defArgs (top 40)) (defBody (top 40)) (defScope (top 40)) .none kV23 dc23 pm23 an23 cd23 ct23), sl23⟩)
    (c23 : PySem.W.codeIn K cd23 "tell" = true)
    (k23 : PySem.W.keepIn K (.ref f23) = true)
    (a24 : PySem.W.nsIn K mainGlobals "differ" = some (some (.ref f24)))
    (l24 : K.lookup f24 = some ⟨oc24, od24, .func (PySem.W.fnOf "differ" "differ" (defArgs (top 41)) (defBody (top 41)) (defScope (top 41)) .none kV24 dc24 pm24 an24 cd24 ct24), sl24⟩)
    (c24 : PySem.W.codeIn K cd24 "differ" = true)
    (k24 : PySem.W.keepIn K (.ref f24) = true)
    (a25 : PySem.W.nsIn K mainGlobals "untell" = some (some (.ref f25)))
    (l25 : K.lookup f25 = some ⟨oc25, od25, .func (PySem.W.fnOf "untell" "untell" (defArgs (top 42)) (defBody (top 42)) (defScope (top 42)) .none kV25 dc25 pm25 an25 cd25 ct25), sl25⟩)
    (c25 : PySem.W.codeIn K cd25 "untell" = true)
    (k25 : PySem.W.keepIn K (.ref f25) = true)
    (a26 : PySem.W.nsIn K mainGlobals "can" = some (some (.ref f26)))
    (l26 : K.lookup f26 = some ⟨oc26, od26, .func (PySem.W.fnOf "can" "can" (defArgs (top 43)) (defBody (top 43)) (defScope (top 43)) .none kV26 dc26 pm26 an26 cd26 ct26), sl26⟩)
    (c26 : PySem.W.codeIn K cd26 "can" = true)
    (k26 : PySem.W.keepIn K (.ref f26) = true)
    (a27 : PySem.W.nsIn K mainGlobals "ways" = some (some (.ref f27)))
    (l27 : K.lookup f27 = some ⟨oc27, od27, .func (PySem.W.fnOf "ways" "ways" (defArgs (top 44)) (defBody (top 44)) (defScope (top 44)) .none kV27 dc27 pm27 an27 cd27 ct27), sl27⟩)
    (c27 : PySem.W.codeIn K cd27 "ways" = true)
    (k27 : PySem.W.keepIn K (.ref f27) = true)
    (a28 : PySem.W.nsIn K mainGlobals "least" = some (some (.ref f28)))
    (l28 : K.lookup f28 = some ⟨oc28, od28, .func (PySem.W.fnOf "least" "least" (defArgs (top 45)) (defBody (top 45)) (defScope (top 45)) .none kV28 dc28 pm28 an28 cd28 ct28), sl28⟩)
    (c28 : PySem.W.codeIn K cd28 "least" = true)
    (k28 : PySem.W.keepIn K (.ref f28) = true)
    (a29 : PySem.W.nsIn K mainGlobals "nth" = some (some (.ref f29)))
    (l29 : K.lookup f29 = some ⟨oc29, od29, .func (PySem.W.fnOf "nth" "nth" (defArgs (top 46)) (defBody (top 46)) (defScope (top 46)) .none kV29 dc29 pm29 an29 cd29 ct29), sl29⟩)
    (c29 : PySem.W.codeIn K cd29 "nth" = true)
    (k29 : PySem.W.keepIn K (.ref f29) = true)
    (a30 : PySem.W.nsIn K mainGlobals "not_agreed_with" = some (some (.ref f30)))
    (l30 : K.lookup f30 = some ⟨oc30, od30, .func (PySem.W.fnOf "not_agreed_with" "not_agreed_with" (defArgs (top 47)) (defBody (top 47)) (defScope (top 47)) .none kV30 dc30 pm30 an30 cd30 ct30), sl30⟩)
    (c30 : PySem.W.codeIn K cd30 "not_agreed_with" = true)
    (k30 : PySem.W.keepIn K (.ref f30) = true)
    (a31 : PySem.W.nsIn K mainGlobals "fits" = some (some (.ref f31)))
    (l31 : K.lookup f31 = some ⟨oc31, od31, .func (PySem.W.fnOf "fits" "fits" (defArgs (top 48)) (defBody (top 48)) (defScope (top 48)) .none kV31 dc31 pm31 an31 cd31 ct31), sl31⟩)
    (c31 : PySem.W.codeIn K cd31 "fits" = true)
    (k31 : PySem.W.keepIn K (.ref f31) = true)
    (a32 : PySem.W.nsIn K mainGlobals "wrong" = some (some (.ref f32)))
    (l32 : K.lookup f32 = some ⟨oc32, od32, .func (PySem.W.fnOf "wrong" "wrong" (defArgs (top 49)) (defBody (top 49)) (defScope (top 49)) .none kV32 dc32 pm32 an32 cd32 ct32), sl32⟩)
    (c32 : PySem.W.codeIn K cd32 "wrong" = true)
    (k32 : PySem.W.keepIn K (.ref f32) = true)
    (a33 : PySem.W.nsIn K mainGlobals "follows" = some (some (.ref f33)))
    (l33 : K.lookup f33 = some ⟨oc33, od33, .func (PySem.W.fnOf "follows" "follows" (defArgs (top 50)) (defBody (top 50)) (defScope (top 50)) .none kV33 dc33 pm33 an33 cd33 ct33), sl33⟩)
    (c33 : PySem.W.codeIn K cd33 "follows" = true)
    (k33 : PySem.W.keepIn K (.ref f33) = true)
    (a34 : PySem.W.nsIn K mainGlobals "may" = some (some (.ref f34)))
    (l34 : K.lookup f34 = some ⟨oc34, od34, .func (PySem.W.fnOf "may" "may" (defArgs (top 51)) (defBody (top 51)) (defScope (top 51)) .none kV34 dc34 pm34 an34 cd34 ct34), sl34⟩)
    (c34 : PySem.W.codeIn K cd34 "may" = true)
    (k34 : PySem.W.keepIn K (.ref f34) = true)
    (a35 : PySem.W.nsIn K mainGlobals "more" = some (some (.ref f35)))
    (l35 : K.lookup f35 = some ⟨oc35, od35, .func (PySem.W.fnOf "more" "more" (defArgs (top 52)) (defBody (top 52)) (defScope (top 52)) .none kV35 dc35 pm35 an35 cd35 ct35), sl35⟩)
    (c35 : PySem.W.codeIn K cd35 "more" = true)
    (k35 : PySem.W.keepIn K (.ref f35) = true)
    (a36 : PySem.W.nsIn K mainGlobals "least_and_greatest" = some (some (.ref f36)))
    (l36 : K.lookup f36 = some ⟨oc36, od36, .func (PySem.W.fnOf "least_and_greatest" "least_and_greatest" (defArgs (top 53)) (defBody (top 53)) (defScope (top 53)) .none kV36 dc36 pm36 an36 cd36 ct36), sl36⟩)
    (c36 : PySem.W.codeIn K cd36 "least_and_greatest" = true)
    (k36 : PySem.W.keepIn K (.ref f36) = true)
    (a37 : PySem.W.nsIn K mainGlobals "range_of" = some (some (.ref f37)))
    (l37 : K.lookup f37 = some ⟨oc37, od37, .func (PySem.W.fnOf "range_of" "range_of" (defArgs (top 54)) (defBody (top 54)) (defScope (top 54)) .none kV37 dc37 pm37 an37 cd37 ct37), sl37⟩)
    (c37 : PySem.W.codeIn K cd37 "range_of" = true)
    (k37 : PySem.W.keepIn K (.ref f37) = true)
    (a38 : PySem.W.nsIn K mainGlobals "sums" = some (some (.ref f38)))
    (l38 : K.lookup f38 = some ⟨oc38, od38, .func (PySem.W.fnOf "sums" "sums" (defArgs (top 55)) (defBody (top 55)) (defScope (top 55)) .none kV38 dc38 pm38 an38 cd38 ct38), sl38⟩)
    (c38 : PySem.W.codeIn K cd38 "sums" = true)
    (k38 : PySem.W.keepIn K (.ref f38) = true)
    (a39 : PySem.W.nsIn K mainGlobals "clashes" = some (some (.ref f39)))
    (l39 : K.lookup f39 = some ⟨oc39, od39, .func (PySem.W.fnOf "clashes" "clashes" (defArgs (top 56)) (defBody (top 56)) (defScope (top 56)) .none kV39 dc39 pm39 an39 cd39 ct39), sl39⟩)
    (c39 : PySem.W.codeIn K cd39 "clashes" = true)
    (k39 : PySem.W.keepIn K (.ref f39) = true)
    (a40 : PySem.W.nsIn K mainGlobals "spare" = some (some (.ref f40)))
    (l40 : K.lookup f40 = some ⟨oc40, od40, .func (PySem.W.fnOf "spare" "spare" (defArgs (top 57)) (defBody (top 57)) (defScope (top 57)) .none kV40 dc40 pm40 an40 cd40 ct40), sl40⟩)
    (c40 : PySem.W.codeIn K cd40 "spare" = true)
    (k40 : PySem.W.keepIn K (.ref f40) = true)
    (a41 : PySem.W.nsIn K mainGlobals "cancels" = some (some (.ref f41)))
    (l41 : K.lookup f41 = some ⟨oc41, od41, .func (PySem.W.fnOf "cancels" "cancels" (defArgs (top 58)) (defBody (top 58)) (defScope (top 58)) .none kV41 dc41 pm41 an41 cd41 ct41), sl41⟩)
    (c41 : PySem.W.codeIn K cd41 "cancels" = true)
    (k41 : PySem.W.keepIn K (.ref f41) = true)
    (a42 : PySem.W.nsIn K mainGlobals "cancel" = some (some (.ref f42)))
    (l42 : K.lookup f42 = some ⟨oc42, od42, .func (PySem.W.fnOf "cancel" "cancel" (defArgs (top 59)) (defBody (top 59)) (defScope (top 59)) .none kV42 dc42 pm42 an42 cd42 ct42), sl42⟩)
    (c42 : PySem.W.codeIn K cd42 "cancel" = true)
    (k42 : PySem.W.keepIn K (.ref f42) = true)
    (a43 : PySem.W.nsIn K mainGlobals "balance" = some (some (.ref f43)))
    (l43 : K.lookup f43 = some ⟨oc43, od43, .func (PySem.W.fnOf "balance" "balance" (defArgs (top 60)) (defBody (top 60)) (defScope (top 60)) .none kV43 dc43 pm43 an43 cd43 ct43), sl43⟩)
    (c43 : PySem.W.codeIn K cd43 "balance" = true)
    (k43 : PySem.W.keepIn K (.ref f43) = true)
    (a44 : PySem.W.nsIn K mainGlobals "look" = some (some (.ref f44)))
    (l44 : K.lookup f44 = some ⟨oc44, od44, .func (PySem.W.fnOf "look" "look" (defArgs (top 61)) (defBody (top 61)) (defScope (top 61)) .none kV44 dc44 pm44 an44 cd44 ct44), sl44⟩)
    (c44 : PySem.W.codeIn K cd44 "look" = true)
    (k44 : PySem.W.keepIn K (.ref f44) = true)
    (a45 : PySem.W.nsIn K mainGlobals "state" = some (some (.ref f45)))
    (l45 : K.lookup f45 = some ⟨oc45, od45, .func (PySem.W.fnOf "state" "state" (defArgs (top 62)) (defBody (top 62)) (defScope (top 62)) .none kV45 dc45 pm45 an45 cd45 ct45), sl45⟩)
    (c45 : PySem.W.codeIn K cd45 "state" = true)
    (k45 : PySem.W.keepIn K (.ref f45) = true)
    (a46 : PySem.W.nsIn K mainGlobals "read_calls" = some (some (.ref f46)))
    (l46 : K.lookup f46 = some ⟨oc46, od46, .func (PySem.W.fnOf "read_calls" "read_calls" (defArgs (top 65)) (defBody (top 65)) (defScope (top 65)) .none kV46 dc46 pm46 an46 cd46 ct46), sl46⟩)
    (c46 : PySem.W.codeIn K cd46 "read_calls" = true)
    (k46 : PySem.W.keepIn K (.ref f46) = true)
    (a47 : PySem.W.nsIn K mainGlobals "answer" = some (some (.ref f47)))
    (l47 : K.lookup f47 = some ⟨oc47, od47, .func (PySem.W.fnOf "answer" "answer" (defArgs (top 66)) (defBody (top 66)) (defScope (top 66)) .none kV47 dc47 pm47 an47 cd47 ct47), sl47⟩)
    (c47 : PySem.W.codeIn K cd47 "answer" = true)
    (k47 : PySem.W.keepIn K (.ref f47) = true)
    (a48 : PySem.W.nsIn K mainGlobals "answers" = some (some (.ref f48)))
    (l48 : K.lookup f48 = some ⟨oc48, od48, .func (PySem.W.fnOf "answers" "answers" (defArgs (top 67)) (defBody (top 67)) (defScope (top 67)) .none kV48 dc48 pm48 an48 cd48 ct48), sl48⟩)
    (c48 : PySem.W.codeIn K cd48 "answers" = true)
    (k48 : PySem.W.keepIn K (.ref f48) = true)
    (i0 : PySem.W.nsIn K mainGlobals "MOST_THINGS" = some (some (.int (4) ti0)))
    (i1 : PySem.W.nsIn K mainGlobals "MOST_OFTEN" = some (some (.int (3) ti1)))
    (i2 : PySem.W.nsIn K mainGlobals "MOST_TIMES" = some (some (.int (3) ti2)))
    (i3 : PySem.W.nsIn K mainGlobals "LEAST_NUMBER" = some (some (.int (1) ti3)))
    (i4 : PySem.W.nsIn K mainGlobals "GREATEST_NUMBER" = some (some (.int (8) ti4)))
    (i5 : PySem.W.nsIn K mainGlobals "MORE" = some (some (.int (0) ti5)))
    (i6 : PySem.W.nsIn K mainGlobals "NO_LESS" = some (some (.int (1) ti6)))
    (i7 : PySem.W.nsIn K mainGlobals "AS_MUCH" = some (some (.int (2) ti7)))
    (i8 : PySem.W.nsIn K mainGlobals "MOST_TOLD" = some (some (.int (6) ti8)))
    (i9 : PySem.W.nsIn K mainGlobals "NONE_SUCH" = some (some (.int (-2) ti9)))
    (i10 : PySem.W.nsIn K mainGlobals "NOT_BEGUN" = some (some (.int (-11) ti10)))
    (i11 : PySem.W.nsIn K mainGlobals "NOT_RIGHT" = some (some (.int (-22) ti11)))
    (i12 : PySem.W.nsIn K mainGlobals "TOO_MANY" = some (some (.int (-28) ti12)))
    (i13 : PySem.W.nsIn K mainGlobals "THERE_IS_NONE" = some (some (.int (-33) ti13)))
    (i14 : PySem.W.nsIn K mainGlobals "BEGIN" = some (some (.int (0) ti14)))
    (z0 : PySem.W.nsIn K mainGlobals "len" = some none)
    (z1 : PySem.W.nsIn K mainGlobals "all" = some none)
    (z2 : PySem.W.nsIn K mainGlobals "sum" = some none)
    (z3 : PySem.W.nsIn K mainGlobals "range" = some none)
    (z4 : PySem.W.nsIn K mainGlobals "zip" = some none)
    (z5 : PySem.W.nsIn K mainGlobals "min" = some none)
    (z6 : PySem.W.nsIn K mainGlobals "max" = some none)
    (z7 : PySem.W.nsIn K mainGlobals "enumerate" = some none)
    (z8 : PySem.W.nsIn K mainGlobals "tuple" = some none)
    (z9 : PySem.W.nsIn K mainGlobals "any" = some none)
    (z10 : PySem.W.nsIn K mainGlobals "sorted" = some none)
    (aC : PySem.W.nsIn K mainGlobals "Weighing" = some (some (.ref C)))
    (a_I : PySem.W.findIn K (.ref C) "__init__" = some (some (.ref fI)))
    (i_I : PySem.W.isFn K (.ref fI) = true)
    (l_I : K.lookup fI = some ⟨ocI, odI, .func (PySem.W.fnOf "__init__" "Weighing.__init__" (defArgs sInit) (defBody sInit) (defScope sInit) .none kVI dcI pmI anI cdI ctI), slI⟩)
    (c_I : PySem.W.codeIn K cdI "Weighing.__init__" = true)
    (k_I : PySem.W.keepIn K (.ref fI) = true)
    (pg : PySem.W.plainGet K C Str.empty = true)
    (hd : PySem.W.hasDictIn K C = true)
    (po : PySem.W.plainOver K C = true)
    (sa : PySem.W.findIn K (.ref C) "__setattr__" = some (some (.builtin "object.__setattr__")))
    (mk : PySem.W.makesIn K C = true)
    (kc : PySem.W.keepIn K (.ref C) = true)
    (n0 : PySem.W.findIn K (.ref C) "things" = some none)
    (n1 : PySem.W.findIn K (.ref C) "told" = some none)
    (n2 : PySem.W.findIn K (.ref C) "fitting" = some none)
    (aT : PySem.W.nsIn K mainGlobals "CALLS" = some (some (.ref cT)))
    (lT : K.lookup cT = some ⟨.type "tuple", odT, .seq #[.ref t0, .ref t1, .ref t2, .ref t3, .ref t4, .ref t5, .ref t6, .ref t7, .ref t8, .ref t9, .ref t10, .ref t11, .ref t12, .ref t13, .ref t14, .ref t15, .ref t16, .ref t17, .ref t18, .ref t19, .ref t20, .ref t21] nT, slT⟩)
    (lT0 : K.lookup t0 = some ⟨.type "tuple", odT0, .seq #[.ref f20, .int 1 xa0, .int 0 xb0] nT0, slT0⟩)
    (lT1 : K.lookup t1 = some ⟨.type "tuple", odT1, .seq #[.ref f23, .int 1 xa1, .int 2 xb1] nT1, slT1⟩)
    (lT2 : K.lookup t2 = some ⟨.type "tuple", odT2, .seq #[.ref f24, .int 5 xa2, .int 0 xb2] nT2, slT2⟩)
    (lT3 : K.lookup t3 = some ⟨.type "tuple", odT3, .seq #[.ref f25, .int 1 xa3, .int 0 xb3] nT3, slT3⟩)
    (lT4 : K.lookup t4 = some ⟨.type "tuple", odT4, .seq #[.ref f26, .int 0 xa4, .int 0 xb4] nT4, slT4⟩)
    (lT5 : K.lookup t5 = some ⟨.type "tuple", odT5, .seq #[.ref f27, .int 0 xa5, .int 0 xb5] nT5, slT5⟩)
    (lT6 : K.lookup t6 = some ⟨.type "tuple", odT6, .seq #[.ref f28, .int 0 xa6, .int 0 xb6] nT6, slT6⟩)
    (lT7 : K.lookup t7 = some ⟨.type "tuple", odT7, .seq #[.ref f29, .int 1 xa7, .int 0 xb7] nT7, slT7⟩)
    (lT8 : K.lookup t8 = some ⟨.type "tuple", odT8, .seq #[.ref f31, .int 0 xa8, .int 1 xb8] nT8, slT8⟩)
    (lT9 : K.lookup t9 = some ⟨.type "tuple", odT9, .seq #[.ref f32, .int 0 xa9, .int 1 xb9] nT9, slT9⟩)
    (lT10 : K.lookup t10 = some ⟨.type "tuple", odT10, .seq #[.ref f33, .int 1 xa10, .int 2 xb10] nT10, slT10⟩)
    (lT11 : K.lookup t11 = some ⟨.type "tuple", odT11, .seq #[.ref f34, .int 1 xa11, .int 2 xb11] nT11, slT11⟩)
    (lT12 : K.lookup t12 = some ⟨.type "tuple", odT12, .seq #[.ref f35, .int 2 xa12, .int 0 xb12] nT12, slT12⟩)
    (lT13 : K.lookup t13 = some ⟨.type "tuple", odT13, .seq #[.ref f37, .int 1 xa13, .int 0 xb13] nT13, slT13⟩)
    (lT14 : K.lookup t14 = some ⟨.type "tuple", odT14, .seq #[.ref f38, .int 0 xa14, .int 1 xb14] nT14, slT14⟩)
    (lT15 : K.lookup t15 = some ⟨.type "tuple", odT15, .seq #[.ref f39, .int 0 xa15, .int 0 xb15] nT15, slT15⟩)
    (lT16 : K.lookup t16 = some ⟨.type "tuple", odT16, .seq #[.ref f40, .int 0 xa16, .int 0 xb16] nT16, slT16⟩)
    (lT17 : K.lookup t17 = some ⟨.type "tuple", odT17, .seq #[.ref f41, .int 0 xa17, .int 1 xb17] nT17, slT17⟩)
    (lT18 : K.lookup t18 = some ⟨.type "tuple", odT18, .seq #[.ref f42, .int 0 xa18, .int 0 xb18] nT18, slT18⟩)
    (lT19 : K.lookup t19 = some ⟨.type "tuple", odT19, .seq #[.ref f43, .int 0 xa19, .int 1 xb19] nT19, slT19⟩)
    (lT20 : K.lookup t20 = some ⟨.type "tuple", odT20, .seq #[.ref f44, .int 1 xa20, .int 0 xb20] nT20, slT20⟩)
    (lT21 : K.lookup t21 = some ⟨.type "tuple", odT21, .seq #[.ref f45, .int 0 xa21, .int 0 xb21] nT21, slT21⟩) :
    ∃ fd : FuncData, (∀ (s : Shared) (us : List Value), us.length = (["calls"] : List Str).length → BindsTo s fd ⟨us, []⟩ ((["calls"] : List Str).zip us)) ∧ ∀ base : Heap, K.In base → base.Ns mainGlobals mg → FnOk P w K mg base CX0 7 fa fd ["calls"] (spAnswers K) := by
  have X := KX
  have e := hfa.symm.trans (PySem.W.mg_of X G a48)
  cases e
  have T : Txt mg := { mostThings := int_mk X G i0, mostOften := int_mk X G i1, mostTimes := int_mk X G i2, leastNumber := int_mk X G i3, greatestNumber := int_mk X G i4, more := int_mk X G i5, noLess := int_mk X G i6, asMuch := int_mk X G i7, len := PySem.W.mg_none_of X G z0, all := PySem.W.mg_none_of X G z1, sum := PySem.W.mg_none_of X G z2, range := PySem.W.mg_none_of X G z3, zip := PySem.W.mg_none_of X G z4, any := PySem.W.mg_none_of X G z9, enumerate := PySem.W.mg_none_of X G z7, sorted := PySem.W.mg_none_of X G z10, min := PySem.W.mg_none_of X G z5, max := PySem.W.mg_none_of X G z6 }
  have TC : Cn mg := { mostTold := int_mk X G i8, noneSuch := int_mk X G i9, notRight := int_mk X G i11, tooMany := int_mk X G i12, thereIsNone := int_mk X G i13, min := PySem.W.mg_none_of X G z5, max := PySem.W.mg_none_of X G z6, enumerate := PySem.W.mg_none_of X G z7, tuple := PySem.W.mg_none_of X G z8 }
  have T0 : Cl0 K mg C := { cl := ⟨pg, hd, po, sa⟩, nTh := n0, nTo := n1, nFi := n2, mgC := PySem.W.mg_of X G aC, notBegun := int_mk X G i10, begin_ := int_mk X G i14 }
  have d_isKind : Df K mg "is_kind" (top 10) ["given"] := df_mk X G a0 l0 c0 k0 fun _ _ _ _ _ _ us hl => match us, hl with | [_], _ => rfl
  have d_isSide : Df K mg "is_side" (top 11) ["given", "things"] := df_mk X G a1 l1 c1 k1 fun _ _ _ _ _ _ us hl => match us, hl with | [_, _], _ => rfl
  have d_isNumbers : Df K mg "is_numbers" (top 12) ["given", "things"] := df_mk X G a2 l2 c2 k2 fun _ _ _ _ _ _ us hl => match us, hl with | [_, _], _ => rfl
  have d_isHowOften : Df K mg "is_how_often" (top 13) ["given", "told"] := df_mk X G a3 l3 c3 k3 fun _ _ _ _ _ _ us hl => match us, hl with | [_, _], _ => rfl
  have d_sideOf : Df K mg "side_of" (top 14) ["taken", "things"] := df_mk X G a4 l4 c4 k4 fun _ _ _ _ _ _ us hl => match us, hl with | [_, _], _ => rfl
  have d_allLists : Df K mg "all_lists" (top 15) ["length", "lowest", "highest"] := df_mk X G a5 l5 c5 k5 fun _ _ _ _ _ _ us hl => match us, hl with | [_, _, _], _ => rfl
  have d_allNumbers : Df K mg "all_numbers" (top 16) ["things"] := df_mk X G a6 l6 c6 k6 fun _ _ _ _ _ _ us hl => match us, hl with | [_], _ => rfl
  have d_comesTo : Df K mg "comes_to" (top 17) ["side", "numbers"] := df_mk X G a7 l7 c7 k7 fun _ _ _ _ _ _ us hl => match us, hl with | [_, _], _ => rfl
  have d_agrees : Df K mg "agrees" (top 18) ["numbers", "comparison"] := df_mk X G a8 l8 c8 k8 fun _ _ _ _ _ _ us hl => match us, hl with | [_, _], _ => rfl
  have d_agreeing : Df K mg "agreeing" (top 19) ["candidates", "comparison"] := df_mk X G a9 l9 c9 k9 fun _ _ _ _ _ _ us hl => match us, hl with | [_, _], _ => rfl
  have d_allThatFit : Df K mg "all_that_fit" (top 20) ["things", "told"] := df_mk X G a10 l10 c10 k10 fun _ _ _ _ _ _ us hl => match us, hl with | [_, _], _ => rfl
  have d_agreedSet : Df K mg "agreed_set" (top 21) ["numbers", "told"] := df_mk X G a11 l11 c11 k11 fun _ _ _ _ _ _ us hl => match us, hl with | [_, _], _ => rfl
  have d_agreedSets : Df K mg "agreed_sets" (top 22) ["things", "told"] := df_mk X G a12 l12 c12 k12 fun _ _ _ _ _ _ us hl => match us, hl with | [_, _], _ => rfl
  have d_someAgree : Df K mg "some_agree" (top 23) ["agreed", "asked"] := df_mk X G a13 l13 c13 k13 fun _ _ _ _ _ _ us hl => match us, hl with | [_, _], _ => rfl
  have d_isClash : Df K mg "is_clash" (top 24) ["agreed", "asked", "count"] := df_mk X G a14 l14 c14 k14 fun _ _ _ _ _ _ us hl => match us, hl with | [_, _, _], _ => rfl
  have d_balanceOf : Df K mg "balance_of" (top 25) ["how_often", "things", "told"] := df_mk X G a15 l15 c15 k15 fun _ _ _ _ _ _ us hl => match us, hl with | [_, _, _], _ => rfl
  have d_tellsOfMore : Df K mg "tells_of_more" (top 26) ["how_often", "told"] := df_mk X G a16 l16 c16 k16 fun _ _ _ _ _ _ us hl => match us, hl with | [_, _], _ => rfl
  have d_doesCancel : Df K mg "does_cancel" (top 27) ["how_often", "things", "told"] := df_mk X G a17 l17 c17 k17 fun _ _ _ _ _ _ us hl => match us, hl with | [_, _, _], _ => rfl
  have d_allThatCancel : Df K mg "all_that_cancel" (top 28) ["things", "told"] := df_mk X G a18 l18 c18 k18 fun _ _ _ _ _ _ us hl => match us, hl with | [_, _], _ => rfl
  have d_oneOrZero : Df K mg "one_or_zero" (top 36) ["holds"] := df_mk X G a19 l19 c19 k19 fun _ _ _ _ _ _ us hl => match us, hl with | [_], _ => rfl
  have d_isComparison : Df K mg "is_comparison" (top 38) ["weighing", "given"] := df_mk X G a21 l21 c21 k21 fun _ _ _ _ _ _ us hl => match us, hl with | [_, _], _ => rfl
  have d_tellOneMore : Df K mg "tell_one_more" (top 39) ["weighing", "comparison"] := df_mk X G a22 l22 c22 k22 fun _ _ _ _ _ _ us hl => match us, hl with | [_, _], _ => rfl
  have d_notAgreed : Df K mg "not_agreed_with" (top 47) ["weighing", "numbers"] := df_mk X G a30 l30 c30 k30 fun _ _ _ _ _ _ us hl => match us, hl with | [_, _], _ => rfl
  have d_leastGreatest : Df K mg "least_and_greatest" (top 53) ["weighing", "side"] := df_mk X G a36 l36 c36 k36 fun _ _ _ _ _ _ us hl => match us, hl with | [_, _], _ => rfl
  have D : Ds K mg := { isKind := d_isKind, isSide := d_isSide, isNumbers := d_isNumbers, isHowOften := d_isHowOften, sideOf := d_sideOf, allLists := d_allLists, allNumbers := d_allNumbers, comesTo := d_comesTo, agrees := d_agrees, agreeing := d_agreeing, allThatFit := d_allThatFit, agreedSet := d_agreedSet, agreedSets := d_agreedSets, someAgree := d_someAgree, isClash := d_isClash, balanceOf := d_balanceOf, tellsOfMore := d_tellsOfMore, doesCancel := d_doesCancel, allThatCancel := d_allThatCancel, oneOrZero := d_oneOrZero, isComparison := d_isComparison, tellOneMore := d_tellOneMore, notAgreed := d_notAgreed, leastGreatest := d_leastGreatest }
  have d_read_calls : Df K mg "read_calls" (top 65) ["calls"] := df_mk X G a46 l46 c46 k46 fun _ _ _ _ _ _ us hl => match us, hl with | [_], _ => rfl
  have d_answer : Df K mg "answer" (top 66) ["weighing", "number", "given"] := df_mk X G a47 l47 c47 k47 fun _ _ _ _ _ _ us hl => match us, hl with | [_, _, _], _ => rfl
  have TB : Tab K mg (fun k => [f20, f23, f24, f25, f26, f27, f28, f29, f31, f32, f33, f34, f35, f37, f38, f39, f40, f41, f42, f43, f44, f45].getD k f20) := ⟨cT, [t0, t1, t2, t3, t4, t5, t6, t7, t8, t9, t10, t11, t12, t13, t14, t15, t16, t17, t18, t19, t20, t21], PySem.W.mg_of X G aT, fun H => .inr ⟨_, _, _, lT, rfl, rfl, (by show 22 ≤ sizeLine; decide), .cons rfl (.cons rfl (.cons rfl (.cons rfl (.cons rfl (.cons rfl (.cons rfl (.cons rfl (.cons rfl (.cons rfl (.cons rfl (.cons rfl (.cons rfl (.cons rfl (.cons rfl (.cons rfl (.cons rfl (.cons rfl (.cons rfl (.cons rfl (.cons rfl (.cons rfl (.nil))))))))))))))))))))))⟩, fun k hk => match k, hk with
    | 0, _ => ⟨t0, rfl, row_mk (a := 1) (b := 0) lT0⟩
    | 1, _ => ⟨t1, rfl, row_mk (a := 1) (b := 2) lT1⟩
    | 2, _ => ⟨t2, rfl, row_mk (a := 5) (b := 0) lT2⟩
    | 3, _ => ⟨t3, rfl, row_mk (a := 1) (b := 0) lT3⟩
    | 4, _ => ⟨t4, rfl, row_mk (a := 0) (b := 0) lT4⟩
    | 5, _ => ⟨t5, rfl, row_mk (a := 0) (b := 0) lT5⟩
    | 6, _ => ⟨t6, rfl, row_mk (a := 0) (b := 0) lT6⟩
    | 7, _ => ⟨t7, rfl, row_mk (a := 1) (b := 0) lT7⟩
    | 8, _ => ⟨t8, rfl, row_mk (a := 0) (b := 1) lT8⟩
    | 9, _ => ⟨t9, rfl, row_mk (a := 0) (b := 1) lT9⟩
    | 10, _ => ⟨t10, rfl, row_mk (a := 1) (b := 2) lT10⟩
    | 11, _ => ⟨t11, rfl, row_mk (a := 1) (b := 2) lT11⟩
    | 12, _ => ⟨t12, rfl, row_mk (a := 2) (b := 0) lT12⟩
    | 13, _ => ⟨t13, rfl, row_mk (a := 1) (b := 0) lT13⟩
    | 14, _ => ⟨t14, rfl, row_mk (a := 0) (b := 1) lT14⟩
    | 15, _ => ⟨t15, rfl, row_mk (a := 0) (b := 0) lT15⟩
    | 16, _ => ⟨t16, rfl, row_mk (a := 0) (b := 0) lT16⟩
    | 17, _ => ⟨t17, rfl, row_mk (a := 0) (b := 1) lT17⟩
    | 18, _ => ⟨t18, rfl, row_mk (a := 0) (b := 0) lT18⟩
    | 19, _ => ⟨t19, rfl, row_mk (a := 0) (b := 1) lT19⟩
    | 20, _ => ⟨t20, rfl, row_mk (a := 1) (b := 0) lT20⟩
    | 21, _ => ⟨t21, rfl, row_mk (a := 0) (b := 0) lT21⟩
    | k + 22, hk => absurd hk (by omega)⟩
  have FI := fun_mk (st := sInit) l_I c_I k_I
  have bI := FI.binds (ps := ["self"]) fun _ _ _ _ _ _ us hl => match us, hl with | [_], _ => rfl
  have FA := fun_mk (st := top 67) l48 c48 k48
  refine ⟨PySem.W.fnOf "answers" "answers" (defArgs (top 67)) (defBody (top 67)) (defScope (top 67)) .none kV48 dc48 pm48 an48 cd48 ct48, fun s us hu => match us, hu with | [_], _ => .of_eq rfl, fun base _ _ => ?_⟩
  have CM : Cmds P w K mg base C 4 (fun k => [f20, f23, f24, f25, f26, f27, f28, f29, f31, f32, f33, f34, f35, f37, f38, f39, f40, f41, f42, f43, f44, f45].getD k f20) := ⟨fun k hk => match k, hk with
    | 0, _ => cmd_mk (ok_begin (fun_mk (st := top 37) l20 c20 k20) T T0 TC D.allNumbers D.allLists) (by decide) k20 (Fun.binds (ps := ["weighing", "given"]) (fun_mk (st := top 37) l20 c20 k20) fun _ _ _ _ _ _ us hl => match us, hl with | [_, _], _ => rfl)
    | 1, _ => cmd_mk (ok_tell (fun_mk (st := top 40) l23 c23 k23) T T0 TC D.isKind D.isSide D.isComparison D.agrees D.agreeing D.tellOneMore) (by decide) k23 (Fun.binds (ps := ["weighing", "given"]) (fun_mk (st := top 40) l23 c23 k23) fun _ _ _ _ _ _ us hl => match us, hl with | [_, _], _ => rfl)
    | 2, _ => cmd_mk (ok_differ (fun_mk (st := top 41) l24 c24 k24) T T0 TC D.isKind D.sideOf D.agrees D.agreeing D.tellOneMore) (by decide) k24 (Fun.binds (ps := ["weighing", "given"]) (fun_mk (st := top 41) l24 c24 k24) fun _ _ _ _ _ _ us hl => match us, hl with | [_, _], _ => rfl)
    | 3, _ => cmd_mk (ok_untell (fun_mk (st := top 42) l25 c25 k25) T T0 TC D.agrees D.agreeing D.allNumbers D.allLists D.allThatFit) (by decide) k25 (Fun.binds (ps := ["weighing", "given"]) (fun_mk (st := top 42) l25 c25 k25) fun _ _ _ _ _ _ us hl => match us, hl with | [_, _], _ => rfl)
    | 4, _ => cmd_mk (ok_can (fun_mk (st := top 43) l26 c26 k26) T T0 D.oneOrZero) (by decide) k26 (Fun.binds (ps := ["weighing", "given"]) (fun_mk (st := top 43) l26 c26 k26) fun _ _ _ _ _ _ us hl => match us, hl with | [_, _], _ => rfl)
    | 5, _ => cmd_mk (ok_ways (fun_mk (st := top 44) l27 c27 k27) T T0) (by decide) k27 (Fun.binds (ps := ["weighing", "given"]) (fun_mk (st := top 44) l27 c27 k27) fun _ _ _ _ _ _ us hl => match us, hl with | [_, _], _ => rfl)
    | 6, _ => cmd_mk (ok_least (fun_mk (st := top 45) l28 c28 k28) T T0 TC) (by decide) k28 (Fun.binds (ps := ["weighing", "given"]) (fun_mk (st := top 45) l28 c28 k28) fun _ _ _ _ _ _ us hl => match us, hl with | [_, _], _ => rfl)
    | 7, _ => cmd_mk (ok_nth (fun_mk (st := top 46) l29 c29 k29) T T0 TC) (by decide) k29 (Fun.binds (ps := ["weighing", "given"]) (fun_mk (st := top 46) l29 c29 k29) fun _ _ _ _ _ _ us hl => match us, hl with | [_, _], _ => rfl)
    | 8, _ => cmd_mk (ok_fits (fun_mk (st := top 48) l31 c31 k31) T T0 TC D.agrees D.notAgreed D.isNumbers D.oneOrZero) (by decide) k31 (Fun.binds (ps := ["weighing", "given"]) (fun_mk (st := top 48) l31 c31 k31) fun _ _ _ _ _ _ us hl => match us, hl with | [_, _], _ => rfl)
    | 9, _ => cmd_mk (ok_wrong (fun_mk (st := top 49) l32 c32 k32) T T0 TC D.agrees D.notAgreed D.isNumbers) (by decide) k32 (Fun.binds (ps := ["weighing", "given"]) (fun_mk (st := top 49) l32 c32 k32) fun _ _ _ _ _ _ us hl => match us, hl with | [_, _], _ => rfl)
    | 10, _ => cmd_mk (ok_follows (fun_mk (st := top 50) l33 c33 k33) T T0 TC D.isKind D.isSide D.isComparison D.agrees D.agreeing D.oneOrZero) (by decide) k33 (Fun.binds (ps := ["weighing", "given"]) (fun_mk (st := top 50) l33 c33 k33) fun _ _ _ _ _ _ us hl => match us, hl with | [_, _], _ => rfl)
    | 11, _ => cmd_mk (ok_may (fun_mk (st := top 51) l34 c34 k34) T T0 TC D) (by decide) k34 (Fun.binds (ps := ["weighing", "given"]) (fun_mk (st := top 51) l34 c34 k34) fun _ _ _ _ _ _ us hl => match us, hl with | [_, _], _ => rfl)
    | 12, _ => cmd_mk (ok_more (fun_mk (st := top 52) l35 c35 k35) T T0 TC D) (by decide) k35 (Fun.binds (ps := ["weighing", "given"]) (fun_mk (st := top 52) l35 c35 k35) fun _ _ _ _ _ _ us hl => match us, hl with | [_, _], _ => rfl)
    | 13, _ => cmd_mk (ok_rangeOf (fun_mk (st := top 54) l37 c37 k37) T T0 TC D) (by decide) k37 (Fun.binds (ps := ["weighing", "given"]) (fun_mk (st := top 54) l37 c37 k37) fun _ _ _ _ _ _ us hl => match us, hl with | [_, _], _ => rfl)
    | 14, _ => cmd_mk (ok_sums (fun_mk (st := top 55) l38 c38 k38) T T0 TC D) (by decide) k38 (Fun.binds (ps := ["weighing", "given"]) (fun_mk (st := top 55) l38 c38 k38) fun _ _ _ _ _ _ us hl => match us, hl with | [_, _], _ => rfl)
    | 15, _ => cmd_mk (ok_clashes (fun_mk (st := top 56) l39 c39 k39) T T0 TC D) (by decide) k39 (Fun.binds (ps := ["weighing", "given"]) (fun_mk (st := top 56) l39 c39 k39) fun _ _ _ _ _ _ us hl => match us, hl with | [_, _], _ => rfl)
    | 16, _ => cmd_mk (ok_spare (fun_mk (st := top 57) l40 c40 k40) T T0 TC D) (by decide) k40 (Fun.binds (ps := ["weighing", "given"]) (fun_mk (st := top 57) l40 c40 k40) fun _ _ _ _ _ _ us hl => match us, hl with | [_, _], _ => rfl)
    | 17, _ => cmd_mk (ok_cancels (fun_mk (st := top 58) l41 c41 k41) T T0 TC D) (by decide) k41 (Fun.binds (ps := ["weighing", "given"]) (fun_mk (st := top 58) l41 c41 k41) fun _ _ _ _ _ _ us hl => match us, hl with | [_, _], _ => rfl)
    | 18, _ => cmd_mk (ok_cancel (fun_mk (st := top 59) l42 c42 k42) T T0 TC D) (by decide) k42 (Fun.binds (ps := ["weighing", "given"]) (fun_mk (st := top 59) l42 c42 k42) fun _ _ _ _ _ _ us hl => match us, hl with | [_, _], _ => rfl)
    | 19, _ => cmd_mk (ok_balance (fun_mk (st := top 60) l43 c43 k43) T T0 TC D) (by decide) k43 (Fun.binds (ps := ["weighing", "given"]) (fun_mk (st := top 60) l43 c43 k43) fun _ _ _ _ _ _ us hl => match us, hl with | [_, _], _ => rfl)
    | 20, _ => cmd_mk (ok_look (fun_mk (st := top 61) l44 c44 k44) T T0 TC) (by decide) k44 (Fun.binds (ps := ["weighing", "given"]) (fun_mk (st := top 61) l44 c44 k44) fun _ _ _ _ _ _ us hl => match us, hl with | [_, _], _ => rfl)
    | 21, _ => cmd_mk (ok_state (fun_mk (st := top 62) l45 c45 k45) T T0) (by decide) k45 (Fun.binds (ps := ["weighing", "given"]) (fun_mk (st := top 62) l45 c45 k45) fun _ _ _ _ _ _ us hl => match us, hl with | [_, _], _ => rfl)
    | k + 22, hk => absurd hk (by omega)⟩
  exact ok_answers FA T T0 TB CM ⟨mk, a_I, i_I, kc⟩ FI bI d_read_calls d_answer
end KP

end
section
set_option Elab.async false
set_option linter.all false
set_option maxRecDepth 100000
set_option maxHeartbeats 4000000

def PySem.W.Fast.tw11477112057438870046 : Unit := ()
def PySem.W.Fast.tw17145175693139955090 : Unit := ()
def PySem.W.Fast.tw5847031906744604837 : Unit := ()
def PySem.W.Fast.tw17224494189608804289 : Unit := ()
open PySem PySem.W PyProof.Rows
set_option maxRecDepth 100000 in
set_option maxHeartbeats 0 in
theorem PySem.Challenge.cw_sumsweighed_s01_answers_holds : PySem.Challenge.rw_sumsweighed_s01_answers.Holds := by
  w_on; k_headS; (case hw => exact ⟨[.list []], by decide +kernel, by decide +kernel⟩)
  k_fillS
  refine L2.walk_specK (r := PySem.Challenge.rw_sumsweighed_s01_answers) (k := 7) (CX := L2.CX0) (ps := ["calls"]) (sp := KP.spAnswers) (by decide +kernel) rfl rfl ⟨rfl, by decide, by decide⟩ (fun w h Y => PySem.W.kIn_of Y) ?F ?S (fun _ _ _ _ z => z)
  case F =>
    intro w mg fa h Y KX G hmg
    refine' KP.all_mk KX G hmg ?q_a0 ?q_l0 ?q_c0 ?q_k0 ?q_a1 ?q_l1 ?q_c1 ?q_k1 ?q_a2 ?q_l2 ?q_c2 ?q_k2 ?q_a3 ?q_l3 ?q_c3 ?q_k3 ?q_a4 ?q_l4 ?q_c4 ?q_k4 ?q_a5 ?q_l5 ?q_c5 ?q_k5 ?q_a6 ?q_l6 ?q_c6 ?q_k6 ?q_a7 ?q_l7 ?q_c7 ?q_k7 ?q_a8 ?q_l8 ?q_c8 ?q_k8 ?q_a9 ?q_l9 ?q_c9 ?q_k9 ?q_a10 ?q_l10 ?q_c10 ?q_k10 ?q_a11 ?q_l11 ?q_c11 ?q_k11 ?q_a12 ?q_l12 ?q_c12 ?q_k12 ?q_a13 ?q_l13 ?q_c13 ?q_k13 ?q_a14 ?q_l14 ?q_c14 ?q_k14 ?q_a15 ?q_l15 ?q_c15 ?q_k15 ?q_a16 ?q_l16 ?q_c16 ?q_k16 ?q_a17 ?q_l17 ?q_c17 ?q_k17 ?q_a18 ?q_l18 ?q_c18 ?q_k18 ?q_a19 ?q_l19 ?q_c19 ?q_k19 ?q_a20 ?q_l20 ?q_c20 ?q_k20 ?q_a21 ?q_l21 ?q_c21 ?q_k21 ?q_a22 ?q_l22 ?q_c22 ?q_k22 ?q_a23 ?q_l23 ?q_c23 ?q_k23 ?q_a24 ?q_l24 ?q_c24 ?q_k24 ?q_a25 ?q_l25 ?q_c25 ?q_k25 ?q_a26 ?q_l26 ?q_c26 ?q_k26 ?q_a27 ?q_l27 ?q_c27 ?q_k27 ?q_a28 ?q_l28 ?q_c28 ?q_k28 ?q_a29 ?q_l29 ?q_c29 ?q_k29 ?q_a30 ?q_l30 ?q_c30 ?q_k30 ?q_a31 ?q_l31 ?q_c31 ?q_k31 ?q_a32 ?q_l32 ?q_c32 ?q_k32 ?q_a33 ?q_l33 ?q_c33 ?q_k33 ?q_a34 ?q_l34 ?q_c34 ?q_k34 ?q_a35 ?q_l35 ?q_c35 ?q_k35 ?q_a36 ?q_l36 ?q_c36 ?q_k36 ?q_a37 ?q_l37 ?q_c37 ?q_k37 ?q_a38 ?q_l38 ?q_c38 ?q_k38 ?q_a39 ?q_l39 ?q_c39 ?q_k39 ?q_a40 ?q_l40 ?q_c40 ?q_k40 ?q_a41 ?q_l41 ?q_c41 ?q_k41 ?q_a42 ?q_l42 ?q_c42 ?q_k42 ?q_a43 ?q_l43 ?q_c43 ?q_k43 ?q_a44 ?q_l44 ?q_c44 ?q_k44 ?q_a45 ?q_l45 ?q_c45 ?q_k45 ?q_a46 ?q_l46 ?q_c46 ?q_k46 ?q_a47 ?q_l47 ?q_c47 ?q_k47 ?q_a48 ?q_l48 ?q_c48 ?q_k48 ?q_i0 ?q_i1 ?q_i2 ?q_i3 ?q_i4 ?q_i5 ?q_i6 ?q_i7 ?q_i8 ?q_i9 ?q_i10 ?q_i11 ?q_i12 ?q_i13 ?q_i14 ?q_z0 ?q_z1 ?q_z2 ?q_z3 ?q_z4 ?q_z5 ?q_z6 ?q_z7 ?q_z8 ?q_z9 ?q_z10 ?q_aC ?q_a_I ?q_i_I ?q_l_I ?q_c_I ?q_k_I ?q_pg ?q_hd ?q_po ?q_sa ?q_mk ?q_kc ?q_n0 ?q_n1 ?q_n2 ?q_aT ?q_lT ?q_lT0 ?q_lT1 ?q_lT2 ?q_lT3 ?q_lT4 ?q_lT5 ?q_lT6 ?q_lT7 ?q_lT8 ?q_lT9 ?q_lT10 ?q_lT11 ?q_lT12 ?q_lT13 ?q_lT14 ?q_lT15 ?q_lT16 ?q_lT17 ?q_lT18 ?q_lT19 ?q_lT20 ?q_lT21
    (case q_a0 => k_is)
    (case q_l0 => k_is)
    (case q_c0 => k_is)
    (case q_k0 => k_is)
    (case q_a1 => k_is)
    (case q_l1 => k_is)
    (case q_c1 => k_is)
    (case q_k1 => k_is)
    (case q_a2 => k_is)
    (case q_l2 => k_is)
    (case q_c2 => k_is)
    (case q_k2 => k_is)
    (case q_a3 => k_is)
    (case q_l3 => k_is)
    (case q_c3 => k_is)
    (case q_k3 => k_is)
    (case q_a4 => k_is)
    (case q_l4 => k_is)
    (case q_c4 => k_is)
    (case q_k4 => k_is)
    (case q_a5 => k_is)
    (case q_l5 => k_is)
    (case q_c5 => k_is)
    (case q_k5 => k_is)
    (case q_a6 => k_is)
    (case q_l6 => k_is)
    (case q_c6 => k_is)
    (case q_k6 => k_is)
    (case q_a7 => k_is)
    (case q_l7 => k_is)
    (case q_c7 => k_is)
    (case q_k7 => k_is)
    (case q_a8 => k_is)
    (case q_l8 => k_is)
    (case q_c8 => k_is)
    (case q_k8 => k_is)
    (case q_a9 => k_is)
    (case q_l9 => k_is)
    (case q_c9 => k_is)
    (case q_k9 => k_is)
    (case q_a10 => k_is)
    (case q_l10 => k_is)
    (case q_c10 => k_is)
    (case q_k10 => k_is)
    (case q_a11 => k_is)
    (case q_l11 => k_is)
    (case q_c11 => k_is)
    (case q_k11 => k_is)
    (case q_a12 => k_is)
    (case q_l12 => k_is)
    (case q_c12 => k_is)
    (case q_k12 => k_is)
    (case q_a13 => k_is)
    (case q_l13 => k_is)
    (case q_c13 => k_is)
    (case q_k13 => k_is)
    (case q_a14 => k_is)
    (case q_l14 => k_is)
    (case q_c14 => k_is)
    (case q_k14 => k_is)
    (case q_a15 => k_is)
    (case q_l15 => k_is)
    (case q_c15 => k_is)
    (case q_k15 => k_is)
    (case q_a16 => k_is)
    (case q_l16 => k_is)
    (case q_c16 => k_is)
    (case q_k16 => k_is)
    (case q_a17 => k_is)
    (case q_l17 => k_is)
    (case q_c17 => k_is)
    (case q_k17 => k_is)
    (case q_a18 => k_is)
    (case q_l18 => k_is)
    (case q_c18 => k_is)
    (case q_k18 => k_is)
    (case q_a19 => k_is)
    (case q_l19 => k_is)
    (case q_c19 => k_is)
    (case q_k19 => k_is)
    (case q_a20 => k_is)
    (case q_l20 => k_is)
    (case q_c20 => k_is)
    (case q_k20 => k_is)
    (case q_a21 => k_is)
    (case q_l21 => k_is)
    (case q_c21 => k_is)
    (case q_k21 => k_is)
    (case q_a22 => k_is)
    (case q_l22 => k_is)
    (case q_c22 => k_is)
    (case q_k22 => k_is)
    (case q_a23 => k_is)
    (case q_l23 => k_is)
    (case q_c23 => k_is)
    (case q_k23 => k_is)
    (case q_a24 => k_is)
    (case q_l24 => k_is)
    (case q_c24 => k_is)
    (case q_k24 => k_is)
    (case q_a25 => k_is)
    (case q_l25 => k_is)
    (case q_c25 => k_is)
    (case q_k25 => k_is)
    (case q_a26 => k_is)
    (case q_l26 => k_is)
    (case q_c26 => k_is)
    (case q_k26 => k_is)
    (case q_a27 => k_is)
    (case q_l27 => k_is)
    (case q_c27 => k_is)
    (case q_k27 => k_is)
    (case q_a28 => k_is)
    (case q_l28 => k_is)
    (case q_c28 => k_is)
    (case q_k28 => k_is)
    (case q_a29 => k_is)
    (case q_l29 => k_is)
    (case q_c29 => k_is)
    (case q_k29 => k_is)
    (case q_a30 => k_is)
    (case q_l30 => k_is)
    (case q_c30 => k_is)
    (case q_k30 => k_is)
    (case q_a31 => k_is)
    (case q_l31 => k_is)
    (case q_c31 => k_is)
    (case q_k31 => k_is)
    (case q_a32 => k_is)
    (case q_l32 => k_is)
    (case q_c32 => k_is)
    (case q_k32 => k_is)
    (case q_a33 => k_is)
    (case q_l33 => k_is)
    (case q_c33 => k_is)
    (case q_k33 => k_is)
    (case q_a34 => k_is)
    (case q_l34 => k_is)
    (case q_c34 => k_is)
    (case q_k34 => k_is)
    (case q_a35 => k_is)
    (case q_l35 => k_is)
    (case q_c35 => k_is)
    (case q_k35 => k_is)
    (case q_a36 => k_is)
    (case q_l36 => k_is)
    (case q_c36 => k_is)
    (case q_k36 => k_is)
    (case q_a37 => k_is)
    (case q_l37 => k_is)
    (case q_c37 => k_is)
    (case q_k37 => k_is)
    (case q_a38 => k_is)
    (case q_l38 => k_is)
    (case q_c38 => k_is)
    (case q_k38 => k_is)
    (case q_a39 => k_is)
    (case q_l39 => k_is)
    (case q_c39 => k_is)
    (case q_k39 => k_is)
    (case q_a40 => k_is)
    (case q_l40 => k_is)
    (case q_c40 => k_is)
    (case q_k40 => k_is)
    (case q_a41 => k_is)
    (case q_l41 => k_is)
    (case q_c41 => k_is)
    (case q_k41 => k_is)
    (case q_a42 => k_is)
    (case q_l42 => k_is)
    (case q_c42 => k_is)
    (case q_k42 => k_is)
    (case q_a43 => k_is)
    (case q_l43 => k_is)
    (case q_c43 => k_is)
    (case q_k43 => k_is)
    (case q_a44 => k_is)
    (case q_l44 => k_is)
    (case q_c44 => k_is)
    (case q_k44 => k_is)
    (case q_a45 => k_is)
    (case q_l45 => k_is)
    (case q_c45 => k_is)
    (case q_k45 => k_is)
    (case q_a46 => k_is)
    (case q_l46 => k_is)
    (case q_c46 => k_is)
    (case q_k46 => k_is)
    (case q_a47 => k_is)
    (case q_l47 => k_is)
    (case q_c47 => k_is)
    (case q_k47 => k_is)
    (case q_a48 => k_is)
    (case q_l48 => k_is)
    (case q_c48 => k_is)
    (case q_k48 => k_is)
    (case q_i0 => k_is)
    (case q_i1 => k_is)
    (case q_i2 => k_is)
    (case q_i3 => k_is)
    (case q_i4 => k_is)
    (case q_i5 => k_is)
    (case q_i6 => k_is)
    (case q_i7 => k_is)
    (case q_i8 => k_is)
    (case q_i9 => k_is)
    (case q_i10 => k_is)
    (case q_i11 => k_is)
    (case q_i12 => k_is)
    (case q_i13 => k_is)
    (case q_i14 => k_is)
    (case q_z0 => k_is)
    (case q_z1 => k_is)
    (case q_z2 => k_is)
    (case q_z3 => k_is)
    (case q_z4 => k_is)
    (case q_z5 => k_is)
    (case q_z6 => k_is)
    (case q_z7 => k_is)
    (case q_z8 => k_is)
    (case q_z9 => k_is)
    (case q_z10 => k_is)
    (case q_aC => k_is)
    (case q_a_I => k_is)
    (case q_i_I => k_is)
    (case q_l_I => k_is)
    (case q_c_I => k_is)
    (case q_k_I => k_is)
    (case q_pg => k_is)
    (case q_hd => k_is)
    (case q_po => k_is)
    (case q_sa => k_is)
    (case q_mk => k_is)
    (case q_kc => k_is)
    (case q_n0 => k_is)
    (case q_n1 => k_is)
    (case q_n2 => k_is)
    (case q_aT => k_is)
    (case q_lT => k_is)
    (case q_lT0 => k_is)
    (case q_lT1 => k_is)
    (case q_lT2 => k_is)
    (case q_lT3 => k_is)
    (case q_lT4 => k_is)
    (case q_lT5 => k_is)
    (case q_lT6 => k_is)
    (case q_lT7 => k_is)
    (case q_lT8 => k_is)
    (case q_lT9 => k_is)
    (case q_lT10 => k_is)
    (case q_lT11 => k_is)
    (case q_lT12 => k_is)
    (case q_lT13 => k_is)
    (case q_lT14 => k_is)
    (case q_lT15 => k_is)
    (case q_lT16 => k_is)
    (case q_lT17 => k_is)
    (case q_lT18 => k_is)
    (case q_lT19 => k_is)
    (case q_lT20 => k_is)
    (case q_lT21 => k_is)
  case S =>
    intro K H xs a hO hwi hask hx
    cases hx with
    | cons h1 h2 =>
      cases h2
      cases h1 with
      | lst hs ha =>
        have e := L2.ints_dw a.1 _ ha
        subst e
        have q : ((Codec.inLen 0 12850 a.1 && a.1.all (Codec.inInt 0 4294967295)) && true) = true := hwi
        rw [Bool.and_eq_true, Bool.and_eq_true] at q
        have hq : PyKrab.answers_asked a.1 = true := hask
        obtain ⟨cl, qs, e1, al, e2, hb, _⟩ := KM.plan hq
        have hn := (Codec.inNat_iff.mp q.1.1).2
        have e3 : a.1.map L2.V.int = (KP.flats cl).map KR.nv := by
          rw [e1, KR.ints_map]
          rfl
        have e4 : (KP.flats cl).length ≤ 12850 := by
          have hn2 : a.1.length ≤ 12850 := hn
          rw [e1, KM.ints_length] at hn2
          exact hn2
        rw [e3] at hs
        refine ⟨_, cl, qs, rfl, hs, e4, al, hb, fun H' p hp => ?_⟩
        rw [← (e2 : PyKrab.answers a.1 = PyFlat.told (KM.run none qs))] at hp
        exact .lst (L2.SqL.of hp) (L2.dw_ints _)

end
