import PyProof.Rows.All
import Wide.All
import OpenK.AllK
import Wide.FinOn
import PyProof.EqAt
import PyProof.EqKinds
import PyProof.TupleCall
import KE.BitLaws
import Open.SpecLaws
import KE.OsHead
import KE.OsGo
import PyProof.Rows.SortShellAny
import PySem.Challenge.RW_agreeingtables_s01_answers
set_option Elab.async false
set_option linter.all false
set_option maxRecDepth 100000
section
namespace L2
open PySem PySem.Spec PyProof.Rows
abbrev Key := Sum Int Str
def keyIs : Key → Value → Bool
  | .inl k, v => Value.isInt k v
  | .inr x, v => Value.isStrOf x v
def keyH (w : World) : Key → Int
  | .inl k => hashInt k
  | .inr x => hashStr w x
theorem keyIs_shape : ∀ {k : Key} {v : Value}, keyIs k v = true → (∃ i t, k = Sum.inl i ∧ v = Value.int i t) ∨ (∃ x t, k = Sum.inr x ∧ v = Value.str x t)
  | .inl i, v, h => by
    obtain ⟨t, e⟩ := Value.isInt_shape (k := i) (v := v) h
    exact .inl ⟨i, t, rfl, e⟩
  | .inr x, v, h => by
    obtain ⟨t, e⟩ := Value.isStrOf_shape (x := x) (v := v) h
    exact .inr ⟨x, t, rfl, e⟩
theorem keyIs_int (i : Int) (t : Tok) : keyIs (.inl i) (.int i t) = true := by simp [keyIs, Value.isInt]
theorem keyIs_str (x : Str) (t : Tok) : keyIs (.inr x) (.str x t) = true := by simp [keyIs, Value.isStrOf]
theorem key_ll (a b : Int) : decide ((Sum.inl a : Key) = Sum.inl b) = (a == b) := by
  by_cases e : a = b
  · subst e; simp
  · have h : ¬ (Sum.inl a : Key) = Sum.inl b := fun q => e (Sum.inl.inj q)
    rw [decide_eq_false h]
    exact (beq_eq_false_iff_ne.mpr e).symm
theorem key_rr (a b : Str) : decide ((Sum.inr a : Key) = Sum.inr b) = decide (a = b) := by
  by_cases e : a = b
  · subst e; simp
  · have h : ¬ (Sum.inr a : Key) = Sum.inr b := fun q => e (Sum.inr.inj q)
    rw [decide_eq_false h, decide_eq_false e]
theorem key_lr (a : Int) (b : Str) : decide ((Sum.inl a : Key) = Sum.inr b) = false := decide_eq_false (fun q => nomatch q)
theorem key_rl (a : Str) (b : Int) : decide ((Sum.inr a : Key) = Sum.inl b) = false := decide_eq_false (fun q => nomatch q)
def mixKind (prog : Program) (w : World) : PySem.KeyKind prog w Key where
  is := keyIs
  hash := keyH w
  inj := fun v a b ha hb => by
    rcases keyIs_shape ha with ⟨i, t, rfl, rfl⟩ | ⟨x, t, rfl, rfl⟩
    · rcases keyIs_shape hb with ⟨j, u, rfl, e⟩ | ⟨y, u, rfl, e⟩
      · injection e with e1 _; rw [e1]
      · exact nomatch e
    · rcases keyIs_shape hb with ⟨j, u, rfl, e⟩ | ⟨y, u, rfl, e⟩
      · exact nomatch e
      · injection e with e1 _; rw [e1]
  byValue := fun k v h => by
    rcases keyIs_shape h with ⟨i, t, rfl, rfl⟩ | ⟨x, t, rfl, rfl⟩ <;> rfl
  pyHash := fun hv h => by
    rcases keyIs_shape hv with ⟨i, t, rfl, rfl⟩ | ⟨x, t, rfl, rfl⟩
    · exact wpAny_pyHash_int h
    · exact wpAny_pyHash_str h
  eqBool := fun hu hv h => by
    rcases keyIs_shape hu with ⟨i, t, rfl, rfl⟩ | ⟨x, t, rfl, rfl⟩
    · rcases keyIs_shape hv with ⟨j, u, rfl, rfl⟩ | ⟨y, u, rfl, rfl⟩
      · rw [key_ll] at h; exact wpAny_eqBool_int h
      · rw [key_lr] at h; exact SeqAt.EqAt.int_str i t y u _ _ _ _ h
    · rcases keyIs_shape hv with ⟨j, u, rfl, rfl⟩ | ⟨y, u, rfl, rfl⟩
      · rw [key_rl] at h; exact SeqAt.EqAt.str_int x t j u _ _ _ _ h
      · rw [key_rr] at h; exact wpAny_eqBool_str h
  «strs» := fun k x t v h => by
    rcases keyIs_shape h with ⟨i, u, rfl, e⟩ | ⟨y, u, rfl, e⟩
    · exact nomatch e
    · injection e with e1 _
      subst e1
      cases v <;> rfl
theorem mixKind_int (prog : Program) (w : World) (i : Int) (t : Tok) : (mixKind prog w).is (.inl i) (.int i t) = true := keyIs_int i t
theorem mixKind_str (prog : Program) (w : World) (x : Str) (t : Tok) : (mixKind prog w).is (.inr x) (.str x t) = true := keyIs_str x t
end L2
namespace L2
open PySem PySem.Spec PyProof.Rows
inductive V where
  | non | bl (b : Bool) | int (i : Int) | str (x : Str) | byt (b : Array UInt8) | flt (b : UInt64) | ref (a : Addr) | ty (n : String)
  deriving DecidableEq
def RelV : V → Value → Prop
  | .non, u => u = Value.none
  | .bl b, u => u = Value.bool b
  | .int i, u => ∃ t, u = Value.int i t
  | .str x, u => ∃ t, u = Value.str x t
  | .byt b, u => ∃ t, u = Value.bytes b t
  | .flt b, u => ∃ t, u = Value.float b t
  | .ref a, u => u = Value.ref a
  | .ty n, u => u = Value.type n
abbrev Vals : List V → List Value → Prop := Paired RelV
theorem Vals.length {xs : List V} {us : List Value} (r : Vals xs us) : xs.length = us.length := Paired.length r
theorem Vals.get : ∀ {xs : List V} {us : List Value} {i : Nat} {x : V}, Vals xs us → xs[i]? = some x → ∃ u, us[i]? = some u ∧ RelV x u
  | _, _, _, _, .nil, e => by simp at e
  | _, _, 0, _, .cons r _, e => by simp at e; subst e; exact ⟨_, rfl, r⟩
  | _, _, i + 1, x, .cons _ t, e => by
    obtain ⟨u, h1, h2⟩ := Vals.get (i := i) (x := x) t (by simpa using e)
    exact ⟨u, by simpa using h1, h2⟩
theorem Vals.set {x : V} {u : Value} (r : RelV x u) : ∀ {xs : List V} {us : List Value} (i : Nat), Vals xs us → Vals (xs.set i x) (us.set i u)
  | _, _, _, .nil => .nil
  | _, _, 0, .cons _ t => .cons r t
  | _, _, i + 1, .cons q t => .cons q (Vals.set r i t)
theorem Vals.append : ∀ {xs ys : List V} {us ws : List Value}, Vals xs us → Vals ys ws → Vals (xs ++ ys) (us ++ ws)
  | _, _, _, _, .nil, s => s
  | _, _, _, _, .cons r t, s => .cons r (Vals.append t s)
theorem Vals.take : ∀ {xs : List V} {us : List Value} (n : Nat), Vals xs us → Vals (xs.take n) (us.take n)
  | _, _, 0, _ => .nil
  | _, _, _ + 1, .nil => .nil
  | _, _, n + 1, .cons r t => .cons r (Vals.take n t)
theorem Vals.drop : ∀ {xs : List V} {us : List Value} (n : Nat), Vals xs us → Vals (xs.drop n) (us.drop n)
  | _, _, 0, r => r
  | _, _, _ + 1, .nil => .nil
  | _, _, n + 1, .cons _ t => Vals.drop n t
def RelO : Option V → Option Value → Prop
  | some v, some u => RelV v u
  | none, none => True
  | _, _ => False
def KV {κ : Type} : List (κ × V) → List (κ × Value) → Prop := Paired fun (p : κ × V) (q : κ × Value) => p.1 = q.1 ∧ RelV p.2 q.2
def kV : Key → V
  | .inl i => .int i
  | .inr x => .str x
inductive HO where
  /-- a list -/
  | lst (xs : List V)
  /-- a tuple (never changes) -/
  | tup (xs : List V)
  /-- a dict whose keys are ints and texts; one whose keys are tuples of ints and texts (the empty one is both) -/
  | dK (kvs : List (Key × V)) | dT (kvs : List (List Key × V))
  /-- a set of ints: its members, its size -/
  | set (S : Int → Bool) (n : Nat)
  /-- an instance of the class at C, its dict at dx, its attributes -/
  | ins (C dx : Addr) (fs : List (Str × V))
  /-- the dict of the instance at x -/
  | own (x : Addr)
  /-- the dict of an exception -/
  | xd (fs : List (Str × V))
  /-- a bound method, f of x -/
  | met (f x : Addr)
  /-- a range object lo, lo + 1, .. below hi -/
  | rng (lo hi : Int)
  /-- a thing that is known to the object (the script; a dict while a loop walks it): read, never written while it is so -/
  | frz (o : Obj) (u : HO)
  /-- a code object's table -/
  | tbl (ps : Array Value)
  /-- any other thing, by what is true of its one object (a def of one's own: SetO a S n := HO.ext fun h => ..) -/
  | ext (φ : Heap → Prop)
abbrev Hp := Addr → Option HO
def upd (H : Hp) (a : Addr) (o : HO) : Hp := fun b => if b = a then some o else H b
theorem upd_same {H : Hp} {a : Addr} {o : HO} : upd H a o a = some o := by unfold upd; rw [if_pos rfl]
theorem upd_ne {H : Hp} {a b : Addr} {o : HO} (h : b ≠ a) : upd H a o b = H b := by unfold upd; rw [if_neg h]
theorem ne_of {H : Hp} {a b : Addr} {o u : HO} (h : H a = some o) (h' : H b = some u) (d : o ≠ u) : a ≠ b := by
  intro e; subst e; rw [h] at h'; exact d (Option.some.inj h')
theorem ne_of_none {H : Hp} {a b : Addr} {o : HO} (h : H a = some o) (h' : H b = none) : a ≠ b := by
  intro e; subst e; rw [h] at h'; cases h'
section
variable (P : Program) (w : World)
def ObjOk (H : Hp) (h : Heap) (a : Addr) : HO → Prop
  | .lst xs => xs.length ≤ sizeLine ∧ ∃ (its : List Value) (n : Nat), Vals xs its ∧ h.get? a = some { cls := .type "list", data := .seq its.toArray n }
  | .tup xs => xs.length ≤ sizeLine ∧ ∃ its : List Value, Vals xs its ∧ IsTup h a its.toArray
  | .dK kvs => kvs.length ≤ sizeLine ∧ (a == sysModules) = false ∧ ∃ vs, KV kvs vs ∧ h.DictOf (mixKind P w) a vs
  | .dT kvs => kvs.length ≤ sizeLine ∧ (a == sysModules) = false ∧ ∃ xs : List (List Key × Addr × Value),
      Paired (fun (p : List Key × V) (q : List Key × Addr × Value) => p.1 = q.1 ∧ H q.2.1 = some (.tup (p.1.map kV)) ∧ RelV p.2 q.2.2) kvs xs ∧
      ∃ o es ep, h.get? a = some o ∧ o.ExactDict ∧ o.data = .dict es ep ∧ es.toList = xs.map (entryOfKey (tupleKind (mixKind P w))) ∧ (xs.map (·.1)).Nodup
  | .set S n => h.SetOf (intKind P w) a S n
  | .ins C dx fs => H dx = some (.own a) ∧ fs.length ≤ 1000 ∧ dx ≠ a ∧ h.get? a = some (PySem.W.instObj C dx) ∧
      ∃ mA, h.Ns1 dx mA ∧ (∀ f, RelO (fs.lookup f) (mA f)) ∧ PySem.Within mA (fs.map (·.1))
  | .own _ => ∃ o, h.get? a = some o
  | .xd fs => ∃ mA, h.Ns1 a mA ∧ ∀ f, RelO (fs.lookup f) (mA f)
  | .rng lo hi => ∃ t u v, h.get? a = some { cls := .type "range", data := .fields #[.int lo t, .int hi u, .int 1 v] }
  | .frz o u => h.get? a = some o ∧ ObjOk H h a u
  | .tbl ps => h.get? a = some { cls := .none, data := .fields ps }
  | .met f x => h.get? a = some (PySem.W.methodObj (.ref f) (.ref x))
  | .ext φ => φ h ∧ (∃ o, h.get? a = some o) ∧ ∀ h1 h2 : Heap, φ h1 → (∀ o, h1.get? a = some o → h2.get? a = some o) → φ h2
def HOk (H : Hp) (h : Heap) : Prop := ∀ a o, H a = some o → ObjOk P w H h a o
end
section
variable {P : Program} {w : World} {H H' : Hp} {h h' : Heap} {a : Addr} {o : HO}
theorem ObjOk.lt (x : ObjOk P w H h a o) : a < h.objs.size := by
  cases o with
  | lst xs => obtain ⟨_, _, _, _, e⟩ := x; exact Heap.lt_size e
  | tup xs => obtain ⟨_, _, _, p⟩ := x; exact p.lt
  | dK kvs => obtain ⟨_, _, _, _, o, _, _, e, _⟩ := x; exact Heap.lt_size e
  | dT kvs => obtain ⟨_, _, _, _, o, _, _, e, _⟩ := x; exact Heap.lt_size e
  | set S n => obtain ⟨o, _, _, _, e, _⟩ := x; exact Heap.lt_size e
  | ins C dx fs => obtain ⟨_, _, _, e, _⟩ := x; exact Heap.lt_size e
  | own y => obtain ⟨_, e⟩ := x; exact Heap.lt_size e
  | xd fs => obtain ⟨_, ⟨_, _, _, e, _⟩, _⟩ := x; exact Heap.lt_size e
  | rng lo hi => obtain ⟨_, _, _, e⟩ := x; exact Heap.lt_size e
  | frz ob u => obtain ⟨e, _⟩ := x; exact Heap.lt_size e
  | tbl ps => exact Heap.lt_size (show h.get? a = some _ from x)
  | met f y => exact Heap.lt_size (show h.get? a = some _ from x)
  | ext φ => obtain ⟨_, ⟨_, e⟩, _⟩ := x; exact Heap.lt_size e
theorem Paired.mapP {α β : Type} {F G : α → β → Prop} : ∀ {l₁ : List α} {l₂ : List β}, Paired F l₁ l₂ → (∀ a b, F a b → G a b) → Paired G l₁ l₂
  | _, _, .nil, _ => .nil
  | _, _, .cons r t, f => .cons (f _ _ r) (Paired.mapP t f)
theorem ObjOk.stay (x : ObjOk P w H h a o) (k : ∀ b u, (b = a ∨ H b = some (.own a)) → h.get? b = some u → h'.get? b = some u)
    (ho : ∀ b, H b = some (.own a) → H' b = some (.own a)) (ht : ∀ b xs, H b = some (.tup xs) → H' b = some (.tup xs)) : ObjOk P w H' h' a o := by
  induction o with
  | lst xs => obtain ⟨z, its, n, r, e⟩ := x; exact ⟨z, its, n, r, k _ _ (.inl rfl) e⟩
  | tup xs => obtain ⟨z, its, r, ob, e, c⟩ := x; exact ⟨z, its, r, ob, k _ _ (.inl rfl) e, c⟩
  | dK kvs => obtain ⟨z, y, vs, r, ob, es, ep, e, c⟩ := x; exact ⟨z, y, vs, r, ob, es, ep, k _ _ (.inl rfl) e, c⟩
  | dT kvs =>
    obtain ⟨z, y, xs, r, ob, es, ep, e, c⟩ := x
    exact ⟨z, y, xs, Paired.mapP r fun p q z => ⟨z.1, ht _ _ z.2.1, z.2.2⟩, ob, es, ep, k _ _ (.inl rfl) e, c⟩
  | set S n => obtain ⟨ob, es, ep, t, e, c⟩ := x; exact ⟨ob, es, ep, t, k _ _ (.inl rfl) e, c⟩
  | ins C dx fs =>
    obtain ⟨d, z, ne, e, mA, ⟨od, es, ep, e2, c⟩, r⟩ := x
    exact ⟨ho _ d, z, ne, k _ _ (.inl rfl) e, mA, ⟨od, es, ep, k _ _ (.inr d) e2, c⟩, r⟩
  | own y => obtain ⟨ob, e⟩ := x; exact ⟨ob, k _ _ (.inl rfl) e⟩
  | xd fs => obtain ⟨mA, ⟨od, es, ep, e, c⟩, r⟩ := x; exact ⟨mA, ⟨od, es, ep, k _ _ (.inl rfl) e, c⟩, r⟩
  | rng lo hi => obtain ⟨t, u, v, e⟩ := x; exact ⟨t, u, v, k _ _ (.inl rfl) e⟩
  | frz ob u ih => obtain ⟨e, q⟩ := x; exact ⟨k _ _ (.inl rfl) e, ih q⟩
  | tbl ps =>
    have e : h.get? a = some { cls := .none, data := .fields ps } := x
    show h'.get? a = some { cls := .none, data := .fields ps }
    exact k a _ (.inl rfl) e
  | met f y =>
    have e : h.get? a = some (PySem.W.methodObj (.ref f) (.ref y)) := x
    show h'.get? a = some (PySem.W.methodObj (.ref f) (.ref y))
    exact k a _ (.inl rfl) e
  | ext φ => obtain ⟨p, ⟨o, e⟩, st⟩ := x; exact ⟨st _ _ p fun o q => k _ _ (.inl rfl) q, ⟨o, k _ _ (.inl rfl) e⟩, st⟩
theorem HOk.lt (x : HOk P w H h) (e : H a = some o) : a < h.objs.size := (x a o e).lt
theorem HOk.fresh (x : HOk P w H h) (e : h.objs.size ≤ a) : H a = none := by
  cases q : H a with
  | none => rfl
  | some u => exact absurd (Nat.lt_of_lt_of_le (x.lt q) e) (Nat.lt_irrefl _)
theorem HOk.kept (x : HOk P w H h) (k : ∀ b u, h.get? b = some u → h'.get? b = some u) : HOk P w H h' := fun a o e =>
  (x a o e).stay (fun b u _ q => k b u q) (fun _ q => q) fun _ _ q => q
theorem HOk.laid (x : HOk P w H h) (k : ∀ b u, h.get? b = some u → h'.get? b = some u) (hp : h.objs.size ≤ a) (new : ObjOk P w (upd H a o) h' a o) : HOk P w (upd H a o) h' := fun b u e => by
  have hn := x.fresh hp
  by_cases hb : b = a
  · subst hb; rw [upd_same] at e; cases e; exact new
  · rw [upd_ne hb] at e
    exact (x b u e).stay (fun c v _ q => k c v q) (fun c q => by rw [upd_ne (ne_of_none q hn)]; exact q) fun c xs q => by rw [upd_ne (ne_of_none q hn)]; exact q
end
def Rd (H : Hp) (a : Addr) (u : HO) : Prop := H a = some u ∨ ∃ o, H a = some (.frz o u)
theorem Rd.ok {P : Program} {w : World} {H : Hp} {h : Heap} {a : Addr} {u : HO} (r : Rd H a u) (x : HOk P w H h) : ObjOk P w H h a u := by
  rcases r with r | ⟨o, r⟩
  · exact x a u r
  · obtain ⟨_, q⟩ := x a _ r
    exact q
def Mut : Option HO → Prop
  | some (.lst _) => True
  | some (.dK _) => True
  | some (.dT _) => True
  | some (.set _ _) => True
  | some (.ins _ _ _) => True
  | some (.ext _) => True
  | _ => False
section
variable {P : Program} {w : World} {H : Hp} {h h' : Heap} {x e : Addr} {o' : HO}
theorem HOk.write (ok : HOk P w H h) (mu : Mut (H x)) (he : e = x ∨ H e = some (.own x)) (k : ∀ b u, b ≠ e → h.get? b = some u → h'.get? b = some u) (heo : ∃ u, h'.get? e = some u)
    (new : ObjOk P w (upd H x o') h' x o') : HOk P w (upd H x o') h' := fun b u q => by
  have nown : ∀ c y, H c = some (.own y) → c ≠ x := fun c y r z => by subst z; rw [r] at mu; exact mu
  have ntup : ∀ c xs, H c = some (.tup xs) → c ≠ x := fun c xs r z => by subst z; rw [r] at mu; exact mu
  by_cases hb : b = x
  · subst hb; rw [upd_same] at q; cases q; exact new
  · rw [upd_ne hb] at q
    by_cases hbe : b = e
    · have q' : H b = some (.own x) := by
        rcases he with z | z
        · exact absurd (hbe.trans z) hb
        · rw [hbe]; exact z
      rw [q] at q'; cases q'
      obtain ⟨v, hv⟩ := heo
      exact ⟨v, by rw [hbe]; exact hv⟩
    · refine (ok b u q).stay (fun c v hc r => k c v ?_ r) (fun c r => by rw [upd_ne (nown c b r)]; exact r) fun c xs r => by rw [upd_ne (ntup c xs r)]; exact r
      rcases hc with rfl | hc
      · exact hbe
      · rintro rfl
        rcases he with z | z
        · exact nown c b hc z
        · rw [hc] at z; cases z; exact hb rfl
end
structure Un (fs ex : List Addr) (H H' : Hp) (h h' : Heap) : Prop where
  keep : ∀ b o, h.get? b = some o → H b = none → b ∉ fs → b ∉ ex → h'.get? b = some o
  slot : ∀ b o, h.get? b = some o → H b = none → b ∈ fs → b ∉ ex → ∃ sl, h'.get? b = some { o with slots := sl }
  free : ∀ b o, h.get? b = some o → H b = none → b ∉ ex → H' b = none
  there : ∀ b o, h.get? b = some o → b ∉ ex → ∃ o', h'.get? b = some o'
  tups : ∀ b xs, H b = some (.tup xs) → H' b = some (.tup xs)
  frzs : ∀ b o u, H b = some (.frz o u) → H' b = some (.frz o u)
  tbls : ∀ b ps, H b = some (.tbl ps) → ∃ more, H' b = some (.tbl (ps ++ more))
section
variable {fs fs' ex ex' : List Addr} {H H1 H2 : Hp} {h h1 h2 h' : Heap} {a x e : Addr} {o : HO}
theorem Un.any (u : Un fs ex H H1 h h1) {b : Addr} {ob : Obj} (q : h.get? b = some ob) (n : H b = none) (hx : b ∉ ex) : ∃ sl, h1.get? b = some { ob with slots := sl } := by
  by_cases hb : b ∈ fs
  · exact u.slot b ob q n hb hx
  · exact ⟨ob.slots, u.keep b ob q n hb hx⟩
theorem Un.kept (k : ∀ b u, h.get? b = some u → h'.get? b = some u) : Un fs ex H H h h' :=
  ⟨fun b ob q _ _ _ => k b ob q, fun b ob q _ _ _ => ⟨ob.slots, k b ob q⟩, fun _ _ _ n _ => n, fun b ob q _ => ⟨ob, k b ob q⟩, fun _ _ q => q, fun _ _ _ q => q, fun _ ps q => ⟨#[], by rw [q]; simp⟩⟩
theorem Un.refl : Un fs ex H H h h := Un.kept fun _ _ q => q
theorem Un.laid (k : ∀ b u, h.get? b = some u → h'.get? b = some u) (hp : h.objs.size ≤ a) (hn : H a = none) : Un fs ex H (upd H a o) h h' where
  keep := fun b u q _ _ _ => k b u q
  slot := fun b u q _ _ _ => ⟨u.slots, k b u q⟩
  free := fun b u q n _ => by rw [upd_ne (Nat.ne_of_lt (Nat.lt_of_lt_of_le (Heap.lt_size q) hp))]; exact n
  there := fun b u q _ => ⟨u, k b u q⟩
  tups := fun b xs q => by rw [upd_ne (ne_of_none q hn)]; exact q
  frzs := fun b u xs q => by rw [upd_ne (ne_of_none q hn)]; exact q
  tbls := fun b ps q => ⟨#[], by rw [upd_ne (ne_of_none q hn), q]; simp⟩
theorem Un.write (mu : Mut (H x)) (he : e = x ∨ H e = some (.own x)) (k : ∀ b u, b ≠ e → h.get? b = some u → h'.get? b = some u) (heo : ∃ u, h'.get? e = some u) : Un fs ex H (upd H x o) h h' := by
  have hx : ∀ b, H b = none → b ≠ x := fun b n z => by subst z; rw [n] at mu; exact mu
  have hb : ∀ b, H b = none → b ≠ e := fun b n z => by
    subst z
    rcases he with r | r
    · exact hx b n r
    · rw [n] at r; cases r
  have hm : ∀ b u, H b = some u → ¬ Mut (some u) → b ≠ x := fun b u q nm z => by subst z; rw [q] at mu; exact nm mu
  refine ⟨fun b u q n _ _ => k b u (hb b n) q, fun b u q n _ _ => ⟨u.slots, k b u (hb b n) q⟩, fun b u q n _ => by rw [upd_ne (hx b n)]; exact n, fun b u q _ => ?_,
    fun b xs q => by rw [upd_ne (hm b _ q fun z => z)]; exact q, fun b u xs q => by rw [upd_ne (hm b _ q fun z => z)]; exact q, fun b ps q => ⟨#[], by rw [upd_ne (hm b _ q fun z => z), q]; simp⟩⟩
  by_cases hbe : b = e
  · subst hbe; exact heo
  · exact ⟨u, k b u hbe q⟩
end
def trk (h : Heap) (H : Hp) : List Addr := (List.range h.objs.size).filter fun a => (H a).isSome
def hidT (h : Heap) (H : Hp) : Heap := PySem.W.hideAll h (trk h H)
theorem hidT_size (h : Heap) (H : Hp) : (hidT h H).objs.size = h.objs.size := PySem.W.hideAll_size _ _
theorem hidT_get {h : Heap} {H : Hp} {b : Addr} {o : Obj} (e : h.get? b = some o) (n : H b = none) : (hidT h H).get? b = some o :=
  PySem.W.hideAll_get _ e fun hm => by
    have q : (H b).isSome = true := (List.mem_filter.mp hm).2
    rw [n] at q; simp at q
theorem of_hidT {h : Heap} {H : Hp} {b : Addr} {o : Obj} (e : (hidT h H).get? b = some o) : h.get? b = some o ∧ H b = none := by
  have e' : h.get? b = some o := PySem.W.of_hideAll (trk h H) e
  refine ⟨e', ?_⟩
  cases q : H b with
  | none => rfl
  | some x =>
    have hm : b ∈ trk h H := List.mem_filter.mpr ⟨List.mem_range.mpr (Heap.lt_size e'), by simp [q]⟩
    have z : (hidT h H).get? b = none := PySem.W.hideAll_none (trk h H) hm
    rw [z] at e; cases e
end L2
namespace L2
open PySem PySem.Spec PyProof.Rows
structure Mod (K : PySem.W.Frag) (mg : Str → Option Value) (base : Heap) : Prop where
  kin : K.In base
  glob : base.Ns mainGlobals mg
  blt : ∃ mb, base.Ns builtinsNs mb ∧ ∀ x : Str, x ≠ "__name__" → mb x = bootBuiltins x
  nolimit : base.NoLimit
structure Cx where
  prog : Program
  w : World
  K : PySem.W.Frag
  mg : Str → Option Value
  base : Heap
  A : Around
  N : List Str
  s_0 : Shared
  H_0 : Hp
  env : Env
  outer : List Env
  stack : List Env
  ex : List Addr
  fn : Str → Bool
  calm : Bool
  pn : List (Addr × Obj)
  xe : Value → Shared → Prop
def frs (l : List Env) : List Addr := l.filterMap (·.frame)
abbrev Cx.fs (X : Cx) : List Addr := frs X.outer
def Vis (sc : Scope) (x : Str) : Prop := sc.names.lookup x = some .local ∨ sc.names.lookup x = some .cell ∨ sc.names.lookup x = some .free
def Loc (sc : Scope) (x : Str) : Prop := sc.names.lookup x = some .local ∨ sc.names.lookup x = some .cell
def Look (env : Env) (h : Heap) (m : Str → Option Value) (x : Str) (u : Value) : Prop :=
  (env.kindOf x = some .local ∧ m x = some u) ∨ ((env.kindOf x = some .cell ∨ env.kindOf x = some .free) ∧ ∃ c, env.cells.lookup x = some c ∧ h.IsCell c (some u))
structure Cx.Ok (X : Cx) : Prop where
  mod : Mod X.K X.mg X.base
  kind : X.env.scope.kind = .function
  glob : X.env.globals = mainGlobals
  blt : X.env.builtins = builtinsNs
  above : X.s_0.heap.objs.size ≤ X.env.locals
  inj : ∀ x y c, X.env.cells.lookup x = some c → X.env.cells.lookup y = some c → x = y
  has : ∀ x, (X.env.kindOf x = some .cell ∨ X.env.kindOf x = some .free) → ∃ c, X.env.cells.lookup x = some c
  cab : ∀ x c, X.fn x = true → X.env.cells.lookup x = some c → X.s_0.heap.objs.size ≤ c
  hd : X.calm = true → X.A.handled = none
  frames : X.A.frames = some X.stack
  stk : X.stack = X.outer ∨ (X.stack = X.env :: X.outer ∧ X.env.frame = some X.env.locals)
  exf : ∀ b ∈ X.ex, b ≠ X.env.locals ∧ ∀ x c, X.env.cells.lookup x = some c → c ≠ b
  bs : ∀ b o, X.base.get? b = some o → X.s_0.heap.get? b = some o ∧ X.H_0 b = none
  bsz : X.base.objs.size ≤ X.s_0.heap.objs.size
  noex : ∀ b o, X.base.get? b = some o → b ∉ X.ex
  exfs : ∀ b ∈ X.ex, b ∉ X.fs
  funs : X.s_0.heap.FunFrames X.base X.outer
  frf : ∀ b ∈ X.fs, X.H_0 b = none
structure Inv (X : Cx) (pins : List (Addr × Obj)) (σ : List (Option V)) (H : Hp) (s : Shared) : Prop where
  ok : X.Ok
  os : s.os = X.s_0.os
  bare : AllBare s.gens
  base : Un X.fs X.ex X.H_0 H X.s_0.heap s.heap
  loc : ∃ m, s.heap.Ns X.env.locals m ∧ ∀ (i : Nat) (x : Str) (v : V), X.N[i]? = some x → σ[i]? = some (some v) → Vis X.env.scope x → ∃ u, RelV v u ∧ Look X.env s.heap m x u
  cell : ∀ x c, X.env.cells.lookup x = some c → ∃ v, s.heap.IsCell c v
  free : H X.env.locals = none
  freeC : ∀ x c, X.env.cells.lookup x = some c → H c = none
  pin : ∀ p ∈ X.pn ++ pins, s.heap.get? p.1 = some p.2 ∧ H p.1 = none ∧ p.1 ≠ X.env.locals ∧ p.1 ∉ X.fs ∧ ∀ v, p.2.data ≠ .cell v
  hok : HOk X.prog X.w H s.heap
  len : σ.length = X.N.length
section
variable {X : Cx} {pins : List (Addr × Obj)} {σ : List (Option V)} {H H' : Hp} {s : Shared} {h' : Heap}
theorem Cx.Ok.nofr (ok : X.Ok) {b : Addr} {o : Obj} (e : X.base.get? b = some o) : b ∉ X.fs := fun hb => by
  have := (ok.funs.mem hb).1
  rw [e] at this; cases this
theorem Inv.bs (I : Inv X pins σ H s) : ∀ b o, X.base.get? b = some o → s.heap.get? b = some o ∧ H b = none := fun b o e =>
  ⟨I.base.keep b o (I.ok.bs b o e).1 (I.ok.bs b o e).2 (I.ok.nofr e) (I.ok.noex b o e), I.base.free b o (I.ok.bs b o e).1 (I.ok.bs b o e).2 (I.ok.noex b o e)⟩
theorem Inv.bk (I : Inv X pins σ H s) : ∀ b o, X.base.get? b = some o → s.heap.get? b = some o := fun b o e => (I.bs b o e).1
theorem Inv.mod (I : Inv X pins σ H s) : Mod X.K X.mg X.base := I.ok.mod
theorem Inv.kIn (I : Inv X pins σ H s) : X.K.In s.heap := I.ok.mod.kin.keeps I.bk
theorem Inv.lt (I : Inv X pins σ H s) : X.env.locals < s.heap.objs.size := let ⟨_, hn, _⟩ := I.loc; hn.lt
theorem Inv.sz (I : Inv X pins σ H s) : X.s_0.heap.objs.size ≤ s.heap.objs.size := Nat.le_trans I.ok.above (Nat.le_of_lt I.lt)
theorem Inv.nofs (I : Inv X pins σ H s) {a : Addr} (h : s.heap.objs.size ≤ a) : a ∉ X.fs := fun hb => by
  obtain ⟨_, o, ho, _⟩ := I.ok.funs.mem hb
  exact absurd (Nat.lt_of_lt_of_le (Heap.lt_size ho) (Nat.le_trans I.sz h)) (Nat.lt_irrefl _)
theorem Inv.cne (I : Inv X pins σ H s) : ∀ x c, X.env.cells.lookup x = some c → c ≠ X.env.locals := fun x c e z => by
  obtain ⟨v, o, ho, hd⟩ := I.cell x c e
  obtain ⟨m, ⟨o', es, ep, ho', hd', _⟩, _⟩ := I.loc
  rw [z, ho'] at ho; cases ho; rw [hd'] at hd; cases hd
theorem Inv.funs (I : Inv X pins σ H s) : s.heap.FunFrames X.base X.outer := by
  have all : ∀ (l : List Env), (∀ b ∈ frs l, b ∈ X.fs) → X.s_0.heap.FunFrames X.base l → s.heap.FunFrames X.base l := by
    intro l
    induction l with
    | nil => intro _ _; trivial
    | cons env r ih =>
      intro hs hl
      obtain ⟨hk, ⟨L, o, hf, hn, ho, hd⟩, hr⟩ := hl
      have hL : L ∈ X.fs := hs L (by unfold frs; rw [List.filterMap_cons, hf]; exact List.mem_cons_self)
      obtain ⟨sl, e⟩ := I.base.slot L o ho (I.ok.frf L hL) hL fun z => I.ok.exfs L z hL
      exact ⟨hk, ⟨L, _, hf, hn, e, hd⟩, ih (fun b hb => hs b (by unfold frs; rw [List.filterMap_cons, hf]; exact List.mem_cons_of_mem _ hb)) hr⟩
  exact all X.outer (fun _ hb => hb) I.ok.funs
theorem Inv.stack (I : Inv X pins σ H s) : s.heap.FunFrames X.base X.stack := by
  rcases I.ok.stk with e | ⟨e, hf⟩
  · rw [e]; exact I.funs
  · rw [e]
    obtain ⟨m, hn, _⟩ := I.loc
    refine .cons (by rw [I.ok.kind]; decide) hf hn ?_ I.funs
    exact Heap.get?_none_of_le (Nat.le_trans I.ok.bsz I.ok.above)
theorem Inv.stkSub (I : Inv X pins σ H s) : ∀ b ∈ frs X.stack, b ∈ X.env.locals :: X.fs := fun b hb => by
  rcases I.ok.stk with e | ⟨e, hf⟩
  · rw [e] at hb; exact List.mem_cons_of_mem _ hb
  · rw [e] at hb
    unfold frs at hb
    rw [List.filterMap_cons, hf] at hb
    exact hb
theorem Inv.stkFree (I : Inv X pins σ H s) : ∀ b ∈ frs X.stack, H b = none := fun b hb => by
  rcases List.mem_cons.mp (I.stkSub b hb) with e | hb
  · rw [e]; exact I.free
  · obtain ⟨_, o, ho, _⟩ := I.ok.funs.mem hb
    exact I.base.free b o ho (I.ok.frf b hb) fun z => I.ok.exfs b z hb
theorem Inv.step {g' : Array GenState} {t' : Nat} {d' : Drawn} {ch : List Addr} (I : Inv X pins σ H s)
    (hch : ∀ b ∈ ch, (b ∈ X.ex ∨ X.s_0.heap.objs.size ≤ b) ∧ b ≠ X.env.locals ∧ (∀ x c, X.env.cells.lookup x = some c → c ≠ b) ∧ ∀ p ∈ X.pn ++ pins, p.1 ≠ b)
    (keep : ∀ b o, b ≠ X.env.locals → b ∉ X.fs → b ∉ ch → s.heap.get? b = some o → H b = none → h'.get? b = some o)
    (slot : ∀ b o, b ≠ X.env.locals → b ∈ X.fs → b ∉ ch → s.heap.get? b = some o → H b = none → ∃ sl, h'.get? b = some { o with slots := sl }) (free : ∀ b o, b ∉ ch → s.heap.get? b = some o → H b = none → H' b = none)
    (there : ∀ b o, b ∉ ch → s.heap.get? b = some o → ∃ o', h'.get? b = some o')
    (tups : ∀ b xs, H b = some (.tup xs) → H' b = some (.tup xs)) (frzs : ∀ b o u, H b = some (.frz o u) → H' b = some (.frz o u)) (tbls : ∀ b ps, H b = some (.tbl ps) → ∃ more, H' b = some (.tbl (ps ++ more)))
    (ns : ∀ m, s.heap.Ns X.env.locals m → h'.Ns X.env.locals m) (hok : HOk X.prog X.w H' h') (hg : AllBare g') :
    Inv X pins σ H' { s with heap := h', gens := g', drawn := d', toks := t' } := by
  have neL : ∀ b o, X.s_0.heap.get? b = some o → b ≠ X.env.locals := fun b o e => Nat.ne_of_lt (Nat.lt_of_lt_of_le (Heap.lt_size e) I.ok.above)
  have neC : ∀ b o, X.s_0.heap.get? b = some o → b ∉ X.ex → b ∉ ch := fun b o e hx hb => by
    rcases (hch b hb).1 with z | z
    · exact hx z
    · exact absurd (Nat.lt_of_lt_of_le (Heap.lt_size e) z) (Nat.lt_irrefl _)
  have cellK : ∀ x c, X.env.cells.lookup x = some c → ∀ v, s.heap.IsCell c v → h'.IsCell c v := fun x c e v ⟨o, ho, hd⟩ => by
    have nch : c ∉ ch := fun z => (hch c z).2.2.1 x c e rfl
    by_cases hc : c ∈ X.fs
    · obtain ⟨sl, q⟩ := slot c o (I.cne x c e) hc nch ho (I.freeC x c e)
      exact ⟨_, q, hd⟩
    · exact ⟨o, keep c o (I.cne x c e) hc nch ho (I.freeC x c e), hd⟩
  refine ⟨I.ok, I.os, hg, ⟨fun b o e n hb hx => ?_, fun b o e n hb hx => ?_, fun b o e n hx => ?_, fun b o e hx => ?_, fun b xs e => tups b xs (I.base.tups b xs e), fun b o xs e => frzs b o xs (I.base.frzs b o xs e), fun b ps e => ?_⟩, ?_, fun x c e => ?_, ?_, fun x c e => ?_, fun p hp => ?_, hok, I.len⟩
  · exact keep b o (neL b o e) hb (neC b o e hx) (I.base.keep b o e n hb hx) (I.base.free b o e n hx)
  · obtain ⟨sl, e1⟩ := I.base.slot b o e n hb hx
    obtain ⟨sl', e2⟩ := slot b _ (neL b o e) hb (neC b o e hx) e1 (I.base.free b o e n hx)
    exact ⟨sl', e2⟩
  · obtain ⟨o', e1⟩ := I.base.there b o e hx
    exact free b o' (neC b o e hx) e1 (I.base.free b o e n hx)
  · obtain ⟨o', e1⟩ := I.base.there b o e hx
    exact there b o' (neC b o e hx) e1
  · obtain ⟨m1, e1⟩ := I.base.tbls b ps e
    obtain ⟨m2, e2⟩ := tbls b _ e1
    exact ⟨m1 ++ m2, by rw [e2, Array.append_assoc]⟩
  · obtain ⟨m, hn, hl⟩ := I.loc
    refine ⟨m, ns m hn, fun i x v e1 e2 e3 => ?_⟩
    obtain ⟨u, r, l⟩ := hl i x v e1 e2 e3
    refine ⟨u, r, ?_⟩
    rcases l with l | ⟨k, c, e, z⟩
    · exact .inl l
    · exact .inr ⟨k, c, e, cellK x c e _ z⟩
  · obtain ⟨v, z⟩ := I.cell x c e
    exact ⟨v, cellK x c e v z⟩
  · obtain ⟨m, ⟨o, _, _, ho, _⟩, _⟩ := I.loc
    exact free _ o (fun z => (hch _ z).2.1 rfl) ho I.free
  · obtain ⟨v, o, ho, hd⟩ := I.cell x c e
    exact free c o (fun z => (hch c z).2.2.1 x c e rfl) ho (I.freeC x c e)
  · obtain ⟨e, n, ne, nf, d⟩ := I.pin p hp
    have nch : p.1 ∉ ch := fun z => (hch p.1 z).2.2.2 p hp rfl
    exact ⟨keep p.1 p.2 ne nf nch e n, free p.1 p.2 nch e n, ne, nf, d⟩
theorem Inv.un {t' : Nat} (I : Inv X pins σ H s) (u : Un X.fs [] H H' s.heap h') (hok : HOk X.prog X.w H' h') : Inv X pins σ H' { s with heap := h', toks := t' } := by
  obtain ⟨m, ⟨o, es, ep, ho, r⟩, _⟩ := id I.loc
  obtain ⟨sl, hL⟩ := u.any ho I.free (by simp)
  exact I.step (g' := s.gens) (d' := s.drawn) (ch := []) (fun _ z => nomatch z) (fun b o _ hb _ e n => u.keep b o e n hb (by simp)) (fun b o _ hb _ e n => u.slot b o e n hb (by simp)) (fun b o _ e n => u.free b o e n (by simp)) (fun b o _ e => u.there b o e (by simp)) u.tups u.frzs u.tbls (fun m' hm => by
    obtain ⟨o', es', ep', ho', r'⟩ := hm
    rw [ho] at ho'; cases ho'
    exact ⟨_, es', ep', hL, r'⟩) hok I.bare
theorem Inv.call {g' : Array GenState} {t' : Nat} {d' : Drawn} {ch : List Addr} (I : Inv X pins σ H s) (u : Un (frs X.stack) ch H H' s.heap h') (hok : HOk X.prog X.w H' h') (hg : AllBare g')
    (hch : ∀ b ∈ ch, (b ∈ X.ex ∨ X.s_0.heap.objs.size ≤ b) ∧ b ≠ X.env.locals ∧ (∀ x c, X.env.cells.lookup x = some c → c ≠ b) ∧ ∀ p ∈ X.pn ++ pins, p.1 ≠ b) :
    Inv X pins σ H' { s with heap := h', gens := g', drawn := d', toks := t' } := by
  obtain ⟨m, ⟨o, es, ep, ho, r⟩, _⟩ := id I.loc
  obtain ⟨sl, hL⟩ := u.any ho I.free fun z => (hch _ z).2.1 rfl
  exact I.step (ch := ch) hch (fun b o hL hb hc e n => u.keep b o e n (fun z => (List.mem_cons.mp (I.stkSub b z)).elim hL hb) hc) (fun b o _ _ hc e n => u.any e n hc) (fun b o hc e n => u.free b o e n hc) (fun b o hc e => u.there b o e hc) u.tups u.frzs u.tbls (fun m' hm => by
    obtain ⟨o', es', ep', ho', r'⟩ := hm
    rw [ho] at ho'; cases ho'
    exact ⟨_, es', ep', hL, r'⟩) hok hg
theorem Inv.turned {t' : Nat} {it : Addr} (I : Inv X pins σ H s) (k : ∀ b o, b ≠ it → s.heap.get? b = some o → h'.get? b = some o) (hn : H it = none) (hL : it ≠ X.env.locals)
    (h1 : it ∈ X.ex ∨ X.s_0.heap.objs.size ≤ it) (h2 : ∀ x c, X.env.cells.lookup x = some c → c ≠ it) (h3 : ∀ p ∈ X.pn ++ pins, p.1 ≠ it) : Inv X pins σ H { s with heap := h', toks := t' } := by
  have nit : ∀ b u, H b = some u → b ≠ it := fun b u e z => by rw [z, hn] at e; cases e
  refine I.step (g' := s.gens) (d' := s.drawn) (ch := [it]) (fun b hb => ?_) (fun b o _ _ hc e _ => k b o (fun z => hc (by simp [z])) e) (fun b o _ _ hc e _ => ⟨o.slots, k b o (fun z => hc (by simp [z])) e⟩) (fun _ _ _ _ n => n)
    (fun b o hc e => ⟨o, k b o (fun z => hc (by simp [z])) e⟩) (fun _ _ e => e) (fun _ _ _ e => e) (fun b ps e => ⟨#[], by rw [e]; simp⟩) (fun m hm => ?_) (fun b u e => ?_) I.bare
  · have e : b = it := by simpa using hb
    subst e
    exact ⟨h1, hL, h2, h3⟩
  · obtain ⟨o, es, ep, ho, r⟩ := hm
    exact ⟨o, es, ep, k _ o (Ne.symm hL) ho, r⟩
  · refine (I.hok b u e).stay (fun c v hc q => k c v ?_ q) (fun _ q => q) fun _ _ q => q
    rcases hc with z | z
    · rw [z]; exact nit b u e
    · exact nit c _ z
theorem Inv.tok (I : Inv X pins σ H s) (t : Nat) : Inv X pins σ H { s with toks := t } := I.un (h' := s.heap) (t' := t) Un.refl I.hok
theorem Inv.kept {t' : Nat} (I : Inv X pins σ H s) (k : ∀ b u, s.heap.get? b = some u → h'.get? b = some u) : Inv X pins σ H { s with heap := h', toks := t' } := I.un (Un.kept k) (I.hok.kept k)
theorem Inv.laid {a : Addr} {o : HO} {t' : Nat} (I : Inv X pins σ H s) (k : ∀ b u, s.heap.get? b = some u → h'.get? b = some u) (hp : s.heap.objs.size ≤ a) (new : ObjOk X.prog X.w (upd H a o) h' a o) :
    Inv X pins σ (upd H a o) { s with heap := h', toks := t' } := I.un (Un.laid k hp (I.hok.fresh hp)) (I.hok.laid k hp new)
theorem Inv.write {x e : Addr} {o : HO} {t' : Nat} (I : Inv X pins σ H s) (mu : Mut (H x)) (he : e = x ∨ H e = some (.own x)) (k : ∀ b u, b ≠ e → s.heap.get? b = some u → h'.get? b = some u) (heo : ∃ u, h'.get? e = some u)
    (new : ObjOk X.prog X.w (upd H x o) h' x o) : Inv X pins σ (upd H x o) { s with heap := h', toks := t' } := I.un (Un.write mu he k heo) (I.hok.write mu he k heo new)
theorem Inv.weak {σ' : List (Option V)} (I : Inv X pins σ H s) (hl : σ'.length = σ.length) (w : ∀ (i : Nat) v, σ'[i]? = some (some v) → σ[i]? = some (some v)) : Inv X pins σ' H s :=
  ⟨I.ok, I.os, I.bare, I.base, let ⟨m, hn, hl'⟩ := I.loc; ⟨m, hn, fun i x v e1 e2 e3 => hl' i x v e1 (w i v e2) e3⟩, I.cell, I.free, I.freeC, I.pin, I.hok, hl.trans I.len⟩
theorem Inv.pins_of {pins' : List (Addr × Obj)} (I : Inv X pins σ H s) (h : ∀ p ∈ pins', s.heap.get? p.1 = some p.2 ∧ H p.1 = none ∧ p.1 ≠ X.env.locals ∧ p.1 ∉ X.fs ∧ ∀ v, p.2.data ≠ .cell v) : Inv X pins' σ H s :=
  ⟨I.ok, I.os, I.bare, I.base, I.loc, I.cell, I.free, I.freeC, fun p hp => (List.mem_append.mp hp).elim (fun z => I.pin p (List.mem_append_left _ z)) (h p), I.hok, I.len⟩
theorem nodup_ix {N : List Str} (hN : N.Nodup) {i j : Nat} {x : Str} (a : N[i]? = some x) (b : N[j]? = some x) : i = j := by
  obtain ⟨h1, e1⟩ := List.getElem?_eq_some_iff.mp a
  obtain ⟨h2, e2⟩ := List.getElem?_eq_some_iff.mp b
  exact (List.getElem_inj hN).mp (e1.trans e2.symm)
theorem store_ok2 {M : Model} {A : Around} {E : Value → Shared → Prop} {i : Nat} {x : Str} {v : V} {u : Value} {Q : Unit → Shared → Prop} (I : Inv X pins σ H s) (hN : X.N.Nodup) (hi : X.N[i]? = some x) (hx : Loc X.env.scope x) (r : RelV v u)
    (h : ∀ s', Inv X pins (σ.set i (some v)) H s' → (∃ a, Heap.SameBut a s.heap s'.heap ∧ (a = X.env.locals ∨ X.env.cells.lookup x = some a)) → Q () s') (hf : X.fn x = true ∨ X.env.scope.names.lookup x = some .local := by first | exact .inl rfl | exact .inr rfl | assumption) : wpAny M A (storeName X.env x u) Q E s := by
  obtain ⟨m, hn, hl⟩ := id I.loc
  have hcls : (X.env.scope.kind == .class || (X.env.scope.kind == .module && X.env.locals != X.env.globals)) = false := by rw [I.ok.kind]; rfl
  have hiσ : i < σ.length := by rw [I.len]; exact (List.getElem?_eq_some_iff.mp hi).1
  have cne := I.cne
  have tracked : ∀ {a : Addr} {h' : Heap}, (∃ o, s.heap.get? a = some o ∧ H a = none) → Heap.SameBut a s.heap h' → HOk X.prog X.w H h' := fun {a h'} ha hs b ob e => by
    obtain ⟨_, _, hfree⟩ := ha
    refine (I.hok b ob e).stay (fun c w' hc q => (hs.2 c ?_).trans q) (fun _ q => q) fun _ _ q => q
    rintro rfl
    rcases hc with rfl | hc
    · rw [hfree] at e; cases e
    · rw [hfree] at hc; cases hc
  rcases hx with hk | hk
  · refine wpAny_storeName_local hk hn (fun h' hn' hs => ?_) hcls
    obtain ⟨oL, _, _, hoL, _⟩ := id hn
    refine h _ ⟨I.ok, I.os, I.bare, ⟨fun b o e n hb hx => ?_, fun b o e n hb hx => ?_, I.base.free, fun b o e hx => ?_, I.base.tups, I.base.frzs, I.base.tbls⟩, ⟨_, hn', fun j y v' e1 e2 e3 => ?_⟩, fun y c e => ?_, I.free, I.freeC, fun p hp => ?_, tracked ⟨oL, hoL, I.free⟩ hs, by simpa using I.len⟩ ⟨_, hs, .inl rfl⟩
    · exact (hs.2 b (Nat.ne_of_lt (Nat.lt_of_lt_of_le (Heap.lt_size e) I.ok.above))).trans (I.base.keep b o e n hb hx)
    · obtain ⟨sl, e1⟩ := I.base.slot b o e n hb hx
      exact ⟨sl, (hs.2 b (Nat.ne_of_lt (Nat.lt_of_lt_of_le (Heap.lt_size e) I.ok.above))).trans e1⟩
    · obtain ⟨o', e1⟩ := I.base.there b o e hx
      exact ⟨o', (hs.2 b (Nat.ne_of_lt (Nat.lt_of_lt_of_le (Heap.lt_size e) I.ok.above))).trans e1⟩
    · by_cases hj : j = i
      · subst hj
        rw [hi] at e1; cases e1
        rw [List.getElem?_set_self hiσ] at e2
        cases e2
        exact ⟨u, r, .inl ⟨hk, by simp⟩⟩
      · rw [List.getElem?_set_ne (Ne.symm hj)] at e2
        obtain ⟨u', r', q⟩ := hl j y v' e1 e2 e3
        refine ⟨u', r', ?_⟩
        rcases q with ⟨k, e⟩ | ⟨k, c, e, z⟩
        · refine .inl ⟨k, ?_⟩
          have : y ≠ x := fun e => hj (nodup_ix hN e1 (e ▸ hi))
          simp [this, e]
        · exact .inr ⟨k, c, e, z.sameBut hs (cne y c e)⟩
    · obtain ⟨w', z⟩ := I.cell y c e
      exact ⟨w', z.sameBut hs (cne y c e)⟩
    · obtain ⟨e, n, ne, nf, d⟩ := I.pin p hp
      exact ⟨(hs.2 p.1 ne).trans e, n, ne, nf, d⟩
  · have hfn : X.fn x = true := by
      rcases hf with z | z
      · exact z
      · rw [z] at hk; cases hk
    obtain ⟨c, hc⟩ := I.ok.has x (.inl hk)
    obtain ⟨w', z⟩ := I.cell x c hc
    refine wpAny_storeName_cell I.ok.kind hk hc z (fun h' hc' hs => ?_)
    obtain ⟨oc, hoc, hocd⟩ := id z
    refine h { s with heap := h' } ⟨I.ok, I.os, I.bare, ⟨fun b o e n hb hx => ?_, fun b o e n hb hx => ?_, I.base.free, fun b o e hx => ?_, I.base.tups, I.base.frzs, I.base.tbls⟩, ⟨m, hn.sameBut hs (Ne.symm (cne x c hc)), fun j y v' e1 e2 e3 => ?_⟩, fun y c' e => ?_, I.free, I.freeC, fun p hp => ?_, tracked ⟨oc, hoc, I.freeC x c hc⟩ hs, by simpa using I.len⟩ ⟨c, hs, .inr hc⟩
    · exact (hs.2 b (Nat.ne_of_lt (Nat.lt_of_lt_of_le (Heap.lt_size e) (I.ok.cab x c hfn hc)))).trans (I.base.keep b o e n hb hx)
    · obtain ⟨sl, e1⟩ := I.base.slot b o e n hb hx
      exact ⟨sl, (hs.2 b (Nat.ne_of_lt (Nat.lt_of_lt_of_le (Heap.lt_size e) (I.ok.cab x c hfn hc)))).trans e1⟩
    · obtain ⟨o', e1⟩ := I.base.there b o e hx
      exact ⟨o', (hs.2 b (Nat.ne_of_lt (Nat.lt_of_lt_of_le (Heap.lt_size e) (I.ok.cab x c hfn hc)))).trans e1⟩
    · by_cases hj : j = i
      · subst hj
        rw [hi] at e1; cases e1
        rw [List.getElem?_set_self hiσ] at e2
        cases e2
        exact ⟨u, r, .inr ⟨.inl hk, c, hc, hc'⟩⟩
      · rw [List.getElem?_set_ne (Ne.symm hj)] at e2
        obtain ⟨u', r', q⟩ := hl j y v' e1 e2 e3
        refine ⟨u', r', ?_⟩
        rcases q with q | ⟨k, c', e, z'⟩
        · exact .inl q
        · refine .inr ⟨k, c', e, z'.sameBut hs ?_⟩
          rintro rfl
          exact hj (nodup_ix hN e1 (I.ok.inj _ _ _ e hc ▸ hi))
    · by_cases hcc : c' = c
      · subst hcc; exact ⟨_, hc'⟩
      · obtain ⟨w2, z2⟩ := I.cell y c' e
        exact ⟨w2, z2.sameBut hs hcc⟩
    · obtain ⟨e, n, ne, nf, d⟩ := I.pin p hp
      refine ⟨(hs.2 p.1 ?_).trans e, n, ne, nf, d⟩
      intro q
      rw [q, hoc] at e
      have q' : oc = p.2 := Option.some.inj e
      exact d w' (by rw [← q']; exact hocd)
theorem store_ok {M : Model} {A : Around} {E : Value → Shared → Prop} {i : Nat} {x : Str} {v : V} {u : Value} {Q : Unit → Shared → Prop} (I : Inv X pins σ H s) (hN : X.N.Nodup) (hi : X.N[i]? = some x) (hx : Loc X.env.scope x) (r : RelV v u)
    (h : ∀ s', Inv X pins (σ.set i (some v)) H s' → Q () s') (hf : X.fn x = true ∨ X.env.scope.names.lookup x = some .local := by first | exact .inl rfl | exact .inr rfl | assumption) : wpAny M A (storeName X.env x u) Q E s :=
  store_ok2 I hN hi hx r (fun s' I' _ => h s' I') hf
theorem Inv.call' {s' : Shared} {ch : List Addr} (I : Inv X pins σ H s) (ho : s'.os = s.os) (u : Un (frs X.stack) ch H H' s.heap s'.heap) (hok : HOk X.prog X.w H' s'.heap) (hg : AllBare s'.gens)
    (hch : ∀ b ∈ ch, (b ∈ X.ex ∨ X.s_0.heap.objs.size ≤ b) ∧ b ≠ X.env.locals ∧ (∀ x c, X.env.cells.lookup x = some c → c ≠ b) ∧ ∀ p ∈ X.pn ++ pins, p.1 ≠ b) : Inv X pins σ H' s' := by
  obtain ⟨h', g', d', t', o'⟩ := s'
  have e : o' = s.os := ho
  subst e
  exact I.call (g' := g') (t' := t') (d' := d') u hok hg hch
end
abbrev XK := Value → Option Addr → Hp → Prop
abbrev St := List (Option V)
abbrev VK := V → Hp → Prop
abbrev TE := St → Hp → VK → Prop
abbrev TT := St → Hp → (Bool → Hp → Prop) → Prop
abbrev TA := St → Hp → (List V → Hp → Prop) → Prop
structure Ends where
  nx : St → Hp → Prop
  rt : VK
  bk : St → Hp → Prop := fun _ _ => False
  ct : St → Hp → Prop := fun _ _ => False
abbrev TS := Ends → St → Hp → Prop
def EP (X : Cx) (pins : List (Addr × Obj)) (σ : St) (Q : VK) (u : Value) (s' : Shared) : Prop := ∃ v H', Inv X pins σ H' s' ∧ RelV v u ∧ Q v H'
def TP (X : Cx) (pins : List (Addr × Obj)) (σ : St) (Q : Bool → Hp → Prop) (b : Bool) (s' : Shared) : Prop := ∃ H', Inv X pins σ H' s' ∧ Q b H'
def AP (X : Cx) (pins : List (Addr × Obj)) (σ : St) (Q : List V → Hp → Prop) (us : List Value) (s' : Shared) : Prop := ∃ vs H', Inv X pins σ H' s' ∧ Vals vs us ∧ Q vs H'
def SP (X : Cx) (pins : List (Addr × Obj)) (D : Ends) (f : Flow) (s' : Shared) : Prop :=
  match f with
  | .next => ∃ σ' H', Inv X pins σ' H' s' ∧ D.nx σ' H'
  | .brk => ∃ σ' H', Inv X pins σ' H' s' ∧ D.bk σ' H'
  | .cont => ∃ σ' H', Inv X pins σ' H' s' ∧ D.ct σ' H'
  | .ret u => ∃ v σ' H', Inv X pins σ' H' s' ∧ RelV v u ∧ D.rt v H'
def PE (X : Cx) (e : Expr) (t : TE) : Prop :=
  ∀ (pins : List (Addr × Obj)) (s : Shared) (σ : St) (H : Hp) (Q : VK), Inv X pins σ H s → t σ H Q → wpAny (model X.prog X.w) X.A (eval e X.env) (EP X pins σ Q) X.xe s
def PT (X : Cx) (e : Expr) (t : TT) : Prop :=
  ∀ (pins : List (Addr × Obj)) (s : Shared) (σ : St) (H : Hp) (Q : Bool → Hp → Prop), Inv X pins σ H s → t σ H Q → wpAny (model X.prog X.w) X.A (isTrue e X.env (eval e X.env)) (TP X pins σ Q) X.xe s
def PW (X : Cx) (e : Expr) (t : TT) : Prop :=
  ∀ (whole : Sem Value) (pins : List (Addr × Obj)) (s : Shared) (σ : St) (H : Hp) (Q : Bool → Hp → Prop), Inv X pins σ H s → t σ H Q → wpAny (model X.prog X.w) X.A (isTrue e X.env whole) (TP X pins σ Q) X.xe s
theorem PW.pt {X : Cx} {e : Expr} {t : TT} (h : PW X e t) : PT X e t := h _
def PA (X : Cx) (es : List Expr) (t : TA) : Prop :=
  ∀ (pos : Pos) (pins : List (Addr × Obj)) (s : Shared) (σ : St) (H : Hp) (Q : List V → Hp → Prop), Inv X pins σ H s → t σ H Q → wpAny (model X.prog X.w) X.A (spliced (backTo pos (starEach es X.env))) (AP X pins σ Q) X.xe s
def PS (X : Cx) (st : Stmt) (t : TS) : Prop :=
  ∀ (pins : List (Addr × Obj)) (s : Shared) (σ : St) (H : Hp) (D : Ends), Inv X pins σ H s → t D σ H → wpAny (model X.prog X.w) X.A (exec st X.env) (SP X pins D) X.xe s
def PSs (X : Cx) (st : List Stmt) (t : TS) : Prop :=
  ∀ (pins : List (Addr × Obj)) (s : Shared) (σ : St) (H : Hp) (D : Ends), Inv X pins σ H s → t D σ H → wpAny (model X.prog X.w) X.A (execs st X.env) (SP X pins D) X.xe s
theorem thn {α : Type} {t : Sem α} {Q Q' : α → Shared → Prop} {M : Model} {A : Around} {E : Value → Shared → Prop} {s : Shared} (h : wpAny M A t Q E s) (hQ : ∀ a s, Q a s → Q' a s) : wpAny M A t Q' E s := wpAny_mono h hQ fun _ _ x => x
end L2
namespace L2
open PySem PySem.Spec PyProof.Rows
section
variable {X : Cx}
def tVar (i : Nat) : TE := fun σ H Q => ∃ v, σ[i]? = some (some v) ∧ Q v H
def tC (v : V) : TE := fun _ H Q => Q v H
theorem pe_var {i : Nat} {x : Str} {pos : Pos} (hN : X.N[i]? = some x) (hv : Vis X.env.scope x) (hd : (x == ("__debug__" : Str)) = false := by decide) (hcd : (x == ("__classdict__" : Str)) = false := by decide) : PE X (.Name x pos) (tVar i) := by
  intro pins s σ H Q I h
  obtain ⟨v, e, h⟩ := h
  obtain ⟨m, hn, hl⟩ := I.loc
  obtain ⟨u, r, l⟩ := hl i x v hN e hv
  have fin : EP X pins σ Q u s := ⟨v, H, I, r, h⟩
  rcases l with ⟨hk, hm⟩ | ⟨hk, c, hc, hcell⟩
  · exact wpAny_Name (wpAny_loadName_local I.ok.kind hk hn hm fin) hd
  · rcases hk with hk | hk
    · exact wpAny_Name (wpAny_loadName_cell I.ok.kind hk hc hcell fin) hd
    · exact wpAny_Name (wpAny_loadName_free I.ok.kind hk hc hcell fin hcd) hd
theorem pe_int {i j pos} : PE X (.Constant (.int i) j pos) (tC (.int i)) := fun _ _ _ H _ I h => wpAny_Constant_int ⟨.int i, H, I.tok _, ⟨_, rfl⟩, h⟩
theorem pe_bl {b j pos} : PE X (.Constant (.bool b) j pos) (tC (.bl b)) := fun _ _ _ H _ I h => Constant_bool ⟨.bl b, H, I, rfl, h⟩
theorem pe_non {j pos} : PE X (.Constant .none j pos) (tC .non) := fun _ _ _ H _ I h => Constant_none ⟨.non, H, I, rfl, h⟩
def Gl (X : Cx) (x : Str) : Prop := X.env.kindOf x = some .globalImplicit
theorem ld_glob {E : Value → Shared → Prop} {pins : List (Addr × Obj)} {s : Shared} {σ : St} {H : Hp} {x : Str} {u : Value} {pos : Pos} {Q : Value → Shared → Prop} (I : Inv X pins σ H s) (hg : Gl X x) (hm : X.mg x = some u) (h : Q u s)
    (hd : (x == ("__debug__" : Str)) = false := by decide) : wpAny (model X.prog X.w) X.A (eval (.Name x pos) X.env) Q E s :=
  Calls.Name_function_global I.ok.kind hg (Calls.loadGlobal_global (by rw [I.ok.glob]; exact I.mod.glob.keeps I.bk) hm h) hd
theorem ld_blt {E : Value → Shared → Prop} {pins : List (Addr × Obj)} {s : Shared} {σ : St} {H : Hp} {x : Str} {u : Value} {pos : Pos} {Q : Value → Shared → Prop} (I : Inv X pins σ H s) (hg : Gl X x) (hm : X.mg x = none) (hv : bootBuiltins x = some u) (h : Q u s)
    (hn : x ≠ "__name__" := by decide) (hd : (x == ("__debug__" : Str)) = false := by decide) : wpAny (model X.prog X.w) X.A (eval (.Name x pos) X.env) Q E s := by
  obtain ⟨mb, h1, h2⟩ := I.mod.blt
  exact Calls.Name_function_global I.ok.kind hg (Calls.loadGlobal_builtin (by rw [I.ok.glob]; exact I.mod.glob.keeps I.bk) hm (by rw [I.ok.blt]; exact h1.keeps I.bk) ((h2 x hn).trans hv) h) hd
theorem pe_glob {x : Str} {v : V} {u : Value} {pos : Pos} (hg : Gl X x) (hm : X.mg x = some u) (r : RelV v u) (hd : (x == ("__debug__" : Str)) = false := by decide) : PE X (.Name x pos) (tC v) :=
  fun _ _ _ H _ I h => ld_glob I hg hm ⟨v, H, I, r, h⟩ hd
variable {a b : Expr} {ta tb : TE} {pos : Pos}
def PC (X : Cx) (op : CmpOp) (a b : Expr) (t : TE) : Prop :=
  ∀ (pins : List (Addr × Obj)) (s : Shared) (σ : St) (H : Hp) (Q : VK), Inv X pins σ H s → t σ H Q →
    wpAny (model X.prog X.w) X.A (eval a X.env) (fun v s₁ => wpAny (model X.prog X.w) X.A (eval b X.env) (fun u s₂ => wpAny (model X.prog X.w) X.A (compareOp op v u) (EP X pins σ Q) X.xe s₂) X.xe s₁) X.xe s
theorem nobehind (b : Expr) {op : CmpOp} (h : op ≠ .In) (h2 : op ≠ .NotIn) : behindInMarks op b = false := by
  have e1 : (op == CmpOp.In) = false := by cases op <;> first | rfl | exact absurd rfl h
  have e2 : (op == CmpOp.NotIn) = false := by cases op <;> first | rfl | exact absurd rfl h2
  cases b <;> simp [behindInMarks, e1, e2]
def tIsN (ta : TE) : TE := fun σ H Q => ta σ H fun x H1 => Q (.bl (decide (x = .non))) H1
theorem RelV.none_iff {x : V} {v : Value} (r : RelV x v) : (v == Value.none) = decide (x = .non) := by
  cases x with
  | non => cases r; rfl
  | bl _ => cases r; rfl
  | int _ => obtain ⟨t, rfl⟩ := r; rfl
  | str _ => obtain ⟨t, rfl⟩ := r; rfl
  | byt _ => obtain ⟨t, rfl⟩ := r; rfl
  | flt _ => obtain ⟨t, rfl⟩ := r; rfl
  | ref _ => cases r; rfl
  | ty _ => cases r; rfl
theorem pc_isN {j pos'} (ha : PE X a ta) : PC X .Is a (.Constant .none j pos') (tIsN ta) := by
  intro pins s σ H Q I h
  refine thn (ha pins s σ H _ I h) fun v s1 ⟨x, H1, I1, r1, q1⟩ => ?_
  exact Constant_none (is_none_gen ⟨.bl _, H1, I1, by rw [r1.none_iff]; rfl, q1⟩)
def tB (t : TE) : TT := fun σ H Q => t σ H fun x H1 => ∃ c, x = .bl c ∧ Q c H1
theorem pe_cmp {op : CmpOp} {t : TE} (h : PC X op a b t) (h1 : behindInMarks op b = false := by first | exact nobehind _ (by decide) (by decide) | rfl) : PE X (.Compare a [op] [b] pos) t := fun pins s σ H Q I hw => wpAny_Compare1 (h pins s σ H Q I hw) h1
theorem pt_cmp {op : CmpOp} {t : TE} (h : PC X op a b t) (h1 : behindInMarks op b = false := by first | exact nobehind _ (by decide) (by decide) | rfl) : PT X (.Compare a [op] [b] pos) (tB t) := by
  intro pins s σ H Q I hw
  refine wpAny_isTrue_Compare1 (thn (h pins s σ H _ I hw) fun v s1 h1 => thn h1 fun u s2 h2 => thn h2 fun c s3 ⟨x, H1, I1, r1, q1⟩ => ?_) h1
  obtain ⟨d, rfl, q⟩ := q1
  cases r1
  exact wpAny_truthy_bool ⟨H1, I1, q⟩
theorem pt_val {e : Expr} {t : TE} (h : PE X e t) (he : ∀ whole, isTrue e X.env whole = (do let v ← whole; standAt e.pos; holding [v] (truthy v)) := by intro _; rfl) : PT X e (tB t) := by
  intro pins s σ H Q I hw
  refine isTrue_plain (thn (h pins s σ H _ I hw) fun v s1 ⟨x, H1, I1, r1, q1⟩ => ?_) (he _)
  obtain ⟨d, rfl, q⟩ := q1
  cases r1
  exact wpAny_truthy_bool ⟨H1, I1, q⟩
variable {tA tB' : TT} {rest : List Expr}
def tAnd (t u : TT) : TT := fun σ H Q => t σ H fun c H1 => if c = true then u σ H1 Q else Q false H1
def tOr (t u : TT) : TT := fun σ H Q => t σ H fun c H1 => if c = true then Q true H1 else u σ H1 Q
def tNot (t : TT) : TT := fun σ H Q => t σ H fun c H1 => Q (!c) H1
theorem pw_and1 (ha : PT X a tA) : PW X (.BoolOp .And [a] pos) tA := by
  intro wh pins s σ H Q I h
  refine isTrue_and (thn (ha pins s σ H Q I h) fun c s1 e => ?_)
  cases c with
  | true => exact isTrue_and_nil e
  | false => exact e
theorem pw_or1 (ha : PT X a tA) : PW X (.BoolOp .Or [a] pos) tA := by
  intro wh pins s σ H Q I h
  refine isTrue_or (thn (ha pins s σ H Q I h) fun c s1 e => ?_)
  cases c with
  | false => exact isTrue_or_nil e
  | true => exact e
theorem pw_and (ha : PT X a tA) (hb : PW X (.BoolOp .And (b :: rest) pos) tB') : PW X (.BoolOp .And (a :: b :: rest) pos) (tAnd tA tB') := by
  intro wh pins s σ H Q I h
  refine isTrue_and (thn (ha pins s σ H _ I h) fun c s1 ⟨H1, I1, q1⟩ => ?_)
  cases c with
  | true => exact hb wh pins s1 σ H1 Q I1 q1
  | false => exact ⟨H1, I1, q1⟩
theorem pw_or (ha : PT X a tA) (hb : PW X (.BoolOp .Or (b :: rest) pos) tB') : PW X (.BoolOp .Or (a :: b :: rest) pos) (tOr tA tB') := by
  intro wh pins s σ H Q I h
  refine isTrue_or (thn (ha pins s σ H _ I h) fun c s1 ⟨H1, I1, q1⟩ => ?_)
  cases c with
  | true => exact ⟨H1, I1, q1⟩
  | false => exact hb wh pins s1 σ H1 Q I1 q1
theorem pt_not (ha : PT X a tA) : PT X (.UnaryOp .Not a pos) (tNot tA) := by
  intro pins s σ H Q I h
  exact isTrue_not (ha pins s σ H (fun c H1 => Q (!c) H1) I h)
def tIf (t : TT) (ta tb : TE) : TE := fun σ H Q => t σ H fun c H1 => if c = true then ta σ H1 Q else tb σ H1 Q
theorem pe_ifExp {c : Expr} (hc : PT X c tA) (ha : PE X a ta) (hb : PE X b tb) : PE X (.IfExp c a b pos) (tIf tA ta tb) := by
  intro pins s σ H Q I h
  refine wpAny_IfExp (thn (hc pins s σ H _ I h) fun d s1 ⟨H1, I1, q1⟩ => ?_)
  cases d with
  | true => exact ha pins s1 σ H1 Q I1 q1
  | false => exact hb pins s1 σ H1 Q I1 q1
end
end L2
namespace L2
open PySem PySem.Spec PyProof.Rows
def SqL (K : PySem.W.Frag) (H : Hp) (a : Addr) (xs : List V) : Prop :=
  Rd H a (.lst xs) ∨
    ∃ (o : Obj) (its : Array Value) (n : Nat), K.lookup a = some o ∧ o.cls = .type "list" ∧ o.dict = none ∧ o.data = .seq its n ∧ its.size ≤ sizeLine ∧ Vals xs its.toList
def SqT (K : PySem.W.Frag) (H : Hp) (a : Addr) (xs : List V) : Prop :=
  Rd H a (.tup xs) ∨
    ∃ (o : Obj) (its : Array Value) (n : Nat), K.lookup a = some o ∧ o.cls = .type "tuple" ∧ o.data = .seq its n ∧ its.size ≤ sizeLine ∧ Vals xs its.toList
def absV : Value → Option V
  | .none => some .non
  | .bool b => some (.bl b)
  | .int i _ => some (.int i)
  | .str x _ => some (.str x)
  | .bytes b _ => some (.byt b)
  | .float b _ => some (.flt b)
  | .ref a => some (.ref a)
  | .type n => some (.ty n)
  | _ => none
theorem RelV.abs {x : V} {u : Value} (r : RelV x u) : absV u = some x := by
  cases x with
  | non => cases r; rfl
  | bl _ => cases r; rfl
  | int _ => obtain ⟨t, rfl⟩ := r; rfl
  | str _ => obtain ⟨t, rfl⟩ := r; rfl
  | byt _ => obtain ⟨t, rfl⟩ := r; rfl
  | flt _ => obtain ⟨t, rfl⟩ := r; rfl
  | ref _ => cases r; rfl
  | ty _ => cases r; rfl
theorem RelV.inj {x y : V} {u : Value} (r : RelV x u) (q : RelV y u) : x = y := Option.some.inj (r.abs.symm.trans q.abs)
theorem Vals.inj : ∀ {xs ys : List V} {us : List Value}, Vals xs us → Vals ys us → xs = ys
  | _, _, _, .nil, .nil => rfl
  | _, _, _, .cons r t, .cons r' t' => by rw [r.inj r', Vals.inj t t']
section
variable {X : Cx} {pins : List (Addr × Obj)} {σ : St} {H : Hp} {s : Shared} {a : Addr} {xs ys : List V}
theorem SqL.of {K : PySem.W.Frag} (h : H a = some (.lst xs)) : SqL K H a xs := .inl (.inl h)
theorem SqT.of {K : PySem.W.Frag} (h : H a = some (.tup xs)) : SqT K H a xs := .inl (.inl h)
theorem Inv.list (I : Inv X pins σ H s) (h : SqL X.K H a xs) : ∃ its : List Value, Vals xs its ∧ PlainL s.heap a its.toArray ∧ xs.length ≤ sizeLine := by
  rcases h with h | ⟨o, its, n, hk, hc, hd, hs, hz, r⟩
  · obtain ⟨z, its, n, r, e⟩ := h.ok I.hok
    exact ⟨its, r, ⟨_, n, e, rfl, rfl, rfl⟩, z⟩
  · refine ⟨its.toList, r, ⟨o, n, I.kIn a o hk, hc, hd, by simpa using hs⟩, ?_⟩
    have e := r.length
    simp only [Array.length_toList] at e
    omega
theorem Inv.tuple (I : Inv X pins σ H s) (h : SqT X.K H a xs) : ∃ its : List Value, Vals xs its ∧ IsTup s.heap a its.toArray ∧ xs.length ≤ sizeLine := by
  rcases h with h | ⟨o, its, n, hk, hc, hs, hz, r⟩
  · obtain ⟨z, its, r, p⟩ := h.ok I.hok
    exact ⟨its, r, p, z⟩
  · refine ⟨its.toList, r, ⟨o, I.kIn a o hk, hc, n, by simpa using hs⟩, ?_⟩
    have e := r.length
    simp only [Array.length_toList] at e
    omega
theorem Inv.list_inj (I : Inv X pins σ H s) (h : SqL X.K H a xs) (h' : SqL X.K H a ys) : xs = ys := by
  obtain ⟨its, r, ⟨o, n, e, _, _, d⟩, _⟩ := I.list h
  obtain ⟨its', r', ⟨o', n', e', _, _, d'⟩, _⟩ := I.list h'
  rw [e] at e'; cases e'
  rw [d] at d'
  injection d' with d1 _
  have : its = its' := by simpa using congrArg Array.toList d1
  subst this
  exact r.inj r'
end
abbrev Cx.wish (X : Cx) (E : Value → Shared → Prop) : Cx := { X with xe := E }
abbrev Cx.nox (X : Cx) : Cx := X.wish fun _ _ => False
theorem Cx.Ok.wish {X : Cx} (ok : X.Ok) (E : Value → Shared → Prop) : (X.wish E).Ok :=
  ⟨ok.mod, ok.kind, ok.glob, ok.blt, ok.above, ok.inj, ok.has, ok.cab, ok.hd, ok.frames, ok.stk, ok.exf, ok.bs, ok.bsz, ok.noex, ok.exfs, ok.funs, ok.frf⟩
theorem Cx.Ok.unwish {X : Cx} {E : Value → Shared → Prop} (ok : (X.wish E).Ok) : X.Ok :=
  ⟨ok.mod, ok.kind, ok.glob, ok.blt, ok.above, ok.inj, ok.has, ok.cab, ok.hd, ok.frames, ok.stk, ok.exf, ok.bs, ok.bsz, ok.noex, ok.exfs, ok.funs, ok.frf⟩
section
variable {X : Cx} {pins : List (Addr × Obj)} {σ : St} {H : Hp} {s : Shared} {E : Value → Shared → Prop}
theorem Inv.wish (I : Inv X pins σ H s) (E : Value → Shared → Prop) : Inv (X.wish E) pins σ H s := ⟨I.ok.wish E, I.os, I.bare, I.base, I.loc, I.cell, I.free, I.freeC, I.pin, I.hok, I.len⟩
theorem Inv.unwish (I : Inv (X.wish E) pins σ H s) : Inv X pins σ H s := ⟨I.ok.unwish, I.os, I.bare, I.base, I.loc, I.cell, I.free, I.freeC, I.pin, I.hok, I.len⟩
theorem SP.unwish {D : Ends} {f : Flow} {s' : Shared} (h : SP (X.wish E) pins D f s') : SP X pins D f s' := by
  cases f with
  | next => obtain ⟨σ', H', I, q⟩ := h; exact ⟨σ', H', I.unwish, q⟩
  | brk => obtain ⟨σ', H', I, q⟩ := h; exact ⟨σ', H', I.unwish, q⟩
  | cont => obtain ⟨σ', H', I, q⟩ := h; exact ⟨σ', H', I.unwish, q⟩
  | ret u => obtain ⟨v, σ', H', I, r, q⟩ := h; exact ⟨v, σ', H', I.unwish, r, q⟩
theorem PSs.nox {st : List Stmt} {t : TS} (h : PSs X.nox st t) : PSs X st t := fun pins s σ H D I hw =>
  wpAny_mono (h pins s σ H D (I.wish _) hw) (fun _ _ q => q.unwish) fun _ _ z => False.elim z
end
section
variable {X : Cx} {st : Stmt} {rest : List Stmt} {t u : TS} {e : Expr} {te : TE} {pos : Pos}
def tNext : TS := fun D σ H => D.nx σ H
def tSeq (t u : TS) : TS := fun D σ H => t { D with nx := u D } σ H
theorem pss_nil : PSs X [] tNext := fun _ _ σ H _ I h => wpAny_execs_nil ⟨σ, H, I, h⟩
theorem pss_cons (h1 : PS X st t) (h2 : PSs X rest u) : PSs X (st :: rest) (tSeq t u) := by
  intro pins s σ H D I h
  refine wpAny_execs_cons (thn (h1 pins s σ H { D with nx := u D } I h) fun f s1 q => ?_)
  cases f with
  | next =>
    obtain ⟨σ', H', I', q⟩ := q
    exact h2 pins s1 σ' H' D I' q
  | ret v => exact q
  | brk => exact q
  | cont => exact q
theorem pss_one (h1 : PS X st t) : PSs X [st] t := by
  intro pins s σ H D I h
  refine wpAny_execs_cons (thn (h1 pins s σ H D I h) fun f s1 q => ?_)
  cases f with
  | next => exact wpAny_execs_nil q
  | ret v => exact q
  | brk => exact q
  | cont => exact q
theorem Inv.quiet {pins : List (Addr × Obj)} {σ : St} {H : Hp} {s : Shared} (I : Inv X pins σ H s) : interactive X.env = false := by simp [interactive, I.ok.kind]
def tDrop (te : TE) : TS := fun D σ H => te σ H fun _ H1 => D.nx σ H1
theorem ps_expr (he : PE X e te) (hs : swapsWith e none pos.line X.env = pure false := by rfl) : PS X (.Expr e pos) (tDrop te) := by
  intro pins s σ H D I h
  exact wpAny_Expr_any (thn (he pins s σ H _ I h) fun v s1 ⟨x, H1, I1, r1, q1⟩ => ⟨σ, H1, I1, q1⟩) I.quiet hs
def tRet (te : TE) : TS := fun D σ H => te σ H D.rt
theorem ps_ret (he : PE X e te) : PS X (.Return (some e) pos) (tRet te) := by
  intro pins s σ H D I h
  exact wpAny_Return_some (thn (he pins s σ H _ I h) fun v s1 ⟨x, H1, I1, r1, q1⟩ => ⟨x, σ, H1, I1, r1, q1⟩)
def tIfS (c : TT) (t u : TS) : TS := fun D σ H => c σ H fun b H1 => if b = true then t D σ H1 else u D σ H1
theorem ps_if {c : Expr} {a b : List Stmt} {tc : TT} (hc : PT X c tc) (ha : PSs X a t) (hb : PSs X b u) : PS X (.If c a b pos) (tIfS tc t u) := by
  intro pins s σ H D I h
  refine wpAny_If (thn (hc pins s σ H _ I h) fun d s1 ⟨H1, I1, q1⟩ => ?_)
  cases d with
  | true => exact ha pins s1 σ H1 D I1 q1
  | false => exact hb pins s1 σ H1 D I1 q1
def tNever : TS := fun _ _ _ => False
theorem ps_never : PS X st tNever := fun _ _ _ _ _ _ h => h.elim
end
abbrev TG := V → St → Hp → (St → Hp → Prop) → Prop
abbrev TGs := List V → St → Hp → (St → Hp → Prop) → Prop
def PG (X : Cx) (target : Expr) (t : TG) : Prop :=
  ∀ (pins : List (Addr × Obj)) (s : Shared) (σ : St) (H : Hp) (v : V) (u : Value) (Q : St → Hp → Prop), Inv X pins σ H s → RelV v u → t v σ H Q →
    wpAny (model X.prog X.w) X.A (assign target X.env u) (fun _ s' => ∃ σ' H', Inv X pins σ' H' s' ∧ Q σ' H') X.xe s
def PGs (X : Cx) (ts : List Expr) (t : TGs) : Prop :=
  ∀ (pins : List (Addr × Obj)) (s : Shared) (σ : St) (H : Hp) (vs : List V) (us : List Value) (Q : St → Hp → Prop), Inv X pins σ H s → Vals vs us → t vs σ H Q →
    wpAny (model X.prog X.w) X.A (assignInOrder ((assignEach ts X.env).map (·.2)) us) (fun _ s' => ∃ σ' H', Inv X pins σ' H' s' ∧ Q σ' H') X.xe s
abbrev TSet := V → V → V → Hp → (Hp → Prop) → Prop
def PSet (X : Cx) (t : TSet) : Prop :=
  ∀ (pins : List (Addr × Obj)) (s : Shared) (σ : St) (H : Hp) (o i v : V) (ov iv u : Value) (Q : Hp → Prop), Inv X pins σ H s → RelV o ov → RelV i iv → RelV v u → t o i v H Q →
    wpAny (model X.prog X.w) X.A (setItem ov iv u) (fun _ s' => ∃ H', Inv X pins σ H' s' ∧ Q H') X.xe s
section
variable {X : Cx} {pos : Pos}
def gName (i : Nat) : TG := fun v σ H Q => Q (σ.set i (some v)) H
theorem pg_name {i : Nat} {x : Str} (hN : X.N.Nodup) (hi : X.N[i]? = some x) (hx : Loc X.env.scope x) (hf : X.fn x = true ∨ X.env.scope.names.lookup x = some .local := by first | exact .inl rfl | exact .inr rfl | assumption) : PG X (.Name x pos) (gName i) := by
  intro pins s σ H v u Q I r h
  exact wpAny_assign_Name (store_ok I hN hi hx r (fun s' I' => ⟨_, H, I', h⟩) hf)
def gNil : TGs := fun vs σ H Q => vs = [] ∧ Q σ H
def gCons (t : TG) (u : TGs) : TGs := fun vs σ H Q => ∃ v r, vs = v :: r ∧ t v σ H fun σ' H' => u r σ' H' Q
theorem pgs_nil : PGs X [] gNil := by
  intro pins s σ H vs us Q I r h
  obtain ⟨e, h⟩ := h
  subst e
  cases r
  exact assignInOrder_nil ⟨σ, H, I, h⟩
theorem pgs_cons {e : Expr} {es : List Expr} {t : TG} {u : TGs} (h1 : PG X e t) (h2 : PGs X es u)
    (hs : (assignEach (e :: es) X.env).map (·.2) = assign e X.env :: (assignEach es X.env).map (·.2) := by rfl) : PGs X (e :: es) (gCons t u) := by
  intro pins s σ H vs us Q I r h
  obtain ⟨v, vr, e1, h⟩ := h
  subst e1
  cases r with
  | cons r rr =>
    rw [hs]
    refine assignInOrder_cons (thn (h1 pins s σ H _ _ _ I r h) fun _ s1 ⟨σ1, H1, I1, q1⟩ => ?_)
    exact h2 pins s1 σ1 H1 _ _ Q I1 rr q1
def gTup (K : PySem.W.Frag) (n : Nat) (t : TGs) : TG := fun v σ H Q => ∃ a xs, v = .ref a ∧ SqT K H a xs ∧ xs.length = n ∧ t xs σ H Q
theorem pg_tup {es : List Expr} {k : Nat} {t : TGs} {n : Nat} (hc : X.calm = true) (h : PGs X es t)
    (hn : (assignEach es X.env).length = n := by rfl) (hst : (assignEach es X.env).findIdx? (·.1) = none := by rfl) : PG X (.Tuple es k pos) (gTup X.K n t) := by
  intro pins s σ H v u Q I r hw
  obtain ⟨a, xs, e1, hq, hl, hw⟩ := hw
  subst e1
  cases r
  obtain ⟨its, rv, ht, hz⟩ := I.tuple hq
  refine assign_Tuple_tuple (I.ok.hd hc) ht (by simp [hn, ← hl, rv.length]) hst fun h' hx => ?_
  have I1 : Inv X pins σ H { s with heap := h' } := I.kept (t' := s.toks) fun b o e => hx b o (Nat.ne_of_lt (Heap.lt_size e)) e
  exact h pins _ σ H xs _ Q I1 (by simpa using rv) hw
def gSub (to ti : TE) (t : TSet) : TG := fun v σ H Q => to σ H fun o H1 => ti σ H1 fun i H2 => t o i v H2 fun H3 => Q σ H3
theorem pg_sub {o i : Expr} {to ti : TE} {t : TSet} (ho : PE X o to) (hi : PE X i ti) (hs : PSet X t)
    (ha : ∀ v, assign (.Subscript o i pos) X.env v = (do
      let ov ← holding [v] (eval o X.env)
      let iv ← holding [v, ov] (eval i X.env)
      standAt pos
      holding [v, ov, iv] (setItem ov iv v)
      release [v, ov, iv] []) := by intro _; rfl) : PG X (.Subscript o i pos) (gSub to ti t) := by
  intro pins s σ H v u Q I r h
  rw [ha]
  refine wpAny_bind (wpAny_holding (thn (ho pins s σ H _ I h) fun ov s1 ⟨x, H1, I1, r1, q1⟩ => ?_))
  refine wpAny_bind (wpAny_holding (thn (hi pins s1 σ H1 _ I1 q1) fun iv s2 ⟨y, H2, I2, r2, q2⟩ => ?_))
  refine wpAny_bind (wpAny_standAt (wpAny_bind (wpAny_holding (thn (hs pins s2 σ H2 x y v ov iv u _ I2 r1 r2 r q2) fun _ s3 ⟨H3, I3, q3⟩ => ?_))))
  exact wpAny_release ⟨σ, H3, I3, q3⟩
def tAsg (te : TE) (g : TG) : TS := fun D σ H => te σ H fun x H1 => g x σ H1 D.nx
theorem ps_asg {tg e : Expr} {te : TE} {g : TG} (he : PE X e te) (hg : PG X tg g) (hs : swapsWithSole [tg] e pos.line X.env = pure false := by rfl) (hw : swappedStores [tg] e X.env = pure none := by rfl)
    (h1 : (assignEach [tg] X.env).map (·.2) = [assign tg X.env] := by rfl) : PS X (.Assign [tg] e pos) (tAsg te g) := by
  intro pins s σ H D I h
  refine wpAny_Assign_stores (thn (he pins s σ H _ I h) fun v s1 ⟨x, H1, I1, r1, q1⟩ => ?_) hs hw
  rw [h1]
  exact thn (hg pins s1 σ H1 x v _ I1 r1 q1) fun _ s2 q => q
theorem ps_set {i : Nat} {x : Str} {e : Expr} {te : TE} {pos' : Pos} (hN : X.N.Nodup) (hi : X.N[i]? = some x) (hx : Loc X.env.scope x) (he : PE X e te) (hs : swapsWith e (some (.Name x pos')) pos.line X.env = pure false := by rfl) (hf : X.fn x = true ∨ X.env.scope.names.lookup x = some .local := by first | exact .inl rfl | exact .inr rfl | assumption) :
    PS X (.Assign [.Name x pos'] e pos) (tAsg te (gName i)) := by
  intro pins s σ H D I h
  refine wpAny_Assign_Name (thn (he pins s σ H _ I h) fun v s1 ⟨y, H1, I1, r1, q1⟩ => ?_) hs
  exact store_ok I1 hN hi hx r1 (fun s2 I2 => ⟨_, H1, I2, q1⟩) hf
end
section
variable {X : Cx} {pos : Pos}
def tWhile (c : TT) (tb : TS) : TS := fun D σ H => ∃ W : Nat → St → Hp → Prop, (∃ m, W m σ H) ∧ ∀ m σ H, W m σ H →
  c σ H fun b H1 => if b = true then ∃ N : St → Hp → Prop, (∀ σ' H', N σ' H' → ∃ m', m' < m ∧ W m' σ' H') ∧ tb { D with nx := N, ct := N, bk := D.nx } σ H1 else D.nx σ H1
theorem ps_while {c : Expr} {body : List Stmt} {tc : TT} {tb : TS} (hp : PassesOwn (model X.prog X.w) X.A X.env X.xe) (hc : PT X c tc) (hb : PSs X body tb) : PS X (.While c body [] pos) (tWhile tc tb) := by
  intro pins s σ H D I h
  obtain ⟨W, ⟨m0, w0⟩, turn⟩ := h
  refine wpAny_While (codeAny_whileLoop (fun n s' => ∃ σ' H', Inv X pins σ' H' s' ∧ W n σ' H') ?_ m0 ⟨σ, H, I, w0⟩)
  rintro n s1 ⟨σ1, H1, I1, w1⟩
  refine wpAny_passesOwn hp (thn (hc pins s1 σ1 H1 _ I1 (turn n σ1 H1 w1)) fun b s2 ⟨H2, I2, q2⟩ => ?_)
  cases b with
  | true =>
    obtain ⟨N, hN, q2⟩ := q2
    rw [if_pos rfl]
    refine wpAny_passesOwn hp (thn (hb pins s2 σ1 H2 _ I2 q2) fun f s3 q3 => ?_)
    cases f with
    | next =>
      obtain ⟨σ3, H3, I3, n3⟩ := q3
      obtain ⟨m', hm, w3⟩ := hN σ3 H3 n3
      exact ⟨m', hm, σ3, H3, I3, w3⟩
    | cont =>
      obtain ⟨σ3, H3, I3, n3⟩ := q3
      obtain ⟨m', hm, w3⟩ := hN σ3 H3 n3
      exact ⟨m', hm, σ3, H3, I3, w3⟩
    | brk => exact q3
    | ret v => exact q3
  | false =>
    rw [if_neg Bool.false_ne_true]
    exact wpAny_execs_nil ⟨σ1, H2, I2, q2⟩
end
structure It where
  go : Nat → Hp → Prop
  yld : Nat → Hp → V → Hp → Prop
  stop : Nat → Hp → Prop
def FpOk (X : Cx) (pins : List (Addr × Obj)) (H : Hp) (b : Addr) : Prop :=
  H b = none ∧ b ≠ X.env.locals ∧ b ∉ X.fs ∧ (b ∈ X.ex ∨ X.s_0.heap.objs.size ≤ b) ∧ (∀ x c, X.env.cells.lookup x = some c → c ≠ b) ∧ ∀ p ∈ X.pn ++ pins, p.1 ≠ b
theorem Inv.fpOk {X : Cx} {pins : List (Addr × Obj)} {σ : St} {H H' : Hp} {s : Shared} {b : Addr} (I : Inv X pins σ H s) (hb : s.heap.objs.size ≤ b) (hn : H' b = none) : FpOk X pins H' b := by
  refine ⟨hn, Nat.ne_of_gt (Nat.lt_of_lt_of_le I.lt hb), I.nofs hb, .inr (Nat.le_trans I.sz hb), fun x c e z => ?_, fun p hp z => ?_⟩
  · obtain ⟨v, q⟩ := I.cell x c e
    exact absurd (Nat.lt_of_lt_of_le q.lt (by rw [z]; exact hb)) (Nat.lt_irrefl _)
  · exact absurd (Nat.lt_of_lt_of_le (Heap.lt_size (I.pin p hp).1) (by rw [z]; exact hb)) (Nat.lt_irrefl _)
structure Turn (P : Program) (w : World) (K : PySem.W.Frag) (tg : Expr) (J : It) (fp : List Addr) (it : Addr) (tn : Nat → Heap → Prop) : Prop where
  mem : it ∈ fp
  obj : ∀ i h, tn i h → ∀ b ∈ fp, ∃ o, h.get? b = some o ∧ ∀ v, o.data ≠ .cell v
  keep : ∀ i h h', tn i h → (∀ b ∈ fp, ∀ o, h.get? b = some o → h'.get? b = some o) → tn i h'
  item : ∀ (X : Cx), X.prog = P → X.w = w → X.K = K → X.calm = true → ∀ (i : Nat) (pins : List (Addr × Obj)) (s : Shared) (σ : St) (H : Hp) (E : Value → Shared → Prop), Inv X pins σ H s → (∀ b ∈ fp, FpOk X pins H b) → tn i s.heap → J.go i H →
    wpAny (model P w) X.A (pyNext (.ref it)) (fun r s1 => ∃ u, r = some u ∧
      wpAny (model P w) X.A (letOwnedTupleGo tg (.ref it) u) (fun _ s2 => ∃ x H', Inv X pins σ H' s2 ∧ RelV x u ∧ J.yld i H x H' ∧ tn (i + 1) s2.heap ∧ ∀ b ∈ fp, H' b = none) E s1) E s
  done : ∀ (X : Cx), X.prog = P → X.w = w → X.K = K → X.calm = true → ∀ (i : Nat) (pins : List (Addr × Obj)) (s : Shared) (σ : St) (H : Hp) (E : Value → Shared → Prop), Inv X pins σ H s → (∀ b ∈ fp, FpOk X pins H b) → tn i s.heap → J.stop i H →
    wpAny (model P w) X.A (pyNext (.ref it)) (fun r s1 => r = none ∧ Inv X pins σ H s1) E s
  self : ∀ (A : Around) (i : Nat) (s : Shared) (Q : Value → Shared → Prop) (E : Value → Shared → Prop), tn i s.heap → Q (.ref it) s → wpAny (model P w) A (pyIter (.ref it)) Q E s
abbrev TI := St → Hp → (It → Hp → Prop) → Prop
def PIE (X : Cx) (pins : List (Addr × Obj)) (σ : St) (tg : Expr) (R : It → Hp → Prop) (itv : Value) (s2 : Shared) : Prop :=
  ∃ (it : Addr) (fp : List Addr) (tn : Nat → Heap → Prop) (J : It) (H' : Hp), itv = .ref it ∧ Inv X pins σ H' s2 ∧ Turn X.prog X.w X.K tg J fp it tn ∧ tn 0 s2.heap ∧ (∀ b ∈ fp, FpOk X pins H' b) ∧ R J H'
def PI (X : Cx) (tg iter : Expr) (wi : TI) : Prop :=
  ∀ (pins : List (Addr × Obj)) (s : Shared) (σ : St) (H : Hp) (R : It → Hp → Prop), Inv X pins σ H s → wi σ H R →
    wpAny (model X.prog X.w) X.A (eval iter X.env) (fun v s1 => wpAny (model X.prog X.w) X.A (pyIter v) (PIE X pins σ tg R) X.xe s1) X.xe s
theorem go_of {M : Model} {A : Around} {E : Value → Shared → Prop} {s : Shared} {tg : Expr} {it : Addr} {u : Value} {o : Obj} {n : String} {vs : Array Value} {Q : Unit → Shared → Prop} (ho : s.heap.get? it = some o) (hc : o.cls = .type n) (hd : o.data = .fields vs)
    (hn : ["enumerate", "zip", "dict_itemiterator", "dict_reverseitemiterator", "odict_iterator", "itertools.zip_longest", "itertools.pairwise"].contains n = false) (hQ : Q () s) : wpAny M A (letOwnedTupleGo tg (.ref it) u) Q E s := by
  unfold letOwnedTupleGo
  cases tg <;> first
    | exact wpAny_pure hQ
    | (cases u <;> first
        | exact wpAny_pure hQ
        | (refine wpAny_bind (wpAny_load ho ?_)
           rw [hc, hd]
           show wpAny M A (if (["enumerate", "zip", "dict_itemiterator", "dict_reverseitemiterator", "odict_iterator", "itertools.zip_longest", "itertools.pairwise"].contains n && vs[0]? == some (rawInt _)) = true then _ else _) Q E s
           rw [if_neg (by intro h; rw [hn, Bool.false_and] at h; cases h)]
           exact wpAny_pure hQ))
def Itl (K : PySem.W.Frag) (a : Addr) : It :=
  ⟨fun i H => ∃ xs x, SqL K H a xs ∧ xs[i]? = some x, fun i H x H' => H' = H ∧ ∀ xs, SqL K H a xs → xs[i]? = some x, fun i H => ∃ xs, SqL K H a xs ∧ xs.length ≤ i⟩
def Itr (lo : Int) (n : Nat) : It := ⟨fun i _ => i < n, fun i H x H' => H' = H ∧ x = .int (lo + i), fun i _ => n ≤ i⟩
theorem turn_list {P : Program} {w : World} {K : PySem.W.Frag} {tg : Expr} (a it : Addr) : Turn P w K tg (Itl K a) [it] it (fun i h => h.IsListIter it a i) where
  mem := by simp
  obj := fun i h st b hb => by
    have e : b = it := by simpa using hb
    subst e
    obtain ⟨o, e, c, d⟩ := st
    exact ⟨o, e, fun v z => by rw [d] at z; cases z⟩
  keep := fun i h h' st k => st.at fun o e => k it (by simp) o e
  item := by
    intro X hP hw hK hc i pins s σ H E I hf st hg
    subst hP hw hK
    obtain ⟨xs, x, hq, hx⟩ := hg
    obtain ⟨its, rv, p, hz⟩ := I.list hq
    obtain ⟨u, hu, ru⟩ := rv.get hx
    obtain ⟨f0, f1, f2, f3, f4, f5⟩ := hf it (by simp)
    refine wpAny_pyNext_list_item st p.isList (x := u) (by simpa using hu) fun h' st' sb => ?_
    have I1 : Inv X pins σ H { s with heap := h' } := I.turned (t' := s.toks) (fun b o hb e => (sb.2 b hb).trans e) f0 f1 f3 f4 f5
    obtain ⟨o, e, c, d⟩ := id st'
    exact ⟨u, rfl, go_of (s := { s with heap := h' }) e c d (by decide) ⟨x, H, I1, ru, ⟨rfl, fun ys hy => by rw [I.list_inj hy hq]; exact hx⟩, st', fun b hb => (hf b hb).1⟩⟩
  done := by
    intro X hP hw hK hc i pins s σ H E I hf st hg
    subst hP hw hK
    obtain ⟨xs, hq, hx⟩ := hg
    obtain ⟨its, rv, p, hz⟩ := I.list hq
    obtain ⟨f0, f1, f2, f3, f4, f5⟩ := hf it (by simp)
    have hl := rv.length
    exact wpAny_pyNext_list_end (I.ok.hd hc) st p.isList (by simp; omega) fun h' eb => ⟨rfl, I.turned (t' := s.toks) (fun b o hb e => eb b o hb e) f0 f1 f3 f4 f5⟩
  self := fun _ _ _ _ _ st h => wpAny_pyIter_listiter st h
theorem turn_range {P : Program} {w : World} {K : PySem.W.Frag} {tg : Expr} (it : Addr) (lo : Int) (n : Nat) : Turn P w K tg (Itr lo n) [it] it (fun i h => IsRangeIter h it (lo + (i : Nat) * 1) ((n : Int) - (i : Nat)) 1) where
  mem := by simp
  obj := fun i h st b hb => by
    have e : b = it := by simpa using hb
    subst e
    exact ⟨_, st, fun v z => by
      have z' : Data.fields _ = Data.cell v := z
      cases z'⟩
  keep := fun i h h' st k => k it (by simp) _ st
  item := by
    intro X hP hw hK hc i pins s σ H E I hf st hg
    subst hP hw hK
    obtain ⟨f0, f1, f2, f3, f4, f5⟩ := hf it (by simp)
    have W := Walks.range (prog := X.prog) (w := X.w) (I.ok.hd hc) it lo 1 n
    refine W.item i s _ _ hg st fun v h' tk hv st' kk => ?_
    obtain ⟨t, rfl⟩ := hv
    have I1 : Inv X pins σ H { s with heap := h', toks := tk } := I.turned (fun b o hb e => kk b o (by simpa using hb) e) f0 f1 f3 f4 f5
    refine ⟨_, rfl, go_of (s := { s with heap := h', toks := tk }) (n := "range_iterator") st' rfl rfl (by decide) ⟨.int (lo + i), H, I1, ⟨t, ?_⟩, ⟨rfl, rfl⟩, st', fun b hb => (hf b hb).1⟩⟩
    rw [Int.mul_one]
  done := by
    intro X hP hw hK hc i pins s σ H E I hf st hg
    subst hP hw hK
    obtain ⟨f0, f1, f2, f3, f4, f5⟩ := hf it (by simp)
    exact wpAny_pyNext_range_end (I.ok.hd hc) st (by have : n ≤ i := hg; omega) fun h' eb => ⟨rfl, I.turned (t' := s.toks) (fun b o hb e => eb b o hb e) f0 f1 f3 f4 f5⟩
  self := fun _ _ _ _ _ st h => wpAny_pyIter_rangeiter st h
end L2
namespace L2
open PySem PySem.Spec PyProof.Rows
section
variable {X : Cx} {tg : Expr}
def iList (K : PySem.W.Frag) (tl : TE) : TI := fun σ H R => tl σ H fun x H1 => ∃ a, x = .ref a ∧ (∃ xs, SqL K H1 a xs) ∧ R (Itl K a) H1
theorem pi_list {l : Expr} {tl : TE} (hl : PE X l tl) : PI X tg l (iList X.K tl) := by
  intro pins s σ H R I h
  refine thn (hl pins s σ H _ I h) fun v s1 ⟨x, H1, I1, r1, q1⟩ => ?_
  obtain ⟨a, e, ⟨xs, hq⟩, q⟩ := q1
  subst e
  cases r1
  obtain ⟨its, rv, p, hz⟩ := I1.list hq
  refine wpAny_pyIter_list p.isList ?_
  refine ⟨s1.heap.objs.size, [s1.heap.objs.size], _, _, H1, rfl, I1.kept (t' := s1.toks) fun b o e => Heap.get?_push_of_some _ e, turn_list a _, ⟨_, Heap.get?_push_size _ rfl, rfl, rfl⟩, fun b hb => ?_, q⟩
  have e : b = s1.heap.objs.size := by simpa using hb
  subst e
  exact I1.fpOk (Nat.le_refl _) (I1.hok.fresh (Nat.le_refl _))
theorem range_it {pins : List (Addr × Obj)} {σ : St} {H : Hp} {s : Shared} {R : It → Hp → Prop} {E : Value → Shared → Prop} {lo hi : Int} {t u v : Tok} {tk : Nat} (I : Inv X pins σ H s) (h1 : -(2 ^ 62) ≤ lo) (h2 : lo < 2 ^ 62) (h3 : -(2 ^ 62) ≤ hi) (h4 : hi < 2 ^ 62)
    (q : R (Itr lo (hi - lo).toNat) H) : wpAny (model X.prog X.w) X.A (pyIter (.ref s.heap.objs.size)) (PIE X pins σ tg R) E { s with heap := s.heap.push { cls := .type "range", data := .fields #[.int lo t, .int hi u, .int 1 v] }, toks := tk } := by
  refine wpAny_pyIter_range (IsRange.new ..) (small_one h1 h2 h3 h4) ?_
  have I1 : Inv X pins σ H { s with heap := s.heap.push { cls := .type "range", data := .fields #[.int lo t, .int hi u, .int 1 v] }, toks := tk } := I.kept fun b o e => Heap.get?_push_of_some _ e
  refine ⟨(s.heap.push { cls := .type "range", data := .fields #[.int lo t, .int hi u, .int 1 v] }).objs.size, [(s.heap.push { cls := .type "range", data := .fields #[.int lo t, .int hi u, .int 1 v] }).objs.size], _, _, H, rfl,
    I1.kept (t' := tk) fun b o e => Heap.get?_push_of_some _ e, turn_range _ lo (hi - lo).toNat, ?_, fun b hb => ?_, q⟩
  · have e1 : lo + ((0 : Nat) : Int) * 1 = lo := by simp
    have e2 : (((hi - lo).toNat : Nat) : Int) - ((0 : Nat) : Int) = Builtin.Range.rangeSize lo hi 1 := by rw [rangeSize_one]; split <;> omega
    show IsRangeIter _ _ (lo + ((0 : Nat) : Int) * 1) ((((hi - lo).toNat : Nat) : Int) - ((0 : Nat) : Int)) 1
    rw [e1, e2]
    exact Heap.get?_push_size _ rfl
  · have e : b = (s.heap.push { cls := .type "range", data := .fields #[.int lo t, .int hi u, .int 1 v] }).objs.size := by simpa using hb
    subst e
    exact I1.fpOk (Nat.le_refl _) (I1.hok.fresh (Nat.le_refl _))
def iRng1 (ta : TA) : TI := fun σ H R => ta σ H fun vs H1 => ∃ j : Int, vs = [.int j] ∧ -(2 ^ 62) ≤ j ∧ j < 2 ^ 62 ∧ R (Itr 0 j.toNat) H1
theorem pi_range1 {a : Expr} {ta : TA} {p pos : Pos} (hg : Gl X "range") (hm : X.mg "range" = none) (ha : PA X [a] ta) (hs : starEach [a] X.env = [(false, eval a X.env)] := by rfl) : PI X tg (.Call (.Name "range" p) [a] [] pos) (iRng1 ta) := by
  intro pins s σ H R I h
  refine Call_ (ld_blt I hg hm boot_range (PyProof.Rows.callWith_type1 (thn (ha pos pins s σ H _ I h) fun us s1 ⟨vs, H1, I1, r1, q1⟩ => ?_) hs rfl))
  obtain ⟨j, e, q1, q2, q⟩ := q1
  subst e
  cases r1 with
  | cons r rr =>
    cases rr
    obtain ⟨t, rfl⟩ := r
    exact call_range_1 (range_it I1 (by omega) (by omega) q1 q2 (by simpa using q))
def tFor (wi : TI) (g : TG) (tb : TS) : TS := fun D σ H => wi σ H fun J H1 => ∃ W : Nat → Nat → St → Hp → Prop, (∃ m, W 0 m σ H1) ∧ ∀ i m σ H, W i m σ H →
  (J.stop i H ∧ D.nx σ H) ∨ (J.go i H ∧ ∃ N : St → Hp → Prop, (∀ σ' H', N σ' H' → ∃ m', m' < m ∧ W (i + 1) m' σ' H') ∧ ∀ x H', J.yld i H x H' → g x σ H' fun σ2 H2 => tb { D with nx := N, ct := N, bk := D.nx } σ2 H2)
def pinsAt (fp : List Addr) (h : Heap) : List (Addr × Obj) := fp.filterMap fun b => (h.get? b).map fun o => (b, o)
theorem mem_pinsAt {fp : List Addr} {h : Heap} {b : Addr} {o : Obj} (hb : b ∈ fp) (e : h.get? b = some o) : (b, o) ∈ pinsAt fp h := List.mem_filterMap.mpr ⟨b, hb, by rw [e]; rfl⟩
theorem of_pinsAt {fp : List Addr} {h : Heap} {p : Addr × Obj} (hp : p ∈ pinsAt fp h) : p.1 ∈ fp ∧ h.get? p.1 = some p.2 := by
  obtain ⟨b, hb, e⟩ := List.mem_filterMap.mp hp
  cases q : h.get? b with
  | none => rw [q] at e; cases e
  | some o =>
    rw [q] at e
    have e' : (b, o) = p := Option.some.inj e
    subst e'
    exact ⟨hb, q⟩
theorem Inv.pinned {pins : List (Addr × Obj)} {σ : St} {H : Hp} {s : Shared} {fp : List Addr} (I : Inv X pins σ H s) (hf : ∀ b ∈ fp, FpOk X pins H b) (ho : ∀ b ∈ fp, ∃ o, s.heap.get? b = some o ∧ ∀ v, o.data ≠ .cell v) : Inv X (pins ++ pinsAt fp s.heap) σ H s :=
  I.pins_of fun p hp => (List.mem_append.mp hp).elim (fun z => I.pin p (List.mem_append_right _ z)) fun z => by
    obtain ⟨hb, e⟩ := of_pinsAt z
    obtain ⟨f0, f1, f2, _⟩ := hf p.1 hb
    obtain ⟨o, e', d⟩ := ho p.1 hb
    rw [e] at e'; cases e'
    exact ⟨e, f0, f1, f2, d⟩
theorem Inv.unpinned {pins pl : List (Addr × Obj)} {σ : St} {H : Hp} {s : Shared} (I : Inv X (pins ++ pl) σ H s) : Inv X pins σ H s := I.pins_of fun p hp => I.pin p (List.mem_append_right _ (List.mem_append_left _ hp))
theorem ps_for {iter : Expr} {body : List Stmt} {wi : TI} {g : TG} {tb : TS} {pos : Pos} (hp : PassesOwn (model X.prog X.w) X.A X.env X.xe) (hc : X.calm = true) (hi : PI X tg iter wi) (hg : PG X tg g) (hb : PSs X body tb)
    (hs : ∀ x, foldedSetIterable iter X.env x = pure x := by intro _; rfl) : PS X (.For tg iter body [] pos) (tFor wi g tb) := by
  intro pins s σ H D I h
  refine wpAny_For (thn (hi pins s σ H _ I h) fun v s1 h1 => thn h1 fun itv s2 h2 => ?_) hs
  obtain ⟨it, fp, tn, J, H2, e, I2, T, st2, f2, W, ⟨m0, w0⟩, turn⟩ := h2
  subst e
  -- what stays true of the iterator's objects through the loop
  have stat : ∀ {H' : Hp}, (∀ b ∈ fp, H' b = none) → ∀ b ∈ fp, FpOk X pins H' b := fun hn b hb => ⟨hn b hb, (f2 b hb).2⟩
  refine codeAny_forLoop_any (fun n s' => ∃ i σ' H', Inv X pins σ' H' s' ∧ tn i s'.heap ∧ (∀ b ∈ fp, H' b = none) ∧ W i n σ' H') ?_ m0 ⟨0, σ, H2, I2, st2, fun b hb => (f2 b hb).1, w0⟩
  rintro n s3 ⟨i, σ3, H3, I3, st3, fr3, w3⟩
  rcases turn i n σ3 H3 w3 with ⟨stop, qn⟩ | ⟨go, N, hN, step⟩
  · refine wpAny_passesOwn hp (thn (T.done X rfl rfl rfl hc i pins s3 σ3 H3 X.xe I3 (stat fr3) st3 stop) fun r s4 ⟨hr, I4⟩ => ?_)
    subst hr
    exact wpAny_execs_nil ⟨σ3, H3, I4, qn⟩
  · refine wpAny_passesOwn hp (thn (T.item X rfl rfl rfl hc i pins s3 σ3 H3 X.xe I3 (stat fr3) st3 go) fun r s4 ⟨u, hr, h4⟩ => ?_)
    subst hr
    refine wpAny_passesOwn hp (thn h4 fun _ s5 ⟨x, H5, I5, r5, y5, st5, fr5⟩ => ?_)
    have I5' := I5.pinned (stat fr5) (T.obj _ _ st5)
    refine wpAny_passesOwn hp (thn (hg _ s5 σ3 H5 x u _ I5' r5 (step x H5 y5)) fun _ s6 ⟨σ6, H6, I6, q6⟩ => ?_)
    refine wpAny_passesOwn hp (thn (hb _ s6 σ6 H6 _ I6 q6) fun f s7 q7 => ?_)
    have again : ∀ {σ7 : St} {H7 : Hp}, Inv X (pins ++ pinsAt fp s5.heap) σ7 H7 s7 → N σ7 H7 → ∃ m, m < n ∧ ∃ i σ' H', Inv X pins σ' H' s7 ∧ tn i s7.heap ∧ (∀ b ∈ fp, H' b = none) ∧ W i m σ' H' := fun {σ7 H7} I7 n7 => by
      obtain ⟨m', hm, w7⟩ := hN σ7 H7 n7
      refine ⟨m', hm, i + 1, σ7, H7, I7.unpinned, T.keep _ _ _ st5 fun b hb o e => (I7.pin (b, o) (List.mem_append_right _ (List.mem_append_right _ (mem_pinsAt hb e)))).1, fun b hb => ?_, w7⟩
      obtain ⟨o, e, d⟩ := T.obj _ _ st5 b hb
      exact (I7.pin (b, o) (List.mem_append_right _ (List.mem_append_right _ (mem_pinsAt hb e)))).2.1
    cases f with
    | next => obtain ⟨σ7, H7, I7, n7⟩ := q7; exact again I7 n7
    | cont => obtain ⟨σ7, H7, I7, n7⟩ := q7; exact again I7 n7
    | brk => obtain ⟨σ7, H7, I7, q7⟩ := q7; exact ⟨σ7, H7, I7.unpinned, q7⟩
    | ret v => obtain ⟨x7, σ7, H7, I7, r7, q7⟩ := q7; exact ⟨x7, σ7, H7, I7.unpinned, r7, q7⟩
end
theorem for_list {K : PySem.W.Frag} {a : Addr} {xs : List V} {g : TG} {tb : TS} {D : Ends} {σ : St} {H : Hp} (Pv : Nat → St → Hp → Prop) (h0 : Pv 0 σ H) (hl : ∀ i σ H, i ≤ xs.length → Pv i σ H → SqL K H a xs)
    (hs : ∀ i x σ H, xs[i]? = some x → Pv i σ H → g x σ H fun σ2 H2 => tb { D with nx := Pv (i + 1), ct := Pv (i + 1), bk := D.nx } σ2 H2) (hd : ∀ σ H, Pv xs.length σ H → D.nx σ H) :
    ∃ W : Nat → Nat → St → Hp → Prop, (∃ m, W 0 m σ H) ∧ ∀ i m σ H, W i m σ H →
      ((Itl K a).stop i H ∧ D.nx σ H) ∨ ((Itl K a).go i H ∧ ∃ N : St → Hp → Prop, (∀ σ' H', N σ' H' → ∃ m', m' < m ∧ W (i + 1) m' σ' H') ∧ ∀ x H', (Itl K a).yld i H x H' → g x σ H' fun σ2 H2 => tb { D with nx := N, ct := N, bk := D.nx } σ2 H2) := by
  refine ⟨fun i m σ H => m = xs.length - i ∧ i ≤ xs.length ∧ Pv i σ H, ⟨xs.length, by simp, Nat.zero_le _, h0⟩, ?_⟩
  rintro i m σ H ⟨rfl, hi, p⟩
  have q := hl i σ H hi p
  by_cases hlt : i < xs.length
  · refine .inr ⟨⟨xs, xs[i], q, by simp [hlt]⟩, Pv (i + 1), fun σ' H' p' => ⟨xs.length - (i + 1), by omega, rfl, hlt, p'⟩, fun x H' y => ?_⟩
    obtain ⟨e, y⟩ := y
    subst e
    exact hs i x σ _ (y xs q) p
  · have e : i = xs.length := by omega
    subst e
    exact .inl ⟨⟨xs, q, Nat.le_refl _⟩, hd σ H p⟩
theorem for_range {lo : Int} {n : Nat} {g : TG} {tb : TS} {D : Ends} {σ : St} {H : Hp} (Pv : Nat → St → Hp → Prop) (h0 : Pv 0 σ H)
    (hs : ∀ i σ H, i < n → Pv i σ H → g (.int (lo + i)) σ H fun σ2 H2 => tb { D with nx := Pv (i + 1), ct := Pv (i + 1), bk := D.nx } σ2 H2) (hd : ∀ σ H, Pv n σ H → D.nx σ H) :
    ∃ W : Nat → Nat → St → Hp → Prop, (∃ m, W 0 m σ H) ∧ ∀ i m σ H, W i m σ H →
      ((Itr lo n).stop i H ∧ D.nx σ H) ∨ ((Itr lo n).go i H ∧ ∃ N : St → Hp → Prop, (∀ σ' H', N σ' H' → ∃ m', m' < m ∧ W (i + 1) m' σ' H') ∧ ∀ x H', (Itr lo n).yld i H x H' → g x σ H' fun σ2 H2 => tb { D with nx := N, ct := N, bk := D.nx } σ2 H2) := by
  refine ⟨fun i m σ H => m = n - i ∧ i ≤ n ∧ Pv i σ H, ⟨n, by simp, Nat.zero_le _, h0⟩, ?_⟩
  rintro i m σ H ⟨rfl, hi, p⟩
  by_cases hlt : i < n
  · refine .inr ⟨hlt, Pv (i + 1), fun σ' H' p' => ⟨n - (i + 1), by omega, rfl, hlt, p'⟩, fun x H' y => ?_⟩
    obtain ⟨e, y⟩ := y
    subst e y
    exact hs i σ _ hlt p
  · have e : i = n := by omega
    subst e
    exact .inl ⟨Nat.le_refl _, hd σ H p⟩
end L2
namespace L2
open PySem PySem.Spec PyProof.Rows
abbrev R2 := V → V → Hp → VK → Prop
def OpR (X : Cx) (f : Value → Value → Sem Value) (r : R2) : Prop :=
  ∀ (pins : List (Addr × Obj)) (s : Shared) (σ : St) (H : Hp) (x y : V) (v u : Value) (Q : VK), Inv X pins σ H s → RelV x v → RelV y u → r x y H Q →
    wpAny (model X.prog X.w) X.A (f v u) (EP X pins σ Q) X.xe s
def UnR (X : Cx) (f : Value → Sem Value) (r : V → Hp → VK → Prop) : Prop :=
  ∀ (pins : List (Addr × Obj)) (s : Shared) (σ : St) (H : Hp) (x : V) (v : Value) (Q : VK), Inv X pins σ H s → RelV x v → r x H Q →
    wpAny (model X.prog X.w) X.A (f v) (EP X pins σ Q) X.xe s
def CallR (X : Cx) (f : Value) (r : List V → Hp → VK → Prop) : Prop :=
  ∀ (pins : List (Addr × Obj)) (s : Shared) (σ : St) (H : Hp) (xs : List V) (us : List Value) (Q : VK), Inv X pins σ H s → Vals xs us → r xs H Q →
    wpAny (model X.prog X.w) X.A (call f us) (EP X pins σ Q) X.xe s
def tOp (r : R2) (ta tb : TE) : TE := fun σ H Q => ta σ H fun x H1 => tb σ H1 fun y H2 => r x y H2 Q
def tUn (r : V → Hp → VK → Prop) (ta : TE) : TE := fun σ H Q => ta σ H fun x H1 => r x H1 Q
def rI (C : Int → Int → Prop) (g : Int → Int → V) : R2 := fun x y H Q => ∃ i j, x = .int i ∧ y = .int j ∧ C i j ∧ Q (g i j) H
def rI0 (g : Int → Int → V) : R2 := fun x y H Q => ∃ i j, x = .int i ∧ y = .int j ∧ Q (g i j) H
def rU (g : Int → V) : V → Hp → VK → Prop := fun x H Q => ∃ i, x = .int i ∧ Q (g i) H
section
variable {X : Cx} {a b c : Expr} {ta tb tc : TE} {pos : Pos}
theorem binT (ha : PE X a ta) (hb : PE X b tb) {pins : List (Addr × Obj)} {s : Shared} {σ : St} {H : Hp} {R : V → V → Hp → Prop} (I : Inv X pins σ H s)
    (h : ta σ H fun x H1 => tb σ H1 fun y H2 => R x y H2) {Q : Value → Shared → Prop} {f : Value → Value → Sem Value}
    (hf : ∀ v u s2 x y H2, Inv X pins σ H2 s2 → RelV x v → RelV y u → R x y H2 → wpAny (model X.prog X.w) X.A (f v u) Q X.xe s2) :
    wpAny (model X.prog X.w) X.A (eval a X.env) (fun v s₁ => wpAny (model X.prog X.w) X.A (eval b X.env) (fun u s₂ => wpAny (model X.prog X.w) X.A (f v u) Q X.xe s₂) X.xe s₁) X.xe s := by
  refine thn (ha pins s σ H _ I h) fun v s1 ⟨x, H1, I1, r1, q1⟩ => ?_
  refine thn (hb pins s1 σ H1 _ I1 q1) fun u s2 ⟨y, H2, I2, r2, q2⟩ => ?_
  exact hf v u s2 x y H2 I2 r1 r2 q2
theorem pe_op {op : Operator} {r : R2} (ho : OpR X (binaryOp op) r) (ha : PE X a ta) (hb : PE X b tb) : PE X (.BinOp a op b pos) (tOp r ta tb) := by
  intro pins s σ H Q I h
  exact wpAny_BinOp (binT ha hb I h fun v u s2 x y H2 I2 rx ry q => ho pins s2 σ H2 x y v u Q I2 rx ry q)
theorem pe_un {op : UnaryOp} {r : V → Hp → VK → Prop} (ho : UnR X (unaryOp op) r) (ha : PE X a ta) : PE X (.UnaryOp op a pos) (tUn r ta) := by
  intro pins s σ H Q I h
  exact UnaryOp_ (thn (ha pins s σ H _ I h) fun v s1 ⟨x, H1, I1, r1, q1⟩ => ho pins s1 σ H1 x v Q I1 r1 q1)
theorem opI {f : Value → Value → Sem Value} {C : Int → Int → Prop} {g : Int → Int → Int}
    (rule : ∀ (i j : Int) (t u : Tok) (s : Shared) (Q : Value → Shared → Prop) (E : Value → Shared → Prop), C i j → Q (.int (g i j) s.toks) { s with toks := s.toks + 1 } → wpAny (model X.prog X.w) X.A (f (.int i t) (.int j u)) Q E s) :
    OpR X f (rI C fun i j => .int (g i j)) := by
  intro pins s σ H x y v u Q I rx ry h
  obtain ⟨i, j, rfl, rfl, hc, q⟩ := h
  obtain ⟨t, rfl⟩ := rx
  obtain ⟨t', rfl⟩ := ry
  exact rule i j t t' s _ _ hc ⟨.int (g i j), H, I.tok _, ⟨_, rfl⟩, q⟩
theorem opI0 {f : Value → Value → Sem Value} {g : Int → Int → Int}
    (rule : ∀ (i j : Int) (t u : Tok) (s : Shared) (Q : Value → Shared → Prop) (E : Value → Shared → Prop), Q (.int (g i j) s.toks) { s with toks := s.toks + 1 } → wpAny (model X.prog X.w) X.A (f (.int i t) (.int j u)) Q E s) :
    OpR X f (rI0 fun i j => .int (g i j)) := by
  intro pins s σ H x y v u Q I rx ry h
  obtain ⟨i, j, rfl, rfl, q⟩ := h
  obtain ⟨t, rfl⟩ := rx
  obtain ⟨t', rfl⟩ := ry
  exact rule i j t t' s _ _ ⟨.int (g i j), H, I.tok _, ⟨_, rfl⟩, q⟩
theorem opB0 {f : Value → Value → Sem Value} {g : Int → Int → Bool}
    (rule : ∀ (i j : Int) (t u : Tok) (s : Shared) (Q : Value → Shared → Prop) (E : Value → Shared → Prop), Q (.bool (g i j)) s → wpAny (model X.prog X.w) X.A (f (.int i t) (.int j u)) Q E s) :
    OpR X f (rI0 fun i j => .bl (g i j)) := by
  intro pins s σ H x y v u Q I rx ry h
  obtain ⟨i, j, rfl, rfl, q⟩ := h
  obtain ⟨t, rfl⟩ := rx
  obtain ⟨t', rfl⟩ := ry
  exact rule i j t t' s _ _ ⟨.bl (g i j), H, I, rfl, q⟩
theorem op_add : OpR X (binaryOp .Add) (rI0 fun i j => .int (i + j)) := opI0 fun _ _ _ _ _ _ _ q => add_int q
theorem op_sub : OpR X (binaryOp .Sub) (rI0 fun i j => .int (i - j)) := opI0 fun _ _ _ _ _ _ _ q => sub_int q
theorem op_and : OpR X (binaryOp .BitAnd) (rI0 fun i j => .int (Builtin.bitAnd i j)) := opI0 fun _ _ _ _ _ _ _ q => and_int q
theorem op_or : OpR X (binaryOp .BitOr) (rI0 fun i j => .int (Builtin.bitOr i j)) := opI0 fun _ _ _ _ _ _ _ q => or_int q
theorem unI {f : Value → Sem Value} {g : Int → Int}
    (rule : ∀ (i : Int) (t : Tok) (s : Shared) (Q : Value → Shared → Prop) (E : Value → Shared → Prop), Q (.int (g i) s.toks) { s with toks := s.toks + 1 } → wpAny (model X.prog X.w) X.A (f (.int i t)) Q E s) :
    UnR X f (rU fun i => .int (g i)) := by
  intro pins s σ H x v Q I rx h
  obtain ⟨i, rfl, q⟩ := h
  obtain ⟨t, rfl⟩ := rx
  exact rule i t s _ _ ⟨.int (g i), H, I.tok _, ⟨_, rfl⟩, q⟩
theorem un_neg : UnR X (unaryOp .USub) (rU fun i => .int (-i)) := unI fun _ _ _ _ _ q => neg_int q
end
def scal : V → V → Bool
  | .non, .non => true | .non, .int _ => true | .int _, .non => true | .non, .bl _ => true | .bl _, .non => true | .non, .str _ => true | .str _, .non => true
  | .int _, .int _ => true | .bl _, .bl _ => true | .str _, .str _ => true | .byt _, .byt _ => true
  | .int _, .str _ => true | .str _, .int _ => true | .bl _, .str _ => true | .str _, .bl _ => true
  | _, _ => false
def rEq : R2 := fun x y H Q => scal x y = true ∧ Q (.bl (decide (x = y))) H
def rNe : R2 := fun x y H Q => scal x y = true ∧ Q (.bl (!decide (x = y))) H
theorem dec_int {i j : Int} : decide (V.int i = V.int j) = (i == j) := by
  rw [Bool.eq_iff_iff]
  simp
theorem dec_bl {i j : Bool} : decide (V.bl i = V.bl j) = (i == j) := by
  rw [Bool.eq_iff_iff]
  simp
theorem dec_str {i j : Str} : decide (V.str i = V.str j) = (i == j) := by
  rw [Bool.eq_iff_iff]
  simp
theorem dec_byt {i j : Array UInt8} : decide (V.byt i = V.byt j) = (i.toList == j.toList) := by
  rw [Bool.eq_iff_iff]
  cases i
  cases j
  simp
section
variable {X : Cx} {a b c : Expr} {ta tb tc : TE} {pos : Pos}
theorem fin_bl {pins : List (Addr × Obj)} {σ : St} {H : Hp} {s : Shared} {Q : VK} {k k' : Bool} (I : Inv X pins σ H s) (q : Q (.bl k) H) (e : k = k') : EP X pins σ Q (.bool k') s := by
  subst e
  exact ⟨.bl k, H, I, rfl, q⟩
theorem op_eq : OpR X (compareOp .Eq) rEq := by
  intro pins s σ H x y v u Q I rx ry h
  obtain ⟨hs, q⟩ := h
  cases x with
  | non =>
    cases rx
    cases y with
    | non => cases ry; exact PySem.EqNone.eq_none_none (fin_bl I q (by simp))
    | bl j => cases ry; exact PySem.EqNone.eq_none_bool (fin_bl I q (by simp))
    | int j => obtain ⟨t', rfl⟩ := ry; exact PySem.EqNone.eq_none_int (fin_bl I q (by simp))
    | str j => obtain ⟨t', rfl⟩ := ry; exact PySem.EqNone.eq_none_str (fin_bl I q (by simp))
    | _ => exact absurd (show false = true from hs) Bool.false_ne_true
  | bl i =>
    cases rx
    cases y with
    | non => cases ry; exact PySem.EqNone.eq_bool_none (fin_bl I q (by simp))
    | bl j => cases ry; exact eq_bool (fin_bl I q dec_bl)
    | str j => obtain ⟨t', rfl⟩ := ry; exact PySem.EqMixed.eq_bool_str (fin_bl I q (by simp))
    | _ => exact absurd (show false = true from hs) Bool.false_ne_true
  | int i =>
    obtain ⟨t, rfl⟩ := rx
    cases y with
    | non => cases ry; exact PySem.EqNone.eq_int_none (fin_bl I q (by simp))
    | int j => obtain ⟨t', rfl⟩ := ry; exact eq_int (fin_bl I q dec_int)
    | str j => obtain ⟨t', rfl⟩ := ry; exact PySem.EqMixed.eq_int_str (fin_bl I q (by simp))
    | _ => exact absurd (show false = true from hs) Bool.false_ne_true
  | str i =>
    obtain ⟨t, rfl⟩ := rx
    cases y with
    | non => cases ry; exact PySem.EqNone.eq_str_none (fin_bl I q (by simp))
    | bl j => cases ry; exact PySem.EqMixed.eq_str_bool (fin_bl I q (by simp))
    | int j => obtain ⟨t', rfl⟩ := ry; exact PySem.EqMixed.eq_str_int (fin_bl I q (by simp))
    | str j => obtain ⟨t', rfl⟩ := ry; exact eq_str (fin_bl I q dec_str)
    | _ => exact absurd (show false = true from hs) Bool.false_ne_true
  | byt i =>
    obtain ⟨t, rfl⟩ := rx
    cases y with
    | byt j => obtain ⟨t', rfl⟩ := ry; exact PySem.W.eq_bytes (fin_bl I q dec_byt)
    | _ => exact absurd (show false = true from hs) Bool.false_ne_true
  | _ => cases y <;> exact absurd (show false = true from hs) Bool.false_ne_true
theorem op_ne : OpR X (compareOp .NotEq) rNe := by
  intro pins s σ H x y v u Q I rx ry h
  obtain ⟨hs, q⟩ := h
  cases x with
  | non =>
    cases rx
    cases y with
    | non => cases ry; exact PySem.EqNone.ne_none_none (fin_bl I q (by simp))
    | bl j => cases ry; exact PySem.EqNone.ne_none_bool (fin_bl I q (by simp))
    | int j => obtain ⟨t', rfl⟩ := ry; exact PySem.EqNone.ne_none_int (fin_bl I q (by simp))
    | str j => obtain ⟨t', rfl⟩ := ry; exact PySem.EqNone.ne_none_str (fin_bl I q (by simp))
    | _ => exact absurd (show false = true from hs) Bool.false_ne_true
  | bl i =>
    cases rx
    cases y with
    | non => cases ry; exact PySem.EqNone.ne_bool_none (fin_bl I q (by simp))
    | bl j => cases ry; exact ne_bool (fin_bl I q (congrArg not dec_bl))
    | str j => obtain ⟨t', rfl⟩ := ry; exact PySem.EqMixed.ne_bool_str (fin_bl I q (by simp))
    | _ => exact absurd (show false = true from hs) Bool.false_ne_true
  | int i =>
    obtain ⟨t, rfl⟩ := rx
    cases y with
    | non => cases ry; exact PySem.EqNone.ne_int_none (fin_bl I q (by simp))
    | int j => obtain ⟨t', rfl⟩ := ry; exact ne_int (fin_bl I q (congrArg not dec_int))
    | str j => obtain ⟨t', rfl⟩ := ry; exact PySem.EqMixed.ne_int_str (fin_bl I q (by simp))
    | _ => exact absurd (show false = true from hs) Bool.false_ne_true
  | str i =>
    obtain ⟨t, rfl⟩ := rx
    cases y with
    | non => cases ry; exact PySem.EqNone.ne_str_none (fin_bl I q (by simp))
    | bl j => cases ry; exact PySem.EqMixed.ne_str_bool (fin_bl I q (by simp))
    | int j => obtain ⟨t', rfl⟩ := ry; exact PySem.EqMixed.ne_str_int (fin_bl I q (by simp))
    | str j => obtain ⟨t', rfl⟩ := ry; exact ne_str (fin_bl I q (congrArg not dec_str))
    | _ => exact absurd (show false = true from hs) Bool.false_ne_true
  | byt i =>
    obtain ⟨t, rfl⟩ := rx
    cases y with
    | byt j => obtain ⟨t', rfl⟩ := ry; exact PySem.W.ne_bytes (fin_bl I q (congrArg not dec_byt))
    | _ => exact absurd (show false = true from hs) Bool.false_ne_true
  | _ => cases y <;> exact absurd (show false = true from hs) Bool.false_ne_true
theorem op_lt : OpR X (compareOp .Lt) (rI0 fun i j => .bl (decide (i < j))) := opB0 fun _ _ _ _ _ _ _ q => lt_int q
theorem op_le : OpR X (compareOp .LtE) (rI0 fun i j => .bl (decide (i ≤ j))) := opB0 fun _ _ _ _ _ _ _ q => le_int q
theorem op_gt : OpR X (compareOp .Gt) (rI0 fun i j => .bl (decide (j < i))) := opB0 fun _ _ _ _ _ _ _ q => gt_int q
theorem op_ge : OpR X (compareOp .GtE) (rI0 fun i j => .bl (decide (j ≤ i))) := opB0 fun _ _ _ _ _ _ _ q => ge_int q
theorem nomark (b : Expr) {op : CmpOp} (h : op ≠ .In := by decide) (h2 : op ≠ .NotIn := by decide) : behindInMarks op b = false := by
  have e1 : (op == CmpOp.In) = false := by cases op <;> first | rfl | exact absurd rfl h
  have e2 : (op == CmpOp.NotIn) = false := by cases op <;> first | rfl | exact absurd rfl h2
  cases b <;> simp [behindInMarks, e1, e2]
theorem pe_cmpR {op : CmpOp} {r : R2} (ho : OpR X (compareOp op) r) (ha : PE X a ta) (hb : PE X b tb) (hm : behindInMarks op b = false) : PE X (.Compare a [op] [b] pos) (tOp r ta tb) := by
  intro pins s σ H Q I h
  exact wpAny_Compare1 (binT ha hb I h fun v u s2 x y H2 I2 rx ry q => ho pins s2 σ H2 x y v u Q I2 rx ry q) hm
def tTest (t : TE) : TT := fun σ H Q => t σ H fun x H' => ∃ k, x = .bl k ∧ Q k H'
theorem pt_cmpR {op : CmpOp} {r : R2} (ho : OpR X (compareOp op) r) (ha : PE X a ta) (hb : PE X b tb) (hm : behindInMarks op b = false) : PT X (.Compare a [op] [b] pos) (tTest (tOp r ta tb)) := by
  intro pins s σ H Q I h
  refine wpAny_isTrue_Compare1 (thn (ha pins s σ H _ I h) fun v s1 ⟨x, H1, I1, r1, q1⟩ => thn (hb pins s1 σ H1 _ I1 q1) fun u s2 ⟨y, H2, I2, r2, q2⟩ =>
    thn (ho pins s2 σ H2 x y v u _ I2 r1 r2 q2) fun c s3 ⟨z, H3, I3, r3, k, e, q3⟩ => ?_) hm
  subst e
  cases r3
  exact wpAny_truthy_bool ⟨H3, I3, q3⟩
def tChain (r r' : R2) (ta tb tc : TE) : TE := fun σ H Q => ta σ H fun x H1 => tb σ H1 fun y H2 => r x y H2 fun z H3 => ∃ k, z = .bl k ∧
  (if k = true then tc σ H3 fun w' H4 => r' y w' H4 Q else Q (.bl false) H3)
theorem pe_chain {op op' : CmpOp} {r r' : R2} (ho : OpR X (compareOp op) r) (ho' : OpR X (compareOp op') r') (ha : PE X a ta) (hb : PE X b tb) (hc : PE X c tc)
    (hm : lastMarks [op, op'] [b, c] = false := by with_unfolding_all rfl) : PE X (.Compare a [op, op'] [b, c] pos) (tChain r r' ta tb tc) := by
  intro pins s σ H Q I h
  refine Compare_chain (thn (ha pins s σ H _ I h) fun v s1 ⟨x, H1, I1, r1, q1⟩ => chain_link (thn (hb pins s1 σ H1 _ I1 q1) fun u s2 ⟨y, H2, I2, r2, q2⟩ =>
    thn (ho pins s2 σ H2 x y v u _ I2 r1 r2 q2) fun d s3 ⟨z, H3, I3, r3, k, e, q3⟩ => ?_)) hm
  subst e
  cases r3
  refine wpAny_truthy_bool ?_
  cases k with
  | false => exact ite_ff ⟨.bl false, H3, I3, rfl, q3⟩
  | true => exact ite_tt (chain_last (thn (hc pins s3 σ H3 _ I3 q3) fun w' s4 ⟨z', H4, I4, r4, q4⟩ => ho' pins s4 σ H4 y z' u w' Q I4 r2 r4 q4))
theorem line63 : (sizeLine : Nat) < 2 ^ 63 := by rw [sizeLine_eq]; decide
theorem vals1 {x : V} {us : List Value} (r : Vals [x] us) : ∃ u, us = [u] ∧ RelV x u := by
  cases r with
  | cons r1 r2 => cases r2; exact ⟨_, rfl, r1⟩
end
end L2
namespace L2
open PySem PySem.Spec PyProof.Rows
structure ObjM (h : Heap) (x dx C : Addr) (mA : Str → Option Value) : Prop where
  obj : h.get? x = some (PySem.W.instObj C dx)
  ns : h.Ns1 dx mA
  ne : dx ≠ x
theorem lookIn_ns {h : Heap} {dx : Addr} {mA : Str → Option Value} (n : h.Ns1 dx mA) : ∃ od, h.get? dx = some od ∧ ∀ name, PySem.W.lookIn name od = some (mA name) := by
  obtain ⟨o, es, ep, ho, hd, hk, _, hm⟩ := n
  refine ⟨o, ho, fun name => ?_⟩
  have e := hm name
  unfold nsFind findBy at e
  rw [← Array.find?_toList] at e
  unfold PySem.W.lookIn
  rw [hd]
  dsimp only
  split
  · rename_i y q
    rw [q] at e
    exact congrArg some e
  · rename_i q
    rw [q] at e
    have a : es.toList.any (·.refKey) = false := by
      rw [List.any_eq_false]
      intro y hy
      obtain ⟨z, t, hkey⟩ := hk y (Array.mem_toList_iff.mp hy)
      simp [DictEntry.refKey, hkey]
    have a' : ¬ es.toList.any (·.refKey) = true := by rw [a]; exact Bool.false_ne_true
    rw [if_neg a']
    exact congrArg some e
theorem ObjM.look {h : Heap} {x dx C : Addr} {mA : Str → Option Value} (I : ObjM h x dx C mA) : ∃ od, PySem.W.InstAt h x (PySem.W.instObj C dx) C (some od) ∧ ∀ name, PySem.W.lookIn name od = some (mA name) :=
  let ⟨od, ho, hl⟩ := lookIn_ns I.ns
  ⟨od, ⟨I.obj, rfl, rfl, ho⟩, hl⟩
section
variable {prog : Program} {w : World} {A : Around} {E : Value → Shared → Prop} {s : Shared} {K : PySem.W.Frag} {x dx C f : Addr} {mA : Str → Option Value} {name : Str} {v : Value}
theorem get_map {expr : Bool} {Q : Value → Shared → Prop} (X : K.In s.heap) (I : ObjM s.heap x dx C mA) (hg : PySem.W.plainGet K C name = true) (hh : PySem.W.hasDictIn K C = true)
    (ha : PySem.W.findIn K (.ref C) name = some none) (hv : mA name = some v) (hv' : PySem.W.handedIn v = true) (h : Q v { s with toks := s.toks + 1 }) :
    wpAny (model prog w) A (getAttr (.ref x) name expr) Q E s := by
  obtain ⟨od, J, hl⟩ := I.look
  exact PySem.W.get_value X J (PySem.W.plainGet_of hg).1 (PySem.W.findObj_own hh ha rfl (by rw [hl, hv])) hv' h
theorem get_meth {pl : Sem Bool} {Q : Value × List Value → Shared → Prop} (X : K.In s.heap) (I : ObjM s.heap x dx C mA) (hg : PySem.W.plainGet K C name = true)
    (hf : PySem.W.findIn K (.ref C) name = some (some (.ref f))) (ht : PySem.W.isFn K (.ref f) = true) (hv : mA name = none) (h : Q (.ref f, [.ref x]) s) :
    wpAny (model prog w) A (getMethod (.ref x) name pl) Q E s := by
  obtain ⟨od, J, hl⟩ := I.look
  exact PySem.W.method_fn X J (PySem.W.plainGet_of hg).1 (PySem.W.plainGet_of hg).2 hf (beq_iff_eq.mp ht) (by show (PySem.W.lookIn name od).map (·.isSome) = some false; rw [hl, hv]; rfl) h
theorem set_map {ns : List Str} {Q : Unit → Shared → Prop} (X : K.In s.heap) (I : ObjM s.heap x dx C mA)
    (hs : PySem.W.findIn K (.ref C) "__setattr__" = some (some (.builtin "object.__setattr__"))) (hp : PySem.W.plainOver K C = true) (ht : PySem.W.takerIn K C name = some none) (hh : PySem.W.hasDictIn K C = true)
    (hw : PySem.Within mA ns) (hsz : ns.length ≤ sizeLine)
    (h : ∀ h', ObjM h' x dx C (fun y => if y = name then some v else mA y) → Heap.SameBut dx s.heap h' → Q () { s with heap := h', toks := s.toks + 2 }) :
    wpAny (model prog w) A (setAttr (.ref x) name v) Q E s := by
  obtain ⟨od, J, hl⟩ := I.look
  refine PySem.W.set_plain X J hs (PySem.W.osa_open (s := { s with toks := s.toks + 1 }) (r := none) X J hp ht fun b => ?_)
  obtain ⟨cd, hc, hd'⟩ := PySem.W.any_some hh
  have hx : s.heap.get? x = some ⟨.ref C, some dx, .plain, #[]⟩ := I.obj
  refine wpAny_bind (wpAny_pure (wpAny_bind (wpAny_bind (wpAny_loadPart hx (wpAny_bind (PySem.W.Looks.here (s := { s with toks := s.toks + 1 }) (PySem.W.looks_clsIn X hc) ?_))))))
  rw [hd']
  refine wpAny_pure (a := some dx) (wpAny_bind (wpAny_pure (wpAny_bind ?_)))
  refine wpAny_nsSet1 (s := { s with toks := s.toks + 1 }) I.ns fun h' hn2 hs2 => ?_
  obtain ⟨oD, esD, epD, hoD, hdD, hcD⟩ := hn2.count (PySem.Within.cons name v hw)
  refine wpAny_bind (wpAny_lookBehind hoD (by rw [hdD]; exact pastItsLine_dict (Nat.le_trans hcD (by rw [List.length_cons]; omega))) ?_)
  exact wpAny_pure (h _ ⟨(hs2.2 _ (Ne.symm I.ne)).trans I.obj, hn2, I.ne⟩ hs2)
theorem make_map {R : Result → Shared → Prop} {vs : List Value} {kw : List (Str × Value)} (X : K.In s.heap) (hm : PySem.W.makesIn K C = true)
    (hi : PySem.W.findIn K (.ref C) "__init__" = some (some (.ref f))) (hf : PySem.W.typeIn K (.ref f) = some (.type "function"))
    (h : codeAny (model prog w) (A.under (.builtin "type.__call__" ⟨.ref C :: vs, kw⟩)) (.call (.ref f) ⟨.ref (s.heap.objs.size + 1) :: vs, kw⟩) (PySem.W.InitBack (s.heap.objs.size + 1) R)
      { s with heap := (s.heap.push PySem.W.emptyDict).push (PySem.W.instObj C s.heap.objs.size) }) :
    codeAny (model prog w) A (.call (.ref C) ⟨vs, kw⟩) R s := by
  obtain ⟨hh, g, d, t, os⟩ := s
  exact PySem.W.make_core (PySem.W.makes_of X hm) (PySem.W.looks_findIn X hi) (fun self => PySem.W.bind_fn X self hf) (.inl rfl) h
end
def putF (f : Str) (v : V) : List (Str × V) → List (Str × V)
  | [] => [(f, v)]
  | (g, x) :: r => if g = f then (g, v) :: r else (g, x) :: putF f v r
theorem lookup_putF (f g : Str) (v : V) : ∀ fs : List (Str × V), (putF f v fs).lookup g = if g = f then some v else fs.lookup g
  | [] => by
    show List.lookup g [(f, v)] = _
    by_cases h : g = f
    · have hb : (g == f) = true := beq_iff_eq.mpr h
      simp only [List.lookup, hb, if_pos h]
    · have hb : (g == f) = false := beq_eq_false_iff_ne.mpr h
      simp only [List.lookup, hb, if_neg h]
  | (k, x) :: r => by
    have ih := lookup_putF f g v r
    rw [show putF f v ((k, x) :: r) = (if k = f then (k, v) :: r else (k, x) :: putF f v r) from rfl]
    by_cases hk : k = f
    · rw [if_pos hk]
      by_cases h : g = k
      · have hb : (g == k) = true := beq_iff_eq.mpr h
        simp only [List.lookup, hb, if_pos (h.trans hk)]
      · have hb : (g == k) = false := beq_eq_false_iff_ne.mpr h
        simp only [List.lookup, hb, if_neg (fun e : g = f => h (e.trans hk.symm))]
    · rw [if_neg hk]
      by_cases h : g = k
      · have hb : (g == k) = true := beq_iff_eq.mpr h
        simp only [List.lookup, hb, if_neg (fun e : g = f => hk (h.symm.trans e))]
      · have hb : (g == k) = false := beq_eq_false_iff_ne.mpr h
        simp only [List.lookup, hb]
        exact ih
theorem keys_putF (f : Str) (v : V) : ∀ fs : List (Str × V), f ∈ (putF f v fs).map (·.1) ∧ ∀ g, g ∈ fs.map (·.1) → g ∈ (putF f v fs).map (·.1)
  | [] => ⟨by simp [putF], fun g h => by simp at h⟩
  | (k, x) :: r => by
    obtain ⟨i1, i2⟩ := keys_putF f v r
    rw [show putF f v ((k, x) :: r) = (if k = f then (k, v) :: r else (k, x) :: putF f v r) from rfl]
    by_cases hk : k = f
    · rw [if_pos hk]
      subst hk
      exact ⟨by simp, fun g h => by simpa using h⟩
    · rw [if_neg hk]
      refine ⟨?_, fun g h => ?_⟩
      · rw [List.map_cons]
        exact List.mem_cons_of_mem _ i1
      · rw [List.map_cons] at h ⊢
        rcases List.mem_cons.mp h with e | e
        · exact List.mem_cons.mpr (.inl e)
        · exact List.mem_cons_of_mem _ (i2 g e)
theorem length_putF (f : Str) (v : V) : ∀ fs : List (Str × V), (putF f v fs).length ≤ fs.length + 1
  | [] => by simp [putF]
  | (k, x) :: r => by
    have ih := length_putF f v r
    rw [show putF f v ((k, x) :: r) = (if k = f then (k, v) :: r else (k, x) :: putF f v r) from rfl]
    by_cases hk : k = f
    · rw [if_pos hk, List.length_cons, List.length_cons]; omega
    · rw [if_neg hk, List.length_cons, List.length_cons]; omega
theorem RelO.some_of {v : V} {o : Option Value} (r : RelO (some v) o) : ∃ u, o = some u ∧ RelV v u := by
  cases o with
  | none => exact (show False from r).elim
  | some u => exact ⟨u, rfl, r⟩
theorem RelO.none_of {o : Option Value} (r : RelO none o) : o = none := by
  cases o with
  | none => rfl
  | some u => exact (show False from r).elim
theorem handed_of {v : V} {u : Value} (r : RelV v u) : PySem.W.handedIn u = true := by
  cases v with
  | non => cases (show u = Value.none from r); rfl
  | bl b => cases (show u = Value.bool b from r); rfl
  | int i => obtain ⟨t, e⟩ := (show ∃ t, u = Value.int i t from r); cases e; rfl
  | str x => obtain ⟨t, e⟩ := (show ∃ t, u = Value.str x t from r); cases e; rfl
  | byt b => obtain ⟨t, e⟩ := (show ∃ t, u = Value.bytes b t from r); cases e; rfl
  | flt b => obtain ⟨t, e⟩ := (show ∃ t, u = Value.float b t from r); cases e; rfl
  | ref a => cases (show u = Value.ref a from r); rfl
  | ty n => cases (show u = Value.type n from r); rfl
section
variable {P : Program} {w : World} {H H' : Hp} {h h' : Heap} {a C dx : Addr} {fs fs' : List (Str × V)}
theorem ins_get (hok : HOk P w H h) (e : H a = some (.ins C dx fs)) : ∃ mA, ObjM h a dx C mA ∧ (∀ f, RelO (fs.lookup f) (mA f)) ∧ PySem.Within mA (fs.map (·.1)) ∧ fs.length ≤ 1000 ∧ H dx = some (.own a) := by
  obtain ⟨d, z, ne, ob, mA, n, r, q⟩ := (show ObjOk P w H h a (.ins C dx fs) from hok a _ e)
  exact ⟨mA, ⟨ob, n, ne⟩, r, q, z, d⟩
end
structure Cls (K : PySem.W.Frag) (C : Addr) : Prop where
  pg : PySem.W.plainGet K C Str.empty = true
  hd : PySem.W.hasDictIn K C = true
  po : PySem.W.plainOver K C = true
  sa : PySem.W.findIn K (.ref C) "__setattr__" = some (some (.builtin "object.__setattr__"))
theorem Cls.get {K : PySem.W.Frag} {C : Addr} (c : Cls K C) (f : Str) : PySem.W.plainGet K C f = true := c.pg
def NoAttr (K : PySem.W.Frag) (C : Addr) (f : Str) : Prop := PySem.W.findIn K (.ref C) f = some none
theorem NoAttr.taker {K : PySem.W.Frag} {C : Addr} {f : Str} (n : NoAttr K C f) : PySem.W.takerIn K C f = some none := by
  unfold PySem.W.takerIn
  rw [show PySem.W.findIn K (.ref C) f = some none from n]
  rfl
structure Meth (K : PySem.W.Frag) (C : Addr) (m : Str) (f : Addr) : Prop where
  at_ : PySem.W.findIn K (.ref C) m = some (some (.ref f))
  fn : PySem.W.isFn K (.ref f) = true
  kp : PySem.W.keepIn K (.ref f) = true
section
variable {X : Cx} {pins : List (Addr × Obj)} {σ : St} {H : Hp} {s : Shared} {a C dx : Addr} {fs : List (Str × V)} {f : Str} {v : V} {A : Around} {E : Value → Shared → Prop}
theorem getattr_ok {b : Bool} {Q : Value → Shared → Prop} (I : Inv X pins σ H s) (e : H a = some (.ins C dx fs)) (c : Cls X.K C) (n : NoAttr X.K C f) (l : fs.lookup f = some v)
    (h : ∀ u s', Inv X pins σ H s' → RelV v u → Q u s') : wpAny (model X.prog X.w) A (getAttr (.ref a) f b) Q E s := by
  obtain ⟨mA, O, r, _, _, _⟩ := ins_get I.hok e
  obtain ⟨u, hu, ru⟩ := RelO.some_of (v := v) (o := mA f) (by rw [← l]; exact r f)
  exact get_map I.kIn O (c.get f) c.hd n hu (handed_of ru) (h u _ (I.tok _) ru)
theorem getmeth_ok {m : Str} {g : Addr} {pl : Sem Bool} {Q : Value × List Value → Shared → Prop} (I : Inv X pins σ H s) (e : H a = some (.ins C dx fs)) (c : Cls X.K C) (k : Meth X.K C m g) (l : fs.lookup m = none)
    (h : Q (.ref g, [.ref a]) s) : wpAny (model X.prog X.w) A (getMethod (.ref a) m pl) Q E s := by
  obtain ⟨mA, O, r, _, _, _⟩ := ins_get I.hok e
  have hn : mA m = none := RelO.none_of (by rw [← l]; exact r m)
  exact get_meth I.kIn O (c.get m) k.at_ k.fn hn h
theorem setattr_ok {y : V} {u : Value} {Q : Unit → Shared → Prop} (I : Inv X pins σ H s) (e : H a = some (.ins C dx fs)) (c : Cls X.K C) (n : NoAttr X.K C f) (hl : fs.length < 1000) (ry : RelV y u)
    (h : ∀ s', Inv X pins σ (upd H a (.ins C dx (putF f y fs))) s' → Q () s') : wpAny (model X.prog X.w) A (setAttr (.ref a) f u) Q E s := by
  obtain ⟨mA, O, r, wi, _, ho⟩ := ins_get I.hok e
  have hz : (fs.map (·.1)).length ≤ sizeLine := by rw [List.length_map, sizeLine_eq]; omega
  refine set_map I.kIn O c.sa c.po n.taker c.hd wi hz fun h' O' sb => h _ ?_
  have hd : ∃ o, h'.get? dx = some o := let ⟨o, _, _, e', _⟩ := O'.ns; ⟨o, e'⟩
  refine I.write (x := a) (e := dx) (by rw [e]; exact True.intro) (.inr ho) (fun b q hb z => (sb.2 b hb).trans z) hd ?_
  refine ⟨by rw [upd_ne O.ne]; exact ho, ?_, O.ne, O'.obj, _, O'.ns, fun g => ?_, fun g hg => ?_⟩
  · have := length_putF f y fs; omega
  · show RelO ((putF f y fs).lookup g) (if g = f then some u else mA g)
    rw [lookup_putF]
    by_cases q : g = f
    · rw [if_pos q, if_pos q]; exact ry
    · rw [if_neg q, if_neg q]; exact r g
  · by_cases q : g = f
    · rw [q]; exact (keys_putF f y fs).1
    · refine (keys_putF f y fs).2 g (wi g fun z => hg ?_)
      show (if g = f then some u else mA g) = none
      rw [if_neg q]; exact z
theorem Inv.made (I : Inv X pins σ H s) : Inv X pins σ (upd (upd H s.heap.objs.size (.own (s.heap.objs.size + 1))) (s.heap.objs.size + 1) (.ins C s.heap.objs.size []))
    { s with heap := (s.heap.push PySem.W.emptyDict).push (PySem.W.instObj C s.heap.objs.size) } := by
  have e1 : (s.heap.push PySem.W.emptyDict).get? s.heap.objs.size = some PySem.W.emptyDict := Heap.get?_push_size s.heap rfl
  have e2 : ((s.heap.push PySem.W.emptyDict).push (PySem.W.instObj C s.heap.objs.size)).get? (s.heap.objs.size + 1) = some (PySem.W.instObj C s.heap.objs.size) := by
    have := Heap.get?_push_size (s.heap.push PySem.W.emptyDict) (o := PySem.W.instObj C s.heap.objs.size) rfl
    rwa [Heap.size_push] at this
  have e3 : (s.heap.push PySem.W.emptyDict).Ns s.heap.objs.size (fun _ => none) := ⟨PySem.W.emptyDict, #[], _, e1, rfl, (fun e he => absurd he (by simp)), fun _ => rfl⟩
  have I1 := I.laid (a := s.heap.objs.size) (o := .own (s.heap.objs.size + 1)) (h' := s.heap.push PySem.W.emptyDict) (t' := s.toks) (fun b u q => Heap.get?_push_of_some _ q) (Nat.le_refl _) ⟨_, e1⟩
  refine I1.laid (a := s.heap.objs.size + 1) (o := .ins C s.heap.objs.size []) (t' := s.toks) (fun b u q => Heap.get?_push_of_some _ q) (Nat.le_of_eq (Heap.size_push _ _)) ?_
  have ne : s.heap.objs.size ≠ s.heap.objs.size + 1 := Nat.ne_of_lt (Nat.lt_succ_self _)
  refine ⟨by rw [upd_ne ne, upd_same], Nat.zero_le _, ne, e2, fun _ => none, (Heap.Ns1.of_empty e3).at fun o q => Heap.get?_push_of_some _ q, fun _ => True.intro, fun y hy => absurd rfl hy⟩
theorem attr_of {prog : Program} {w : World} {env : Env} {e : Expr} {f : Str} {pos : Pos} {s : Shared} {Q : Value → Shared → Prop} (hb : attributeBase e f env (eval e env) = eval e env)
    (h : wpAny (model prog w) A (eval e env) (fun o s₁ => wpAny (model prog w) A (getAttr o f true) Q E s₁) E s) : wpAny (model prog w) A (eval (.Attribute e f pos) env) Q E s :=
  Attribute_any_ h (by rw [arm_eval_Attribute, hb])
end
def tFld (K : PySem.W.Frag) (ta : TE) (f : Str) : TE := fun σ H Q => ta σ H fun x H1 => ∃ a C dx fs v, x = .ref a ∧ H1 a = some (.ins C dx fs) ∧ Cls K C ∧ NoAttr K C f ∧ fs.lookup f = some v ∧ Q v H1
def sFld (K : PySem.W.Frag) (ta tv : TE) (f : Str) : TS := fun D σ H => tv σ H fun y H1 => ta σ H1 fun x H2 => ∃ a C dx fs, x = .ref a ∧ H2 a = some (.ins C dx fs) ∧ Cls K C ∧ NoAttr K C f ∧ fs.length < 1000 ∧
  D.nx σ (upd H2 a (.ins C dx (putF f y fs)))
section
variable {X : Cx} {o e value : Expr} {f : Str} {pos pos' tpos : Pos} {ta tv : TE}
theorem pe_fld (he : PE X e ta) (hb : attributeBase e f X.env (eval e X.env) = eval e X.env) : PE X (.Attribute e f pos) (tFld X.K ta f) := by
  intro pins s σ H Q I h
  refine attr_of hb (thn (he pins s σ H _ I h) fun u s1 ⟨x, H1, I1, rx, a, C, dx, fs, v, ex, ea, c, n, l, q⟩ => ?_)
  subst ex
  obtain rfl : u = Value.ref a := rx
  exact getattr_ok I1 ea c n l fun u' s2 I2 ru => ⟨v, H1, I2, ru, q⟩
theorem ps_fld (ha : PE X o ta) (hv : PE X value tv) (hs : swapsWith value (some (.Attribute o f pos')) pos.line X.env = pure false) : PS X (.Assign [.Attribute o f pos'] value pos) (sFld X.K ta tv f) := by
  intro pins s σ H D I h
  refine plainObj_wpAny_Assign_Attribute (thn (hv pins s σ H _ I h) fun u s1 ⟨y, H1, I1, ry, q⟩ => thn (ha pins s1 σ H1 _ I1 q) fun ov s2 ⟨x, H2, I2, rx, a, C, dx, fs, ex, ea, c, n, l, q2⟩ => ?_) hs
  subst ex
  obtain rfl : ov = Value.ref a := rx
  exact setattr_ok I2 ea c n l ry fun s3 I3 => ⟨σ, _, I3, q2⟩
end
section
variable {X : Cx} {pins : List (Addr × Obj)} {σ : St} {H : Hp} {s : Shared} {A : Around} {E : Value → Shared → Prop} {Q : Value → Shared → Prop} {c : Value} {b : Bool}
end
end L2
namespace L2
open PySem PySem.Spec PyProof.Rows
structure Room (k : Nat) (A : Around) : Prop where
  hd : A.handled = none
  dp : A.depth + 3 * k + 5 < recursionLimit
  un : A.units + 16 * k + 200 < cLine
theorem Room.mono {j k : Nat} {A : Around} (r : Room k A) (h : j ≤ k) : Room j A := ⟨r.hd, by have := r.dp; omega, by have := r.un; omega⟩
theorem Room.deeper {k : Nat} {A : Around} (r : Room (k + 1) A) (env : Env) : Room k (A.deeper env) :=
  ⟨r.hd, by have := r.dp; show A.depth + 1 + 3 * k + 5 < _; omega, by have := r.un; show A.units + 3 + 16 * k + 200 < _; omega⟩
theorem make_depth {A : Around} {C : Addr} {us : List Value} {kw : List (Str × Value)} : (A.under (.builtin "type.__call__" ⟨.ref C :: us, kw⟩)).depth = A.depth + 1 := by
  first | rfl | simp [Around.under, Code.weight, Code.isCreation, Code.isGuard, Code.isCaller, Code.frames, Code.isFrame, guardIds]
theorem make_units {A : Around} {C : Addr} {us : List Value} {kw : List (Str × Value)} : (A.under (.builtin "type.__call__" ⟨.ref C :: us, kw⟩)).units = A.units + 1 := by
  first | rfl | simp [Around.under, Code.cUnits, Code.frames, Code.isFrame]
theorem Room.make {k : Nat} {A : Around} (r : Room (k + 1) A) (C : Addr) (us : List Value) (kw : List (Str × Value)) : Room k (A.under (.builtin "type.__call__" ⟨.ref C :: us, kw⟩)) :=
  ⟨r.hd, by have := r.dp; rw [make_depth]; omega, by have := r.un; rw [make_units]; omega⟩
theorem Room.depth {k : Nat} {A : Around} (r : Room k A) : A.depth < recursionLimit := by have := r.dp; omega
theorem Room.units {k : Nat} {A : Around} (r : Room k A) : A.units + 64 < cLine := by have := r.un; omega
theorem Room.units0 {k : Nat} {A : Around} (r : Room k A) : A.units < cLine := by have := r.un; omega
def tNil : TA := fun _ H Q => Q [] H
def tCons (ta : TE) (tr : TA) : TA := fun σ H Q => ta σ H fun x H1 => tr σ H1 fun xs H2 => Q (x :: xs) H2
section
variable {X : Cx} {e : Expr} {es : List Expr} {te : TE} {t : TA} {pos : Pos}
theorem pa_nil : PA X [] tNil := fun _ _ _ _ H Q I h => Calls.spliced_nil ⟨[], H, I, .nil, h⟩
theorem pa_cons (ha : PE X e te) (hr : PA X es t) (hs : starEach (e :: es) X.env = (false, eval e X.env) :: starEach es X.env := by rfl) : PA X (e :: es) (tCons te t) := by
  intro pos pins s σ H Q I h
  rw [hs]
  show wpAny _ _ (spliced ((false, eval e X.env) :: backTo pos (starEach es X.env))) _ _ s
  refine Calls.spliced_cons (thn (ha pins s σ H _ I h) fun u s1 ⟨x, H1, I1, r1, q1⟩ => ?_)
  exact thn (hr pos pins s1 σ H1 _ I1 q1) fun us s2 ⟨xs, H2, I2, r2, q2⟩ => ⟨x :: xs, H2, I2, .cons r1 r2, q2⟩
def tLst (t : TA) : TE := fun σ H Q => t σ H fun xs H1 => xs.length ≤ sizeLine ∧ ∀ p, H1 p = none → Q (.ref p) (upd H1 p (.lst xs))
theorem pe_lst (h : PA X es t) : PE X (.List es pos) (tLst t) := by
  intro pins s σ H Q I hq
  refine wpAny_List_spliced (thn (h pos pins s σ H _ I hq) fun us s1 ⟨xs, H1, I1, r, z, q⟩ => ⟨by rw [← r.length]; exact z, ?_⟩)
  have hf : H1 s1.heap.objs.size = none := I1.hok.fresh (Nat.le_refl _)
  refine ⟨.ref s1.heap.objs.size, upd H1 s1.heap.objs.size (.lst xs), I1.laid (t' := s1.toks) (fun b u e => Heap.get?_push_of_some _ e) (Nat.le_refl _) ?_, rfl, q _ hf⟩
  exact ⟨z, us, 0, r, Heap.get?_push_size _ rfl⟩
end
abbrev Sp := List V → Hp → VK → XK → Prop
abbrev CXT := List Env → Hp → Shared → XK → Value → Shared → Prop
structure Env0 (P : Program) (w : World) (K : PySem.W.Frag) (mg : Str → Option Value) (base : Heap) (A : Around) (outer : List Env) (s : Shared) (H : Hp) : Prop where
  frames : A.frames = some outer
  mod : Mod K mg base
  bs : ∀ b o, base.get? b = some o → s.heap.get? b = some o ∧ H b = none
  bsz : base.objs.size ≤ s.heap.objs.size
  funs : s.heap.FunFrames base outer
  frf : ∀ b ∈ frs outer, H b = none
  hok : HOk P w H s.heap
  bare : AllBare s.gens
def CE (outer : List Env) (P : Program) (w : World) (H : Hp) (s : Shared) (Q : VK) (u : Value) (s' : Shared) : Prop :=
  ∃ v H', s'.os = s.os ∧ AllBare s'.gens ∧ Un (frs outer) [] H H' s.heap s'.heap ∧ HOk P w H' s'.heap ∧ RelV v u ∧ Q v H'
def CR (CX : CXT) (outer : List Env) (P : Program) (w : World) (H : Hp) (s : Shared) (Q : VK) (E : XK) (r : Result) (s' : Shared) : Prop :=
  match r with
  | .ok (.ret u) => CE outer P w H s Q u s'
  | .ok _ => False
  | .error e => CX outer H s E e s'
structure FnOk (P : Program) (w : World) (K : PySem.W.Frag) (mg : Str → Option Value) (base : Heap) (CX : CXT) (k : Nat) (f : Addr) (fd : FuncData) (ps : List Str) (sp : Sp) : Prop where
  len : ∀ vs H Q E, sp vs H Q E → vs.length = ps.length
  run : ∀ (A : Around) (outer : List Env) (s : Shared) (H : Hp) (args : Args) (us : List Value) (vs : List V) (Q : VK) (E : XK), Room k A → Env0 P w K mg base A outer s H → BindsTo s fd args (ps.zip us) → Vals vs us → sp vs H Q E →
    codeAny (model P w) A (.call (.ref f) args) (CR CX outer P w H s Q E) s
theorem Env0.make {P : Program} {w : World} {K : PySem.W.Frag} {mg : Str → Option Value} {base : Heap} {A : Around} {outer : List Env} {s : Shared} {H : Hp} (e : Env0 P w K mg base A outer s H) (C : Addr) (us : List Value) (kw : List (Str × Value)) :
    Env0 P w K mg base (A.under (.builtin "type.__call__" ⟨.ref C :: us, kw⟩)) outer s H := ⟨by first | exact e.frames | (simpa [Around.under, Code.envs, Code.isFrame, pushEnvs] using e.frames), e.mod, e.bs, e.bsz, e.funs, e.frf, e.hok, e.bare⟩
section
variable {X : Cx} {pins : List (Addr × Obj)} {σ : St} {H : Hp} {s s' : Shared}
theorem Inv.env0 (I : Inv X pins σ H s) : Env0 X.prog X.w X.K X.mg X.base X.A X.stack s H :=
  ⟨I.ok.frames, I.ok.mod, I.bs, Nat.le_trans I.ok.bsz I.sz, I.stack, I.stkFree, I.hok, I.bare⟩
theorem Inv.after {Q : VK} {u : Value} (I : Inv X pins σ H s) (h : CE X.stack X.prog X.w H s Q u s') : EP X pins σ Q u s' := by
  obtain ⟨v, H', os, bare, un, hok, r, q⟩ := h
  obtain ⟨hh, g, d, t, os'⟩ := s'
  obtain rfl : os' = s.os := os
  exact ⟨v, H', I.call (h' := hh) (g' := g) (d' := d) (t' := t) (ch := []) un hok bare (fun b z => absurd z (by simp)), r, q⟩
end
def tCall (sp : Sp) (dvs : List V) (E : XK) (t : TA) : TE := fun σ H Q => t σ H fun vs H1 => sp (vs ++ dvs) H1 Q E
def tMeth (C : Addr) (m : Str) (sp : Sp) (dvs : List V) (E : XK) (ta : TE) (t : TA) : TE := fun σ H Q => ta σ H fun x H1 => ∃ a dx fs, x = .ref a ∧ H1 a = some (.ins C dx fs) ∧ fs.lookup m = none ∧
  t σ H1 fun vs H2 => sp (x :: (vs ++ dvs)) H2 Q E
def tMake (C : Addr) (sp : Sp) (dvs : List V) (E : XK) (t : TA) : TE := fun σ H Q => t σ H fun vs H1 => ∀ x dx, H1 x = none → H1 dx = none → dx ≠ x →
  sp (.ref x :: (vs ++ dvs)) (upd (upd H1 dx (.own x)) x (.ins C dx [])) (fun v H2 => v = .non ∧ Q (.ref x) H2) E
def Binds (K : PySem.W.Frag) (fd : FuncData) (ps : List Str) (ds : List Value) : Prop :=
  ∀ (s : Shared) (us : List Value), K.In s.heap → (us ++ ds).length = ps.length → BindsTo s fd ⟨us, []⟩ (ps.zip (us ++ ds))
theorem Binds.all {K : PySem.W.Frag} {fd : FuncData} {ps : List Str} (h : ∀ us : List Value, us.length = ps.length → bindArgs fd ⟨us, []⟩ = pure (ps.zip us)) : Binds K fd ps [] := fun s us _ hl => by
  rw [List.append_nil] at hl ⊢
  exact .of_eq (h us hl)
def Passes (CX : CXT) (X : Cx) (E : XK) : Prop := ∀ (pins : List (Addr × Obj)) (σ : St) (H : Hp) (s : Shared) (e : Value) (s' : Shared), Inv X pins σ H s → CX X.stack H s E e s' → X.xe e s'
section
variable {X : Cx} {CX : CXT} {k : Nat} {f C : Addr} {fd : FuncData} {ps : List Str} {sp : Sp} {dvs : List V} {ds : List Value} {E : XK} {x m : Str} {p pos apos : Pos} {e o : Expr} {es : List Expr} {ta : TE} {t : TA}
theorem run_fn {pins : List (Addr × Obj)} {σ : St} {H : Hp} {s : Shared} {Q : VK} {us : List Value} {vs : List V} (F : FnOk X.prog X.w X.K X.mg X.base CX k f fd ps sp) (hr : Room k X.A) (hb : Binds X.K fd ps ds) (hd : Vals dvs ds) (hx : Passes CX X E)
    (I : Inv X pins σ H s) (r : Vals vs us) (h : sp (vs ++ dvs) H Q E) : wpAny (model X.prog X.w) X.A (call (.ref f) us) (EP X pins σ Q) X.xe s := by
  have r2 : Vals (vs ++ dvs) (us ++ ds) := r.append hd
  have hl : (us ++ ds).length = ps.length := by rw [← r2.length]; exact F.len _ _ _ _ h
  refine wpAny_call (codeAny_mono (F.run X.A X.stack s H ⟨us, []⟩ (us ++ ds) (vs ++ dvs) Q E hr I.env0 (hb s us I.kIn hl) r2 h) fun r s' hq => ?_)
  cases r with
  | error e => exact hx pins σ H s e s' I hq
  | ok fl =>
    cases fl with
    | ret u => exact I.after hq
    | next => exact False.elim hq
    | brk => exact False.elim hq
    | cont => exact False.elim hq
theorem pe_call (F : FnOk X.prog X.w X.K X.mg X.base CX k f fd ps sp) (hr : Room k X.A) (hg : Gl X x) (hm : X.mg x = some (.ref f)) (hk : PySem.W.keepIn X.K (.ref f) = true) (hb : Binds X.K fd ps ds) (hd : Vals dvs ds) (hx : Passes CX X E)
    (ha : PA X (e :: es) t) (hdb : (x == ("__debug__" : Str)) = false := by decide) (he : starEach (e :: es) X.env = (false, eval e X.env) :: starEach es X.env := by rfl) (hpl : (backTo pos (starEach es X.env)).any (·.1) = false := by rfl) :
    PE X (.Call (.Name x p) (e :: es) [] pos) (tCall sp dvs E t) := by
  intro pins s σ H Q I h
  refine wpAny_Call_Name_kw (ld_glob I hg hm ?_ hdb)
  refine PySem.W.callWith_K (h₀ := X.base) I.ok.mod.kin hk (thn (ha pos pins s σ H _ I h) fun us s1 ⟨vs, H1, I1, r, q⟩ => ⟨I1.kIn, ?_⟩) he hpl
  exact run_fn F hr hb hd hx I1 r q
theorem pe_meth {pl : Sem Bool} (he : PE X o ta) (c : Cls X.K C) (hm : Meth X.K C m f) (F : FnOk X.prog X.w X.K X.mg X.base CX k f fd ps sp) (hr : Room k X.A) (hb : Binds X.K fd ps ds) (hd : Vals dvs ds) (hx : Passes CX X E) (ha : PA X (e :: es) t)
    (hst : starEach (e :: es) X.env = (false, eval e X.env) :: starEach es X.env := by rfl) (hpl : (backTo pos (starEach es X.env)).any (·.1) = false := by rfl)
    (ht : eval (.Call (.Attribute o m apos) (e :: es) [] pos) X.env = (do
      let ov ← eval o X.env
      standAt apos.atName
      let (f, first) ← holding [ov] (getMethod ov m pl)
      callWith pos f first (backTo pos (starEach (e :: es) X.env)) (backToKw pos (keywordEach [] X.env))) := by rfl) :
    PE X (.Call (.Attribute o m apos) (e :: es) [] pos) (tMeth C m sp dvs E ta t) := by
  intro pins s σ H Q I h
  refine PySem.W.methodCall_KW (pl := pl) (thn (he pins s σ H _ I h) fun u s1 ⟨x, H1, I1, rx, a, dx, fs, ex, ea, l, q⟩ => ?_) ht
  subst ex
  obtain rfl : u = Value.ref a := rx
  refine getmeth_ok I1 ea c hm l ?_
  refine PySem.W.callWith_K (first := [.ref a]) (h₀ := X.base) I.ok.mod.kin hm.kp (thn (ha pos pins s1 σ H1 _ I1 q) fun us s2 ⟨vs, H2, I2, r, q2⟩ => ⟨I2.kIn, ?_⟩) hst hpl
  exact run_fn (us := .ref a :: us) (vs := .ref a :: vs) F hr hb hd hx I2 (.cons rfl r) q2
theorem pe_meth0 {pl : Sem Bool} (he : PE X o ta) (c : Cls X.K C) (hm : Meth X.K C m f) (F : FnOk X.prog X.w X.K X.mg X.base CX k f fd ps sp) (hr : Room k X.A) (hb : Binds X.K fd ps ds) (hd : Vals dvs ds) (hx : Passes CX X E)
    (ht : eval (.Call (.Attribute o m apos) [] [] pos) X.env = (do
      let ov ← eval o X.env
      standAt apos.atName
      let (f, first) ← holding [ov] (getMethod ov m pl)
      callWith pos f first (backTo pos (starEach [] X.env)) (backToKw pos (keywordEach [] X.env))) := by rfl) :
    PE X (.Call (.Attribute o m apos) [] [] pos) (tMeth C m sp dvs E ta tNil) := by
  intro pins s σ H Q I h
  refine PySem.W.methodCall_KW (pl := pl) (thn (he pins s σ H _ I h) fun u s1 ⟨x, H1, I1, rx, a, dx, fs, ex, ea, l, q⟩ => ?_) ht
  subst ex
  obtain rfl : u = Value.ref a := rx
  refine getmeth_ok I1 ea c hm l ?_
  exact PySem.W.callWith_K0 (first := [.ref a]) I1.kIn hm.kp (run_fn (us := [.ref a]) (vs := [.ref a]) F hr hb hd hx I1 (.cons rfl .nil) q)
structure Mk (K : PySem.W.Frag) (C f : Addr) : Prop where
  makes : PySem.W.makesIn K C = true
  init : PySem.W.findIn K (.ref C) "__init__" = some (some (.ref f))
  fn : PySem.W.isFn K (.ref f) = true
  kp : PySem.W.keepIn K (.ref C) = true
theorem run_make {pins : List (Addr × Obj)} {σ : St} {H : Hp} {s : Shared} {Q : VK} {us : List Value} {vs : List V} (M : Mk X.K C f) (F : FnOk X.prog X.w X.K X.mg X.base CX k f fd ps sp) (hr : Room (k + 1) X.A) (hb : Binds X.K fd ps ds) (hd : Vals dvs ds)
    (hx : Passes CX X E) (I : Inv X pins σ H s) (r : Vals vs us)
    (h : ∀ x dx, H x = none → H dx = none → dx ≠ x → sp (.ref x :: (vs ++ dvs)) (upd (upd H dx (.own x)) x (.ins C dx [])) (fun v H2 => v = .non ∧ Q (.ref x) H2) E) :
    wpAny (model X.prog X.w) X.A (call (.ref C) us) (EP X pins σ Q) X.xe s := by
  have hq := h (s.heap.objs.size + 1) s.heap.objs.size (I.hok.fresh (Nat.le_succ _)) (I.hok.fresh (Nat.le_refl _)) (Nat.ne_of_lt (Nat.lt_succ_self _))
  have I2 := Inv.made (C := C) I
  have r2 : Vals (V.ref (s.heap.objs.size + 1) :: (vs ++ dvs)) (Value.ref (s.heap.objs.size + 1) :: (us ++ ds)) := .cons rfl (r.append hd)
  have hl : (Value.ref (s.heap.objs.size + 1) :: us ++ ds).length = ps.length := by
    have e := r2.length
    rw [F.len _ _ _ _ hq] at e
    exact e.symm
  refine wpAny_call (make_map (f := f) I.kIn M.makes M.init (beq_iff_eq.mp M.fn) (codeAny_mono (F.run _ X.stack _ _ ⟨Value.ref (s.heap.objs.size + 1) :: us, []⟩ (Value.ref (s.heap.objs.size + 1) :: (us ++ ds)) _ _ E (hr.make C us [])
    (I2.env0.make C us []) (hb _ (Value.ref (s.heap.objs.size + 1) :: us) I2.kIn hl) r2 hq) fun r s' hq' => ?_))
  cases r with
  | error e => exact hx pins σ _ _ e s' I2 hq'
  | ok fl =>
    cases fl with
    | ret u =>
      obtain ⟨v, H', I3, rv, ev, q3⟩ := I2.after hq'
      subst ev
      exact ⟨rv, ⟨V.ref (s.heap.objs.size + 1), H', I3, rfl, q3⟩⟩
    | next => exact False.elim hq'
    | brk => exact False.elim hq'
    | cont => exact False.elim hq'
theorem pe_make (M : Mk X.K C f) (F : FnOk X.prog X.w X.K X.mg X.base CX k f fd ps sp) (hr : Room (k + 1) X.A) (hg : Gl X x) (hm : X.mg x = some (.ref C)) (hb : Binds X.K fd ps ds) (hd : Vals dvs ds) (hx : Passes CX X E)
    (ha : PA X (e :: es) t) (hdb : (x == ("__debug__" : Str)) = false := by decide) (he : starEach (e :: es) X.env = (false, eval e X.env) :: starEach es X.env := by rfl) (hpl : (backTo pos (starEach es X.env)).any (·.1) = false := by rfl) :
    PE X (.Call (.Name x p) (e :: es) [] pos) (tMake C sp dvs E t) := by
  intro pins s σ H Q I h
  refine wpAny_Call_Name_kw (ld_glob I hg hm ?_ hdb)
  refine PySem.W.callWith_K (h₀ := X.base) I.ok.mod.kin M.kp (thn (ha pos pins s σ H _ I h) fun us s1 ⟨vs, H1, I1, r, q⟩ => ⟨I1.kIn, ?_⟩) he hpl
  exact run_make M F hr hb hd hx I1 r q
theorem pe_make0 (M : Mk X.K C f) (F : FnOk X.prog X.w X.K X.mg X.base CX k f fd ps sp) (hr : Room (k + 1) X.A) (hg : Gl X x) (hm : X.mg x = some (.ref C)) (hb : Binds X.K fd ps ds) (hd : Vals dvs ds) (hx : Passes CX X E)
    (hdb : (x == ("__debug__" : Str)) = false := by decide) : PE X (.Call (.Name x p) [] [] pos) (tMake C sp dvs E tNil) := by
  intro pins s σ H Q I h
  refine wpAny_Call_Name_kw (ld_glob I hg hm ?_ hdb)
  exact PySem.W.callWith_K0 I.kIn M.kp (run_make (us := []) M F hr hb hd hx I .nil h)
end
section
variable {X : Cx} {CX : CXT} {k : Nat} {f C : Addr} {fd : FuncData} {ps ks : List Str} {sp : Sp} {E : XK} {x m : Str} {p pos apos kpos : Pos} {e o : Expr} {es : List Expr} {kws : List Keyword} {te ta : TE} {t tk : TA} {nm : Option Str}
variable {g : List Value → List Value → List Value} {gV : List V → List V → List V}
end
structure FnScope (N P : List Str) (sc : Scope) : Prop where
  kind : sc.kind = .function
  co : sc.isCoroutine = false
  gen : sc.isGenerator = false
  nd : N.Nodup
  pre : N.take P.length = P
  par : ∀ x ∈ P, sc.names.lookup x = some .local ∨ sc.names.lookup x = some .cell
  nofree : ∀ y ∈ sc.names, y.2 ≠ .free
theorem bindL_out {kindOf : Str → Option NameKind} {x : Str} : ∀ {binds : List (Str × Value)} {m : Str → Option Value}, (∀ v, (x, v) ∉ binds) → bindL kindOf binds m x = m x
  | [], _, _ => rfl
  | (n, v) :: r, m, h => by
    unfold bindL
    rw [bindL_out fun w hw => h w (List.mem_cons_of_mem _ hw)]
    split
    · have : x ≠ n := by rintro rfl; exact h v List.mem_cons_self
      simp [this]
    · rfl
theorem bindC_out {kindOf : Str → Option NameKind} {x : Str} : ∀ {binds : List (Str × Value)} {m : Str → Option Value}, (∀ v, (x, v) ∉ binds) → bindC kindOf binds m x = m x
  | [], _, _ => rfl
  | (n, v) :: r, m, h => by
    unfold bindC
    rw [bindC_out fun w hw => h w (List.mem_cons_of_mem _ hw)]
    split
    · rfl
    · have : x ≠ n := by rintro rfl; exact h v List.mem_cons_self
      simp [this]
theorem bindL_get {kindOf : Str → Option NameKind} {x : Str} {v : Value} : ∀ {P : List Str} {vs : List Value} {i : Nat} {m : Str → Option Value}, P.Nodup → P[i]? = some x → vs[i]? = some v → kindOf x = some .local →
    bindL kindOf (P.zip vs) m x = some v
  | [], _, _, _, _, h, _, _ => by simp at h
  | _ :: _, [], _, _, _, _, h, _ => by simp at h
  | p :: P, w :: vs, 0, m, nd, h1, h2, hk => by
    simp at h1 h2; subst h1; subst h2
    show bindL kindOf ((p, w) :: P.zip vs) m p = _
    unfold bindL
    rw [bindL_out fun v hv => (List.nodup_cons.mp nd).1 (List.of_mem_zip hv).1, if_pos hk]
    simp
  | p :: P, w :: vs, i + 1, m, nd, h1, h2, hk => by
    show bindL kindOf ((p, w) :: P.zip vs) m x = _
    unfold bindL
    exact bindL_get (i := i) (List.nodup_cons.mp nd).2 (by simpa using h1) (by simpa using h2) hk
theorem bindC_get {kindOf : Str → Option NameKind} {x : Str} {v : Value} : ∀ {P : List Str} {vs : List Value} {i : Nat} {m : Str → Option Value}, P.Nodup → P[i]? = some x → vs[i]? = some v → kindOf x ≠ some .local →
    bindC kindOf (P.zip vs) m x = some v
  | [], _, _, _, _, h, _, _ => by simp at h
  | _ :: _, [], _, _, _, _, h, _ => by simp at h
  | p :: P, w :: vs, 0, m, nd, h1, h2, hk => by
    simp at h1 h2; subst h1; subst h2
    show bindC kindOf ((p, w) :: P.zip vs) m p = _
    unfold bindC
    rw [bindC_out fun v hv => (List.nodup_cons.mp nd).1 (List.of_mem_zip hv).1, if_neg hk]
    simp
  | p :: P, w :: vs, i + 1, m, nd, h1, h2, hk => by
    show bindC kindOf ((p, w) :: P.zip vs) m x = _
    unfold bindC
    exact bindC_get (i := i) (List.nodup_cons.mp nd).2 (by simpa using h1) (by simpa using h2) hk
def start (N : List Str) (vs : List V) : St := vs.map some ++ List.replicate (N.length - vs.length) none
def cxOf (CX : CXT) (P : Program) (w : World) (K : PySem.W.Frag) (mg : Str → Option Value) (base : Heap) (N : List Str) (qual : Str) (scope : Scope) (f : Addr) (cd : Value) (A : Around) (outer : List Env) (s : Shared) (H : Hp) (E : XK) : Cx where
  prog := P
  w := w
  K := K
  mg := mg
  base := base
  A := A.deeper (envOfC qual scope s.heap.objs.size f cd)
  N := N
  s_0 := s
  H_0 := H
  env := envOfC qual scope s.heap.objs.size f cd
  outer := outer
  stack := envOfC qual scope s.heap.objs.size f cd :: outer
  ex := []
  calm := true
  fn := fun _ => true
  pn := []
  xe := fun e s' => wpAny (model P w) (A.deeper (envOfC qual scope s.heap.objs.size f cd)) (leaving (envOfC qual scope s.heap.objs.size f cd) e) (fun _ s'' => CX outer H s E e s'') (fun e' s'' => CX outer H s E e' s'') s'
theorem cell_has {sc : Scope} {n : Nat} {x : Str} (h : sc.names.lookup x = some .cell) : ∃ c, (cellsFrom n sc.names []).lookup x = some c := by
  have q := PySem.W.cellsFrom_some sc.names n [] (.inl h)
  exact Option.isSome_iff_exists.mp q
theorem inv_start {CX : CXT} {P : Program} {w : World} {K : PySem.W.Frag} {mg : Str → Option Value} {base : Heap} {N ps : List Str} {qual : Str} {scope : Scope} {f : Addr} {cd : Value} {A : Around} {outer : List Env} {s s1 : Shared} {H : Hp} {E : XK} {us : List Value} {vs : List V}
    (S : FnScope N ps scope) (hd : A.handled = none) (e0 : Env0 P w K mg base A outer s H) (hl : vs.length = ps.length) (r : Vals vs us)
    (x : InCallC s s.heap.objs.size (bindL (envOfC qual scope s.heap.objs.size f cd).kindOf (ps.zip us) fun _ => none) (cellsFrom (s.heap.objs.size + 1) scope.names []) (bindC (envOfC qual scope s.heap.objs.size f cd).kindOf (ps.zip us) fun _ => none) s1) :
    Inv (cxOf CX P w K mg base N qual scope f cd A outer s H E) [] (start N vs) H s1 := by
  have hpl : ps.length ≤ N.length := by have := congrArg List.length S.pre; rw [List.length_take] at this; omega
  obtain ⟨h1, tk, rfl, hk⟩ := x.done
  have noA : ∀ b : Addr, b ∉ (cxOf CX P w K mg base N qual scope f cd A outer s H E).ex := fun b z => absurd (show b ∈ ([] : List Addr) from z) (by simp)
  refine ⟨⟨e0.mod, S.kind, rfl, rfl, Nat.le_refl _, fun y z c h1 h2 => ?_, fun y hy => ?_, fun y c _ h => ?_, fun _ => hd, Around.frames_deeper e0.frames, .inr ⟨rfl, rfl⟩, fun b z => absurd z (noA b), e0.bs, e0.bsz, fun b _ _ => noA b, fun b z => absurd z (noA b), e0.funs, e0.frf⟩,
    rfl, e0.bare, Un.kept hk, ⟨_, x.toInCall.ns, fun i y v h1 h2 h3 => ?_⟩, fun y c h => ⟨_, x.cell y c h⟩, e0.hok.fresh (Nat.le_refl _), fun y c h => ?_, fun p hp => absurd (show p ∈ ([] : List (Addr × Obj)) from hp) (by simp), e0.hok.kept hk, ?_⟩
  · exact name_of_addr x.apart (PySem.mem_of_lookup h1) (PySem.mem_of_lookup h2)
  · have hy : scope.names.lookup y = some .cell ∨ scope.names.lookup y = some .free := hy
    rcases hy with hy | hy
    · exact cell_has hy
    · exact absurd rfl (S.nofree _ (PySem.mem_of_lookup hy))
  · exact Nat.le_of_lt (x.above y c (PySem.mem_of_lookup h))
  · have hi : i < vs.length := by
      unfold start at h2
      by_cases hi : i < vs.length
      · exact hi
      · rw [List.getElem?_append_right (by simpa using hi)] at h2
        rw [List.getElem?_replicate] at h2
        split at h2 <;> cases h2
    have ha : vs[i]? = some v := by
      unfold start at h2
      rw [List.getElem?_append_left (by simpa using hi), List.getElem?_map] at h2
      cases e : vs[i]? with
      | none => rw [e] at h2; cases h2
      | some a => rw [e] at h2; cases h2; rfl
    obtain ⟨u, hu, rv⟩ := r.get ha
    have hp : ps[i]? = some y := by
      rw [← S.pre, List.getElem?_take_of_lt (by omega)]; exact h1
    have ndP : ps.Nodup := by rw [← S.pre]; exact S.nd.sublist (List.take_sublist _ _)
    refine ⟨u, rv, ?_⟩
    rcases S.par y (List.mem_of_getElem? hp) with k | k
    · exact .inl ⟨k, bindL_get ndP hp hu k⟩
    · obtain ⟨c, e⟩ := cell_has (n := s.heap.objs.size + 1) k
      refine .inr ⟨.inl k, c, e, ?_⟩
      have q := x.cell y c e
      rw [bindC_get ndP hp hu (by show scope.names.lookup y ≠ _; rw [k]; decide)] at q
      exact q
  · exact e0.hok.fresh (Nat.le_of_lt (x.above y c (PySem.mem_of_lookup h)))
  · unfold start
    show _ = N.length
    rw [List.length_append, List.length_map, List.length_replicate]
    omega
theorem fn_of {CX : CXT} {P : Program} {w : World} {K : PySem.W.Frag} {mg : Str → Option Value} {base : Heap} {k : Nat} {f : Addr} {name qual : Str} {params : Arguments} {body : List Stmt} {scope : Scope} {dV kV doc pm cdv ct oc : Value} {an od : Option Addr}
    {osl : Array (Option Value)} {N ps : List Str} {sp : Sp} (lk : K.lookup f = some ⟨oc, od, .func (PySem.W.fnOf name qual params body scope dV kV doc pm an cdv ct), osl⟩) (hcd : PySem.W.codeIn K cdv qual = true) (S : FnScope N ps scope)
    (len : ∀ vs H Q E, sp vs H Q E → vs.length = ps.length)
    (hbody : ∀ (A : Around) (outer : List Env) (s : Shared) (H : Hp) (vs : List V) (Q : VK) (E : XK), Room k (A.deeper (envOfC qual scope s.heap.objs.size f cdv)) → sp vs H Q E →
      ∃ t, PSs (cxOf CX P w K mg base N qual scope f cdv A outer s H E) body t ∧ t { nx := fun _ H' => Q .non H', rt := Q } (start N vs) H) :
    FnOk P w K mg base CX (k + 1) f (PySem.W.fnOf name qual params body scope dV kV doc pm an cdv ct) ps sp := by
  refine ⟨len, fun A outer s H args us vs Q E hr e0 hb r hsp => ?_⟩
  have hl := len _ _ _ _ hsp
  have KX : K.In s.heap := e0.mod.kin.keeps fun b o e => (e0.bs b o e).1
  have lim : s.heap.NoLimit := e0.mod.nolimit.keeps fun b o e => (e0.bs b o e).1
  have hkind : ∀ y ∈ ps.zip us, scope.names.lookup y.1 = some .local ∨ (scope.names.lookup y.1 = some .cell ∧ ((cellsFrom (s.heap.objs.size + 1) scope.names []).lookup y.1).isSome = true) := fun ⟨n, v⟩ hy => by
    rcases S.par n (List.of_mem_zip hy).1 with q | q
    · exact .inl q
    · exact .inr ⟨q, PySem.W.cellsFrom_some _ _ _ (.inl q)⟩
  refine codeAny_call_function hr.depth (KX _ _ lk) rfl S.co S.gen rfl (PySem.W.codeRec_of KX hcd) (hb _ _ _ _ ?_)
  refine wpAny_newFunctionEnv_cells S.kind hkind fun env he s1 x => ?_
  subst he
  refine ⟨lim.keeps x.toInCall.keep, codeAny_func ?_⟩
  obtain ⟨t, ht, hq⟩ := hbody A outer s H vs Q E (hr.deeper _) hsp
  have I : Inv (cxOf CX P w K mg base N qual scope f cdv A outer s H E) [] (start N vs) H s1 := inv_start S hr.hd e0 hl r x
  refine wpAny_mono (ht [] s1 (start N vs) H _ I hq) (fun fl s' hs => ?_) fun e s' hs => hs
  have fin : ∀ {σ' : St} {H' : Hp} {v : V} {u : Value}, Inv (cxOf CX P w K mg base N qual scope f cdv A outer s H E) [] σ' H' s' → RelV v u → Q v H' → CE outer P w H s Q u s' :=
    fun {σ' H' v u} J rv q => ⟨v, H', J.os, J.bare, J.base, J.hok, rv, q⟩
  cases fl with
  | ret u =>
    obtain ⟨v, σ', H', J, rv, q⟩ := hs
    exact fin J rv q
  | next =>
    obtain ⟨σ', H', J, q⟩ := hs
    exact fin (v := V.non) (u := Value.none) J rfl q
  | brk =>
    obtain ⟨_, _, _, q⟩ := hs
    exact False.elim q
  | cont =>
    obtain ⟨_, _, _, q⟩ := hs
    exact False.elim q
end L2
namespace L2
open PySem PySem.Spec PyProof.Rows
section
variable {X : Cx} {x : Str} {p pos : Pos} {e : Expr} {es : List Expr} {t : TA} {id T : String} {r : List V → Hp → VK → Prop}
def tCB (r : List V → Hp → VK → Prop) (t : TA) : TE := fun σ H Q => t σ H fun vs H1 => r vs H1 Q
theorem pe_callB (hc : CallR X (.builtin id) r) (hg : Gl X x) (hm : X.mg x = none) (hv : bootBuiltins x = some (.builtin id)) (ha : PA X (e :: es) t) (hn : x ≠ "__name__" := by decide) (hdb : (x == ("__debug__" : Str)) = false := by decide)
    (he : starEach (e :: es) X.env = (false, eval e X.env) :: starEach es X.env := by rfl) (hpl : (backTo pos (starEach es X.env)).any (·.1) = false := by rfl) : PE X (.Call (.Name x p) (e :: es) [] pos) (tCB r t) := by
  intro pins s σ H Q I h
  refine wpAny_Call_Name_kw (ld_blt I hg hm hv ?_ hn hdb)
  exact PyProof.Rows.callWith_builtin1 (thn (ha pos pins s σ H _ I h) fun us s1 ⟨vs, H1, I1, r1, q1⟩ => hc pins s1 σ H1 vs us Q I1 r1 q1) he hpl
theorem pe_callTy (hc : CallR X (.type T) r) (hg : Gl X x) (hm : X.mg x = none) (hv : bootBuiltins x = some (.type T)) (ha : PA X (e :: es) t) (hn : x ≠ "__name__" := by decide) (hdb : (x == ("__debug__" : Str)) = false := by decide)
    (he : starEach (e :: es) X.env = (false, eval e X.env) :: starEach es X.env := by rfl) (hpl : (backTo pos (starEach es X.env)).any (·.1) = false := by rfl) : PE X (.Call (.Name x p) (e :: es) [] pos) (tCB r t) := by
  intro pins s σ H Q I h
  refine wpAny_Call_Name_kw (ld_blt I hg hm hv ?_ hn hdb)
  exact PyProof.Rows.callWith_type1 (thn (ha pos pins s σ H _ I h) fun us s1 ⟨vs, H1, I1, r1, q1⟩ => hc pins s1 σ H1 vs us Q I1 r1 q1) he hpl
end
end L2
namespace HT
open PySem PyProof.Rows
section
open PySem.SeqAt
open PySem.AutoSeq1 (wpAny_loadPart')
open PySem.MeetsSeq PySem.MeetsSeq2 PySem.MeetsSeq3
end
section
variable {prog : Program} {w : World} {A : Around} {E : Value → Shared → Prop} {s : Shared}
def sIx (n d : Nat) : Option Int → Nat
  | none => d
  | some v => if v < 0 then (v + (n : Int)).toNat else min v.toNat n
theorem sIx_none (n d : Nat) : sIx n d none = d := rfl
theorem sIx_nat (n d k : Nat) : sIx n d (some (k : Int)) = min k n := by
  show (if (k : Int) < 0 then ((k : Int) + (n : Int)).toNat else min (k : Int).toNat n) = min k n
  rw [if_neg (by omega), Int.toNat_natCast]
end
end HT
namespace L2
open PySem PySem.Spec PyProof.Rows
abbrev TO := St → Hp → (Option Int → Hp → Prop) → Prop
def PO (X : Cx) (e : Option Expr) (t : TO) : Prop :=
  ∀ (pins : List (Addr × Obj)) (s : Shared) (σ : St) (H : Hp) (Q : Option Int → Hp → Prop), Inv X pins σ H s → t σ H Q →
    wpAny (model X.prog X.w) X.A (evalPart e X.env) (fun u s' => ∃ o H', Inv X pins σ H' s' ∧ IsPart u o ∧ Q o H') X.xe s
def tNoPart : TO := fun _ H Q => Q none H
def tPart (t : TE) : TO := fun σ H Q => t σ H fun x H1 => ∃ i, x = .int i ∧ Q (some i) H1
section
variable {X : Cx} {e : Expr} {te : TE} {lo hi : Option Expr} {tl th : TO} {pos p2 : Pos}
theorem po_none : PO X none tNoPart := by
  intro pins s σ H Q I h
  rw [evalPart_none]
  exact wpAny_pure ⟨none, H, I, .none, h⟩
theorem po_some (h : PE X e te) : PO X (some e) (tPart te) := by
  intro pins s σ H Q I hw
  rw [evalPart_some]
  refine thn (h pins s σ H _ I hw) fun u s1 ⟨x, H1, I1, r1, q1⟩ => ?_
  obtain ⟨i, rfl, q⟩ := q1
  obtain ⟨t, rfl⟩ := r1
  exact ⟨some i, H1, I1, .int i t, q⟩
def SlR (X : Cx) (r : V → Option Int → Option Int → Hp → VK → Prop) : Prop :=
  ∀ (pins : List (Addr × Obj)) (s : Shared) (σ : St) (H : Hp) (x : V) (v vl vu : Value) (lo hi : Option Int) (sl : Addr) (Q : VK), Inv X pins σ H s → RelV x v → s.heap.IsSliceOf sl vl vu .none → IsPart vl lo → IsPart vu hi → r x lo hi H Q →
    ∃ T id, typeLookup (.type T) "__getitem__" = pure (some (.builtin id)) ∧ s.TypeIs v T ∧ wpAny (model X.prog X.w) X.A (getItem v (.ref sl)) (EP X pins σ Q) X.xe s
def tSl (r : V → Option Int → Option Int → Hp → VK → Prop) (te : TE) (tl th : TO) : TE := fun σ H Q => te σ H fun x H1 => tl σ H1 fun l H2 => th σ H2 fun u H3 => r x l u H3 Q
theorem pe_slice {r : V → Option Int → Option Int → Hp → VK → Prop} (hr : SlR X r) (he : PE X e te) (hl : PO X lo tl) (hu : PO X hi th) : PE X (.Subscript e (.Slice lo hi none p2) pos) (tSl r te tl th) := by
  intro pins s σ H Q I h
  refine Subscript_ (thn (he pins s σ H _ I h) fun v s1 ⟨x, H1, I1, r1, q1⟩ => ?_)
  refine wpAny_Slice (thn (hl pins s1 σ H1 _ I1 q1) fun vl s2 ⟨l, H2, I2, pl, q2⟩ => thn (hu pins s2 σ H2 _ I2 q2) fun vu s3 ⟨u, H3, I3, pu, q3⟩ => ?_)
  rw [evalPart_none]
  refine wpAny_pure ?_
  have I4 : Inv X pins σ H3 { s3 with heap := s3.heap.push { cls := .type "slice", data := .fields #[vl, vu, .none] } } := I3.kept (t' := s3.toks) fun b ob q => Heap.get?_push_of_some _ q
  obtain ⟨T, id, hT, ht, hg⟩ := hr pins { s3 with heap := s3.heap.push { cls := .type "slice", data := .fields #[vl, vu, .none] } } σ H3 x v vl vu l u s3.heap.objs.size Q I4 r1 (Heap.IsSliceOf.new ..) pl pu q3
  show wpAny (model X.prog X.w) X.A (subscriptTail e (.Slice lo hi none p2) v (.ref s3.heap.objs.size)) (EP X pins σ Q) X.xe { s3 with heap := s3.heap.push { cls := .type "slice", data := .fields #[vl, vu, .none] } }
  exact tail_any (ops := [.ref s3.heap.objs.size, v]) ht hT hg (by with_unfolding_all rfl)
def cutV (xs : List V) (lo hi : Option Int) : List V := (xs.drop (HT.sIx xs.length 0 lo)).take (HT.sIx xs.length xs.length hi - HT.sIx xs.length 0 lo)
theorem cutV_length (xs : List V) (lo hi : Option Int) : (cutV xs lo hi).length ≤ xs.length := by
  unfold cutV
  rw [List.length_take, List.length_drop]
  omega
end
end L2
namespace L2
open PySem PySem.Spec PyProof.Rows
def ixN (n : Nat) (i : Int) : Option Nat := if 0 ≤ i then (if i < n then some i.toNat else none) else if -(n : Int) ≤ i then some (i + n).toNat else none
def atI {α : Type} (xs : List α) (i : Int) : Option α := (ixN xs.length i).bind fun j => xs[j]?
theorem ixN_seq {n : Nat} {i : Int} {j : Nat} (h : ixN n i = some j) : seqIndex? i n = some j ∧ j < n ∧ -(n : Int) ≤ i ∧ i < n := by
  unfold ixN at h
  by_cases h0 : 0 ≤ i
  · rw [if_pos h0] at h
    by_cases h1 : i < n
    · rw [if_pos h1] at h
      have e : i.toNat = j := Option.some.inj h
      exact ⟨by rw [seqIndex_of h0 h1, e], by omega, by omega, h1⟩
    · rw [if_neg h1] at h; cases h
  · rw [if_neg h0] at h
    by_cases h1 : -(n : Int) ≤ i
    · rw [if_pos h1] at h
      have e : (i + n).toNat = j := Option.some.inj h
      exact ⟨by rw [seqIndex_neg (by omega) h1, e], by omega, h1, by omega⟩
    · rw [if_neg h1] at h; cases h
theorem atI_get {α : Type} {xs : List α} {i : Int} {v : α} (h : atI xs i = some v) : ∃ j, seqIndex? i xs.length = some j ∧ xs[j]? = some v ∧ j < xs.length ∧ -(xs.length : Int) ≤ i ∧ i < xs.length := by
  unfold atI at h
  cases e : ixN xs.length i with
  | none => rw [e] at h; cases h
  | some j =>
    rw [e] at h
    obtain ⟨h1, h2, h3, h4⟩ := ixN_seq e
    exact ⟨j, h1, h, h2, h3, h4⟩
theorem atI_nat {α : Type} {xs : List α} {j : Nat} {v : α} (h : xs[j]? = some v) : atI xs (j : Int) = some v := by
  have hj : j < xs.length := (List.getElem?_eq_some_iff.mp h).1
  have e : ixN xs.length (j : Int) = some j := by
    unfold ixN
    rw [if_pos (by omega), if_pos (by omega)]; simp
  unfold atI; rw [e]; exact h
def PlainIx (b : Expr) : Prop := ∀ o i, subscripted b false o i = operate [o, i] (getItem o i)
def IxR (X : Cx) (r : R2) : Prop :=
  ∀ (value slice : Expr) (pins : List (Addr × Obj)) (s : Shared) (σ : St) (H : Hp) (x y : V) (v u : Value) (Q : VK), Inv X pins σ H s → RelV x v → RelV y u → r x y H Q →
    subscripted slice false v u = operate [v, u] (getItem v u) → wpAny (model X.prog X.w) X.A (subscriptTail value slice v u) (EP X pins σ Q) X.xe s
def MtR (X : Cx) (id : String) (r : V → List V → Hp → VK → Prop) : Prop :=
  ∀ (pins : List (Addr × Obj)) (s : Shared) (σ : St) (H : Hp) (x : V) (xs : List V) (v : Value) (us : List Value) (Q : VK), Inv X pins σ H s → RelV x v → Vals xs us → r x xs H Q →
    wpAny (model X.prog X.w) X.A (call (.builtin id) (v :: us)) (EP X pins σ Q) X.xe s
section
variable {X : Cx} {a b : Expr} {ta tb : TE} {pos : Pos}
theorem pe_ix {r : R2} (hr : IxR X r) (ha : PE X a ta) (hb : PE X b tb) (hs : PlainIx b) : PE X (.Subscript a b pos) (tOp r ta tb) := by
  intro pins s σ H Q I h
  exact Subscript_ (binT ha hb I h fun v u s2 x y H2 I2 rx ry q => hr a b pins s2 σ H2 x y v u Q I2 rx ry q (hs _ _))
def rIxL (K : PySem.W.Frag) : R2 := fun x y H Q => ∃ p xs i v, x = .ref p ∧ y = .int i ∧ SqL K H p xs ∧ atI xs i = some v ∧ Q v H
theorem ix_list : IxR X (rIxL X.K) := by
  intro value slice pins s σ H x y v u Q I rx ry h hs
  obtain ⟨p, xs, i, z, rfl, rfl, hq, he, q⟩ := h
  cases rx
  obtain ⟨t, rfl⟩ := ry
  obtain ⟨its, r, pl, hz⟩ := I.list hq
  obtain ⟨j, h1, h2, h3, h4, h5⟩ := atI_get he
  obtain ⟨w, ew, rw'⟩ := r.get h2
  have hl := r.length
  have hn := line63
  have fin : EP X pins σ Q w s := ⟨z, H, I, rw', q⟩
  by_cases h0 : 0 ≤ i
  · have hj : i.toNat = j := by
      rw [seqIndex_of h0 h5] at h1
      exact Option.some.inj h1
    exact item_listR pl.isList h0 (by omega) (by rw [hj]; simpa using ew) fin hs
  · have hj : (i + (its.toArray.size : Int)).toNat = j := by
      rw [seqIndex_neg (by omega) h4] at h1
      rw [List.size_toArray, ← hl]
      exact Option.some.inj h1
    exact subscriptTail_builtinR (x := w) pl.isList.typeIs slot_list_getitem.lookup
      (wpAny_getItem_list_neg (Q := fun r s' => r = w ∧ EP X pins σ Q r s') pl.isList (by omega) (by rw [List.size_toArray] <;> omega) (by omega) (by rw [hj]; simpa using ew) ⟨rfl, fin⟩) hs
theorem mapSeq_set (its : List Value) (n j : Nat) (u : Value) : Obj.mapSeq (·.setIfInBounds j u) { cls := .type "list", data := .seq its.toArray n } = { cls := .type "list", data := .seq (its.set j u).toArray n } := by
  simp [Obj.mapSeq]
theorem Inv.lst {pins : List (Addr × Obj)} {σ : St} {H : Hp} {s : Shared} {p : Addr} {xs : List V} (I : Inv X pins σ H s) (h : H p = some (.lst xs)) :
    ∃ (its : List Value) (n : Nat), Vals xs its ∧ s.heap.get? p = some { cls := .type "list", data := .seq its.toArray n } ∧ xs.length ≤ sizeLine := by
  obtain ⟨z, its, n, r, e⟩ := I.hok p _ h
  exact ⟨its, n, r, e, z⟩
theorem Inv.lstUpd {pins : List (Addr × Obj)} {σ : St} {H : Hp} {s : Shared} {p : Addr} {xs ys : List V} {its its' : List Value} {n n' : Nat} {f : Obj → Obj} (I : Inv X pins σ H s) (h : H p = some (.lst xs))
    (ho : s.heap.get? p = some { cls := .type "list", data := .seq its.toArray n }) (hf : f { cls := .type "list", data := .seq its.toArray n } = { cls := .type "list", data := .seq its'.toArray n' }) (r : Vals ys its') (hz : ys.length ≤ sizeLine) (t : Nat) :
    Inv X pins σ (upd H p (.lst ys)) { s with heap := s.heap.update p f, toks := t } := by
  have e : (s.heap.update p f).get? p = some { cls := .type "list", data := .seq its'.toArray n' } := by
    rw [Heap.get?_update_self f ho (by rw [hf] <;> rfl), hf]
  refine I.write (x := p) (e := p) (by rw [h]; trivial) (.inl rfl) (fun b u hb q => (Heap.get?_update_other _ _ (Ne.symm hb)).trans q) ⟨_, e⟩ ?_
  exact ⟨hz, its', n', r, e⟩
def rSetL : V → V → V → Hp → (Hp → Prop) → Prop := fun o i v H Q => ∃ p xs k j, o = .ref p ∧ i = .int k ∧ H p = some (.lst xs) ∧ ixN xs.length k = some j ∧ Q (upd H p (.lst (xs.set j v)))
theorem set_list : PSet X rSetL := by
  intro pins s σ H o i v ov iv u Q I ro ri rv h
  obtain ⟨p, xs, k, j, rfl, rfl, hp, hj, q⟩ := h
  cases ro
  obtain ⟨t, rfl⟩ := ri
  obtain ⟨its, n, r, ho, hz⟩ := I.lst hp
  obtain ⟨h1, h2, h3, h4⟩ := ixN_seq hj
  have hl := r.length
  have hn := line63
  have I' : Inv X pins σ (upd H p (.lst (xs.set j v))) { s with heap := s.heap.update p (Obj.mapSeq (·.setIfInBounds j u)) } :=
    I.lstUpd hp ho (mapSeq_set its n j u) (r.set rv j) (by rw [List.length_set]; exact hz) s.toks
  by_cases h0 : 0 ≤ k
  · have hk : k.toNat = j := by
      rw [seqIndex_of h0 h4] at h1
      exact Option.some.inj h1
    exact PySem.W.ki_setAt ho h0 (by omega) (by rw [List.size_toArray, ← hl]; exact h4) (by rw [hk]; exact ⟨_, I', q⟩)
  · have hk : (k + (its.toArray.size : Int)).toNat = j := by
      rw [seqIndex_neg (by omega) h3] at h1
      rw [List.size_toArray, ← hl]
      exact Option.some.inj h1
    exact PySem.W.ki_setBack ho (by omega) (by rw [List.size_toArray, ← hl]; exact h3) (by omega) (by rw [hk]; exact ⟨_, I', q⟩)
theorem slice_bounds (lo hi : Option Int) (n : Nat) : (sliceBounds lo hi none n).1 = ((HT.sIx n 0 lo : Nat) : Int) ∧ (sliceBounds lo hi none n).2.1 = ((HT.sIx n n hi : Nat) : Int) ∧ (sliceBounds lo hi none n).2.2 = 1 := by
  refine ⟨?_, ?_, rfl⟩
  · cases lo with
    | none => simp [sliceBounds, HT.sIx]
    | some i =>
      simp only [sliceBounds, HT.sIx, Option.getD_none, show (1 : Int) > 0 by decide, if_true]
      by_cases h : i < 0
      · simp only [h, if_true] <;> omega
      · simp only [h, if_false] <;> omega
  · cases hi with
    | none => simp [sliceBounds, HT.sIx]
    | some i =>
      simp only [sliceBounds, HT.sIx, Option.getD_none, show (1 : Int) > 0 by decide, if_true]
      by_cases h : i < 0
      · simp only [h, if_true] <;> omega
      · simp only [h, if_false] <;> omega
theorem slicePick_cut (its : List Value) (lo hi : Option Int) : slicePick its.toArray lo hi none = ((its.drop (HT.sIx its.length 0 lo)).take (HT.sIx its.length its.length hi - HT.sIx its.length 0 lo)).toArray := by
  obtain ⟨h1, h2, h3⟩ := slice_bounds lo hi its.toArray.size
  unfold slicePick
  rw [h1, h2, h3]
  simp only [sliceRange_one, pick_run, List.size_toArray] <;> rfl
def rSlL (K : PySem.W.Frag) : V → Option Int → Option Int → Hp → VK → Prop := fun x lo hi H Q => ∃ a xs, x = .ref a ∧ SqL K H a xs ∧ ∀ p, H p = none → Q (.ref p) (upd H p (.lst (cutV xs lo hi)))
theorem sl_list : SlR X (rSlL X.K) := by
  intro pins s σ H x v vl vu lo hi sl Q I rx hs pl pu h
  obtain ⟨a, xs, rfl, hx, q⟩ := h
  cases rx
  obtain ⟨its, r, ht, hz⟩ := I.list hx
  have hlen := r.length
  refine ⟨"list", _, slot_list_getitem.lookup, ht.isList.typeIs, ?_⟩
  refine wpAny_getItem_list_slice ht.isList hs pl pu .none (by simp) ?_ (by rw [List.size_toArray] <;> omega)
  rw [slicePick_cut, ← hlen]
  refine ⟨.ref s.heap.objs.size, _, I.laid (t' := s.toks) (o := .lst (cutV xs lo hi)) (fun b ob q => Heap.get?_push_of_some _ q) (Nat.le_refl _) ?_, rfl, q _ (I.hok.fresh (Nat.le_refl _))⟩
  exact ⟨Nat.le_trans (cutV_length xs lo hi) hz, _, 0, (r.drop (HT.sIx xs.length 0 lo)).take (HT.sIx xs.length xs.length hi - HT.sIx xs.length 0 lo), Heap.get?_push_size _ rfl⟩
theorem call_len_seq : CallR X (.builtin "len") (fun xs H Q => ∃ p ys, xs = [.ref p] ∧ (SqL X.K H p ys ∨ SqT X.K H p ys) ∧ Q (.int ys.length) H) := by
  intro pins s σ H xs us Q I r h
  obtain ⟨p, ys, rfl, hq, q⟩ := h
  obtain ⟨u, rfl, rx⟩ := vals1 r
  cases rx
  have hn := line63
  rcases hq with hq | hq
  · obtain ⟨its, r', pl, hz⟩ := I.list hq
    have hlen := r'.length
    exact Calls.call_len_list pl.isList (by simp only [List.size_toArray] <;> omega) ⟨.int ys.length, H, I.tok _, ⟨s.toks + 1, by rw [List.size_toArray, hlen]⟩, q⟩
  · obtain ⟨its, r', pl, hz⟩ := I.tuple hq
    have hlen := r'.length
    exact len_tuple pl (by simp only [List.size_toArray] <;> omega) ⟨.int ys.length, H, I.tok _, ⟨s.toks + 1, by rw [List.size_toArray, hlen]⟩, q⟩
theorem call_list_of : CallR X (.type "list") (fun xs H Q => ∃ p ys, xs = [.ref p] ∧ (SqL X.K H p ys ∨ SqT X.K H p ys) ∧ ∀ l, H l = none → Q (.ref l) (upd H l (.lst ys))) := by
  intro pins s σ H xs us Q I r h
  obtain ⟨p, ys, rfl, hq, q⟩ := h
  obtain ⟨u, rfl, rx⟩ := vals1 r
  cases rx
  have fin : ∀ (its : List Value), Vals ys its → ys.length ≤ sizeLine → ∀ (h' : Heap) (c' : Nat), (∀ b o', s.heap.get? b = some o' → h'.get? b = some o') →
      h'.get? s.heap.objs.size = some { cls := .type "list", dict := none, data := .seq its.toArray c', slots := #[] } → EP X pins σ Q (.ref s.heap.objs.size) { s with heap := h' } := fun its r' hz h' c' kp e =>
    ⟨.ref s.heap.objs.size, _, I.laid (t' := s.toks) kp (Nat.le_refl _) (show ObjOk X.prog X.w _ h' _ (.lst ys) from ⟨hz, its, c', r', e⟩), rfl, q _ (I.hok.fresh (Nat.le_refl _))⟩
  rcases hq with hq | hq
  · obtain ⟨its, r', pl, hz⟩ := I.list hq
    have hlen := r'.length
    obtain ⟨o, ho, hc, n, hd⟩ := pl.isList
    exact call_list_seq p (.inl rfl) ho hc hd (fun h' c' kp e => fin its r' hz h' c' kp e) (by simp only [List.size_toArray] <;> omega)
  · obtain ⟨its, r', pl, hz⟩ := I.tuple hq
    have hlen := r'.length
    obtain ⟨o, ho, hc, n, hd⟩ := pl
    exact call_list_seq p (.inr rfl) ho hc hd (fun h' c' kp e => fin its r' hz h' c' kp e) (by simp only [List.size_toArray] <;> omega)
def tyV (K : PySem.W.Frag) (T : String) (x : V) (H : Hp) : Prop := match x with
  | .str _ => T = "str"
  | .int _ => T = "int"
  | .ref p => (T = "list" ∧ ∃ xs, SqL K H p xs) ∨ (T = "tuple" ∧ ∃ o, K.lookup p = some o ∧ o.cls = .type "tuple" ∧ o.dict = none) ∨
      (T = "dict" ∧ ((∃ kvs, H p = some (.dK kvs)) ∨ ∃ kvs, H p = some (.dT kvs))) ∨ (T = "set" ∧ ∃ S n, H p = some (.set S n))
  | _ => False
theorem tyV_is {pins : List (Addr × Obj)} {σ : St} {H : Hp} {s : Shared} {T : String} {x : V} {v : Value} (I : Inv X pins σ H s) (r : RelV x v) (ty : tyV X.K T x H) :
    s.TypeIs v T ∧ ∀ a, v = .ref a → ∃ ob, s.heap.get? a = some ob ∧ ob.dict = none := by
  cases x with
  | str z =>
    obtain ⟨t, rfl⟩ := r
    cases (show T = "str" from ty)
    exact ⟨typeIs_str s z t, fun _ e => nomatch e⟩
  | int i =>
    obtain ⟨t, rfl⟩ := r
    cases (show T = "int" from ty)
    exact ⟨typeIs_int s i t, fun _ e => nomatch e⟩
  | ref p =>
    cases r
    rcases ty with ⟨rfl, xs, hq⟩ | ⟨rfl, o, hk, hc, hd⟩ | ⟨rfl, hk⟩ | ⟨rfl, S, n, hk⟩
    · obtain ⟨its, _, pl, _⟩ := I.list hq
      refine ⟨pl.isList.typeIs, fun a e => ?_⟩
      cases e
      obtain ⟨o, n, e, c, hd, _⟩ := pl
      exact ⟨o, e, hd⟩
    · refine ⟨⟨o, I.kIn p o hk, hc⟩, fun a e => ?_⟩
      cases e
      exact ⟨o, I.kIn _ o hk, hd⟩
    · have z : ∃ o, s.heap.get? p = some o ∧ o.ExactDict := by
        rcases hk with ⟨kvs, hk⟩ | ⟨kvs, hk⟩
        · obtain ⟨_, _, _, _, o, _, _, e, ex, _⟩ := I.hok p _ hk
          exact ⟨o, e, ex⟩
        · obtain ⟨_, _, _, _, o, _, _, e, ex, _⟩ := I.hok p _ hk
          exact ⟨o, e, ex⟩
      obtain ⟨o, e, ex⟩ := z
      refine ⟨⟨o, e, ex.1⟩, fun a e2 => ?_⟩
      cases e2
      exact ⟨o, e, ex.2.1⟩
    · obtain ⟨o, _, _, _, e, ex, _⟩ := I.hok p _ hk
      refine ⟨⟨o, e, ex.1⟩, fun a e2 => ?_⟩
      cases e2
      exact ⟨o, e, ex.2.1⟩
  | _ => exact False.elim ty
def tBM (K : PySem.W.Frag) (T : String) (r : V → List V → Hp → VK → Prop) (to : TE) (t : TA) : TE := fun σ H Q => to σ H fun x H1 => tyV K T x H1 ∧ t σ H1 fun xs H2 => r x xs H2 Q
variable {o e : Expr} {es : List Expr} {to : TE} {t : TA} {name : Str} {apos cpos : Pos} {T id : String} {r : V → List V → Hp → VK → Prop}
theorem pe_bm (pa : PlainAttrs T) (slot : Slot T name id) (hty : typeOf (.builtin id) = pure (.type "method_descriptor")) (hm : MtR X id r) (ho : PE X o to) (ha : PA X (e :: es) t)
    (hbase : attributeBase o name X.env (eval o X.env) = eval o X.env := by rfl)
    (hfew : ((backTo cpos (starEach (e :: es) X.env)).all (fun x => !x.1) && (backToKw cpos (keywordEach [] X.env)).all (fun x => x.1.isSome)
      && decide ((e :: es).length + ([] : List Keyword).length + (if ([] : List Keyword).isEmpty then 0 else 1) < 30)) = true := by rfl)
    (hline : (apos.endLine == cpos.line) = true := by rfl) (hs : starEach (e :: es) X.env = (false, eval e X.env) :: starEach es X.env := by rfl) (hplain : (backTo cpos (starEach es X.env)).any (·.1) = false := by rfl) :
    PE X (.Call (.Attribute o name apos) (e :: es) [] cpos) (tBM X.K T r to t) := by
  intro pins s σ H Q I h
  refine wpAny_Call_method_late hbase hfew hline rfl (thn (ho pins s σ H _ I h) fun v s1 ⟨x, H1, I1, r1, ty, q1⟩ => ?_)
  obtain ⟨h1, h2⟩ := tyV_is I1 r1 ty
  refine ⟨T, id, pa, slot, hty, h1, h2, ?_⟩
  have hA := ha cpos pins s1 σ H1 _ I1 q1
  rw [hs] at hA ⊢
  refine Calls.callWith_builtin (by show (false || (backTo cpos (starEach es X.env)).any (·.1)) = false; rw [hplain] <;> rfl) (Calls.evalArgs_plain ?_)
  exact thn hA fun us s2 ⟨vs, H2, I2, r2, q2⟩ => hm pins s2 σ H2 x vs v us Q I2 r1 r2 q2
end
end L2
namespace L2
open PySem PySem.Spec PyProof.Rows
def MtM (X : Cx) (id : String) (r : V → List V → Hp → VK → Prop) : Prop :=
  ∀ (pins : List (Addr × Obj)) (s : Shared) (σ : St) (H : Hp) (x : V) (xs : List V) (v : Value) (us : List Value) (Q : VK), Inv X pins σ H s → RelV x v → Vals xs us → r x xs H Q →
    wpAny (model X.prog X.w) X.A (call (.builtin id) (v :: us)) (EP X pins σ Q) X.xe s
theorem Vals.one : ∀ {x : V} {us : List Value}, Vals [x] us → ∃ u, us = [u] ∧ RelV x u
  | _, _, .cons r .nil => ⟨_, rfl, r⟩
section
variable {X : Cx} {pins : List (Addr × Obj)} {σ : St} {H : Hp} {s : Shared} {l b : Addr} {xs ys zs : List V}
theorem Inv.lset {its its' : List Value} {n : Nat} {f : Array Value → Array Value} {t' : Nat} (I : Inv X pins σ H s) (hH : H l = some (.lst xs))
    (e : s.heap.get? l = some { cls := .type "list", data := .seq its.toArray n }) (hf : f its.toArray = its'.toArray) (hv : Vals ys its') (hz : ys.length ≤ sizeLine) :
    Inv X pins σ (upd H l (.lst ys)) { s with heap := s.heap.update l (Obj.mapSeq f), toks := t' } := by
  have q := PySem.IsL.update e f
  rw [hf] at q
  refine I.write (x := l) (e := l) (by rw [hH]; exact trivial) (.inl rfl) (fun b' u hb hu => (Heap.get?_update_other s.heap (Obj.mapSeq f) (Ne.symm hb)).trans hu) ⟨_, q⟩ ?_
  exact ⟨hz, its', _, hv, q⟩
theorem Inv.lnew {its : List Value} {t' : Nat} (I : Inv X pins σ H s) (hv : Vals ys its) (hz : ys.length ≤ sizeLine) :
    Inv X pins σ (upd H s.heap.objs.size (.lst ys)) { s with heap := s.heap.push { cls := .type "list", data := .seq its.toArray }, toks := t' } :=
  I.laid (fun _ _ q => Heap.get?_push_of_some _ q) (Nat.le_refl _) ⟨hz, its, 0, hv, Heap.get?_push_size _ rfl⟩
theorem Inv.fresh (I : Inv X pins σ H s) : H s.heap.objs.size = none := I.hok.fresh (Nat.le_refl _)
theorem Inv.lstM (I : Inv X pins σ H s) (hH : H l = some (.lst xs)) : xs.length ≤ sizeLine ∧ ∃ (its : List Value) (n : Nat), Vals xs its ∧ xs.length = its.length ∧ s.heap.get? l = some { cls := .type "list", data := .seq its.toArray n } := by
  obtain ⟨z, its, n, r, e⟩ := I.hok l _ hH
  exact ⟨z, its, n, r, r.length, e⟩
end
section
variable {X : Cx}
def rAppend : V → List V → Hp → VK → Prop := fun x vs H Q => ∃ l xs y, x = .ref l ∧ vs = [y] ∧ H l = some (.lst xs) ∧ xs.length < sizeLine ∧ Q .non (upd H l (.lst (xs ++ [y])))
theorem mt_append : MtM X "list.append" rAppend := by
  intro pins s σ H x vs v us Q I rx rv h
  obtain ⟨l, xs, y, rfl, rfl, hH, hz, q⟩ := h
  cases rx
  obtain ⟨u, rfl, ru⟩ := rv.one
  obtain ⟨z, its, n, r, hl, e⟩ := I.lstM hH
  refine call_meets F.slot_list_append ⟨_, e, rfl⟩ F.entry_list_append (F.args_list_append_2 _ _) (PySem.list_append l its.toArray n u (by rw [List.size_toArray]; omega)) ⟨e, ?_⟩
  refine ⟨.non, _, I.lset (its' := its ++ [u]) hH e (by simp) (r.append (.cons ru .nil)) ?_, rfl, q⟩
  rw [List.length_append, List.length_singleton]
  omega
def rCat : R2 := fun x y H Q => ∃ l b xs zs, x = .ref l ∧ y = .ref b ∧ H l = some (.lst xs) ∧ H b = some (.lst zs) ∧ xs.length + zs.length ≤ sizeLine ∧ ∀ p, H p = none → Q (.ref p) (upd H p (.lst (xs ++ zs)))
theorem op_cat : OpR X (binaryOp .Add) rCat := by
  intro pins s σ H x y v u Q I rx ry h
  obtain ⟨l, b, xs, zs, rfl, rfl, hH, hB, hz, q⟩ := h
  cases rx
  cases ry
  obtain ⟨z, its, n, r, hl, e⟩ := I.lstM hH
  obtain ⟨z2, its2, n2, r2, hl2, e2⟩ := I.lstM hB
  refine PySem.P.add_list e e2 ?_ (by rw [List.size_toArray, List.size_toArray]; omega)
  have ea : its.toArray ++ its2.toArray = (its ++ its2).toArray := by simp
  rw [ea]
  exact ⟨.ref _, _, I.lnew (t' := s.toks) (r.append r2) (by rw [List.length_append]; omega), rfl, q _ I.fresh⟩
end
section
variable {prog : Program} {w : World} {A : Around} {E : Value → Shared → Prop} {s : Shared}
end
section
variable {X : Cx}
end
end L2
namespace L2
open PySem PySem.Spec PyProof.Rows
theorem Vals.ints : ∀ {ns : List Int} {us : List Value}, Vals (ns.map V.int) us → IntsAre us ns
  | [], us, h => by
    rw [List.map_nil] at h
    cases h
    exact IntsAre.nil
  | n :: ns, us, h => by
    rw [List.map_cons] at h
    cases h with
    | cons r t =>
      obtain ⟨k, rfl⟩ := r
      exact IntsAre.cons n k (Vals.ints t)
theorem vals_of_ints : ∀ {us : List Value} {ns : List Int}, IntsAre us ns → Vals (ns.map V.int) us
  | _, _, .nil => by rw [List.map_nil]; exact Paired.nil
  | _, _, .cons n t h => by rw [List.map_cons]; exact Paired.cons (show RelV (V.int n) (Value.int n t) from ⟨t, rfl⟩) (vals_of_ints h)
theorem Vals.bls : ∀ {bs : List Bool} {us : List Value}, Vals (bs.map V.bl) us → us = bs.map Value.bool
  | [], us, h => by
    rw [List.map_nil] at h
    cases h
    rfl
  | b :: bs, us, h => by
    rw [List.map_cons] at h
    cases h with
    | cons r t =>
      cases r
      rw [Vals.bls t, List.map_cons]
theorem Vals.ref1 {a : Addr} {us : List Value} (r : Vals [V.ref a] us) : us = [Value.ref a] := by
  cases r with
  | cons r t =>
    cases t
    cases r
    rfl
section
variable {prog : Program} {w : World} {A : Around} {E : Value → Shared → Prop} {s : Shared} {l : Addr} {its : List Value} {ns : List Int} {Q : Value → Shared → Prop}
theorem sum_raw (hh : A.handled = none) (hl : s.heap.IsList l its.toArray) (hi : IntsAre its ns)
    (h : ∀ h' tk t', (∀ b o, s.heap.get? b = some o → h'.get? b = some o) → Q (.int ns.sum t') { s with heap := h', toks := tk }) : wpAny (model prog w) A (call (.builtin "sum") [.ref l]) Q E s := by
  obtain ⟨xs, e⟩ := hi.allInts.items
  have hn : numsOf (intItems xs).toList = ns := by rw [← e]; exact hi.numsOf
  rw [nums_intItems] at hn
  rw [e] at hl
  refine PySem.sum_intListG hh hl fun h' tk t' hk => ?_
  have := h h' tk t' hk
  rw [preSum_eq, List.take_of_length_le (by simp), hn]; exact this
end
section
variable {X : Cx}
def rSum (K : PySem.W.Frag) : List V → Hp → VK → Prop := fun vs H Q => ∃ (a : Addr) (ns : List Int), vs = [V.ref a] ∧ SqL K H a (ns.map V.int) ∧ Q (.int ns.sum) H
theorem cr_sum (hc : X.calm = true) : CallR X (.builtin "sum") (rSum X.K) := by
  intro pins s σ H vs us Q I r h
  obtain ⟨a, ns, rfl, hs, q⟩ := h
  obtain ⟨its, rv, hl, _⟩ := I.list hs
  rw [Vals.ref1 r]
  exact sum_raw (I.ok.hd hc) hl.isList rv.ints fun h' tk t' hk => ⟨.int _, H, I.kept hk, ⟨_, rfl⟩, q⟩
end
section
variable {X : Cx}
end
section
variable {X : Cx}
end
theorem iter_any {prog : Program} {w : World} {A : Around} {E : Value → Shared → Prop} {s : Shared} {l : Addr} {items : Array Value} {Q : Value → Shared → Prop} (hl : s.heap.IsList l items)
    (h : ∀ s₂ : Shared, s₂ = { s with heap := s.heap.push { cls := .type "list_iterator", data := .fields #[.ref l, .int 0 0] } } →
      (s₂.heap.IsListIter s.heap.objs.size l 0 ∧ s₂.heap.IsList l items) → l ≠ s.heap.objs.size → Q (.ref s.heap.objs.size) s₂) : wpAny (model prog w) A (pyIter (.ref l)) Q E s := by
  have hlt : l < s.heap.objs.size := by obtain ⟨_, e, _⟩ := hl; exact Heap.lt_size e
  exact wpAny_pyIter_list hl (h _ rfl ⟨⟨_, Heap.get?_push_size _ rfl, rfl, rfl⟩, hl.push _⟩ (Nat.ne_of_lt hlt))
theorem truth_bools {prog : Program} {w : World} {A : Around} {bs : List Bool} {its : List Value} (e : its = bs.map Value.bool) :
    TruthOf prog w A (fun i v => its.toArray[i]? = some v) (fun i => bs.getD i false) := fun i v s Q E hv hq => by
  have hv' : its[i]? = some v := by simpa using hv
  rw [e, List.getElem?_map] at hv'
  obtain ⟨b, hb, rfl⟩ := Option.map_eq_some_iff.mp hv'
  have hg : bs.getD i false = b := by rw [List.getD_eq_getElem?_getD, hb] <;> rfl
  have hq' : Q (bs.getD i false) s := hq
  rw [hg] at hq'
  exact wpAny_truthy_bool hq'
theorem any_range : ∀ bs : List Bool, (List.range bs.length).any (fun i => bs.getD i false) = bs.any id
  | [] => rfl
  | b :: bs => by
    rw [List.length_cons, List.range_succ_eq_map, List.any_cons, List.any_map, List.any_cons, ← any_range bs]
    all_goals rfl
theorem all_range : ∀ bs : List Bool, (List.range bs.length).all (fun i => bs.getD i false) = bs.all id
  | [] => rfl
  | b :: bs => by
    rw [List.length_cons, List.range_succ_eq_map, List.all_cons, List.all_map, List.all_cons, ← all_range bs]
    all_goals rfl
section
variable {X : Cx}
def rAny (K : PySem.W.Frag) : List V → Hp → VK → Prop := fun vs H Q => ∃ (a : Addr) (bs : List Bool), vs = [V.ref a] ∧ SqL K H a (bs.map V.bl) ∧ Q (.bl (bs.any id)) H
def rAll (K : PySem.W.Frag) : List V → Hp → VK → Prop := fun vs H Q => ∃ (a : Addr) (bs : List Bool), vs = [V.ref a] ∧ SqL K H a (bs.map V.bl) ∧ Q (.bl (bs.all id)) H
theorem cr_any (hc : X.calm = true) : CallR X (.builtin "any") (rAny X.K) := by
  intro pins s σ H vs us Q I r h
  obtain ⟨a, bs, rfl, hs, q⟩ := h
  obtain ⟨its, rv, hl, _⟩ := I.list hs
  rw [Vals.ref1 r]
  have hb := rv.bls
  refine call_any_walk (iter_any hl.isList fun s₂ e2 st hne => ?_)
  subst e2
  refine ⟨_, _, _, _, _, _, _, rfl, Walks.list (A := X.A.in1) (I.ok.hd hc) _ a hne its.toArray, st, truth_bools hb, fun h' tk hk => ?_⟩
  refine ⟨.bl _, H, I.kept fun b o eo => hk b o (fun hmem => ?_) (Heap.get?_push_of_some _ eo), ?_, q⟩
  · rcases List.mem_cons.mp hmem with e1 | hmem
    · exact absurd (e1 ▸ Heap.lt_size eo) (Nat.lt_irrefl _)
    · cases hmem
  · show Value.bool _ = Value.bool _
    rw [← any_range, hb, List.size_toArray, List.length_map]
theorem cr_all (hc : X.calm = true) : CallR X (.builtin "all") (rAll X.K) := by
  intro pins s σ H vs us Q I r h
  obtain ⟨a, bs, rfl, hs, q⟩ := h
  obtain ⟨its, rv, hl, _⟩ := I.list hs
  rw [Vals.ref1 r]
  have hb := rv.bls
  refine call_all_walk (iter_any hl.isList fun s₂ e2 st hne => ?_)
  subst e2
  refine ⟨_, _, _, _, _, _, _, rfl, Walks.list (A := X.A.in1) (I.ok.hd hc) _ a hne its.toArray, st, truth_bools hb, fun h' tk hk => ?_⟩
  refine ⟨.bl _, H, I.kept fun b o eo => hk b o (fun hmem => ?_) (Heap.get?_push_of_some _ eo), ?_, q⟩
  · rcases List.mem_cons.mp hmem with e1 | hmem
    · exact absurd (e1 ▸ Heap.lt_size eo) (Nat.lt_irrefl _)
    · cases hmem
  · show Value.bool _ = Value.bool _
    rw [← all_range, hb, List.size_toArray, List.length_map]
end
mutual
inductive Dp (K : PySem.W.Frag) (H : Hp) : V → PyData → Prop
  | non : Dp K H .non .none
  | bl (b : Bool) : Dp K H (.bl b) (.bool b)
  | int (i : Int) : Dp K H (.int i) (.int i)
  | str (x : Str) : Dp K H (.str x) (.str x)
  | lst {a : Addr} {xs : List V} {ds : List PyData} : SqL K H a xs → DpAll K H xs ds → Dp K H (.ref a) (.list ds)
  | tup {a : Addr} {xs : List V} {ds : List PyData} : SqT K H a xs → DpAll K H xs ds → Dp K H (.ref a) (.tuple ds)
inductive DpAll (K : PySem.W.Frag) (H : Hp) : List V → List PyData → Prop
  | nil : DpAll K H [] []
  | cons {v : V} {vs : List V} {d : PyData} {ds : List PyData} : Dp K H v d → DpAll K H vs ds → DpAll K H (v :: vs) (d :: ds)
end
section
variable {X : Cx} {pins : List (Addr × Obj)} {σ : St} {H : Hp} {s : Shared}
mutual
theorem Dp.reads (I : Inv X pins σ H s) : ∀ (d : PyData) (v : V) (u : Value), Dp X.K H v d → RelV v u → ∃ as, Reads s.heap u d as
  | .none, _, _, h, r => by
    cases h
    cases r
    exact ⟨_, Reads.none⟩
  | .bool b, _, _, h, r => by
    cases h
    cases r
    exact ⟨_, Reads.bool b⟩
  | .int i, _, _, h, r => by
    cases h
    obtain ⟨t, rfl⟩ := r
    exact ⟨_, Reads.int i t⟩
  | .str x, _, _, h, r => by
    cases h
    obtain ⟨t, rfl⟩ := r
    exact ⟨_, Reads.str x t⟩
  | .list ds, _, _, h, r => by
    cases h with
    | lst hs ha =>
      cases r
      obtain ⟨its, rv, ⟨o, n, ho, hc, _, hd⟩, _⟩ := I.list hs
      obtain ⟨as, hr⟩ := Dp.readsAll I ds _ its ha rv
      exact ⟨_, Reads.list ho hc hd hr⟩
  | .tuple ds, _, _, h, r => by
    cases h with
    | tup hs ha =>
      cases r
      obtain ⟨its, rv, ⟨o, ho, hc, n, hd⟩, _⟩ := I.tuple hs
      obtain ⟨as, hr⟩ := Dp.readsAll I ds _ its ha rv
      exact ⟨_, Reads.tuple ho hc hd hr⟩
  | .dict _, _, _, h, _ => by cases h
theorem Dp.readsAll (I : Inv X pins σ H s) : ∀ (ds : List PyData) (vs : List V) (us : List Value), DpAll X.K H vs ds → Vals vs us → ∃ as, ReadsAll s.heap us ds as
  | [], _, _, h, r => by
    cases h
    cases r
    exact ⟨_, ReadsAll.nil⟩
  | d :: ds, _, _, h, r => by
    cases h with
    | cons h1 h2 =>
      cases r with
      | cons r1 r2 =>
        obtain ⟨as, q1⟩ := Dp.reads I d _ _ h1 r1
        obtain ⟨bs, q2⟩ := Dp.readsAll I ds _ _ h2 r2
        exact ⟨_, ReadsAll.cons q1 q2⟩
end
end
section
variable {X : Cx}
def rNeD (K : PySem.W.Frag) : R2 := fun x y H Q => ∃ d e, Dp K H x d ∧ Dp K H y e ∧ SeqAt.shaped d = true ∧ SeqAt.shaped e = true ∧ Q (.bl (!PyData.eqv d e)) H
theorem op_neD (hu : X.A.units + 64 < cLine) : OpR X (compareOp .NotEq) (rNeD X.K) := by
  intro pins s σ H x y v u Q I rx ry h
  obtain ⟨d, e, hd, he, sd, se, q⟩ := h
  obtain ⟨as, r1⟩ := Dp.reads I d x v hd rx
  obtain ⟨bs, r2⟩ := Dp.reads I e y u he ry
  exact SeqAt.compareNe_shaped r1 r2 sd se hu ⟨.bl _, H, I, rfl, q⟩
end
end L2
namespace L2
open PySem PySem.Spec PyProof.Rows
abbrev CellAt (h : Heap) (c : Addr) (v : Option Value) : Prop := h.IsCell c v
def relS (scope sc : Scope) : Scope :=
  { scope with names := scope.names.map fun (n, k) => if (k == .free && sc.kind == .function && sc.names.lookup n == some .cell) then (n, .cell) else (n, k) }
def cloFrom (cells : List (Str × Addr)) : List (Str × NameKind) → List (Str × Addr) → List (Str × Addr)
  | [], acc => acc
  | (n, k) :: r, acc => if k == .free then cloFrom cells r ((n, (cells.lookup n).getD 0) :: acc) else cloFrom cells r acc
theorem closure_loop (env : Env) (f : Str × NameKind → List (Str × Addr) → Sem (ForInStep (List (Str × Addr))))
    (hf : ∀ n k c, f (n, k) c = if k == .free then (do let a ← cellOf env n; pure (.yield ((n, a) :: c))) else pure (.yield c)) :
    ∀ (names : List (Str × NameKind)) (acc : List (Str × Addr)), (∀ y ∈ names, y.2 = .free → ∃ c, env.cells.lookup y.1 = some c) → forIn names acc f = pure (cloFrom env.cells names acc)
  | [], acc, _ => by rw [List.forIn_nil]; rfl
  | (n, k) :: r, acc, h => by
    rw [List.forIn_cons, hf]
    have ih := fun acc => closure_loop env f hf r acc fun y hy => h y (List.mem_cons_of_mem _ hy)
    unfold cloFrom
    by_cases hk : (k == NameKind.free) = true
    · rw [if_pos hk, if_pos hk]
      obtain ⟨c, hc⟩ := h (n, k) List.mem_cons_self (by simpa using hk)
      have e : cellOf env n = pure c := by unfold cellOf; rw [hc]
      rw [e]
      have e2 : (env.cells.lookup n).getD 0 = c := by rw [hc]; rfl
      rw [e2]
      exact ih _
    · rw [if_neg hk, if_neg hk]
      exact ih _
theorem closure_ok {scope : Scope} {env : Env} (h : ∀ y ∈ scope.names, y.2 = .free → ∃ c, env.cells.lookup y.1 = some c) : closureFor scope env = pure (cloFrom env.cells scope.names []) := by
  simp only [closureFor]
  rw [closure_loop env _ (fun n k c => rfl) scope.names [] h]
  rfl
theorem mem_lookup {α : Type} : ∀ {l : List (Str × α)} {n : Str} {c : α}, (n, c) ∈ l → ∃ c', l.lookup n = some c'
  | (k, v) :: r, n, c, h => by
    rw [List.lookup_cons]
    cases hb : n == k with
    | true => exact ⟨_, rfl⟩
    | false =>
      rcases List.mem_cons.mp h with e | h
      · cases e; simp at hb
      · exact mem_lookup h
theorem cloFrom_mem {cells : List (Str × Addr)} : ∀ {names : List (Str × NameKind)} {acc : List (Str × Addr)} {n : Str} {c : Addr}, (n, c) ∈ cloFrom cells names acc → (n, c) ∈ acc ∨ ((n, .free) ∈ names ∧ c = (cells.lookup n).getD 0)
  | [], _, _, _, h => .inl h
  | (m, k) :: r, acc, n, c, h => by
    unfold cloFrom at h
    split at h
    · rename_i hk
      have hk : k = .free := by simpa using hk
      rcases cloFrom_mem h with h | ⟨h1, h2⟩
      · rcases List.mem_cons.mp h with e | h
        · cases e; exact .inr ⟨hk ▸ List.mem_cons_self, rfl⟩
        · exact .inl h
      · exact .inr ⟨List.mem_cons_of_mem _ h1, h2⟩
    · rcases cloFrom_mem h with h | ⟨h1, h2⟩
      · exact .inl h
      · exact .inr ⟨List.mem_cons_of_mem _ h1, h2⟩
theorem cloFrom_acc {cells : List (Str × Addr)} : ∀ {names : List (Str × NameKind)} {acc : List (Str × Addr)} {p : Str × Addr}, p ∈ acc → p ∈ cloFrom cells names acc
  | [], _, _, h => h
  | (m, k) :: r, acc, p, h => by
    unfold cloFrom
    split
    · exact cloFrom_acc (List.mem_cons_of_mem _ h)
    · exact cloFrom_acc h
theorem cloFrom_has {cells : List (Str × Addr)} : ∀ {names : List (Str × NameKind)} {acc : List (Str × Addr)} {n : Str}, (n, .free) ∈ names → (n, (cells.lookup n).getD 0) ∈ cloFrom cells names acc
  | (m, k) :: r, acc, n, h => by
    unfold cloFrom
    rcases List.mem_cons.mp h with e | h
    · cases e
      exact cloFrom_acc List.mem_cons_self
    · split
      · exact cloFrom_has h
      · exact cloFrom_has h
theorem cells_mem : ∀ {names : List (Str × NameKind)} {h : Heap} {acc : List (Str × Addr)} {x : Str} {c : Addr}, (x, c) ∈ cellsFrom h.objs.size names acc →
    (x, c) ∈ acc ∨ ((x, .cell) ∈ names ∧ h.objs.size ≤ c ∧ CellAt (pushCells h names) c none)
  | [], _, _, _, _, h => .inl h
  | (n, k) :: r, h, acc, x, c, hm => by
    unfold cellsFrom at hm
    unfold pushCells
    split at hm
    · rename_i hk
      rw [if_pos hk]
      have hk : k = .cell := by simpa using hk
      rw [← Heap.size_push h { cls := .type "cell", data := .cell none }] at hm
      rcases cells_mem hm with hm | ⟨h1, h2, h3⟩
      · rcases List.mem_cons.mp hm with e | hm
        · cases e
          exact .inr ⟨hk ▸ List.mem_cons_self, Nat.le_refl _, _, pushCells_keeps r _ _ _ (Heap.get?_push_size _ rfl), rfl⟩
        · exact .inl hm
      · rw [Heap.size_push] at h2
        exact .inr ⟨List.mem_cons_of_mem _ h1, Nat.le_of_succ_le h2, h3⟩
    · rename_i hk
      rw [if_neg hk]
      rcases cells_mem hm with hm | ⟨h1, h2, h3⟩
      · exact .inl hm
      · exact .inr ⟨List.mem_cons_of_mem _ h1, h2, h3⟩
theorem cells_acc : ∀ {names : List (Str × NameKind)} {n : Nat} {acc : List (Str × Addr)} {p : Str × Addr}, p ∈ acc → p ∈ cellsFrom n names acc
  | [], _, _, _, h => h
  | (m, k) :: r, n, acc, p, h => by
    unfold cellsFrom
    split
    · exact cells_acc (List.mem_cons_of_mem _ h)
    · exact cells_acc h
theorem cells_has : ∀ {names : List (Str × NameKind)} {n : Nat} {acc : List (Str × Addr)} {x : Str}, (x, .cell) ∈ names → ∃ c, (x, c) ∈ cellsFrom n names acc
  | (m, k) :: r, n, acc, x, h => by
    unfold cellsFrom
    rcases List.mem_cons.mp h with e | h
    · cases e
      exact ⟨n, cells_acc List.mem_cons_self⟩
    · split
      · exact cells_has h
      · exact cells_has h
theorem cells_inj : ∀ {names : List (Str × NameKind)} {h : Heap} {acc : List (Str × Addr)} {x y : Str} {c : Addr}, (∀ p ∈ acc, p.2 < h.objs.size) → (∀ x y c, (x, c) ∈ acc → (y, c) ∈ acc → x = y) →
    (x, c) ∈ cellsFrom h.objs.size names acc → (y, c) ∈ cellsFrom h.objs.size names acc → x = y
  | [], _, _, _, _, _, _, hi, h1, h2 => hi _ _ _ h1 h2
  | (n, k) :: r, h, acc, x, y, c, hl, hi, h1, h2 => by
    unfold cellsFrom at h1 h2
    split at h1
    · rename_i hk
      rw [if_pos hk] at h2
      rw [← Heap.size_push h { cls := .type "cell", data := .cell none }] at h1 h2
      refine cells_inj (h := h.push _) (fun p hp => ?_) (fun x y c a b => ?_) h1 h2
      · rw [Heap.size_push]
        rcases List.mem_cons.mp hp with rfl | hp
        · exact Nat.lt_succ_self _
        · exact Nat.lt_succ_of_lt (hl p hp)
      · rcases List.mem_cons.mp a with e | a <;> rcases List.mem_cons.mp b with e' | b
        · cases e; cases e'; rfl
        · cases e; exact absurd (hl _ b) (Nat.lt_irrefl _)
        · cases e'; exact absurd (hl _ a) (Nat.lt_irrefl _)
        · exact hi _ _ _ a b
    · rename_i hk
      rw [if_neg hk] at h2
      exact cells_inj hl hi h1 h2
theorem newEnv_comp {M : Model} {A : Around} {E : Value → Shared → Prop} {s : Shared} {scope : Scope} {globals : Addr} {closure : List (Str × Addr)} {qual : Str} {func : Option Addr} {code : Value} {around : Env} {builtins : Addr} {Q : Env → Shared → Prop}
    (h : Q (newEnv scope s.heap.objs.size globals (cellsFrom (s.heap.objs.size + 1) scope.names closure) qual func code (some around) builtins)
      { s with heap := pushCells (s.heap.push { cls := .type "dict", data := .dict #[] }) scope.names }) :
    wpAny M A (newFunctionEnv scope globals closure [] qual func code (some around) builtins) Q E s := by
  simp only [newFunctionEnv, Option.isSome_some, if_true]
  refine wpAny_bind (wpAny_alloc ?_)
  refine wpAny_bind (wpAny_layCells _ (fun n k c => rfl) scope.names closure _ _ ?_)
  rw [show ({ s with heap := s.heap.push { cls := .type "dict", data := .dict #[] } } : Shared).heap.objs.size = s.heap.objs.size + 1 from Heap.size_push ..]
  rw [List.forIn_nil]
  exact wpAny_bind (wpAny_pure (wpAny_pure h))
theorem lookup_relS {sc : Scope} : ∀ {names : List (Str × NameKind)} {x : Str} {k : NameKind},
    (names.map fun (n, k) => if (k == NameKind.free && sc.kind == .function && sc.names.lookup n == some .cell) then (n, NameKind.cell) else (n, k)).lookup x = some k →
    ∃ k', names.lookup x = some k' ∧ (k = k' ∨ (k' = .free ∧ k = .cell))
  | [], _, _, h => by simp at h
  | (n, k₀) :: r, x, k, h => by
    have ih := @lookup_relS sc r x k
    have h' : List.lookup x ((if (k₀ == NameKind.free && sc.kind == .function && sc.names.lookup n == some .cell) = true then (n, NameKind.cell) else (n, k₀)) :: (r.map _)) = some k := h
    cases hx : x == n with
    | true =>
      simp only [List.lookup_cons, hx]
      by_cases hc : (k₀ == NameKind.free && sc.kind == .function && sc.names.lookup n == some .cell) = true
      · rw [if_pos hc] at h'
        simp only [List.lookup_cons, hx] at h'
        cases h'
        simp only [Bool.and_eq_true, beq_iff_eq] at hc
        exact ⟨k₀, rfl, .inr ⟨hc.1.1, rfl⟩⟩
      · rw [if_neg hc] at h'
        simp only [List.lookup_cons, hx] at h'
        cases h'
        exact ⟨_, rfl, .inl rfl⟩
    | false =>
      simp only [List.lookup_cons, hx]
      by_cases hc : (k₀ == NameKind.free && sc.kind == .function && sc.names.lookup n == some .cell) = true
      · rw [if_pos hc] at h'
        simp only [List.lookup_cons, hx] at h'
        exact ih h'
      · rw [if_neg hc] at h'
        simp only [List.lookup_cons, hx] at h'
        exact ih h'
structure BlkOk (N : List Str) (sc scope : Scope) (own : List (Str × Nat)) : Prop where
  kind : scope.kind = .function
  uniq : ∀ y ∈ scope.names, scope.names.lookup y.1 = some y.2
  ix : ∀ p ∈ own, N[p.2]? = some p.1
  free : ∀ y ∈ scope.names, y.2 = .free → sc.names.lookup y.1 = some .cell ∨ sc.names.lookup y.1 = some .free
  own : ∀ y ∈ scope.names, y.2 = .local ∨ y.2 = .cell → y.1 ∈ own.map (·.1) ∨ y.1 ∉ N
def wipe (σ : St) : List Nat → St
  | [] => σ
  | v :: vs => (wipe σ vs).set v none
theorem wipe_length (σ : St) : ∀ vs : List Nat, (wipe σ vs).length = σ.length
  | [] => rfl
  | v :: vs => by unfold wipe; rw [List.length_set, wipe_length σ vs]
theorem wipe_some {σ : St} {i : Nat} {x : V} : ∀ {vs : List Nat}, (wipe σ vs)[i]? = some (some x) → σ[i]? = some (some x) ∧ i ∉ vs
  | [], h => ⟨h, by simp⟩
  | v :: vs, h => by
    unfold wipe at h
    by_cases hi : v = i
    · subst hi
      by_cases hv : v < (wipe σ vs).length
      · rw [List.getElem?_set_self hv] at h; cases h
      · rw [List.getElem?_eq_none (by simpa using hv)] at h; cases h
    · rw [List.getElem?_set_ne hi] at h
      obtain ⟨h1, h2⟩ := wipe_some h
      exact ⟨h1, by simp only [List.mem_cons, not_or]; exact ⟨fun e => hi e.symm, h2⟩⟩
abbrev Cx.blk (X : Cx) (s : Shared) (H : Hp) (scope : Scope) (cenv : Env) (fp : List Addr) : Cx := { X with s_0 := s, H_0 := H, env := cenv, outer := X.stack, ex := fp, fn := fun x => scope.names.lookup x == some .cell, pn := [], xe := fun _ _ => False }
section
variable {X : Cx} {pins : List (Addr × Obj)} {σ : St} {H : Hp} {s : Shared}
theorem block_start {scope : Scope} {own : List (Str × Nat)} {fp : List Addr} (I : Inv X pins σ H s) (ok : BlkOk X.N X.env.scope scope own) (hN : X.N.Nodup) (hfp : ∀ b ∈ fp, FpOk X pins H b ∧ b < s.heap.objs.size) :
    Inv (X.blk s H scope (compEnvC scope (cellsFrom (s.heap.objs.size + 1) scope.names (cloFrom X.env.cells scope.names [])) s.heap.objs.size X.env) fp) [] (wipe σ (own.map (·.2))) H { s with heap := pushCells (s.heap.push { cls := .type "dict", data := .dict #[] }) scope.names } := by
  have hfree : ∀ y ∈ scope.names, y.2 = .free → ∃ c, X.env.cells.lookup y.1 = some c := fun y hy e => by
    rcases ok.free y hy e with k | k
    · exact I.ok.has _ (.inl k)
    · exact I.ok.has _ (.inr k)
  generalize hcenv : compEnvC scope (cellsFrom (s.heap.objs.size + 1) scope.names (cloFrom X.env.cells scope.names [])) s.heap.objs.size X.env = cenv
  have kp : ∀ b o, s.heap.get? b = some o → (pushCells (s.heap.push { cls := .type "dict", data := .dict #[] }) scope.names).get? b = some o := fun b o e => pushCells_keeps _ _ _ _ (Heap.get?_push_of_some _ e)
  have hL : cenv.locals = s.heap.objs.size := by rw [← hcenv]; rfl
  have hcl : cenv.cells = cellsFrom (s.heap.objs.size + 1) scope.names (cloFrom X.env.cells scope.names []) := by rw [← hcenv]; rfl
  have hsc : cenv.scope = relS scope X.env.scope := by rw [← hcenv]; rfl
  rw [← Heap.size_push s.heap { cls := .type "dict", data := .dict #[] }] at hcl
  have cm : ∀ {y c}, (y, c) ∈ cloFrom X.env.cells scope.names [] → X.env.cells.lookup y = some c ∧ c < s.heap.objs.size := fun {y c} hm => by
    rcases cloFrom_mem hm with hm | ⟨h1, rfl⟩
    · cases hm
    · obtain ⟨c, hc⟩ := hfree _ h1 rfl
      rw [hc]
      obtain ⟨w, z⟩ := I.cell _ _ hc
      exact ⟨rfl, z.lt⟩
  have mem : ∀ {y c}, cenv.cells.lookup y = some c → (X.env.cells.lookup y = some c ∧ c < s.heap.objs.size) ∨ (s.heap.objs.size + 1 ≤ c ∧ CellAt (pushCells (s.heap.push { cls := .type "dict", data := .dict #[] }) scope.names) c none) := fun {y c} e => by
    rw [hcl] at e
    rcases cells_mem (PySem.mem_of_lookup e) with hm | ⟨_, h2, h3⟩
    · exact .inl (cm hm)
    · rw [Heap.size_push] at h2; exact .inr ⟨h2, h3⟩
  have look : ∀ {y}, scope.names.lookup y = some .free → ∃ c, cenv.cells.lookup y = some c ∧ X.env.cells.lookup y = some c := fun {y} hl => by
    have hy : (y, NameKind.free) ∈ scope.names := PySem.mem_of_lookup hl
    obtain ⟨c', e'⟩ := mem_lookup (cells_acc (names := scope.names) (n := (s.heap.push { cls := .type "dict", data := .dict #[] }).objs.size) (cloFrom_has (cells := X.env.cells) (acc := []) hy))
    rw [← hcl] at e'
    refine ⟨c', e', ?_⟩
    rw [hcl] at e'
    rcases cells_mem (PySem.mem_of_lookup e') with hm | ⟨h1, _, _⟩
    · exact (cm hm).1
    · have := ok.uniq _ h1
      rw [hl] at this; cases this
  have okB : (X.blk s H scope cenv fp).Ok := by
    refine ⟨I.ok.mod, by show cenv.scope.kind = _; rw [hsc]; exact ok.kind, by show cenv.globals = _; rw [← hcenv]; exact I.ok.glob, by show cenv.builtins = _; rw [← hcenv]; exact I.ok.blt, by show s.heap.objs.size ≤ cenv.locals; rw [hL]; exact Nat.le_refl _,
      fun y z c e1 e2 => ?_, fun y hy => ?_, fun y c z e => ?_, I.ok.hd, I.ok.frames, .inl rfl, fun b hb => ⟨?_, fun y c e z => ?_⟩, I.bs, Nat.le_trans I.ok.bsz I.sz, fun b o e hb => ?_, fun b hb z => ?_, I.stack, I.stkFree⟩
    · have e1 : cenv.cells.lookup y = some c := e1
      have e2 : cenv.cells.lookup z = some c := e2
      rw [hcl] at e1 e2
      refine cells_inj (fun p hp => ?_) (fun y z c a b => I.ok.inj y z c (cm a).1 (cm b).1) (PySem.mem_of_lookup e1) (PySem.mem_of_lookup e2)
      rw [Heap.size_push]
      exact Nat.lt_succ_of_lt (cm (y := p.1) (c := p.2) hp).2
    · show ∃ c, cenv.cells.lookup y = some c
      have key : ∀ k, cenv.kindOf y = some k → (k = .cell ∨ k = .free) → ∃ c, cenv.cells.lookup y = some c := fun k hk hk' => by
        unfold Env.kindOf at hk
        rw [hsc] at hk
        obtain ⟨k', e, r⟩ := lookup_relS hk
        have : k' = .cell ∨ k' = .free := by
          rcases r with rfl | ⟨rfl, _⟩
          · exact hk'
          · exact .inr rfl
        rcases this with rfl | rfl
        · obtain ⟨c, hm⟩ := cells_has (n := (s.heap.push { cls := .type "dict", data := .dict #[] }).objs.size) (acc := cloFrom X.env.cells scope.names []) (PySem.mem_of_lookup e)
          obtain ⟨c', e'⟩ := mem_lookup hm
          exact ⟨c', by rw [hcl]; exact e'⟩
        · obtain ⟨c, h1, _⟩ := look e
          exact ⟨c, h1⟩
      rcases hy with hy | hy
      · exact key _ hy (.inl rfl)
      · exact key _ hy (.inr rfl)
    · have z : (scope.names.lookup y == some NameKind.cell) = true := z
      have z : scope.names.lookup y = some .cell := by simpa using z
      have e : cenv.cells.lookup y = some c := e
      rw [hcl] at e
      rcases cells_mem (PySem.mem_of_lookup e) with hm | ⟨_, h2, _⟩
      · rcases cloFrom_mem hm with hm | ⟨h1, _⟩
        · cases hm
        · have q := ok.uniq _ h1
          rw [z] at q; cases q
      · rw [Heap.size_push] at h2
        exact Nat.le_of_succ_le h2
    · show b ≠ cenv.locals
      rw [hL]; exact Nat.ne_of_lt (hfp b hb).2
    · have e : cenv.cells.lookup y = some c := e
      rcases mem e with ⟨h1, _⟩ | ⟨h1, _⟩
      · exact (hfp b hb).1.2.2.2.2.1 y c h1 z
      · have h2 : s.heap.objs.size + 1 ≤ b := by rw [← z]; exact h1
        exact absurd (Nat.lt_of_lt_of_le (hfp b hb).2 (Nat.le_of_succ_le h2)) (Nat.lt_irrefl _)
    · rcases (hfp b hb).1.2.2.2.1 with z | z
      · exact I.ok.noex b o e z
      · exact absurd (Nat.lt_of_lt_of_le (Heap.lt_size e) (Nat.le_trans I.ok.bsz z)) (Nat.lt_irrefl _)
    · rcases List.mem_cons.mp (I.stkSub b z) with z | z
      · exact (hfp b hb).1.2.1 z
      · exact (hfp b hb).1.2.2.1 z
  refine ⟨okB, rfl, I.bare, Un.kept kp, ⟨fun _ => none, ?_, fun i y av e1 e2 e3 => ?_⟩, fun y c e => ?_, ?_, fun y c e => ?_, fun p hp => ?_, I.hok.kept kp, by rw [wipe_length]; exact I.len⟩
  · show Heap.Ns _ cenv.locals _
    rw [hL]
    exact Heap.Ns.keeps (Heap.Ns.new ..) fun b o e => pushCells_keeps _ _ _ _ e
  · obtain ⟨e2, hne⟩ := wipe_some e2
    have hfr : scope.names.lookup y = some .free ∧ (cenv.kindOf y = some .cell ∨ cenv.kindOf y = some .free) := by
      have key : ∀ k, cenv.scope.names.lookup y = some k → k = .local ∨ k = .cell ∨ k = .free → scope.names.lookup y = some .free ∧ (cenv.kindOf y = some .cell ∨ cenv.kindOf y = some .free) := fun k hk hk' => by
        have hk0 := hk
        rw [hsc] at hk
        obtain ⟨k', e, r⟩ := lookup_relS hk
        have no : ¬ (k' = .local ∨ k' = .cell) := fun hh => by
          rcases ok.own _ (PySem.mem_of_lookup e) hh with e' | e'
          · obtain ⟨p, hp, hpy⟩ := List.mem_map.mp e'
            have e3 := ok.ix p hp
            have : p.1 = y := hpy
            rw [this] at e3
            exact hne (List.mem_map.mpr ⟨p, hp, nodup_ix hN e3 e1⟩)
          · exact e' (List.mem_of_getElem? e1)
        rcases r with rfl | ⟨rfl, rfl⟩
        · rcases hk' with rfl | rfl | rfl
          · exact absurd (.inl rfl) no
          · exact absurd (.inr rfl) no
          · exact ⟨e, .inr hk0⟩
        · exact ⟨e, .inl hk0⟩
      have e3 : Vis cenv.scope y := e3
      rcases e3 with e3 | e3 | e3
      · exact key _ e3 (.inl rfl)
      · exact key _ e3 (.inr (.inl rfl))
      · exact key _ e3 (.inr (.inr rfl))
    obtain ⟨m, hn, hl⟩ := I.loc
    have hvis : Vis X.env.scope y := (ok.free _ (PySem.mem_of_lookup hfr.1) rfl).elim (fun k => .inr (.inl k)) (fun k => .inr (.inr k))
    obtain ⟨w, r, q⟩ := hl i y av e1 e2 hvis
    refine ⟨w, r, .inr ⟨hfr.2, ?_⟩⟩
    obtain ⟨c, h1, h2⟩ := look hfr.1
    rcases q with ⟨k, _⟩ | ⟨_, c', e', z⟩
    · have k : X.env.scope.names.lookup y = some .local := k
      rcases ok.free _ (PySem.mem_of_lookup hfr.1) rfl with k' | k' <;> rw [show X.env.scope.names.lookup y = _ from k'] at k <;> cases k
    · rw [h2] at e'; cases e'
      exact ⟨c, h1, z.keeps kp⟩
  · have e : cenv.cells.lookup y = some c := e
    rcases mem e with ⟨h1, _⟩ | ⟨_, z⟩
    · obtain ⟨w, z⟩ := I.cell y c h1
      exact ⟨w, z.keeps kp⟩
    · exact ⟨_, z⟩
  · show H cenv.locals = none
    rw [hL]; exact I.hok.fresh (Nat.le_refl _)
  · have e : cenv.cells.lookup y = some c := e
    rcases mem e with ⟨h1, _⟩ | ⟨h1, _⟩
    · exact I.freeC y c h1
    · exact I.hok.fresh (Nat.le_of_succ_le h1)
  · exact absurd (show p ∈ ([] : List (Addr × Obj)) ++ [] from hp) (by simp)
theorem app_ok {E : Value → Shared → Prop} {D : Addr} {xs : List V} {y : V} {v : Value} {Q : Value → Shared → Prop} (I : Inv X pins σ H s) (hD : H D = some (.lst xs)) (hz : xs.length < sizeLine) (r : RelV y v)
    (h : ∀ s', Inv X pins σ (upd H D (.lst (xs ++ [y]))) s' → Q .none s') : wpAny (model X.prog X.w) X.A (call (.builtin "list.append") [.ref D, v]) Q E s := by
  obtain ⟨hz', its, n, ri, e⟩ := I.hok D _ hD
  have hl := ri.length
  refine append_at (hsz := by rw [List.size_toArray]; omega) e fun h' sb ho' => ?_
  refine h { s with heap := h' } (I.write (t' := s.toks) (by rw [hD]; trivial) (.inl rfl) (fun b u hb q => (sb.2 b hb).trans q) ⟨_, ho'⟩ ⟨by rw [List.length_append]; exact hz, its ++ [v], n + 1, ri.append (.cons r .nil), ?_⟩)
  rw [ho']
  simp
def PTs (X : Cx) (ifs : List Expr) (t : TT) : Prop :=
  ∀ (pins : List (Addr × Obj)) (s : Shared) (σ : St) (H : Hp) (Q : Bool → Hp → Prop), Inv X pins σ H s → t σ H Q →
    wpAny (model X.prog X.w) X.A (forIn ifs true fun c r => if r = true then do let ok ← isTrue c X.env (eval c X.env); pure (ForInStep.yield ok) else pure (ForInStep.yield r)) (TP X pins σ Q) X.xe s
def tYes : TT := fun _ H Q => Q true H
theorem pts_nil : PTs X [] tYes := fun _ _ _ H _ I h => wpAny_tests_nil ⟨H, I, h⟩
theorem pts_one {c : Expr} {t : TT} (h : PT X c t) : PTs X [c] t := fun pins s σ H Q I hw => wpAny_tests_one (h pins s σ H Q I hw)
end
theorem thnF {α : Type} {t : Sem α} {Q Q' : α → Shared → Prop} {M : Model} {A : Around} {E : Value → Shared → Prop} {s : Shared} (h : wpAny M A t Q (fun _ _ => False) s) (hQ : ∀ a s, Q a s → Q' a s) : wpAny M A t Q' E s := wpAny_mono h hQ fun _ _ z => False.elim z
theorem compLoop_any {prog : Program} {w : World} {A : Around} {R : Result → Shared → Prop} {s : Shared} {elt target iter : Expr} {ifs : List Expr} {scope : Scope} {pos : Pos} {it acc : Value} {env : Env} (I : Nat → Shared → Prop)
    (turn : ∀ n s, I n s → wpAny (model prog w) A (pyNext it) (fun r s₁ => match r with
      | none => R (.ok .next) s₁
      | some v => wpAny (model prog w) A (letOwnedTupleGo target it v) (fun _ s₁' => wpAny (model prog w) A (assign target env v) (fun _ s₂ =>
          wpAny (model prog w) A (forIn ifs true fun c r => if r = true then do let ok ← isTrue c env (eval c env); pure (ForInStep.yield ok) else pure (ForInStep.yield r)) (fun ok s₃ =>
            if ok = true then wpAny (model prog w) A (eval elt env) (fun x s₄ =>
              wpAny (model prog w) A (call (.builtin "list.append") [acc, x]) (fun _ s₅ => ∃ m, m < n ∧ I m s₅) (notedBy (model prog w) A env fun e s' => R (.error e) s') s₄) (notedBy (model prog w) A env fun e s' => R (.error e) s') s₃
            else ∃ m, m < n ∧ I m s₃) (notedBy (model prog w) A env fun e s' => R (.error e) s') s₂) (notedBy (model prog w) A env fun e s' => R (.error e) s') s₁') (notedBy (model prog w) A env fun e s' => R (.error e) s') s₁) (notedBy (model prog w) A env fun e s' => R (.error e) s') s)
    (n : Nat) (h : I n s) :
    codeAny (model prog w) A (.compLoop (.ListComp elt [⟨target, iter, ifs, 0⟩] scope pos) 0 it acc env) R s := by
  refine codeAny_loop rfl I (fun n s hI => ?_) n h
  show wpAny _ A ((compTurn (.ListComp elt [⟨target, iter, ifs, 0⟩] scope pos) 0 it acc env).onRaise (fun x => do noteFrame x env; theTreesLotGoes x)) _ _ s
  refine wpAny_noted ?_
  rw [compTurn_list]
  refine wpAny_bind (wpAny_standAt (wpAny_bind (wpAny_mono (turn n s hI) (fun r s₁ h₁ => ?_) fun _ _ h' => h')))
  cases r with
  | none => exact wpAny_pure h₁
  | some v =>
    refine wpAny_bind (wpAny_mono h₁ (fun _ s₁' h₁' => ?_) fun _ _ h' => h')
    refine wpAny_bind (wpAny_mono h₁' (fun _ s₂ h₂ => wpAny_bind (wpAny_mono h₂ (fun ok s₃ h₃ => ?_) fun _ _ h' => h')) fun _ _ h' => h')
    cases ok with
    | false => exact wpAny_pure ⟨rfl, h₃⟩
    | true =>
      exact wpAny_bind (wpAny_bind (wpAny_mono h₃ (fun x s₄ h₄ => wpAny_bind (wpAny_mono h₄ (fun _ s₅ h₅ => wpAny_pure (wpAny_pure ⟨rfl, h₅⟩)) fun _ _ h' => h')) fun _ _ h' => h'))
section
variable {X : Cx}
def tLc (wi : TI) (g : TG) (tt : TT) (te : TE) (vs : List Nat) : TE := fun σ H Q => wi σ H fun J H1 => ∀ D, H1 D = none → ∃ W : Nat → Nat → Hp → Prop, (∃ m, W 0 m (upd H1 D (.lst []))) ∧ ∀ i m H, W i m H →
  (J.stop i H ∧ Q (.ref D) H) ∨ (J.go i H ∧ ∃ Nx : Hp → Prop, (∀ H', Nx H' → ∃ m', m' < m ∧ W (i + 1) m' H') ∧ ∀ x H', J.yld i H x H' → g x (wipe σ vs) H' fun σ2 H2 => wipe σ2 vs = wipe σ vs ∧ tt σ2 H2 fun b H3 =>
    if b = true then te σ2 H3 fun y H4 => ∃ acc, H4 D = some (.lst acc) ∧ acc.length < sizeLine ∧ Nx (upd H4 D (.lst (acc ++ [y]))) else Nx H3)
theorem lc_core {pins : List (Addr × Obj)} {s : Shared} {σ : St} {H : Hp} {Q : VK} {elt tg iter : Expr} {ifs : List Expr} {scope : Scope} {own : List (Str × Nat)} {pos pos' : Pos} {wi : TI} {g : TG} {tt : TT} {te : TE} {use : Option (Value → Sem Unit)} {Qf : Value → Shared → Prop}
    (hc : X.calm = true) (hN : X.N.Nodup) (I : Inv X pins σ H s) (hi : PI X tg iter wi) (ok : BlkOk X.N X.env.scope scope own)
    (hg : ∀ (s : Shared) (H : Hp) (C : Addr) (cl : List (Str × Addr)) (fp : List Addr), PG (X.blk s H scope (compEnvC scope cl C X.env) fp) tg g) (ht : ∀ (s : Shared) (H : Hp) (C : Addr) (cl : List (Str × Addr)) (fp : List Addr), PTs (X.blk s H scope (compEnvC scope cl C X.env) fp) ifs tt)
    (he : ∀ (s : Shared) (H : Hp) (C : Addr) (cl : List (Str × Addr)) (fp : List Addr), PE (X.blk s H scope (compEnvC scope cl C X.env) fp) elt te) (hs : ∀ x, foldedSetIterable iter X.env x = pure x)
    (h : tLc wi g tt te (own.map (·.2)) σ H Q)
    (hRR : ∀ D C s' m H', Inv X pins σ H' s' → Q (.ref D) H' → s'.heap.Ns C m → FpOk X pins H' C → compPost (model X.prog X.w) X.A X.xe use Qf (.ref D) C (.ok .next) s') :
    wpAny (model X.prog X.w) X.A (comprehension (.ListComp elt [⟨tg, iter, ifs, 0⟩] scope pos) scope X.env pos' (newList []) false (eval iter X.env) use) Qf X.xe s := by
  have hfree : ∀ y ∈ scope.names, y.2 = .free → ∃ c, X.env.cells.lookup y.1 = some c := fun y hy e => by
    rcases ok.free y hy e with k | k
    · exact I.ok.has _ (.inl k)
    · exact I.ok.has _ (.inr k)
  refine wpAny_comprehension_free (use := use) rfl hs (closure_ok hfree) ok.kind (fun y hy e => by rw [ok.uniq y hy, e])
    (thn (hi pins s σ H _ I h) fun xv s1 hx => thn hx fun itv s2 h2 => ?_)
  obtain ⟨it, fp, tn, J, H2, e, I2, T, st2, f2, q⟩ := h2
  subst e
  refine wpAny_newObj_type (newEnv_comp ?_) (by show 0 ≤ sizeLine; decide)
  generalize hD : s2.heap.objs.size = D
  have hDn : H2 D = none := I2.hok.fresh (Nat.le_of_eq hD)
  obtain ⟨W, ⟨m0, w0⟩, turn⟩ := q D hDn
  -- the new list
  generalize hs3 : ({ s2 with heap := s2.heap.push { cls := .type "list", data := .seq ([] : List Value).toArray } } : Shared) = s3
  have I3 : Inv X pins σ (upd H2 D (.lst [])) s3 := by
    rw [← hs3]
    refine I2.laid (t' := s2.toks) (fun b o e => Heap.get?_push_of_some _ e) (Nat.le_of_eq hD) ⟨Nat.zero_le _, [], 0, .nil, ?_⟩
    rw [← hD]
    exact Heap.get?_push_size _ rfl
  have h3 : s3.heap = s2.heap.push { cls := .type "list", data := .seq ([] : List Value).toArray } := by rw [← hs3]
  have sz : ∀ b ∈ fp, b < s2.heap.objs.size := fun b hb => by
    obtain ⟨o, e, _⟩ := T.obj _ _ st2 b hb
    exact Heap.lt_size e
  have f3 : ∀ b ∈ fp, FpOk X pins (upd H2 D (.lst [])) b ∧ b < s3.heap.objs.size := fun b hb => by
    have hlt := sz b hb
    refine ⟨⟨?_, (f2 b hb).2⟩, by rw [h3, Heap.size_push]; exact Nat.lt_succ_of_lt hlt⟩
    rw [upd_ne (by rw [← hD]; exact Nat.ne_of_lt hlt)]
    exact (f2 b hb).1
  have st3 : tn 0 s3.heap := T.keep _ _ _ st2 fun b _ o e => by rw [h3]; exact Heap.get?_push_of_some _ e
  have I4 := block_start I3 ok hN f3
  have pg := hg s3 (upd H2 D (.lst [])) s3.heap.objs.size (cellsFrom (s3.heap.objs.size + 1) scope.names (cloFrom X.env.cells scope.names [])) fp
  have pt := ht s3 (upd H2 D (.lst [])) s3.heap.objs.size (cellsFrom (s3.heap.objs.size + 1) scope.names (cloFrom X.env.cells scope.names [])) fp
  have pe := he s3 (upd H2 D (.lst [])) s3.heap.objs.size (cellsFrom (s3.heap.objs.size + 1) scope.names (cloFrom X.env.cells scope.names [])) fp
  show codeAny _ _ (.compStart (.ListComp elt [⟨tg, iter, ifs, 0⟩] scope pos) 0 (.ref it) (.ref D) (compEnvC scope (cellsFrom (s3.heap.objs.size + 1) scope.names (cloFrom X.env.cells scope.names [])) s3.heap.objs.size X.env)) (compPost (model X.prog X.w) X.A X.xe use Qf (.ref D) s3.heap.objs.size) { s3 with heap := pushCells (s3.heap.push { cls := .type "dict", data := .dict #[] }) scope.names }
  have nfp : ∀ b ∈ fp, (upd H2 D (.lst [])) b = none := fun b hb => (f3 b hb).1.1
  generalize hce : compEnvC scope (cellsFrom (s3.heap.objs.size + 1) scope.names (cloFrom X.env.cells scope.names [])) s3.heap.objs.size X.env = ce at I4 pg pt pe ⊢
  have cL : ce.locals = s3.heap.objs.size := by subst hce; rfl
  generalize hH3 : upd H2 D (.lst []) = H3 at I3 I4 pg pt pe w0 nfp f3
  generalize hs4 : ({ s3 with heap := pushCells (s3.heap.push { cls := .type "dict", data := .dict #[] }) scope.names } : Shared) = s4 at I4 ⊢
  have st4 : tn 0 s4.heap := T.keep _ _ _ st3 fun b _ o e => by rw [← hs4]; exact pushCells_keeps _ _ _ _ (Heap.get?_push_of_some _ e)
  have stat : ∀ {σ' : St} {H' : Hp} {s' : Shared}, Inv (X.blk s3 H3 scope ce fp) [] σ' H' s' → (∀ b ∈ fp, H' b = none) → ∀ b ∈ fp, FpOk (X.blk s3 H3 scope ce fp) [] H' b := fun {σ' H' s'} I' hn b hb =>
    ⟨hn b hb, (I'.ok.exf b hb).1, I'.ok.exfs b hb, .inl hb, fun x c e => (I'.ok.exf b hb).2 x c e, fun p hp => absurd (show p ∈ ([] : List (Addr × Obj)) ++ [] from hp) (by simp)⟩
  have loop : codeAny (model X.prog X.w) X.A (.compLoop (.ListComp elt [⟨tg, iter, ifs, 0⟩] scope pos) 0 (.ref it) (.ref D) ce) (compPost (model X.prog X.w) X.A X.xe use Qf (.ref D) s3.heap.objs.size) s4 := by
    refine compLoop_any (fun n s' => ∃ i H', Inv (X.blk s3 H3 scope ce fp) [] (wipe σ (own.map (·.2))) H' s' ∧ tn i s'.heap ∧ (∀ b ∈ fp, H' b = none) ∧ W i n H') ?_ m0 ⟨0, H3, I4, st4, nfp, w0⟩
    rintro n s5 ⟨i, H5, I5, st5, n5, w5⟩
    rcases turn i n H5 w5 with ⟨stop, qq⟩ | ⟨go, Nx, hNx, step⟩
    · have td := T.done (X.blk s3 H3 scope ce fp) rfl rfl rfl hc i [] s5 _ H5 (fun _ _ => False) I5 (stat I5 n5) st5 stop
      refine thnF td fun r s6 ⟨hr, I6⟩ => ?_
      subst hr
      -- back in the def's context
      have I7 : Inv X pins σ H5 s6 := I3.call' (ch := fp) I6.os I6.base I6.hok I6.bare fun b hb => ⟨(f3 b hb).1.2.2.2.1, (f3 b hb).1.2.1, (f3 b hb).1.2.2.2.2.1, (f3 b hb).1.2.2.2.2.2⟩
      have nC : H5 s3.heap.objs.size = none := by
        have z : H5 ce.locals = none := I6.free
        rw [cL] at z
        exact z
      obtain ⟨m, hn, _⟩ := I6.loc
      have hn : s6.heap.Ns ce.locals m := hn
      rw [cL] at hn
      exact hRR D s3.heap.objs.size s6 m H5 I7 qq hn (I3.fpOk (Nat.le_refl _) nC)
    · have ti := T.item (X.blk s3 H3 scope ce fp) rfl rfl rfl hc i [] s5 _ H5 (fun _ _ => False) I5 (stat I5 n5) st5 go
      refine thnF ti fun r s6 ⟨u, hr, h6⟩ => ?_
      subst hr
      refine thnF h6 fun _ s7 ⟨x, H7, I7, r7, y7, st7, n7⟩ => ?_
      have I7' := I7.pinned (stat I7 n7) (T.obj _ _ st7)
      refine thnF (pg _ s7 _ H7 x u _ I7' r7 (step x H7 y7)) fun _ s8 ⟨σ8, H8, I8, hw8, q8⟩ => ?_
      refine thnF (pt _ s8 σ8 H8 _ I8 q8) fun b s9 ⟨H9, I9, q9⟩ => ?_
      -- the turn's end
      have fin : ∀ {s' : Shared} {H' : Hp}, Inv (X.blk s3 H3 scope ce fp) ([] ++ pinsAt fp s7.heap) σ8 H' s' → Nx H' → ∃ m, m < n ∧ ∃ i H', Inv (X.blk s3 H3 scope ce fp) [] (wipe σ (own.map (·.2))) H' s' ∧ tn i s'.heap ∧ (∀ b ∈ fp, H' b = none) ∧ W i m H' := fun {s' H'} I' nx => by
        obtain ⟨m', hm, w'⟩ := hNx H' nx
        have pin' : ∀ b ∈ fp, ∀ o, s7.heap.get? b = some o → s'.heap.get? b = some o ∧ H' b = none := fun b hb o e =>
          let z := I'.pin (b, o) (List.mem_append_right _ (List.mem_append_right _ (mem_pinsAt hb e)))
          ⟨z.1, z.2.1⟩
        have hl : (wipe σ (own.map (·.2))).length = σ8.length := by rw [← hw8, wipe_length]
        refine ⟨m', hm, i + 1, H', (I'.unpinned (pins := [])).weak hl (fun j v e => ?_), T.keep _ _ _ st7 fun b hb o e => (pin' b hb o e).1, fun b hb => ?_, w'⟩
        · rw [← hw8] at e
          exact (wipe_some e).1
        · obtain ⟨o, e, _⟩ := T.obj _ _ st7 b hb
          exact (pin' b hb o e).2
      cases b with
      | false =>
        simp only [Bool.false_eq_true, if_false] at q9 ⊢
        exact fin I9 q9
      | true =>
        simp only [if_true] at q9 ⊢
        refine thnF (pe _ s9 σ8 H9 _ I9 q9) fun z s10 ⟨yv, H10, I10, r10, acc, hD10, hz10, nx⟩ => ?_
        exact app_ok (X := X.blk s3 H3 scope ce fp) I10 hD10 hz10 r10 fun s11 I11 => fin I11 nx
  exact codeAny_compStart_list loop (T.self X.A 0 _ _ _ st4 loop)
theorem pe_lc {elt tg iter : Expr} {ifs : List Expr} {scope : Scope} {own : List (Str × Nat)} {pos : Pos} {wi : TI} {g : TG} {tt : TT} {te : TE} (hc : X.calm = true) (hN : X.N.Nodup) (hi : PI X tg iter wi) (ok : BlkOk X.N X.env.scope scope own)
    (hg : ∀ (s : Shared) (H : Hp) (C : Addr) (cl : List (Str × Addr)) (fp : List Addr), PG (X.blk s H scope (compEnvC scope cl C X.env) fp) tg g) (ht : ∀ (s : Shared) (H : Hp) (C : Addr) (cl : List (Str × Addr)) (fp : List Addr), PTs (X.blk s H scope (compEnvC scope cl C X.env) fp) ifs tt)
    (he : ∀ (s : Shared) (H : Hp) (C : Addr) (cl : List (Str × Addr)) (fp : List Addr), PE (X.blk s H scope (compEnvC scope cl C X.env) fp) elt te) (hs : ∀ x, foldedSetIterable iter X.env x = pure x := by intro _; rfl) :
    PE X (.ListComp elt [⟨tg, iter, ifs, 0⟩] scope pos) (tLc wi g tt te (own.map (·.2))) := by
  intro pins s σ H Q I h
  rw [eval_ListComp]
  refine lc_core hc hN I hi ok hg ht he hs h fun D C s' m H' I' q hn f => ⟨m, hn, fun h'' sb => ?_⟩
  obtain ⟨f0, f1, f2, f3, f4, f5⟩ := f
  exact ⟨.ref D, H', I'.turned (t' := s'.toks) (fun b o hb e => (sb.2 b hb).trans e) f0 f1 f3 f4 f5, rfl, q⟩
end
def blkC (N : List Str) (sc scope : Scope) (own : List (Str × Nat)) : Bool :=
  (match scope.kind with | .function => true | _ => false) && (scope.names.all fun y => decide (scope.names.lookup y.1 = some y.2)) && (own.all fun p => decide (N[p.2]? = some p.1)) &&
    (scope.names.all fun y => match y.2 with
      | .free => (match sc.names.lookup y.1 with | some .cell => true | some .free => true | _ => false)
      | .local => decide (y.1 ∈ own.map (·.1)) || decide (y.1 ∉ N)
      | .cell => decide (y.1 ∈ own.map (·.1)) || decide (y.1 ∉ N)
      | _ => true)
theorem blkOk_by {N : List Str} {sc scope : Scope} {own : List (Str × Nat)} (h : blkC N sc scope own = true) : BlkOk N sc scope own := by
  unfold blkC at h
  simp only [Bool.and_eq_true, List.all_eq_true, decide_eq_true_eq] at h
  obtain ⟨⟨⟨h1, h2⟩, h3⟩, h4⟩ := h
  refine ⟨?_, h2, h3, fun y hy e => ?_, fun y hy e => ?_⟩
  · split at h1
    · assumption
    · cases h1
  · have q := h4 y hy
    simp only [e] at q
    split at q <;> first | exact .inl (by assumption) | exact .inr (by assumption) | cases q
  · have q := h4 y hy
    rcases e with e | e <;> (simp only [e, Bool.or_eq_true, decide_eq_true_eq] at q; exact q)
end L2
namespace L2
open PySem PySem.Spec PyProof.Rows
section
variable {prog : Program} {w : World} {A : Around} {R : Result → Shared → Prop} {s : Shared} {elt t0 i0 t1 i1 : Expr} {ifs0 ifs1 : List Expr} {scope : Scope} {pos : Pos} {it acc : Value} {env : Env}
end
section
variable {X : Cx}
end
end L2
namespace L2
open PySem PySem.Spec PyProof.Rows
section
variable {κ : Type} [DecidableEq κ]
def valV (kvs : List (κ × V)) (k : κ) : Option V := (kvs.find? fun kv => decide (kv.1 = k)).map (·.2)
def putK (kvs : List (κ × V)) (k : κ) (v : V) : List (κ × V) :=
  if (kvs.any fun kv => decide (kv.1 = k)) = true then kvs.map (fun kv => if kv.1 = k then (kv.1, v) else kv) else kvs ++ [(k, v)]
theorem valV_pos {p : κ × V} {r : List (κ × V)} {k : κ} (e : p.1 = k) : valV (p :: r) k = some p.2 := by simp [valV, List.find?_cons, e]
theorem valV_neg {p : κ × V} {r : List (κ × V)} {k : κ} (e : ¬ p.1 = k) : valV (p :: r) k = valV r k := by simp [valV, List.find?_cons, e]
theorem valV_any (k : κ) : ∀ kvs : List (κ × V), (kvs.any fun kv => decide (kv.1 = k)) = (valV kvs k).isSome
  | [] => rfl
  | p :: r => by
    rw [List.any_cons]
    by_cases e : p.1 = k
    · simp only [valV_pos e, decide_eq_true e, Bool.true_or, Option.isSome_some]
    · rw [valV_neg e, decide_eq_false e, Bool.false_or]; exact valV_any k r
theorem valV_map (k j : κ) (y : V) : ∀ kvs : List (κ × V), valV (kvs.map fun kv => if kv.1 = k then (kv.1, y) else kv) j = (valV kvs j).map fun x => if j = k then y else x
  | [] => rfl
  | p :: r => by
    have ih := valV_map k j y r
    rw [List.map_cons]
    by_cases h : p.1 = k
    · rw [if_pos h]
      by_cases e : p.1 = j
      · rw [valV_pos (p := (p.1, y)) e, valV_pos e, Option.map_some, if_pos (e.symm.trans h)]
      · rw [valV_neg (p := (p.1, y)) e, valV_neg e, ih]
    · rw [if_neg h]
      by_cases e : p.1 = j
      · rw [valV_pos (p := p) e, valV_pos e, Option.map_some, if_neg (fun z => h (e.trans z))]
      · rw [valV_neg (p := p) e, valV_neg e, ih]
theorem valV_snoc (k j : κ) (y : V) : ∀ kvs : List (κ × V), valV kvs k = none → valV (kvs ++ [(k, y)]) j = if j = k then some y else valV kvs j
  | [], _ => by
    by_cases e : k = j
    · rw [if_pos e.symm]; exact valV_pos (p := (k, y)) e
    · rw [if_neg (fun z => e z.symm)]; exact valV_neg (p := (k, y)) e
  | p :: r, hn => by
    rw [List.cons_append]
    have hk : ¬ p.1 = k := fun z => by rw [valV_pos z] at hn; cases hn
    rw [valV_neg hk] at hn
    have ih := valV_snoc k j y r hn
    by_cases e : p.1 = j
    · rw [valV_pos e, valV_pos e, if_neg (fun z => hk (e.trans z))]
    · rw [valV_neg e, valV_neg e, ih]
theorem valV_put (kvs : List (κ × V)) (k j : κ) (y : V) : valV (putK kvs k y) j = if j = k then some y else valV kvs j := by
  unfold putK
  by_cases a : (kvs.any fun kv => decide (kv.1 = k)) = true
  · rw [if_pos a, valV_map]
    rw [valV_any] at a
    by_cases e : j = k
    · obtain ⟨x, hx⟩ := Option.isSome_iff_exists.mp a
      rw [if_pos e, e, hx, Option.map_some, if_pos rfl]
    · rw [if_neg e]
      cases valV kvs j with
      | none => rfl
      | some x => rw [Option.map_some, if_neg e]
  · rw [if_neg a]
    refine valV_snoc k j y kvs ?_
    rw [valV_any] at a
    cases q : valV kvs k with
    | none => rfl
    | some x => rw [q] at a; exact (a rfl).elim
theorem length_putK (kvs : List (κ × V)) (k : κ) (v : V) : (putK kvs k v).length ≤ kvs.length + 1 := by
  unfold putK
  split
  · rw [List.length_map]; omega
  · rw [List.length_append, List.length_cons, List.length_nil]; omega
theorem putK_new {kvs : List (κ × V)} {k : κ} (v : V) (h : valV kvs k = none) : putK kvs k v = kvs ++ [(k, v)] := by
  unfold putK
  rw [valV_any, h]
  exact if_neg (by decide)
theorem RelO.isSome_eq {o : Option V} {u : Option Value} (r : RelO o u) : o.isSome = u.isSome := by
  cases o with
  | none => cases u with
    | none => rfl
    | some _ => exact (show False from r).elim
  | some _ => cases u with
    | none => exact (show False from r).elim
    | some _ => rfl
theorem RelO.getD {o : Option V} {u : Option Value} {d : V} {d' : Value} (r : RelO o u) (rd : RelV d d') : RelV (o.getD d) (u.getD d') := by
  cases o with
  | none => cases u with
    | none => exact rd
    | some _ => exact (show False from r).elim
  | some _ => cases u with
    | none => exact (show False from r).elim
    | some _ => exact r
theorem KV.val {kvs : List (κ × V)} {vs : List (κ × Value)} (r : KV kvs vs) (k : κ) : RelO (valV kvs k) (valueAt vs k) := by
  unfold KV at r
  induction r with
  | nil => exact True.intro
  | @cons p q ps qs h t ih =>
    obtain ⟨h1, h2⟩ := h
    by_cases e : p.1 = k
    · have e' : q.1 = k := h1.symm.trans e
      have b : valueAt (q :: qs) k = some q.2 := by simp [valueAt, List.find?_cons, e']
      rw [valV_pos e, b]; exact h2
    · have e' : ¬ q.1 = k := fun z => e (h1.trans z)
      have b : valueAt (q :: qs) k = valueAt qs k := by simp [valueAt, List.find?_cons, e']
      rw [valV_neg e, b]; exact ih
theorem KV.any {kvs : List (κ × V)} {vs : List (κ × Value)} (r : KV kvs vs) (k : κ) : (kvs.any fun kv => decide (kv.1 = k)) = vs.any fun kv => decide (kv.1 = k) := by
  unfold KV at r
  induction r with
  | nil => rfl
  | cons h t ih => rw [List.any_cons, List.any_cons, ih, h.1]
theorem KV.repl {kvs : List (κ × V)} {vs : List (κ × Value)} (r : KV kvs vs) (k : κ) {y : V} {u : Value} (ry : RelV y u) :
    KV (kvs.map fun kv => if kv.1 = k then (kv.1, y) else kv) (vs.map fun kv => if kv.1 = k then (kv.1, u) else kv) := by
  unfold KV at r ⊢
  induction r with
  | nil => exact .nil
  | @cons p q ps qs h t ih =>
    rw [List.map_cons, List.map_cons]
    refine .cons ?_ ih
    obtain ⟨h1, h2⟩ := h
    by_cases e : p.1 = k
    · rw [if_pos e, if_pos (h1.symm.trans e)]; exact ⟨h1, ry⟩
    · rw [if_neg e, if_neg (fun z => e (h1.trans z))]; exact ⟨h1, h2⟩
theorem KV.put {kvs : List (κ × V)} {vs : List (κ × Value)} (r : KV kvs vs) (k : κ) {y : V} {u : Value} (ry : RelV y u) : KV (putK kvs k y) (stored vs k u) := by
  unfold putK stored
  rw [r.any k]
  by_cases e : (vs.any fun kv => decide (kv.1 = k)) = true
  · rw [if_pos e, if_pos e]; exact r.repl k ry
  · rw [if_neg e, if_neg e]; exact Paired.snoc r ⟨rfl, ry⟩
theorem KV.length {kvs : List (κ × V)} {vs : List (κ × Value)} (r : KV kvs vs) : kvs.length = vs.length := Paired.length r
end
theorem kV_is {P : Program} {w : World} {k : Key} {u : Value} (r : RelV (kV k) u) : (mixKind P w).is k u = true := by
  cases k with
  | inl i => obtain ⟨t, e⟩ := (show ∃ t, u = Value.int i t from r); subst e; exact mixKind_int P w i t
  | inr x => obtain ⟨t, e⟩ := (show ∃ t, u = Value.str x t from r); subst e; exact mixKind_str P w x t
theorem items_are {P : Program} {w : World} : ∀ {ks : List Key} {us : List Value}, Vals (ks.map kV) us → ItemsAre (mixKind P w) ks us
  | [], _, r => by rw [List.map_nil] at r; cases r; exact .nil
  | k :: ks, _, r => by
    rw [List.map_cons] at r
    cases r with
    | cons h t => exact .cons (kV_is h) (items_are t)
abbrev KT (H : Hp) : List (List Key × V) → List (List Key × Addr × Value) → Prop := Paired fun p q => p.1 = q.1 ∧ H q.2.1 = some (.tup (p.1.map kV)) ∧ RelV p.2 q.2.2
theorem KT.val {H : Hp} {kvs : List (List Key × V)} {xs : List (List Key × Addr × Value)} (r : KT H kvs xs) (k : List Key) : RelO (valV kvs k) ((atKey xs k).map (·.2)) := by
  induction r with
  | nil => exact True.intro
  | @cons p q ps qs h t ih =>
    obtain ⟨h1, _, h2⟩ := h
    by_cases e : p.1 = k
    · have e' : q.1 = k := h1.symm.trans e
      have b : atKey (q :: qs) k = some q.2 := by simp [atKey, List.find?_cons, e']
      rw [valV_pos e, b]; exact h2
    · have e' : ¬ q.1 = k := fun z => e (h1.trans z)
      have b : atKey (q :: qs) k = atKey qs k := by simp [atKey, List.find?_cons, e']
      rw [valV_neg e, b]; exact ih
theorem KT.repl {H : Hp} {kvs : List (List Key × V)} {xs : List (List Key × Addr × Value)} (r : KT H kvs xs) (k : List Key) {y : V} {u : Value} (ry : RelV y u) :
    KT H (kvs.map fun kv => if kv.1 = k then (kv.1, y) else kv) (xs.map (putAt k u)) := by
  induction r with
  | nil => exact .nil
  | @cons p q ps qs h t ih =>
    rw [List.map_cons, List.map_cons]
    refine .cons ?_ ih
    obtain ⟨h1, h2, h3⟩ := h
    unfold putAt
    by_cases e : p.1 = k
    · rw [if_pos e, if_pos (h1.symm.trans e)]; exact ⟨h1, h2, ry⟩
    · rw [if_neg e, if_neg (fun z => e (h1.trans z))]; exact ⟨h1, h2, h3⟩
theorem KT.put {H : Hp} {kvs : List (List Key × V)} {xs : List (List Key × Addr × Value)} (r : KT H kvs xs) (k : List Key) {b : Addr} {y : V} {u : Value} (hb : H b = some (.tup (k.map kV))) (ry : RelV y u) :
    KT H (putK kvs k y) (storedH xs k b u) := by
  have e : (kvs.any fun kv => decide (kv.1 = k)) = (atKey xs k).isSome := by
    rw [valV_any, (r.val k).isSome_eq, Option.isSome_map]
  unfold putK storedH
  rw [e]
  by_cases q : (atKey xs k).isSome = true
  · rw [if_pos q, if_pos q]; exact r.repl k ry
  · rw [if_neg q, if_neg q]; exact Paired.snoc r ⟨rfl, hb, ry⟩
theorem KT.keeps {H H' : Hp} {kvs : List (List Key × V)} {xs : List (List Key × Addr × Value)} (r : KT H kvs xs) (ht : ∀ b ys, H b = some (.tup ys) → H' b = some (.tup ys)) : KT H' kvs xs :=
  Paired.mapP r fun _ _ z => ⟨z.1, ht _ _ z.2.1, z.2.2⟩
section
variable {P : Program} {w : World} {H : Hp} {h : Heap} {a : Addr}
theorem rd_of {u : HO} (ok : HOk P w H h) (e : Rd H a u) : ObjOk P w H h a u := e.ok ok
theorem dk_rd {kvs : List (Key × V)} (ok : HOk P w H h) (e : Rd H a (.dK kvs)) : kvs.length ≤ sizeLine ∧ (a == sysModules) = false ∧ ∃ vs, KV kvs vs ∧ h.DictOf (mixKind P w) a vs :=
  show ObjOk P w H h a (.dK kvs) from rd_of ok e
theorem dk_of {kvs : List (Key × V)} (ok : HOk P w H h) (e : H a = some (.dK kvs)) : kvs.length ≤ sizeLine ∧ (a == sysModules) = false ∧ ∃ vs, KV kvs vs ∧ h.DictOf (mixKind P w) a vs := dk_rd ok (.inl e)
theorem key_of {ks : List Key} (ok : HOk P w H h) (e : H a = some (.tup (ks.map kV))) : (tupleKind (mixKind P w)).is h ks a := by
  obtain ⟨_, its, r, o, h1, h2, n, h3⟩ := (show ObjOk P w H h a (.tup (ks.map kV)) from ok a _ e)
  exact ⟨o, its.toArray, n, h1, h2, h3, by simpa using items_are r⟩
theorem dt_rd {kvs : List (List Key × V)} (ok : HOk P w H h) (e : Rd H a (.dT kvs)) : kvs.length ≤ sizeLine ∧ (a == sysModules) = false ∧
    ∃ xs, KT H kvs xs ∧ h.DictOfH (tupleKind (mixKind P w)) a xs := by
  obtain ⟨z, y, xs, r, o, es, ep, h1, h2, h3, h4, h5⟩ := (show ObjOk P w H h a (.dT kvs) from rd_of ok e)
  refine ⟨z, y, xs, r, o, es, ep, h1, h2, h3, h4, fun x hx => ?_, h5⟩
  have all : ∀ {l : List (List Key × V)} {m : List (List Key × Addr × Value)}, KT H l m → ∀ x ∈ m, (tupleKind (mixKind P w)).is h x.1 x.2.1 := by
    intro l m q
    induction q with
    | nil => intro x hx; exact nomatch hx
    | @cons p q ps qs hq t ih =>
      intro x hx
      rcases List.mem_cons.mp hx with e | hx
      · subst e
        exact key_of ok (by rw [← hq.1]; exact hq.2.1)
      · exact ih x hx
  exact all r x hx
theorem dt_of {kvs : List (List Key × V)} (ok : HOk P w H h) (e : H a = some (.dT kvs)) : kvs.length ≤ sizeLine ∧ (a == sysModules) = false ∧
    ∃ xs, KT H kvs xs ∧ h.DictOfH (tupleKind (mixKind P w)) a xs := dt_rd ok (.inl e)
end
def DGet (H : Hp) (a : Addr) (y : V) (r : Option V) : Prop :=
  (∃ kvs k, Rd H a (.dK kvs) ∧ y = kV k ∧ r = valV kvs k) ∨ ∃ kvs k b, Rd H a (.dT kvs) ∧ y = .ref b ∧ H b = some (.tup (k.map kV)) ∧ r = valV kvs k
def DPut (H : Hp) (a : Addr) (y v : V) (H' : Hp) : Prop :=
  (∃ kvs k, H a = some (.dK kvs) ∧ y = kV k ∧ kvs.length < sizeLine ∧ H' = upd H a (.dK (putK kvs k v))) ∨
  ∃ kvs k b, H a = some (.dT kvs) ∧ y = .ref b ∧ H b = some (.tup (k.map kV)) ∧ kvs.length < sizeLine ∧ H' = upd H a (.dT (putK kvs k v))
theorem DGet.k {H : Hp} {a : Addr} {kvs : List (Key × V)} {k : Key} (e : H a = some (.dK kvs)) : DGet H a (kV k) (valV kvs k) := .inl ⟨kvs, k, .inl e, rfl, rfl⟩
theorem DPut.k {H : Hp} {a : Addr} {kvs : List (Key × V)} {k : Key} {v : V} (e : H a = some (.dK kvs)) (hl : kvs.length < sizeLine) : DPut H a (kV k) v (upd H a (.dK (putK kvs k v))) := .inl ⟨kvs, k, e, rfl, hl, rfl⟩
section
variable {X : Cx} {pins : List (Addr × Obj)} {σ : St} {H : Hp} {s : Shared} {a : Addr} {y v : V} {u r : Value} {o : Option V} {A : Around} {E : Value → Shared → Prop}
theorem Inv.big (I : Inv X pins σ H s) : sysModules < s.heap.objs.size := by
  have h : mainGlobals < s.heap.objs.size := (I.mod.glob.keeps I.bk).lt
  exact Nat.lt_trans (by decide) h
theorem d_getItem {Q : Value → Shared → Prop} (hu : A.units + 1 < cLine) (I : Inv X pins σ H s) (g : DGet H a y (some v)) (ry : RelV y u) (h : ∀ w' s', Inv X pins σ H s' → RelV v w' → Q w' s') :
    wpAny (model X.prog X.w) A (getItem (.ref a) u) Q E s := by
  rcases g with ⟨kvs, k, e, ey, l⟩ | ⟨kvs, k, b, e, ey, eb, l⟩
  · subst ey
    obtain ⟨z, hd, vs, rel, dd⟩ := dk_rd I.hok e
    obtain ⟨w', hw, rw'⟩ := RelO.some_of (v := v) (o := valueAt vs k) (by rw [l]; exact rel.val k)
    exact wpAny_getItem_of (kV_is ry) dd.mapOf hw (h w' _ (I.tok _) rw')
  · subst ey
    cases (show u = Value.ref b from ry)
    obtain ⟨z, hd, xs, rel, dd⟩ := dt_rd I.hok e
    obtain ⟨w', hw, rw'⟩ := RelO.some_of (v := v) (o := (atKey xs k).map (·.2)) (by rw [l]; exact rel.val k)
    obtain ⟨p, hp, hp2⟩ := Option.map_eq_some_iff.mp hw
    refine wpAny_getItem_heap (tupleKind_room_in1 hu) (key_of I.hok eb) dd hp ?_
    rw [hp2]
    exact h w' _ (I.tok _) rw'
theorem d_in {Q : Value → Shared → Prop} (hu : A.units + 1 < cLine) (I : Inv X pins σ H s) (g : DGet H a y o) (ry : RelV y u) (h : ∀ s', Inv X pins σ H s' → Q (.bool o.isSome) s') :
    wpAny (model X.prog X.w) A (compareOp .In u (.ref a)) Q E s := by
  rcases g with ⟨kvs, k, e, ey, l⟩ | ⟨kvs, k, b, e, ey, eb, l⟩
  · subst ey
    obtain ⟨z, hd, vs, rel, dd⟩ := dk_rd I.hok e
    refine wpAny_in_of (kV_is ry) hd dd.mapOf ?_
    rw [← (rel.val k).isSome_eq, ← l]
    exact h _ (I.tok _)
  · subst ey
    cases (show u = Value.ref b from ry)
    obtain ⟨z, hd, xs, rel, dd⟩ := dt_rd I.hok e
    refine wpAny_in_heap (tupleKind_room_in1 hu) (key_of I.hok eb) hd dd ?_
    have q := (rel.val k).isSome_eq
    rw [Option.isSome_map] at q
    rw [← q, ← l]
    exact h _ (I.tok _)
theorem d_write {h' : Heap} {t' : Nat} {ob : HO} (I : Inv X pins σ H s) (mu : Mut (H a)) (hs : Heap.SameBut a s.heap h') (he : ∃ q, h'.get? a = some q) (new : ObjOk X.prog X.w (upd H a ob) h' a ob) :
    Inv X pins σ (upd H a ob) { s with heap := h', toks := t' } :=
  I.write (x := a) (e := a) mu (.inl rfl) (fun b q hb z => (hs.2 b hb).trans z) he new
theorem dk_new {P : Program} {w : World} {H' : Hp} {h' : Heap} {kvs : List (Key × V)} {vs : List (Key × Value)} (z : kvs.length ≤ sizeLine) (hd : (a == sysModules) = false) (rel : KV kvs vs) (dd : h'.DictOf (mixKind P w) a vs) :
    ObjOk P w H' h' a (.dK kvs) := ⟨z, hd, vs, rel, dd⟩
theorem d_setItem {H' : Hp} {Q : Unit → Shared → Prop} (hu : A.units + 1 < cLine) (I : Inv X pins σ H s) (g : DPut H a y v H') (ry : RelV y u) (rv : RelV v r) (h : ∀ s', Inv X pins σ H' s' → Q () s') :
    wpAny (model X.prog X.w) A (setItem (.ref a) u r) Q E s := by
  rcases g with ⟨kvs, k, e, ey, l, eH⟩ | ⟨kvs, k, b, e, ey, eb, l, eH⟩
  · subst ey eH
    obtain ⟨z, hd, vs, rel, dd⟩ := dk_of I.hok e
    have hz : vs.length ≤ sizeLine := by rw [← rel.length]; exact z
    have hl : (putK kvs k v).length ≤ sizeLine := by have := length_putK kvs k v; omega
    refine wpAny_setItem_pairs (hsz := hz) (kV_is ry) dd fun h' dd' hs => h _ ?_
    have he : ∃ q, h'.get? a = some q := let ⟨q, _, _, hq, _⟩ := dd'; ⟨q, hq⟩
    exact d_write I (by rw [e]; exact True.intro) hs he (dk_new hl hd (rel.put k rv) dd')
  · subst ey eH
    cases (show u = Value.ref b from ry)
    obtain ⟨z, hd, xs, rel, dd⟩ := dt_of I.hok e
    have hz : xs.length ≤ sizeLine := by rw [← Paired.length rel]; exact z
    have hl : (putK kvs k v).length ≤ sizeLine := by have := length_putK kvs k v; omega
    refine wpAny_setItem_heap (hsz := hz) (tupleKind_room_in1 hu) (key_of I.hok eb) dd fun h' dd' hs => h _ ?_
    obtain ⟨q, es, ep, hq, h2, h3, h4, _, h5⟩ := dd'
    refine d_write I (by rw [e]; exact True.intro) hs ⟨q, hq⟩ ⟨hl, hd, _, (rel.put k eb rv).keeps fun c ys ec => ?_, q, es, ep, hq, h2, h3, h4, h5⟩
    rw [upd_ne (ne_of ec e (fun z => nomatch z))]
    exact ec
end
section
variable {X : Cx} {pins : List (Addr × Obj)} {σ : St} {H : Hp} {s : Shared} {a : Addr} {kvs : List (Key × V)} {k : Key} {u : Value} {A : Around} {E : Value → Shared → Prop}
end
def NoSl (i : Expr) : Prop := ∀ ov iv, subscripted i false ov iv = operate [ov, iv] (getItem ov iv)
theorem subD_of {prog : Program} {w : World} {A : Around} {E : Value → Shared → Prop} {s : Shared} {env : Env} {value slice : Expr} {pos : Pos} {T id : String} {Q : Value → Shared → Prop}
    (hl : typeLookup (.type T) "__getitem__" = pure (some (.builtin id))) (hs : NoSl slice)
    (h : wpAny (model prog w) A (eval value env) (fun o s₁ => wpAny (model prog w) A (eval slice env) (fun i s₂ => s₂.TypeIs o T ∧ wpAny (model prog w) A (getItem o i) Q E s₂) E s₁) E s) :
    wpAny (model prog w) A (eval (.Subscript value slice pos) env) Q E s := by
  refine Subscript_ (wpAny_mono h (fun o s₁ h₁ => wpAny_mono h₁ (fun i s₂ h₂ => ?_) fun _ _ x => x) fun _ _ x => x)
  obtain ⟨hT, h₂⟩ := h₂
  unfold subscriptTail
  refine wpAny_bind ?_
  rw [getitemInPython_of_ne hT.not_modules]
  refine wpAny_bind (wpAny_specialOf hT hl ?_)
  have fin : wpAny (model prog w) A (subscripted slice false o i) (fun r s₃ => wpAny (model prog w) A (letTemporaryGo value o r >>= fun _ => pure r) Q E s₃) E s₂ := by
    rw [hs o i]
    exact wpAny_operating (wpAny_mono h₂ (fun r s₃ h₃ => wpAny_bind (wpAny_letTemporaryGo (wpAny_pure h₃))) fun _ _ x => x)
  first
    | exact wpAny_pure (wpAny_bind fin)
    | exact wpAny_bind (wpAny_pure (wpAny_bind fin))
    | exact wpAny_bind fin
theorem dict_typeIs {X : Cx} {pins : List (Addr × Obj)} {σ : St} {H : Hp} {s : Shared} {a : Addr} {y : V} {o : Option V} (I : Inv X pins σ H s) (g : DGet H a y o) : s.TypeIs (.ref a) "dict" := by
  rcases g with ⟨kvs, k, e, _, _⟩ | ⟨kvs, k, b, e, _, _, _⟩
  · obtain ⟨_, _, vs, _, dd⟩ := dk_rd I.hok e
    exact dd.typeIs
  · obtain ⟨_, _, xs, _, dd⟩ := dt_rd I.hok e
    exact dd.typeIs
def tDGet (td ty : TE) : TE := fun σ H Q => td σ H fun x H1 => ty σ H1 fun y H2 => ∃ a v, x = .ref a ∧ DGet H2 a y (some v) ∧ Q v H2
def tDIn (ty td : TE) : TE := fun σ H Q => ty σ H fun y H1 => td σ H1 fun x H2 => ∃ a o, x = .ref a ∧ DGet H2 a y o ∧ Q (.bl o.isSome) H2
def sDPut (td ty tv : TE) : TS := fun D σ H => tv σ H fun v H1 => td σ H1 fun x H2 => ty σ H2 fun y H3 => ∃ a H4, x = .ref a ∧ DPut H3 a y v H4 ∧ D.nx σ H4
section
variable {X : Cx} {o i e value : Expr} {pos pos' tpos : Pos} {td ty tv : TE}
theorem pe_dget (hu : X.A.units + 1 < cLine) (ho : PE X o td) (hi : PE X i ty) (hs : NoSl i) : PE X (.Subscript o i pos) (tDGet td ty) := by
  intro pins s σ H Q I h
  refine subD_of PySem.F.slot_dict_getitem.lookup hs (thn (ho pins s σ H _ I h) fun u s1 ⟨x, H1, I1, rx, q1⟩ => thn (hi pins s1 σ H1 _ I1 q1) fun iv s2 ⟨y, H2, I2, ry, a, v, ex, g, q2⟩ => ?_)
  subst ex
  obtain rfl : u = Value.ref a := rx
  exact ⟨dict_typeIs I2 g, d_getItem hu I2 g ry fun w' s3 I3 rw' => ⟨v, H2, I3, rw', q2⟩⟩
theorem pc_din (hu : X.A.units + 1 < cLine) (hi : PE X i ty) (ho : PE X o td) : PC X .In i o (tDIn ty td) := by
  intro pins s σ H Q I h
  refine thn (hi pins s σ H _ I h) fun iv s1 ⟨y, H1, I1, ry, q1⟩ => thn (ho pins s1 σ H1 _ I1 q1) fun u s2 ⟨x, H2, I2, rx, a, ov, ex, g, q2⟩ => ?_
  subst ex
  obtain rfl : u = Value.ref a := rx
  exact d_in hu I2 g ry fun s3 I3 => ⟨.bl ov.isSome, H2, I3, rfl, q2⟩
theorem ps_dput (hu : X.A.units + 1 < cLine) (ho : PE X o td) (hi : PE X i ty) (hv : PE X value tv) (hs : swapsWith value (some (.Subscript o i pos')) pos.line X.env = pure false) :
    PS X (.Assign [.Subscript o i pos'] value pos) (sDPut td ty tv) := by
  intro pins s σ H D I h
  refine wpAny_Assign_Subscript (thn (hv pins s σ H _ I h) fun r s1 ⟨v, H1, I1, rv, q1⟩ => thn (ho pins s1 σ H1 _ I1 q1) fun u s2 ⟨x, H2, I2, rx, q2⟩ => thn (hi pins s2 σ H2 _ I2 q2) fun iv s3 ⟨y, H3, I3, ry, a, H4, ex, g, q3⟩ => ?_) hs
  subst ex
  obtain rfl : u = Value.ref a := rx
  exact d_setItem hu I3 g ry rv fun s4 I4 => ⟨σ, H4, I4, q3⟩
end
theorem dk_empty {P : Program} {w : World} {H : Hp} (h : Heap) (hb : sysModules < h.objs.size) : ObjOk P w H (h.push { cls := .type "dict", data := .dict #[] }) h.objs.size (.dK []) :=
  ⟨Nat.zero_le _, beq_eq_false_iff_ne.mpr (Ne.symm (Nat.ne_of_lt hb)), [], .nil, Heap.DictOf.new h⟩
def tDNewK : TE := fun _ H Q => ∀ p, H p = none → Q (.ref p) (upd H p (.dK []))
section
variable {X : Cx} {pos : Pos}
theorem pe_dnewK : PE X (.Dict [] [] pos) tDNewK := fun pins s σ H Q I h =>
  wpAny_Dict_empty ⟨.ref s.heap.objs.size, _, I.laid (a := s.heap.objs.size) (o := .dK []) (t' := s.toks) (fun _ _ q => Heap.get?_push_of_some _ q) (Nat.le_refl _) (dk_empty s.heap I.big), rfl, h _ (I.hok.fresh (Nat.le_refl _))⟩
end
def mergeK (kvs more : List (Key × V)) : List (Key × V) := more.foldl (fun acc kv => putK acc kv.1 kv.2) kvs
theorem KV.merge : ∀ {more : List (Key × V)} {rs : List (Key × Value)} {kvs : List (Key × V)} {vs : List (Key × Value)}, KV more rs → KV kvs vs → KV (mergeK kvs more) (merged vs rs) := by
  intro more rs kvs vs r
  unfold KV at r
  induction r generalizing kvs vs with
  | nil => intro q; exact q
  | @cons p q ps qs h t ih =>
    intro r0
    have e : KV (putK kvs p.1 p.2) (stored vs q.1 q.2) := by
      have := r0.put p.1 h.2
      rw [← h.1]; exact this
    exact ih e
theorem length_mergeK : ∀ (more kvs : List (Key × V)), (mergeK kvs more).length ≤ kvs.length + more.length
  | [], kvs => by show kvs.length ≤ kvs.length + 0; omega
  | p :: r, kvs => by
    have h1 := length_mergeK r (putK kvs p.1 p.2)
    have h2 := length_putK kvs p.1 p.2
    show (mergeK (putK kvs p.1 p.2) r).length ≤ _
    rw [List.length_cons]; omega
structure M2 (X : Cx) (o : Expr) (m : Str) (apos : Pos) (e f : Expr) (cpos : Pos) : Prop where
  base : attributeBase o m X.env (eval o X.env) = eval o X.env
  few : ((backTo cpos (starEach [e, f] X.env)).all (fun x => !x.1) && (backToKw cpos (keywordEach [] X.env)).all (fun x => x.1.isSome)
    && decide (([e, f] : List Expr).length + ([] : List Keyword).length + (if ([] : List Keyword).isEmpty then 0 else 1) < 30)) = true
  line : (apos.endLine == cpos.line) = true
  trees : backTo cpos (starEach [e, f] X.env) = [(false, eval e X.env), (false, eval f X.env)]
def IsD (H : Hp) (a : Addr) : Prop := (∃ kvs, Rd H a (.dK kvs)) ∨ ∃ kvs, Rd H a (.dT kvs)
theorem isD_at {X : Cx} {pins : List (Addr × Obj)} {σ : St} {H : Hp} {s : Shared} {a : Addr} (I : Inv X pins σ H s) (d : IsD H a) :
    s.TypeIs (.ref a) "dict" ∧ (∀ b, Value.ref a = .ref b → ∃ ob, s.heap.get? b = some ob ∧ ob.dict = none) ∧ (a == sysModules) = false := by
  rcases d with ⟨kvs, e⟩ | ⟨kvs, e⟩
  · obtain ⟨_, hd, vs, _, dd⟩ := dk_rd I.hok e
    refine ⟨dd.typeIs, fun b q => ?_, hd⟩
    cases q
    obtain ⟨ob, _, _, h1, h2, _⟩ := dd
    exact ⟨ob, h1, h2.2.1⟩
  · obtain ⟨_, hd, xs, _, dd⟩ := dt_rd I.hok e
    refine ⟨dd.typeIs, fun b q => ?_, hd⟩
    cases q
    obtain ⟨ob, _, _, h1, h2, _⟩ := dd
    exact ⟨ob, h1, h2.2.1⟩
section
variable {X : Cx} {pins : List (Addr × Obj)} {σ : St} {H : Hp} {s : Shared} {a : Addr} {y d : V} {u r : Value} {o : Option V} {A : Around} {E : Value → Shared → Prop}
theorem d_get2 {Q : Value → Shared → Prop} (hu : A.units + 1 < cLine) (I : Inv X pins σ H s) (g : DGet H a y o) (ry : RelV y u) (rd : RelV d r) (h : ∀ w' s', Inv X pins σ H s' → RelV (o.getD d) w' → Q w' s') :
    wpAny (model X.prog X.w) A (call (.builtin "dict.get") [.ref a, u, r]) Q E s := by
  rcases g with ⟨kvs, k, e, ey, l⟩ | ⟨kvs, k, b, e, ey, eb, l⟩
  · subst ey
    obtain ⟨z, hd, vs, rel, dd⟩ := dk_rd I.hok e
    refine call_meetsIn PySem.F.slot_dict_get dd.typeIs PySem.F.entry_dict_get (PySem.F.args_dict_get_3 _ _ _) (meets_dict_get_default (mixKind X.prog X.w) a (kV_is ry) hd r) ⟨_, dd.mapOf, h _ _ (I.tok _) ?_⟩
    rw [l]
    exact (rel.val k).getD rd
  · subst ey
    cases (show u = Value.ref b from ry)
    obtain ⟨z, hd, xs, rel, dd⟩ := dt_rd I.hok e
    refine call_meetsIn PySem.F.slot_dict_get dd.typeIs PySem.F.entry_dict_get (PySem.F.args_dict_get_3 _ _ _) (meetsH_dict_get_default (tupleKind (mixKind X.prog X.w)) a b hd r) ⟨tupleKind_room_in1 hu, k, xs, key_of I.hok eb, dd, h _ _ (I.tok _) ?_⟩
    rw [l]
    exact (rel.val k).getD rd
end
def tDGet2 (td ty tx : TE) : TE := fun σ H Q => td σ H fun x H1 => ∃ a, x = .ref a ∧ IsD H1 a ∧ ty σ H1 fun y H2 => tx σ H2 fun z H3 => ∃ o, DGet H3 a y o ∧ Q (o.getD z) H3
section
variable {X : Cx} {o e f : Expr} {apos cpos : Pos} {td ty tx : TE}
theorem pe_dget2 (hu : X.A.units + 1 < cLine) (ho : PE X o td) (he : PE X e ty) (hf : PE X f tx) (m : M2 X o "get" apos e f cpos) : PE X (.Call (.Attribute o "get" apos) [e, f] [] cpos) (tDGet2 td ty tx) := by
  intro pins s σ H Q I h
  refine wpAny_Call_method m.base m.few m.line PySem.F.plainAttrs_dict PySem.F.slot_dict_get PySem.F.type_dict_get (thn (ho pins s σ H _ I h) fun u s1 ⟨x, H1, I1, rx, a, ex, d, q1⟩ => ?_)
  subst ex
  obtain rfl : u = Value.ref a := rx
  obtain ⟨t1, t2, _⟩ := isD_at I1 d
  refine ⟨t1, t2, ?_⟩
  rw [m.trees]
  refine Calls.callWith_builtin rfl (Calls.evalArgs_plain (Calls.spliced_cons (thn (he pins s1 σ H1 _ I1 q1) fun iv s2 ⟨y, H2, I2, ry, q2⟩ =>
    Calls.spliced_cons (thn (hf pins s2 σ H2 _ I2 q2) fun fv s3 ⟨z, H3, I3, rz, ov, g, q3⟩ => Calls.spliced_nil ?_))))
  exact d_get2 hu I3 g ry rz fun w' s4 I4 rw' => ⟨_, H3, I4, rw', q3⟩
end
section
variable {X : Cx} {pins : List (Addr × Obj)} {σ : St} {H : Hp} {s : Shared} {a : Addr} {kvs : List (Key × V)} {A : Around} {E : Value → Shared → Prop}
end
section
variable {X : Cx} {pins : List (Addr × Obj)} {σ : St} {H : Hp} {s : Shared} {a : Addr} {y : V} {u : Value} {A : Around} {E : Value → Shared → Prop}
end
end L2
namespace L2
open PySem PySem.Spec PyProof.Rows
theorem ud_entry : entryFor table "dict.update.loop" = some Builtin.«dict.update.loop» := entryFor_of_tree (by kernel_rfl)
theorem ud_plain : plainId "dict.update.loop" = true := by decide +kernel
section
variable {prog : Program} {w : World} {A : Around} {E : Value → Shared → Prop}
end
section
variable {X : Cx}
end
end L2
namespace L2
open PySem PySem.Spec PyProof.Rows
section
variable {X : Cx} {pins : List (Addr × Obj)} {σ : St} {H : Hp} {s : Shared} {h' : Heap}
theorem Inv.turnedL {t' : Nat} {ch : List Addr} (I : Inv X pins σ H s) (k : ∀ b o, b ∉ ch → s.heap.get? b = some o → h'.get? b = some o) (hf : ∀ b ∈ ch, FpOk X pins H b) : Inv X pins σ H { s with heap := h', toks := t' } := by
  have nit : ∀ b u, H b = some u → b ∉ ch := fun b u e z => by
    have q := (hf b z).1
    rw [q] at e; cases e
  refine I.step (g' := s.gens) (d' := s.drawn) (ch := ch) (fun b hb => ⟨(hf b hb).2.2.2.1, (hf b hb).2.1, (hf b hb).2.2.2.2.1, (hf b hb).2.2.2.2.2⟩) (fun b o _ _ hc e _ => k b o hc e) (fun b o _ _ hc e _ => ⟨o.slots, k b o hc e⟩)
    (fun _ _ _ _ n => n) (fun b o hc e => ⟨o, k b o hc e⟩) (fun _ _ e => e) (fun _ _ _ e => e) (fun b ps e => ⟨#[], by rw [e]; simp⟩) (fun m hm => ?_) (fun b u e => ?_) I.bare
  · obtain ⟨o, es, ep, ho, r⟩ := hm
    exact ⟨o, es, ep, k _ o (fun z => (hf _ z).2.1 rfl) ho, r⟩
  · refine (I.hok b u e).stay (fun c v hc q => k c v ?_ q) (fun _ q => q) fun _ _ q => q
    rcases hc with z | z
    · rw [z]; exact nit b u e
    · exact nit c _ z
theorem Inv.turnedNew {t' : Nat} {ch : List Addr} {T : Addr} {ob : HO} (I : Inv X pins σ H s) (k : ∀ b o, b ∉ ch → s.heap.get? b = some o → h'.get? b = some o) (hf : ∀ b ∈ ch, FpOk X pins H b) (hT : s.heap.objs.size ≤ T)
    (new : ObjOk X.prog X.w (upd H T ob) h' T ob) : Inv X pins σ (upd H T ob) { s with heap := h', toks := t' } := by
  have hn : H T = none := I.hok.fresh hT
  have nit : ∀ b u, H b = some u → b ∉ ch := fun b u e z => by
    have q := (hf b z).1
    rw [q] at e; cases e
  refine I.step (g' := s.gens) (d' := s.drawn) (ch := ch) (fun b hb => ⟨(hf b hb).2.2.2.1, (hf b hb).2.1, (hf b hb).2.2.2.2.1, (hf b hb).2.2.2.2.2⟩) (fun b o _ _ hc e _ => k b o hc e) (fun b o _ _ hc e _ => ⟨o.slots, k b o hc e⟩)
    (fun b o _ e n => ?_) (fun b o hc e => ⟨o, k b o hc e⟩) (fun b xs e => ?_) (fun b o u e => ?_) (fun b ps e => ⟨#[], ?_⟩) (fun m hm => ?_) (fun b u e => ?_) I.bare
  · rw [upd_ne (Nat.ne_of_lt (Nat.lt_of_lt_of_le (Heap.lt_size e) hT))]; exact n
  · rw [upd_ne (ne_of_none e hn)]; exact e
  · rw [upd_ne (ne_of_none e hn)]; exact e
  · rw [upd_ne (ne_of_none e hn), e]; simp
  · obtain ⟨o, es, ep, ho, r⟩ := hm
    exact ⟨o, es, ep, k _ o (fun z => (hf _ z).2.1 rfl) ho, r⟩
  · by_cases hb : b = T
    · subst hb
      rw [upd_same] at e
      cases e
      exact new
    · rw [upd_ne hb] at e
      refine (I.hok b u e).stay (fun c v hc q => k c v ?_ q) (fun c q => by rw [upd_ne (ne_of_none q hn)]; exact q) fun c xs q => by rw [upd_ne (ne_of_none q hn)]; exact q
      rcases hc with z | z
      · rw [z]; exact nit b u e
      · exact nit c _ z
theorem Inv.lock {d : Addr} {u : HO} (I : Inv X pins σ H s) (h : H d = some u) (mu : Mut (some u)) : ∃ od, Inv X pins σ (upd H d (.frz od u)) s := by
  have x := I.hok d u h
  have ex : ∃ od, s.heap.get? d = some od := by
    cases u with
    | lst xs => obtain ⟨_, _, _, _, e⟩ := x; exact ⟨_, e⟩
    | dK kvs => obtain ⟨_, _, _, _, o, _, _, e, _⟩ := x; exact ⟨o, e⟩
    | dT kvs => obtain ⟨_, _, _, _, o, _, _, e, _⟩ := x; exact ⟨o, e⟩
    | set S n => obtain ⟨o, _, _, _, e, _⟩ := x; exact ⟨o, e⟩
    | ins C dx fs => obtain ⟨_, _, _, e, _⟩ := x; exact ⟨_, e⟩
    | ext φ => obtain ⟨_, ⟨_, e⟩, _⟩ := x; exact ⟨_, e⟩
    | _ => exact False.elim mu
  obtain ⟨od, e⟩ := ex
  have new : ObjOk X.prog X.w (upd H d (.frz od u)) s.heap d (.frz od u) := by
    refine ⟨e, x.stay (fun b v _ q => q) (fun b q => ?_) fun b xs q => ?_⟩
    · rw [upd_ne (fun z => by rw [z, h] at q; cases q; exact mu)]; exact q
    · rw [upd_ne (fun z => by rw [z, h] at q; cases q; exact mu)]; exact q
  exact ⟨od, I.write (x := d) (e := d) (t' := s.toks) (h' := s.heap) (by rw [h]; exact mu) (.inl rfl) (fun b v _ q => q) ⟨od, e⟩ new⟩
theorem Inv.nofrz {d : Addr} {u : HO} (I : Inv X pins σ H s) (h : H d = some u) (mu : Mut (some u)) : ∀ o' u', X.H_0 d ≠ some (.frz o' u') := fun o' u' e => by
  have q := I.base.frzs d o' u' e
  rw [h] at q
  cases q
  exact mu
theorem Inv.unlock {d : Addr} {od : Obj} {u : HO} (I : Inv X pins σ H s) (h : H d = some (.frz od u)) (hn : ∀ o' u', X.H_0 d ≠ some (.frz o' u')) : Inv X pins σ (upd H d u) s := by
  have neH : ∀ b o, H b = some o → (∀ o' u', o ≠ .frz o' u') → b ≠ d := fun b o e hne z => by
    rw [z, h] at e
    cases e
    exact hne _ _ rfl
  have neN : ∀ b, H b = none → b ≠ d := fun b e z => by rw [z, h] at e; cases e
  refine ⟨I.ok, I.os, I.bare, ⟨I.base.keep, I.base.slot, fun b o e n hx => ?_, I.base.there, fun b xs e => ?_, fun b o x e => ?_, fun b ps e => ?_⟩, I.loc, I.cell, ?_, fun x c e => ?_, fun p hp => ?_, fun b o e => ?_, I.len⟩
  · rw [upd_ne (neN b (I.base.free b o e n hx))]; exact I.base.free b o e n hx
  · have q := I.base.tups b xs e
    rw [upd_ne (neH b _ q (fun _ _ z => nomatch z))]; exact q
  · have q := I.base.frzs b o x e
    rw [upd_ne (fun z => by rw [z] at e; exact hn _ _ e)]; exact q
  · obtain ⟨m, q⟩ := I.base.tbls b ps e
    exact ⟨m, by rw [upd_ne (neH b _ q (fun _ _ z => nomatch z))]; exact q⟩
  · rw [upd_ne (neN _ I.free)]; exact I.free
  · rw [upd_ne (neN c (I.freeC x c e))]; exact I.freeC x c e
  · obtain ⟨e, n, r⟩ := I.pin p hp
    exact ⟨e, by rw [upd_ne (neN _ n)]; exact n, r⟩
  · by_cases hb : b = d
    · rw [hb, upd_same] at e
      cases e
      rw [hb]
      obtain ⟨_, x⟩ := I.hok d _ h
      exact x.stay (fun c v _ q => q) (fun c q => by rw [upd_ne (neH c _ q (fun _ _ z => nomatch z))]; exact q) fun c xs q => by rw [upd_ne (neH c _ q (fun _ _ z => nomatch z))]; exact q
    · rw [upd_ne hb] at e
      exact (I.hok b o e).stay (fun c v _ q => q) (fun c q => by rw [upd_ne (neH c _ q (fun _ _ z => nomatch z))]; exact q) fun c xs q => by rw [upd_ne (neH c _ q (fun _ _ z => nomatch z))]; exact q
end
def tLock (t : TS) : TS := fun D σ H => ∃ d u, H d = some u ∧ Mut (some u) ∧ ∀ od, t ⟨fun σ' H' => H' d = some (.frz od u) ∧ D.nx σ' (upd H' d u), fun v H' => H' d = some (.frz od u) ∧ D.rt v (upd H' d u), fun σ' H' => H' d = some (.frz od u) ∧ D.bk σ' (upd H' d u), fun σ' H' => H' d = some (.frz od u) ∧ D.ct σ' (upd H' d u)⟩ σ (upd H d (.frz od u))
def tLockE (t : TE) : TE := fun σ H Q => ∃ d u, H d = some u ∧ Mut (some u) ∧ ∀ od, t σ (upd H d (.frz od u)) fun v H' => H' d = some (.frz od u) ∧ Q v (upd H' d u)
section
variable {X : Cx}
theorem ps_lock {st : Stmt} {t : TS} (h : PS X st t) : PS X st (tLock t) := by
  intro pins s σ H D I hw
  obtain ⟨d, u, hd, mu, hw⟩ := hw
  obtain ⟨od, I1⟩ := I.lock hd mu
  refine thn (h pins s σ _ _ I1 (hw od)) fun f s1 q => ?_
  cases f with
  | next => obtain ⟨σ', H', I2, e, q⟩ := q; exact ⟨σ', _, I2.unlock e (I.nofrz hd mu), q⟩
  | brk => obtain ⟨σ', H', I2, e, q⟩ := q; exact ⟨σ', _, I2.unlock e (I.nofrz hd mu), q⟩
  | cont => obtain ⟨σ', H', I2, e, q⟩ := q; exact ⟨σ', _, I2.unlock e (I.nofrz hd mu), q⟩
  | ret v => obtain ⟨x, σ', H', I2, r, e, q⟩ := q; exact ⟨x, σ', _, I2.unlock e (I.nofrz hd mu), r, q⟩
theorem pe_lock {e : Expr} {t : TE} (h : PE X e t) : PE X e (tLockE t) := by
  intro pins s σ H Q I hw
  obtain ⟨d, u, hd, mu, hw⟩ := hw
  obtain ⟨od, I1⟩ := I.lock hd mu
  refine thn (h pins s σ _ _ I1 (hw od)) fun v s1 ⟨x, H1, I2, r, e2, q⟩ => ?_
  exact ⟨x, _, I2.unlock e2 (I.nofrz hd mu), r, q⟩
theorem pi_one {tg : Expr} {pins : List (Addr × Obj)} {σ : St} {H : Hp} {s : Shared} {R : It → Hp → Prop} {J : It} {tn : Nat → Heap → Prop} {tk : Nat} (I : Inv X pins σ H s) (o : Obj)
    (T : Turn X.prog X.w X.K tg J [s.heap.objs.size] s.heap.objs.size tn) (st : tn 0 (s.heap.push o)) (q : R J H) : PIE X pins σ tg R (.ref s.heap.objs.size) { s with heap := s.heap.push o, toks := tk } := by
  refine ⟨s.heap.objs.size, [s.heap.objs.size], tn, J, H, rfl, I.kept fun b ob e => Heap.get?_push_of_some _ e, T, st, fun b hb => ?_, q⟩
  have e : b = s.heap.objs.size := by simpa using hb
  subst e
  exact I.fpOk (Nat.le_refl _) (I.hok.fresh (Nat.le_refl _))
end
section
variable {X : Cx} {tg : Expr}
end
section
variable {X : Cx} {tg : Expr}
end
section
variable {prog : Program} {w : World} {A : Around} {E : Value → Shared → Prop} {s : Shared}
end
theorem kv_get {κ : Type} {kvs : List (κ × V)} {vs : List (κ × Value)} (h : KV kvs vs) : ∀ {i : Nat} {k : κ} {v : V}, kvs[i]? = some (k, v) → ∃ u, vs[i]? = some (k, u) ∧ RelV v u := by
  unfold KV at h
  induction h with
  | nil => intro i k v e; simp at e
  | @cons a b l₁ l₂ r t ih =>
    intro i k v e
    cases i with
    | zero =>
      simp only [List.getElem?_cons_zero, Option.some.injEq] at e
      subst e
      refine ⟨b.2, ?_, r.2⟩
      simp only [List.getElem?_cons_zero]
      exact congrArg some (Prod.ext r.1.symm rfl)
    | succ j =>
      simp only [List.getElem?_cons_succ] at e ⊢
      exact ih e
theorem relV_key {k : Key} {u : Value} (h : keyIs k u = true) : RelV (kV k) u := by
  rcases keyIs_shape h with ⟨i, t, rfl, rfl⟩ | ⟨x, t, rfl, rfl⟩
  · exact ⟨t, rfl⟩
  · exact ⟨t, rfl⟩
section
variable {X : Cx} {pins : List (Addr × Obj)} {σ : St} {H : Hp} {s : Shared} {d : Addr} {o : Obj}
theorem Inv.frzK {kvs : List (Key × V)} (I : Inv X pins σ H s) (h : H d = some (.frz o (.dK kvs))) :
    (d == sysModules) = false ∧ s.heap.get? d = some o ∧ o.ExactDict ∧ ∃ (es : Array DictEntry) (ep : Nat) (vs : List (Key × Value)), o.data = .dict es ep ∧ es.size = kvs.length ∧ KV kvs vs ∧ s.heap.DictAt (mixKind X.prog X.w) d vs ep := by
  obtain ⟨hd, z, hs, vs, kv, o', es, ep, ho, hx, hdt, r⟩ := I.hok d _ h
  rw [hd] at ho
  cases ho
  refine ⟨hs, hd, hx, es, ep, vs, hdt, ?_, kv, o, es, hd, hx, hdt, r⟩
  have l1 := r.2.1.length
  have l2 : kvs.length = vs.length := Paired.length kv
  rw [Array.length_toList] at l1
  omega
end
def Iti (d : Addr) (o : Obj) (kvs : List (Key × V)) : It :=
  ⟨fun i H => H d = some (.frz o (.dK kvs)) ∧ i < kvs.length, fun i H x H' => ∃ T k v, kvs[i]? = some (k, v) ∧ x = .ref T ∧ H T = none ∧ H' = upd H T (.tup [kV k, v]), fun i H => H d = some (.frz o (.dK kvs)) ∧ kvs.length ≤ i⟩
theorem dict_ep {o : Obj} {es es' : Array DictEntry} {ep ep' : Nat} (h : o.data = .dict es ep) (h' : o.data = .dict es' ep') : es' = es ∧ ep' = ep := by
  rw [h] at h'
  cases h'
  exact ⟨rfl, rfl⟩
section
variable {P : Program} {w : World} {K : PySem.W.Frag} {tg : Expr} {d : Addr} {o : Obj} {es : Array DictEntry} {ep : Nat}
theorem turn_items {kvs : List (Key × V)} {elts : List Expr} {kk : Nat} {tpos : Pos} (it : Addr) (hod : o.data = .dict es ep) :
    Turn P w K (.Tuple elts kk tpos) (Iti d o kvs) [it] it (fun i h => ∃ ok ov, IsItemIter h it d i kvs.length ep ok ov) where
  mem := by simp
  obj := fun i h st b hb => by
    have e : b = it := by simpa using hb
    subst e
    obtain ⟨ok, ov, e⟩ := st
    exact ⟨_, e, fun v z => nomatch z⟩
  keep := fun i h h' st k => let ⟨ok, ov, e⟩ := st; ⟨ok, ov, k it (by simp) _ e⟩
  item := by
    intro X hP hw hK hc i pins s σ H E I hf st hg
    subst hP hw hK
    obtain ⟨hd, hi⟩ := hg
    obtain ⟨hs, hgd, hx, es', ep', vs, hdt, hsz, kv, hm⟩ := I.frzK hd
    obtain ⟨rfl, rfl⟩ := dict_ep hod hdt
    obtain ⟨⟨k, v⟩, hkv⟩ : ∃ p, kvs[i]? = some p := ⟨kvs[i], List.getElem?_eq_getElem hi⟩
    obtain ⟨u, hu, ru⟩ := kv_get kv hkv
    have hl : kvs.length = vs.length := Paired.length kv
    obtain ⟨ok, ov, he⟩ := st
    rw [hl] at he
    have hlt : it < s.heap.objs.size := Heap.lt_size he
    refine wpAny_pyNext_items_item he hm hu fun key h' hkey ho hT hz hk => ?_
    refine ⟨_, rfl, wpAny_letOwnedTupleGo_items (s := { s with heap := h' }) ho fun h'' he' sb => ?_⟩
    have hT2 : h''.get? s.heap.objs.size = some { cls := .type "tuple", data := .seq #[key, u] } := (sb.2 _ (Nat.ne_of_gt hlt)).trans hT
    have new : ObjOk X.prog X.w (upd H s.heap.objs.size (.tup [kV k, v])) h'' s.heap.objs.size (.tup [kV k, v]) :=
      ⟨by show 2 ≤ sizeLine; decide, [key, u], .cons (relV_key (show keyIs k key = true from hkey)) (.cons ru .nil), ⟨_, hT2, rfl, _, rfl⟩⟩
    have I1 : Inv X pins σ (upd H s.heap.objs.size (.tup [kV k, v])) { s with heap := h'' } :=
      I.turnedNew (t' := s.toks) (ch := [it]) (fun b ob hb e => (sb.2 b (by simpa using hb)).trans (hk b ob (by simpa using hb) e)) hf (Nat.le_refl _) new
    refine ⟨.ref s.heap.objs.size, _, I1, rfl, ⟨_, k, v, hkv, rfl, I.hok.fresh (Nat.le_refl _), rfl⟩, ⟨key, u, ?_⟩, fun b hb => ?_⟩
    · rw [hl]; exact he'
    · have e : b = it := by simpa using hb
      rw [e, upd_ne (Nat.ne_of_lt hlt)]
      exact (hf it (by simp)).1
  done := by
    intro X hP hw hK hc i pins s σ H E I hf st hg
    subst hP hw hK
    obtain ⟨hd, hi⟩ := hg
    obtain ⟨f0, f1, f2, f3, f4, f5⟩ := hf it (by simp)
    obtain ⟨hs, hgd, hx, es', ep', vs, hdt, hsz, kv, hm⟩ := I.frzK hd
    obtain ⟨rfl, rfl⟩ := dict_ep hod hdt
    have hl : kvs.length = vs.length := Paired.length kv
    obtain ⟨ok, ov, he⟩ := st
    rw [hl] at he
    exact wpAny_pyNext_items_end (I.ok.hd hc) he hm (List.getElem?_eq_none (by omega)) fun h' eb => ⟨rfl, I.turned (t' := s.toks) (fun b ob hb e => eb b ob hb e) f0 f1 f3 f4 f5⟩
  self := fun A i s Q E st h => let ⟨_, _, e⟩ := st; PySem.W.kcp_self e h
end
def iItems (td : TE) : TI := fun σ H R => td σ H fun x H1 => ∃ d o kvs, x = .ref d ∧ H1 d = some (.frz o (.dK kvs)) ∧ R (Iti d o kvs) H1
section
variable {X : Cx} {tg e : Expr} {td : TE} {apos cpos : Pos}
theorem pi_items {elts : List Expr} {kk : Nat} {tpos : Pos} (he : PE X e td) (hbase : attributeBase e "items" X.env (eval e X.env) = eval e X.env := by rfl) (hline : (apos.endLine == cpos.line) = true := by rfl) :
    PI X (.Tuple elts kk tpos) (.Call (.Attribute e "items" apos) [] [] cpos) (iItems td) := by
  intro pins s σ H R I h
  refine wpAny_Call_method (T := "dict") (id := "dict.items") hbase rfl hline F.plainAttrs_dict F.slot_dict_items F.type_dict_items (thn (he pins s σ H _ I h) fun u s1 ⟨x, H1, I1, rx, d, o, kvs, ex, hd, q⟩ => ?_)
  subst ex
  obtain rfl : u = Value.ref d := rx
  obtain ⟨hs, hgd, hx, es, ep, vs, hdt, hsz, kv, hm⟩ := I1.frzK hd
  have hl : kvs.length = vs.length := Paired.length kv
  refine ⟨hm.dictOf.typeIs, hm.dictOf.mapOf.noDict, ?_⟩
  have I2 : Inv X pins σ H1 { s1 with heap := s1.heap.push { cls := .type "dict_items", data := .fields #[.ref d] } } := I1.kept (t' := s1.toks) fun b ob q => Heap.get?_push_of_some _ q
  have fin : wpAny (model X.prog X.w) X.A (pyIter (.ref s1.heap.objs.size)) (PIE X pins σ (.Tuple elts kk tpos) R) X.xe { s1 with heap := s1.heap.push { cls := .type "dict_items", data := .fields #[.ref d] } } := by
    refine wpAny_pyIter_items (d := d) (knd := mixKind X.prog X.w) ⟨_, Heap.get?_push_size _ rfl, rfl, rfl⟩ (hm.push _) (pi_one (tk := s1.toks) I2 _ (turn_items _ hdt) ⟨.none, .none, ?_⟩ q)
    rw [hl]
    exact Heap.get?_push_size _ rfl
  show wpAny _ _ (callWith cpos (.builtin "dict.items") [.ref d] [] []) _ X.xe s1
  exact method_meetsIn F.slot_dict_items F.entry_dict_items rfl (PySem.evalArgs_none ⟨rfl, hm.dictOf.typeIs, F.args_dict_items_1 _, _, meets_dict_items (mixKind X.prog X.w) d hs, ⟨vs, hm.dictOf⟩, fin⟩)
end
def Ite (K : PySem.W.Frag) (a : Addr) : It :=
  ⟨fun i H => ∃ (xs : List V) (x : V), SqL K H a xs ∧ xs[i]? = some x, fun i H v H' => ∃ T x, v = .ref T ∧ H T = none ∧ H' = upd H T (.tup [.int (i : Nat), x]) ∧ ∀ xs, SqL K H a xs → xs[i]? = some x, fun i H => ∃ xs : List V, SqL K H a xs ∧ xs.length ≤ i⟩
theorem turn_enum {P : Program} {w : World} {K : PySem.W.Frag} {elts : List Expr} {kk : Nat} {tpos : Pos} (a e it : Addr) :
    Turn P w K (.Tuple elts kk tpos) (Ite K a) [e, it] e (fun i h => (∃ old, IsEnum h e it ((i : Nat) : Int) old) ∧ h.IsListIter it a i ∧ e ≠ it) where
  mem := by simp
  obj := fun i h st b hb => by
    obtain ⟨⟨old, he⟩, ⟨o, ho, hc, hd⟩, _⟩ := st
    have e' : b = e ∨ b = it := by simpa using hb
    rcases e' with z | z
    · rw [z]; exact ⟨_, he, fun v q => nomatch q⟩
    · rw [z]; exact ⟨o, ho, fun v q => by rw [hd] at q; cases q⟩
  keep := fun i h h' st k => let ⟨⟨old, he⟩, hi, hne⟩ := st; ⟨⟨old, k e (by simp) _ he⟩, hi.at fun o q => k it (by simp) o q, hne⟩
  item := by
    intro X hP hw hK hc i pins s σ H E I hf st hg
    subst hP hw hK
    obtain ⟨⟨old, he⟩, hit, hne⟩ := st
    obtain ⟨xs, x, hq, hx⟩ := hg
    obtain ⟨its, rv, p, hz⟩ := I.list hq
    obtain ⟨u, hu, ru⟩ := rv.get hx
    have hel : e < s.heap.objs.size := Heap.lt_size he
    have hil : it < s.heap.objs.size := by obtain ⟨_, q, _⟩ := hit; exact Heap.lt_size q
    refine wpAny_pyNext_enum_item he hit p.isList (x := u) (by simpa using hu) hne fun h' ho hit' hT hsz hk => ?_
    refine ⟨_, rfl, wpAny_letOwnedTupleGo_enum (s := { s with heap := h', toks := s.toks + 1 }) ho fun h'' he' sb => ?_⟩
    have hT2 : h''.get? s.heap.objs.size = some { cls := .type "tuple", data := .seq #[.int i s.toks, u] } := (sb.2 _ (Nat.ne_of_gt hel)).trans hT
    have new : ObjOk X.prog X.w (upd H s.heap.objs.size (.tup [.int (i : Nat), x])) h'' s.heap.objs.size (.tup [.int (i : Nat), x]) :=
      ⟨by show 2 ≤ sizeLine; decide, [.int i s.toks, u], .cons ⟨_, rfl⟩ (.cons ru .nil), ⟨_, hT2, rfl, _, rfl⟩⟩
    have I1 : Inv X pins σ (upd H s.heap.objs.size (.tup [.int (i : Nat), x])) { s with heap := h'', toks := s.toks + 1 } :=
      I.turnedNew (ch := [e, it]) (fun b ob hb q => (sb.2 b (fun z => hb (by simp [z]))).trans (hk b ob (fun z => hb (by simp [z])) (fun z => hb (by simp [z])) q)) hf (Nat.le_refl _) new
    refine ⟨.ref s.heap.objs.size, _, I1, rfl, ⟨_, x, rfl, I.hok.fresh (Nat.le_refl _), rfl, fun ys hy => by rw [I.list_inj hy hq]; exact hx⟩, ⟨⟨u, ?_⟩, hit'.at fun o q => (sb.2 it (Ne.symm hne)).trans q, hne⟩, fun b hb => ?_⟩
    · have e1 : ((i + 1 : Nat) : Int) = (i : Int) + 1 := by omega
      rw [e1]; exact he'
    · have hb' : b < s.heap.objs.size := by
        have e' : b = e ∨ b = it := by simpa using hb
        rcases e' with z | z
        · rw [z]; exact hel
        · rw [z]; exact hil
      rw [upd_ne (Nat.ne_of_lt hb')]
      exact (hf b hb).1
  done := by
    intro X hP hw hK hc i pins s σ H E I hf st hg
    subst hP hw hK
    obtain ⟨⟨old, he⟩, hit, hne⟩ := st
    obtain ⟨xs, hq, hx⟩ := hg
    obtain ⟨its, rv, p, hz⟩ := I.list hq
    obtain ⟨f0, f1, f2, f3, f4, f5⟩ := hf it (by simp)
    have hl := rv.length
    exact wpAny_pyNext_enum_end (I.ok.hd hc) he hit p.isList (by simp; omega) fun h' eb => ⟨rfl, I.turned (t' := s.toks) (fun b o hb q => eb b o hb q) f0 f1 f3 f4 f5⟩
  self := fun A i s Q E st h => let ⟨⟨_, he⟩, _⟩ := st; wpAny_pyIter_enum he h
def iEnum (K : PySem.W.Frag) (ta : TA) : TI := fun σ H R => ta σ H fun vs H1 => ∃ a xs, vs = [.ref a] ∧ SqL K H1 a xs ∧ R (Ite K a) H1
theorem pi_enum {X : Cx} {e : Expr} {ta : TA} {p pos tpos : Pos} {elts : List Expr} {kk : Nat} (hg : Gl X "enumerate") (hm : X.mg "enumerate" = none) (ha : PA X [e] ta) (hs : starEach [e] X.env = [(false, eval e X.env)] := by rfl) :
    PI X (.Tuple elts kk tpos) (.Call (.Name "enumerate" p) [e] [] pos) (iEnum X.K ta) := by
  intro pins s σ H R I h
  refine Call_ (ld_blt I hg hm boot_enumerate (PyProof.Rows.callWith_type1 (thn (ha pos pins s σ H _ I h) fun us s1 ⟨vs, H1, I1, r1, q1⟩ => ?_) hs rfl))
  obtain ⟨a, xs, ex, hq, q⟩ := q1
  subst ex
  cases r1 with
  | cons r rr =>
    cases rr
    cases r
    obtain ⟨its, rv, p', hz⟩ := I1.list hq
    refine call_enumerate_list p'.isList fun h' he hit hsz hk => wpAny_pyIter_enum he ?_
    have I2 : Inv X pins σ H1 { s1 with heap := h' } := I1.kept (t' := s1.toks) hk
    refine ⟨s1.heap.objs.size + 1, [s1.heap.objs.size + 1, s1.heap.objs.size], _, _, H1, rfl, I2, turn_enum a (s1.heap.objs.size + 1) s1.heap.objs.size, ⟨⟨.none, he⟩, hit, Nat.succ_ne_self _⟩, fun b hb => ?_, q⟩
    have e' : b = s1.heap.objs.size + 1 ∨ b = s1.heap.objs.size := by simpa using hb
    have hle : s1.heap.objs.size ≤ b := by
      rcases e' with z | z
      · rw [z]; exact Nat.le_add_right _ _
      · rw [z]; exact Nat.le_refl _
    exact I1.fpOk hle (I1.hok.fresh hle)
theorem boot_zip5 : bootBuiltins "zip" = some (.type "zip") := by decide +kernel
def Itz (K : PySem.W.Frag) (a b : Addr) : It :=
  ⟨fun i H => ∃ (xs ys : List V) (x y : V), SqL K H a xs ∧ SqL K H b ys ∧ xs[i]? = some x ∧ ys[i]? = some y,
    fun i H v H' => ∃ T x y, v = .ref T ∧ H T = none ∧ H' = upd H T (.tup [x, y]) ∧ (∀ xs, SqL K H a xs → xs[i]? = some x) ∧ ∀ ys, SqL K H b ys → ys[i]? = some y,
    fun i H => ∃ xs ys : List V, SqL K H a xs ∧ SqL K H b ys ∧ (xs.length ≤ i ∨ ys.length ≤ i)⟩
theorem turn_zip {P : Program} {w : World} {K : PySem.W.Frag} {elts : List Expr} {kk : Nat} {tpos : Pos} {a b z TI TO i1 i2 : Addr} (D : ZipApart z TI TO i1 i2 a b) :
    Turn P w K (.Tuple elts kk tpos) (Itz K a b) [z, TI, TO, i1, i2] z (fun i h => IsZip h z TI TO .none ∧ IsPair h TI (.ref i1) (.ref i2) ∧ (∃ x y, IsPair h TO x y) ∧ h.IsListIter i1 a i ∧ h.IsListIter i2 b i) where
  mem := by simp
  obj := fun i h st c hc => by
    obtain ⟨hz, hTI, ⟨x, y, hTO⟩, ⟨o1, e1, _, d1⟩, ⟨o2, e2, _, d2⟩⟩ := st
    have e' : c = z ∨ c = TI ∨ c = TO ∨ c = i1 ∨ c = i2 := by simpa using hc
    rcases e' with q | q | q | q | q
    · rw [q]; exact ⟨_, hz, fun v q => nomatch q⟩
    · rw [q]; exact ⟨_, hTI, fun v q => nomatch q⟩
    · rw [q]; exact ⟨_, hTO, fun v q => nomatch q⟩
    · rw [q]; exact ⟨o1, e1, fun v q => by rw [d1] at q; cases q⟩
    · rw [q]; exact ⟨o2, e2, fun v q => by rw [d2] at q; cases q⟩
  keep := fun i h h' st k => by
    obtain ⟨hz, hTI, ⟨x, y, hTO⟩, h1, h2⟩ := st
    exact ⟨k z (by simp) _ hz, k TI (by simp) _ hTI, ⟨x, y, k TO (by simp) _ hTO⟩, h1.at fun o q => k i1 (by simp) o q, h2.at fun o q => k i2 (by simp) o q⟩
  item := by
    intro X hP hw hK hc i pins s σ H E I hf st hg
    subst hP hw hK
    obtain ⟨hz, hTI, ⟨x0, y0, hTO⟩, h1, h2⟩ := st
    obtain ⟨xs, ys, x, y, hqx, hqy, hx, hy⟩ := hg
    obtain ⟨its, rv, p, _⟩ := I.list hqx
    obtain ⟨its2, rv2, p2, _⟩ := I.list hqy
    obtain ⟨u, hu, ru⟩ := rv.get hx
    obtain ⟨u2, hu2, ru2⟩ := rv2.get hy
    have hzl : z < s.heap.objs.size := Heap.lt_size hz
    refine wpAny_pyNext_zip_item D hz hTI hTO h1 h2 p.isList p2.isList (x := u) (y := u2) (by simpa using hu) (by simpa using hu2) fun h' z' TO' h1' h2' hT hsz hk => ?_
    refine ⟨_, rfl, wpAny_letOwnedTupleGo_zip (s := { s with heap := h' }) z' fun h'' z'' sb => ?_⟩
    have hT2 : h''.get? s.heap.objs.size = some { cls := .type "tuple", data := .seq #[u, u2] } := (sb.2 _ (Nat.ne_of_gt hzl)).trans hT
    have new : ObjOk X.prog X.w (upd H s.heap.objs.size (.tup [x, y])) h'' s.heap.objs.size (.tup [x, y]) :=
      ⟨by show 2 ≤ sizeLine; decide, [u, u2], .cons ru (.cons ru2 .nil), ⟨_, hT2, rfl, _, rfl⟩⟩
    have I1 : Inv X pins σ (upd H s.heap.objs.size (.tup [x, y])) { s with heap := h'' } :=
      I.turnedNew (t' := s.toks) (ch := [z, TI, TO, i1, i2]) (fun c o hb q => (sb.2 c (fun q' => hb (by simp [q']))).trans (hk c o (fun q' => hb (by simp [q'])) (fun q' => hb (by simp [q'])) (fun q' => hb (by simp [q'])) (fun q' => hb (by simp [q'])) q)) hf (Nat.le_refl _) new
    refine ⟨.ref s.heap.objs.size, _, I1, rfl, ⟨_, x, y, rfl, I.hok.fresh (Nat.le_refl _), rfl, fun l hl => by rw [I.list_inj hl hqx]; exact hx, fun l hl => by rw [I.list_inj hl hqy]; exact hy⟩, ⟨z'', ?_, ⟨u, u2, ?_⟩, ?_, ?_⟩, fun c hcm => ?_⟩
    · exact (sb.2 _ D.TIz).trans (hk _ _ D.TIz D.TITO D.TIi1 D.TIi2 hTI)
    · exact (sb.2 _ D.TOz).trans TO'
    · exact h1'.at fun o q => (sb.2 _ D.i1z).trans q
    · exact h2'.at fun o q => (sb.2 _ D.i2z).trans q
    · have hlt : c < s.heap.objs.size := by
        have e' : c = z ∨ c = TI ∨ c = TO ∨ c = i1 ∨ c = i2 := by simpa using hcm
        rcases e' with q | q | q | q | q
        · rw [q]; exact hzl
        · rw [q]; exact Heap.lt_size hTI
        · rw [q]; exact Heap.lt_size hTO
        · rw [q]; obtain ⟨_, e1, _⟩ := h1; exact Heap.lt_size e1
        · rw [q]; obtain ⟨_, e2, _⟩ := h2; exact Heap.lt_size e2
      rw [upd_ne (Nat.ne_of_lt hlt)]
      exact (hf c hcm).1
  done := by
    intro X hP hw hK hc i pins s σ H E I hf st hg
    subst hP hw hK
    obtain ⟨hz, hTI, ⟨x0, y0, hTO⟩, h1, h2⟩ := st
    obtain ⟨xs, ys, hqx, hqy, hend⟩ := hg
    obtain ⟨its, rv, p, _⟩ := I.list hqx
    obtain ⟨its2, rv2, p2, _⟩ := I.list hqy
    have l1 := rv.length
    have l2 := rv2.length
    have he : its.toArray[i]? = none ∨ its2.toArray[i]? = none := by
      rcases hend with q | q
      · exact .inl (by simp; omega)
      · exact .inr (by simp; omega)
    exact wpAny_pyNext_zip_end (I.ok.hd hc) D hz hTI hTO h1 h2 p.isList p2.isList he fun h' hk => ⟨rfl, I.turnedL (t' := s.toks) (ch := [z, TI, TO, i1, i2]) (fun c o hb q =>
      hk c o (fun q' => hb (by simp [q'])) (fun q' => hb (by simp [q'])) (fun q' => hb (by simp [q'])) (fun q' => hb (by simp [q'])) q) hf⟩
  self := fun A i s Q E st h => wpAny_pyIter_zip st.1 h
def iZip (K : PySem.W.Frag) (ta : TA) : TI := fun σ H R => ta σ H fun vs H1 => ∃ a b xs ys, vs = [.ref a, .ref b] ∧ SqL K H1 a xs ∧ SqL K H1 b ys ∧ R (Itz K a b) H1
theorem pi_zip {X : Cx} {e e2 : Expr} {ta : TA} {p pos tpos : Pos} {elts : List Expr} {kk : Nat} (hg : Gl X "zip") (hm : X.mg "zip" = none) (ha : PA X [e, e2] ta)
    (hs : starEach [e, e2] X.env = (false, eval e X.env) :: starEach [e2] X.env := by rfl) (hpl : (backTo pos (starEach [e2] X.env)).any (·.1) = false := by rfl) :
    PI X (.Tuple elts kk tpos) (.Call (.Name "zip" p) [e, e2] [] pos) (iZip X.K ta) := by
  intro pins s σ H R I h
  refine Call_ (ld_blt I hg hm boot_zip5 (PyProof.Rows.callWith_type1 (thn (ha pos pins s σ H _ I h) fun us s1 ⟨vs, H1, I1, r1, q1⟩ => ?_) hs hpl))
  obtain ⟨a, b, xs, ys, ex, hqx, hqy, q⟩ := q1
  subst ex
  cases r1 with
  | cons r rr =>
    cases rr with
    | cons r' rr =>
      cases rr
      cases r
      cases r'
      obtain ⟨its, rv, p1, _⟩ := I1.list hqx
      obtain ⟨its2, rv2, p2, _⟩ := I1.list hqy
      have la : a < s1.heap.objs.size := p1.lt
      have lb : b < s1.heap.objs.size := p2.lt
      refine call_zip_2 p1.isList p2.isList fun h' hz hTI hTO h1 h2 hsz hk => wpAny_pyIter_zip hz ?_
      have I2 : Inv X pins σ H1 { s1 with heap := h' } := I1.kept (t' := s1.toks) hk
      refine ⟨s1.heap.objs.size + 4, [s1.heap.objs.size + 4, s1.heap.objs.size + 2, s1.heap.objs.size + 3, s1.heap.objs.size, s1.heap.objs.size + 1], _, _, H1, rfl, I2, turn_zip (PySem.W.ktu_apart s1.heap.objs.size a b la lb), ⟨hz, hTI, ⟨_, _, hTO⟩, h1, h2⟩, fun c hcm => ?_, q⟩
      have e' : c = s1.heap.objs.size + 4 ∨ c = s1.heap.objs.size + 2 ∨ c = s1.heap.objs.size + 3 ∨ c = s1.heap.objs.size ∨ c = s1.heap.objs.size + 1 := by simpa using hcm
      have hle : s1.heap.objs.size ≤ c := by
        rcases e' with z | z | z | z | z
        · rw [z]; exact Nat.le_add_right _ _
        · rw [z]; exact Nat.le_add_right _ _
        · rw [z]; exact Nat.le_add_right _ _
        · rw [z]; exact Nat.le_refl _
        · rw [z]; exact Nat.le_add_right _ _
      exact I1.fpOk hle (I1.hok.fresh hle)
end L2
section 
namespace Bits
open PySem PyProof.Rows
theorem bitOr_pp {x y : Int} (hx : 0 ≤ x) (hy : 0 ≤ y) : Builtin.bitOr x y = ((x.toNat ||| y.toNat : Nat) : Int) := by
  have e := nat_or_add_and x.toNat y.toNat
  rw [bitOr_and, bitAnd_pp hx hy]
  omega
end Bits
end 
section 
namespace TL
open PySem PySem.Builtin PySem.Builtin.Str PySem.StrLaws
end TL
end 
namespace L2
open PySem PySem.Spec PyProof.Rows
section
variable {X : Cx} {pins : List (Addr × Obj)} {σ : St} {H : Hp} {s : Shared} {Q : VK}
end
section
variable {X : Cx}
end
section
variable {X : Cx} {o e : Expr} {to te : TE}
end
end L2
namespace L2
open PySem PySem.Spec PyProof.Rows
section
variable {X : Cx}
end
end L2
namespace Att
open PySem PySem.W PySem.Calls PyProof.Rows
section
variable {prog : Program} {w : World} {A : Around} {E : Value → Shared → Prop} {s : Shared} {K : Frag}
end
end Att
namespace L2
open PySem PySem.Spec PyProof.Rows
end L2
namespace L2
open PySem PySem.Spec PyProof.Rows
end L2
namespace L2
open PySem PySem.Spec PyProof.Rows
def inClass (s : Stmt) (j : Nat) : Stmt := match s with
  | .ClassDef _ _ _ body _ _ _ _ _ _ _ => body.getD j (.Pass ⟨0, 0, 0, 0⟩)
  | _ => .Pass ⟨0, 0, 0, 0⟩
def defArgs (s : Stmt) : Arguments := match s with
  | .FunctionDef _ a _ _ _ _ _ _ _ _ => a
  | _ => { posonlyargs := [], args := [], vararg := none, kwonlyargs := [], kw_defaults := [], kwarg := none, defaults := [] }
def defBody (s : Stmt) : List Stmt := match s with
  | .FunctionDef _ _ b _ _ _ _ _ _ _ => b
  | _ => []
def defScope (s : Stmt) : Scope := match s with
  | .FunctionDef _ _ _ _ _ _ sc _ _ _ => sc
  | _ => { kind := .function, names := [], isGenerator := false, isCoroutine := false }
abbrev CX0 : CXT := fun _ _ _ _ _ _ => False
abbrev E0 : XK := fun _ _ _ => False
theorem pass0 {X : Cx} : Passes CX0 X E0 := fun _ _ _ _ _ _ _ h => h.elim
structure Fun (K : PySem.W.Frag) (x qual : Str) (st : Stmt) (f : Addr) (fd : FuncData) : Prop where
  ex : ∃ (oc : Value) (od : Option Addr) (kV doc pm : Value) (an : Option Addr) (cdv ct : Value) (osl : Array (Option Value)),
    fd = PySem.W.fnOf x qual (defArgs st) (defBody st) (defScope st) .none kV doc pm an cdv ct ∧ K.lookup f = some ⟨oc, od, .func fd, osl⟩ ∧ PySem.W.codeIn K cdv qual = true
  kp : PySem.W.keepIn K (.ref f) = true
section
variable {P : Program} {w : World} {K : PySem.W.Frag} {mg : Str → Option Value} {base : Heap}
theorem Fun.ok {x qual : Str} {st : Stmt} {f : Addr} {fd : FuncData} {N ps : List Str} {k : Nat} {sp : Sp} (F : Fun K x qual st f fd) (S : FnScope N ps (defScope st)) (len : ∀ vs H Q E, sp vs H Q E → vs.length = ps.length)
    (hbody : ∀ (cdv : Value) (A : Around) (outer : List Env) (s : Shared) (H : Hp) (vs : List V) (Q : VK) (E : XK), Room k (A.deeper (envOfC qual (defScope st) s.heap.objs.size f cdv)) → sp vs H Q E →
      ∃ t, PSs (cxOf CX0 P w K mg base N qual (defScope st) f cdv A outer s H E).nox (defBody st) t ∧ t { nx := fun _ H' => Q .non H', rt := Q } (start N vs) H) : FnOk P w K mg base CX0 (k + 1) f fd ps sp := by
  obtain ⟨oc, od, kV, doc, pm, an, cdv, ct, osl, rfl, lk, hcd⟩ := F.ex
  refine fn_of lk hcd S len fun A outer s H vs Q E hr hsp => ?_
  obtain ⟨t, h, q⟩ := hbody cdv A outer s H vs Q E hr hsp
  exact ⟨t, h.nox, q⟩
theorem Fun.binds {x qual : Str} {st : Stmt} {f : Addr} {fd : FuncData} {ps : List Str} (F : Fun K x qual st f fd)
    (h : ∀ (kV doc pm : Value) (an : Option Addr) (cdv ct : Value) (us : List Value), us.length = ps.length → bindArgs (PySem.W.fnOf x qual (defArgs st) (defBody st) (defScope st) .none kV doc pm an cdv ct) ⟨us, []⟩ = pure (ps.zip us)) : Binds K fd ps [] := by
  obtain ⟨oc, od, kV, doc, pm, an, cdv, ct, osl, rfl, lk, hcd⟩ := F.ex
  exact .all (h kV doc pm an cdv ct)
theorem fun_mk {x qual : Str} {st : Stmt} {f : Addr} {oc : Value} {od an : Option Addr} {osl : Array (Option Value)} {kV doc pm cdv ct : Value} (l : K.lookup f = some ⟨oc, od, .func (PySem.W.fnOf x qual (defArgs st) (defBody st) (defScope st) .none kV doc pm an cdv ct), osl⟩)
    (c : PySem.W.codeIn K cdv qual = true) (k : PySem.W.keepIn K (.ref f) = true) : Fun K x qual st f (PySem.W.fnOf x qual (defArgs st) (defBody st) (defScope st) .none kV doc pm an cdv ct) := ⟨⟨oc, od, kV, doc, pm, an, cdv, ct, osl, rfl, l, c⟩, k⟩
end
theorem hu_of {A : Around} {k : Nat} (hr : Room k A) : A.units + 1 < cLine := Nat.lt_of_le_of_lt (Nat.add_le_add_left (by decide : 1 ≤ 64) _) hr.units
section
variable {X : Cx}
theorem pv (i : Nat) {x : Str} {pos : Pos} (hN : X.N[i]? = some x := by rfl) (hv : Vis X.env.scope x := by first | exact Or.inl rfl | exact Or.inr (Or.inl rfl) | exact Or.inr (Or.inr rfl)) (hd : (x == ("__debug__" : Str)) = false := by decide)
    (hcd : (x == ("__classdict__" : Str)) = false := by decide) : PE X (.Name x pos) (tVar i) := pe_var hN hv hd hcd
end
theorem iteF {A B : Prop} (h : B) : if false = true then A else B := by
  rw [if_neg Bool.false_ne_true]
  exact h
theorem iteT {A B : Prop} (h : A) : if true = true then A else B := by
  rw [if_pos rfl]
  exact h
def Same (H H' : Hp) : Prop := ∀ b o, H b = some o → H' b = some o
theorem Same.refl (H : Hp) : Same H H := fun _ _ h => h
theorem Same.trans {H H1 H2 : Hp} (a : Same H H1) (b : Same H1 H2) : Same H H2 := fun c o h => b c o (a c o h)
theorem Same.free {H H' : Hp} (e : Same H H') {l : Addr} (h : H' l = Option.none) : H l = Option.none := by
  cases q : H l with
  | none => rfl
  | some o =>
    rw [e l o q] at h
    cases h
theorem Same.seq {K : PySem.W.Frag} {H H' : Hp} {a : Addr} {xs : List V} (e : Same H H') (h : SqL K H a xs) : SqL K H' a xs := by
  rcases h with (h | ⟨o, h⟩) | h
  · exact .inl (.inl (e _ _ h))
  · exact .inl (.inr ⟨o, e _ _ h⟩)
  · exact .inr h
section
variable {κ : Type} [DecidableEq κ]
theorem valV_in {kvs : List (κ × V)} {k : κ} {v : V} (h : valV kvs k = some v) : k ∈ kvs.map (·.1) := by
  have q : (kvs.any fun kv => decide (kv.1 = k)) = true := by
    rw [valV_any, h]
    all_goals rfl
  obtain ⟨p, hp, e⟩ := List.any_eq_true.mp q
  exact List.mem_map.mpr ⟨p, hp, of_decide_eq_true e⟩
end
theorem nd_ix {α : Type} {l : List α} (hN : l.Nodup) {i j : Nat} {x : α} (a : l[i]? = some x) (b : l[j]? = some x) : i = j := by
  obtain ⟨h1, e1⟩ := List.getElem?_eq_some_iff.mp a
  obtain ⟨h2, e2⟩ := List.getElem?_eq_some_iff.mp b
  exact (List.getElem_inj hN).mp (e1.trans e2.symm)
theorem Same.made {H H1 : Hp} {x dx C : Addr} (nx : H x = Option.none) (nd : H dx = Option.none) (k : ∀ b o, (upd (upd H dx (.own x)) x (.ins C dx [])) b = some o → b ≠ x → H1 b = some o) : Same H H1 := fun b o e =>
  k b o (by rw [upd_ne (ne_of_none e nx), upd_ne (ne_of_none e nd)]; exact e) (ne_of_none e nx)
end L2
end
section
set_option maxHeartbeats 2000000
namespace L2
open PySem PySem.Spec PyProof.Rows
open PySem.W (WData Codec OpenSpec Well WellAll ReadsW ReadsAllW)
mutual
/-- x stands for the datum d, lists and tuples all the way -/
inductive Dw (K : PySem.W.Frag) (H : Hp) : V → WData → Prop
  | non : Dw K H .non .none
  | bl (b : Bool) : Dw K H (.bl b) (.bool b)
  | int (i : Int) : Dw K H (.int i) (.int i)
  | str (x : Str) : Dw K H (.str x) (.str x)
  | byt (b : Array UInt8) : Dw K H (.byt b) (.bytes b.toList)
  | lst {a : Addr} {xs : List V} {ds : List WData} : SqL K H a xs → DwAll K H xs ds → Dw K H (.ref a) (.list ds)
  | tup {a : Addr} {xs : List V} {ds : List WData} : SqT K H a xs → DwAll K H xs ds → Dw K H (.ref a) (.tuple ds)
inductive DwAll (K : PySem.W.Frag) (H : Hp) : List V → List WData → Prop
  | nil : DwAll K H [] []
  | cons {v : V} {vs : List V} {d : WData} {ds : List WData} : Dw K H v d → DwAll K H vs ds → DwAll K H (v :: vs) (d :: ds)
end
theorem dw_ints {K : PySem.W.Frag} {H : Hp} : ∀ ns : List Int, DwAll K H (ns.map V.int) (ns.map WData.int)
  | [] => .nil
  | n :: r => .cons (.int n) (dw_ints r)
theorem ints_dw {K : PySem.W.Frag} {H : Hp} : ∀ (ns : List Int) (xs : List V), DwAll K H xs (ns.map WData.int) → xs = ns.map V.int
  | [], xs, h => by
    cases h
    rfl
  | n :: r, xs, h => by
    cases h with
    | cons h1 h2 =>
      cases h1
      rw [ints_dw r _ h2] <;> rfl
section
variable {P : Program} {w : World} {K : PySem.W.Frag} {H : Hp} {h : Heap} {R : PySem.W.WRecords} {cl : Str → Option Addr}
theorem sqL_at {a : Addr} {xs : List V} (hok : HOk P w H h) (KX : K.In h) (q : SqL K H a xs) : ∃ (its : List Value) (o : Obj) (n : Nat), Vals xs its ∧ h.get? a = some o ∧ o.cls = .type "list" ∧ o.data = .seq its.toArray n := by
  rcases q with q | ⟨o, its, n, e, hc, _, hd, _, hv⟩
  · obtain ⟨_, its, n, hv, e⟩ := (show ObjOk P w H h a (.lst xs) from q.ok hok)
    exact ⟨its, _, n, hv, e, rfl, rfl⟩
  · exact ⟨its.toList, o, n, hv, KX _ _ e, hc, by simp [hd]⟩
theorem sqT_at {a : Addr} {xs : List V} (hok : HOk P w H h) (KX : K.In h) (q : SqT K H a xs) : ∃ (its : List Value) (o : Obj) (n : Nat), Vals xs its ∧ h.get? a = some o ∧ o.cls = .type "tuple" ∧ o.data = .seq its.toArray n := by
  rcases q with q | ⟨o, its, n, e, hc, hd, _, hv⟩
  · obtain ⟨_, its, hv, o, e, hc, n, hd⟩ := (show ObjOk P w H h a (.tup xs) from q.ok hok)
    exact ⟨its, o, n, hv, e, hc, hd⟩
  · exact ⟨its.toList, o, n, hv, KX _ _ e, hc, by simp [hd]⟩
mutual
theorem Dw.reads (hok : HOk P w H h) (KX : K.In h) : ∀ (d : WData) (v : V) (u : Value), Dw K H v d → RelV v u → ∃ as, ReadsW R cl h u d as
  | .none, _, _, x, r => by
    cases x
    cases r
    exact ⟨_, ReadsW.none⟩
  | .bool b, _, _, x, r => by
    cases x
    cases r
    exact ⟨_, ReadsW.bool b⟩
  | .int i, _, _, x, r => by
    cases x
    obtain ⟨t, rfl⟩ := r
    exact ⟨_, ReadsW.int i t⟩
  | .str s, _, _, x, r => by
    cases x
    obtain ⟨t, rfl⟩ := r
    exact ⟨_, ReadsW.str s t⟩
  | .bytes b, _, _, x, r => by
    cases x
    obtain ⟨t, rfl⟩ := r
    exact ⟨_, ReadsW.bytes _ t⟩
  | .list ds, _, _, x, r => by
    cases x with
    | lst hs ha =>
      cases r
      obtain ⟨its, o, n, rv, ho, hc, hd⟩ := sqL_at hok KX hs
      obtain ⟨as, hr⟩ := Dw.readsAll hok KX ds _ its ha rv
      exact ⟨_, ReadsW.list ho hc hd hr⟩
  | .tuple ds, _, _, x, r => by
    cases x with
    | tup hs ha =>
      cases r
      obtain ⟨its, o, n, rv, ho, hc, hd⟩ := sqT_at hok KX hs
      obtain ⟨as, hr⟩ := Dw.readsAll hok KX ds _ its ha rv
      exact ⟨_, ReadsW.tuple ho hc hd hr⟩
  | .float _, _, _, x, _ => by cases x
  | .dict _, _, _, x, _ => by cases x
  | .bytearray _, _, _, x, _ => by cases x
  | .set _, _, _, x, _ => by cases x
  | .frozenset _, _, _, x, _ => by cases x
  | .obj _ _, _, _, x, _ => by cases x
theorem Dw.readsAll (hok : HOk P w H h) (KX : K.In h) : ∀ (ds : List WData) (vs : List V) (us : List Value), DwAll K H vs ds → Vals vs us → ∃ as, ReadsAllW R cl h us ds as
  | [], _, _, x, r => by
    cases x
    cases r
    exact ⟨_, ReadsAllW.nil⟩
  | d :: ds, _, _, x, r => by
    cases x with
    | cons h1 h2 =>
      cases r with
      | cons r1 r2 =>
        obtain ⟨as, q1⟩ := Dw.reads hok KX d _ _ h1 r1
        obtain ⟨bs, q2⟩ := Dw.readsAll hok KX ds _ _ h2 r2
        exact ⟨_, ReadsAllW.cons q1 q2⟩
end
end
mutual
/-- data that a codec tells -/
def plW : WData → Bool
  | .none => true
  | .bool _ => true
  | .int _ => true
  | .str _ => true
  | .bytes _ => true
  | .list xs => plWs xs
  | .tuple xs => plWs xs
  | _ => false
def plWs : List WData → Bool
  | [] => true
  | x :: r => plW x && plWs r
end
theorem plWs_map {α : Type} {f : α → WData} (h : ∀ a, plW (f a) = true) : ∀ l : List α, plWs (l.map f) = true
  | [] => rfl
  | x :: r => by
    show (plW (f x) && plWs (r.map f)) = true
    rw [h x, plWs_map h r] <;> rfl
theorem pl_enc : ∀ (c : Codec) (a : c.denote), plW (c.enc a) = true
  | .unit, _ => rfl
  | .bool, _ => rfl
  | .int _ _, _ => rfl
  | .nat _ _, _ => rfl
  | .u8, _ => rfl
  | .bytes _ _, _ => rfl
  | .text _ _ _ _, _ => rfl
  | .list _ _ c, a => plWs_map (fun x => pl_enc c x) a
  | .pair c d, a => by
    show (plW (c.enc a.1) && (plW (d.enc a.2) && true)) = true
    rw [pl_enc c a.1, pl_enc d a.2] <;> rfl
  | .triple c d e, a => by
    show (plW (c.enc a.1) && (plW (d.enc a.2.1) && (plW (e.enc a.2.2) && true))) = true
    rw [pl_enc c a.1, pl_enc d a.2.1, pl_enc e a.2.2] <;> rfl
  | .option c, none => rfl
  | .option c, some x => pl_enc c x
theorem pl_encAll : ∀ (cs : List Codec) (a : Codec.denoteAll cs), plWs (Codec.encAll cs a) = true
  | [], _ => rfl
  | c :: cs, a => by
    show (plW (c.enc a.1) && plWs (Codec.encAll cs a.2)) = true
    rw [pl_enc c a.1, pl_encAll cs a.2] <;> rfl
theorem weight_mem : ∀ {xs : List WData} {d : WData}, d ∈ xs → d.weight ≤ WData.weightAll xs
  | [], d, h => absurd h (by simp)
  | x :: r, d, h => by
    show d.weight ≤ x.weight + 1 + WData.weightAll r
    rcases List.mem_cons.mp h with e | m
    · rw [e]
      omega
    · have z := weight_mem m
      omega
def toV : Value → V
  | .none => .non
  | .bool b => .bl b
  | .int i _ => .int i
  | .str x _ => .str x
  | .bytes b _ => .byt b
  | .ref a => .ref a
  | _ => .non
def OkU (A : List Addr) : Value → Prop
  | .none => True
  | .bool _ => True
  | .int _ _ => True
  | .str _ _ => True
  | .bytes _ _ => True
  | .ref a => a ∈ A
  | _ => False
theorem OkU.mono {A B : List Addr} (h : ∀ a ∈ A, a ∈ B) : ∀ {u : Value}, OkU A u → OkU B u := fun {u} x => by
  cases u with
  | ref a => exact h a x
  | none => trivial
  | bool b => trivial
  | int i t => trivial
  | str s t => trivial
  | bytes b t => trivial
  | _ => exact False.elim x
theorem relV_toV {A : List Addr} {u : Value} (x : OkU A u) : RelV (toV u) u := by
  cases u with
  | ref a => rfl
  | none => rfl
  | bool b => rfl
  | int i t => exact ⟨t, rfl⟩
  | str s t => exact ⟨t, rfl⟩
  | bytes b t => exact ⟨t, rfl⟩
  | _ => exact False.elim x
theorem vals_toV {A : List Addr} : ∀ {vs : List Value}, (∀ u ∈ vs, OkU A u) → Vals (vs.map toV) vs
  | [], _ => .nil
  | u :: r, h => .cons (relV_toV (h u (List.mem_cons_self ..))) (vals_toV fun x hx => h x (List.mem_cons_of_mem _ hx))
def ArgOb (h : Heap) (A : List Addr) (a : Addr) : Prop := ∃ vs : List Value, vs.length ≤ sizeLine ∧ (∀ u ∈ vs, OkU A u) ∧
  (h.get? a = some { cls := .type "list", data := .seq vs.toArray } ∨ h.get? a = some { cls := .type "tuple", data := .seq vs.toArray })
theorem ArgOb.mono {h : Heap} {A B : List Addr} {a : Addr} (k : ∀ a ∈ A, a ∈ B) (x : ArgOb h A a) : ArgOb h B a := by
  obtain ⟨vs, h1, h2, h3⟩ := x
  exact ⟨vs, h1, fun u hu => (h2 u hu).mono k, h3⟩
theorem wellAll_len {P : Params} {h : Heap} : ∀ {vs : List Value} {ds : List WData}, WellAll P h vs ds → vs.length = ds.length
  | _, _, .nil => rfl
  | _, _, .cons _ b => by
    show _ + 1 = _ + 1
    rw [wellAll_len b]
theorem well_list {P : Params} {h : Heap} {v : Value} {ds : List WData} (x : Well P h v (.list ds)) : ∃ (a : Addr) (vs : List Value), v = .ref a ∧ h.get? a = some { cls := .type "list", data := .seq vs.toArray } ∧ WellAll P h vs ds := by
  cases x with
  | list ho hall => exact ⟨_, _, rfl, ho, hall⟩
theorem well_tuple {P : Params} {h : Heap} {v : Value} {ds : List WData} (x : Well P h v (.tuple ds)) : ∃ (a : Addr) (vs : List Value), v = .ref a ∧ h.get? a = some { cls := .type "tuple", data := .seq vs.toArray } ∧ WellAll P h vs ds := by
  cases x with
  | tuple ho hall => exact ⟨_, _, rfl, ho, hall⟩
theorem well_cons {P : Params} {h : Heap} {us : List Value} {d : WData} {ds : List WData} (x : WellAll P h us (d :: ds)) : ∃ (v : Value) (vs : List Value), us = v :: vs ∧ Well P h v d ∧ WellAll P h vs ds := by
  cases x with
  | cons a b => exact ⟨_, _, rfl, a, b⟩
theorem line_of {n : Nat} (h : n ≤ 1048576) : n ≤ sizeLine := Nat.le_trans h (by decide)
section
variable {P : Params} {h : Heap}
mutual
theorem area_one : ∀ (d : WData) (v : Value), Well P h v d → plW d = true → d.weight ≤ 1048576 → ∃ A : List Addr, OkU A v ∧ ∀ a ∈ A, ArgOb h A a
  | .none, _, x, _, _ => by
    cases x
    exact ⟨[], trivial, fun a m => absurd m (by simp)⟩
  | .bool b, _, x, _, _ => by
    cases x
    exact ⟨[], trivial, fun a m => absurd m (by simp)⟩
  | .int i, _, x, _, _ => by
    cases x
    exact ⟨[], trivial, fun a m => absurd m (by simp)⟩
  | .str s, _, x, _, _ => by
    cases x
    exact ⟨[], trivial, fun a m => absurd m (by simp)⟩
  | .bytes b, _, x, _, _ => by
    cases x
    exact ⟨[], trivial, fun a m => absurd m (by simp)⟩
  | .list ds, _, x, p, z => by
    obtain ⟨a, vs, rfl, ho, hall⟩ := well_list x
    have z2 : WData.weightAll ds ≤ 1048576 := z
    obtain ⟨A, h1, h2⟩ := area_all ds _ hall p fun d hd => Nat.le_trans (weight_mem hd) z2
    have k : ∀ b ∈ A, b ∈ a :: A := fun b hb => List.mem_cons_of_mem _ hb
    refine ⟨a :: A, List.mem_cons_self .., fun b hb => ?_⟩
    rcases List.mem_cons.mp hb with e | m
    · rw [e]
      exact ⟨vs, line_of (by rw [wellAll_len hall]; exact Nat.le_trans (PySem.W.length_le_weightAllW ds) z2), fun u hu => (h1 u hu).mono k, .inl ho⟩
    · exact (h2 b m).mono k
  | .tuple ds, _, x, p, z => by
    obtain ⟨a, vs, rfl, ho, hall⟩ := well_tuple x
    have z2 : WData.weightAll ds ≤ 1048576 := z
    obtain ⟨A, h1, h2⟩ := area_all ds _ hall p fun d hd => Nat.le_trans (weight_mem hd) z2
    have k : ∀ b ∈ A, b ∈ a :: A := fun b hb => List.mem_cons_of_mem _ hb
    refine ⟨a :: A, List.mem_cons_self .., fun b hb => ?_⟩
    rcases List.mem_cons.mp hb with e | m
    · rw [e]
      exact ⟨vs, line_of (by rw [wellAll_len hall]; exact Nat.le_trans (PySem.W.length_le_weightAllW ds) z2), fun u hu => (h1 u hu).mono k, .inr ho⟩
    · exact (h2 b m).mono k
  | .float _, _, _, p, _ => Bool.noConfusion (show false = true from p)
  | .dict _, _, _, p, _ => Bool.noConfusion (show false = true from p)
  | .bytearray _, _, _, p, _ => Bool.noConfusion (show false = true from p)
  | .set _, _, _, p, _ => Bool.noConfusion (show false = true from p)
  | .frozenset _, _, _, p, _ => Bool.noConfusion (show false = true from p)
  | .obj _ _, _, _, p, _ => Bool.noConfusion (show false = true from p)
theorem area_all : ∀ (ds : List WData) (vs : List Value), WellAll P h vs ds → plWs ds = true → (∀ d ∈ ds, d.weight ≤ 1048576) → ∃ A : List Addr, (∀ u ∈ vs, OkU A u) ∧ ∀ a ∈ A, ArgOb h A a
  | [], _, x, _, _ => by
    cases x
    exact ⟨[], fun u m => absurd m (by simp), fun a m => absurd m (by simp)⟩
  | d :: ds, _, x, p, z => by
    obtain ⟨v, vs, rfl, x1, x2⟩ := well_cons x
    have q : plW d = true ∧ plWs ds = true := Bool.and_eq_true_iff.mp p
    obtain ⟨A, a1, a2⟩ := area_one d v x1 q.1 (z d (List.mem_cons_self ..))
    obtain ⟨B, b1, b2⟩ := area_all ds vs x2 q.2 fun e he => z e (List.mem_cons_of_mem _ he)
    have kA : ∀ b ∈ A, b ∈ A ++ B := fun b hb => List.mem_append.mpr (.inl hb)
    have kB : ∀ b ∈ B, b ∈ A ++ B := fun b hb => List.mem_append.mpr (.inr hb)
    refine ⟨A ++ B, fun u hu => ?_, fun b hb => ?_⟩
    · rcases List.mem_cons.mp hu with e | m
      · rw [e]
        exact a1.mono kA
      · exact (b1 u m).mono kB
    · rcases List.mem_append.mp hb with m | m
      · exact (a2 b m).mono kA
      · exact (b2 b m).mono kB
end
end
def hoOf (o : Obj) : Option HO := match o.data with
  | .seq vs _ => if (o.cls == Value.type "list") = true then some (.frz o (.lst (vs.toList.map toV))) else some (.frz o (.tup (vs.toList.map toV)))
  | _ => none
def argH (K : PySem.W.Frag) (h : Heap) (A : List Addr) : Hp := fun b => if b ∈ A then (if (K.lookup b).isNone = true then (h.get? b).bind hoOf else none) else none
def OnlyF (H : Hp) : Prop := ∀ b, H b = none ∨ ∃ o u, H b = some (.frz o u)
theorem hoOf_lst (vs : List Value) : hoOf { cls := .type "list", data := .seq vs.toArray } = some (.frz { cls := .type "list", data := .seq vs.toArray } (.lst (vs.map toV))) := by
  show (if (Value.type "list" == Value.type "list") = true then some (HO.frz { cls := .type "list", data := .seq vs.toArray } (.lst (vs.toArray.toList.map toV))) else some (HO.frz { cls := .type "list", data := .seq vs.toArray } (.tup (vs.toArray.toList.map toV)))) = _
  rw [if_pos (beq_self_eq_true _)]
theorem hoOf_tup (vs : List Value) : hoOf { cls := .type "tuple", data := .seq vs.toArray } = some (.frz { cls := .type "tuple", data := .seq vs.toArray } (.tup (vs.map toV))) := by
  show (if (Value.type "tuple" == Value.type "list") = true then some (HO.frz { cls := .type "tuple", data := .seq vs.toArray } (.lst (vs.toArray.toList.map toV))) else some (HO.frz { cls := .type "tuple", data := .seq vs.toArray } (.tup (vs.toArray.toList.map toV)))) = _
  rw [if_neg (by decide)]
section
variable {P : Program} {w : World} {K : PySem.W.Frag} {h : Heap} {A : List Addr}
theorem argH_at {b : Addr} {o : Obj} (hb : b ∈ A) (hk : K.lookup b = none) (e : h.get? b = some o) : argH K h A b = hoOf o := by
  unfold argH
  rw [if_pos hb, hk, if_pos (show (none : Option Obj).isNone = true from rfl), e] <;> rfl
theorem of_argH {b : Addr} {u : HO} (q : argH K h A b = some u) : b ∈ A ∧ K.lookup b = none := by
  unfold argH at q
  by_cases hb : b ∈ A
  · rw [if_pos hb] at q
    cases hk : K.lookup b with
    | none => exact ⟨hb, rfl⟩
    | some o =>
      rw [hk, if_neg (by simp)] at q
      cases q
  · rw [if_neg hb] at q
    cases q
theorem argH_is (ar : ∀ a ∈ A, ArgOb h A a) {b : Addr} {u : HO} (q : argH K h A b = some u) : K.lookup b = none ∧ ∃ vs : List Value, vs.length ≤ sizeLine ∧ (∀ u ∈ vs, OkU A u) ∧
    ((h.get? b = some { cls := .type "list", data := .seq vs.toArray } ∧ u = .frz { cls := .type "list", data := .seq vs.toArray } (.lst (vs.map toV))) ∨
     (h.get? b = some { cls := .type "tuple", data := .seq vs.toArray } ∧ u = .frz { cls := .type "tuple", data := .seq vs.toArray } (.tup (vs.map toV)))) := by
  obtain ⟨hb, hk⟩ := of_argH q
  obtain ⟨vs, h1, h2, h3⟩ := ar b hb
  refine ⟨hk, vs, h1, h2, ?_⟩
  rcases h3 with e | e
  · rw [argH_at hb hk e, hoOf_lst] at q
    exact .inl ⟨e, (Option.some.inj q).symm⟩
  · rw [argH_at hb hk e, hoOf_tup] at q
    exact .inr ⟨e, (Option.some.inj q).symm⟩
theorem argH_only (ar : ∀ a ∈ A, ArgOb h A a) : OnlyF (argH K h A) := fun b => by
  cases q : argH K h A b with
  | none => exact .inl rfl
  | some u =>
    obtain ⟨_, vs, _, _, ⟨_, e⟩ | ⟨_, e⟩⟩ := argH_is ar q
    · exact .inr ⟨_, _, by rw [e]⟩
    · exact .inr ⟨_, _, by rw [e]⟩
theorem argH_ok (ar : ∀ a ∈ A, ArgOb h A a) : HOk P w (argH K h A) h := fun b u q => by
  obtain ⟨_, vs, h1, h2, ⟨e, rfl⟩ | ⟨e, rfl⟩⟩ := argH_is ar q
  · exact ⟨e, by rw [List.length_map]; exact h1, vs, _, vals_toV h2, e⟩
  · exact ⟨e, by rw [List.length_map]; exact h1, vs, vals_toV h2, _, e, rfl, _, rfl⟩
theorem seq_inj {c c' : Value} {vs us : List Value} (e : (some { cls := c, data := .seq vs.toArray } : Option Obj) = some { cls := c', data := .seq us.toArray }) : c = c' ∧ vs = us := by
  have e1 := Option.some.inj e
  have e2 : c = c' := congrArg Obj.cls e1
  have e3 : Data.seq vs.toArray = Data.seq us.toArray := congrArg Obj.data e1
  injection e3 with e4
  refine ⟨e2, ?_⟩
  have e5 := congrArg Array.toList e4
  simpa using e5
theorem argL (KX : K.In h) (ar : ∀ a ∈ A, ArgOb h A a) {a : Addr} {vs : List Value} (ha : a ∈ A) (e : h.get? a = some { cls := .type "list", data := .seq vs.toArray }) : (∀ u ∈ vs, OkU A u) ∧ SqL K (argH K h A) a (vs.map toV) := by
  obtain ⟨us, h1, h2, h3⟩ := ar a ha
  have hu : us = vs := by
    rcases h3 with q | q
    · rw [e] at q
      exact (seq_inj q).2.symm
    · rw [e] at q
      exact absurd (Value.type.inj (seq_inj q).1) (by decide)
  subst hu
  refine ⟨h2, ?_⟩
  cases hk : K.lookup a with
  | none => exact .inl (.inr ⟨_, by rw [argH_at ha hk e, hoOf_lst]⟩)
  | some o =>
    have e2 := KX a o hk
    rw [e] at e2
    obtain rfl := Option.some.inj e2
    exact .inr ⟨_, us.toArray, _, hk, rfl, rfl, rfl, by rw [List.size_toArray]; exact h1, by simpa using vals_toV h2⟩
theorem argT (KX : K.In h) (ar : ∀ a ∈ A, ArgOb h A a) {a : Addr} {vs : List Value} (ha : a ∈ A) (e : h.get? a = some { cls := .type "tuple", data := .seq vs.toArray }) : (∀ u ∈ vs, OkU A u) ∧ SqT K (argH K h A) a (vs.map toV) := by
  obtain ⟨us, h1, h2, h3⟩ := ar a ha
  have hu : us = vs := by
    rcases h3 with q | q
    · rw [e] at q
      exact absurd (Value.type.inj (seq_inj q).1) (by decide)
    · rw [e] at q
      exact (seq_inj q).2.symm
  subst hu
  refine ⟨h2, ?_⟩
  cases hk : K.lookup a with
  | none => exact .inl (.inr ⟨_, by rw [argH_at ha hk e, hoOf_tup]⟩)
  | some o =>
    have e2 := KX a o hk
    rw [e] at e2
    obtain rfl := Option.some.inj e2
    exact .inr ⟨_, us.toArray, _, hk, rfl, rfl, by rw [List.size_toArray]; exact h1, by simpa using vals_toV h2⟩
mutual
theorem dw_one {Pm : Params} (KX : K.In h) (ar : ∀ a ∈ A, ArgOb h A a) : ∀ (d : WData) (v : Value), Well Pm h v d → plW d = true → OkU A v → Dw K (argH K h A) (toV v) d
  | .none, _, x, _, _ => by
    cases x
    exact .non
  | .bool b, _, x, _, _ => by
    cases x
    exact .bl b
  | .int i, _, x, _, _ => by
    cases x
    exact .int i
  | .str s, _, x, _, _ => by
    cases x
    exact .str s
  | .bytes b, _, x, _, _ => by
    cases x
    have z := Dw.byt (K := K) (H := argH K h A) b.toArray
    exact z
  | .list ds, _, x, p, hu => by
    obtain ⟨a, vs, rfl, ho, hall⟩ := well_list x
    obtain ⟨h2, hs⟩ := argL KX ar hu ho
    exact .lst hs (dw_all KX ar ds _ hall p h2)
  | .tuple ds, _, x, p, hu => by
    obtain ⟨a, vs, rfl, ho, hall⟩ := well_tuple x
    obtain ⟨h2, hs⟩ := argT KX ar hu ho
    exact .tup hs (dw_all KX ar ds _ hall p h2)
  | .float _, _, _, p, _ => Bool.noConfusion (show false = true from p)
  | .dict _, _, _, p, _ => Bool.noConfusion (show false = true from p)
  | .bytearray _, _, _, p, _ => Bool.noConfusion (show false = true from p)
  | .set _, _, _, p, _ => Bool.noConfusion (show false = true from p)
  | .frozenset _, _, _, p, _ => Bool.noConfusion (show false = true from p)
  | .obj _ _, _, _, p, _ => Bool.noConfusion (show false = true from p)
theorem dw_all {Pm : Params} (KX : K.In h) (ar : ∀ a ∈ A, ArgOb h A a) : ∀ (ds : List WData) (vs : List Value), WellAll Pm h vs ds → plWs ds = true → (∀ u ∈ vs, OkU A u) → DwAll K (argH K h A) (vs.map toV) ds
  | [], _, x, _, _ => by
    cases x
    exact .nil
  | d :: ds, _, x, p, hu => by
    obtain ⟨v, vs, rfl, x1, x2⟩ := well_cons x
    have q : plW d = true ∧ plWs ds = true := Bool.and_eq_true_iff.mp p
    exact .cons (dw_one KX ar d v x1 q.1 (hu _ (List.mem_cons_self ..))) (dw_all KX ar ds vs x2 q.2 fun u m => hu u (List.mem_cons_of_mem _ m))
end
end
theorem spec_call {P : Program} {w : World} {K : PySem.W.Frag} {mg mb : Str → Option Value} {CX : CXT} {k : Nat} {fa : Addr} {fd : FuncData} {ps : List Str} {sp : Sp} {s₁ : Shared} {vals : List Value} {ds : List WData} {R : PySem.W.WRecords} {cl : Str → Option Addr} {d0 : WData}
    (KX : K.In s₁.heap) (hns : s₁.heap.Ns mainGlobals mg) (hb : s₁.heap.Ns builtinsNs mb) (hbb : ∀ x : Str, x ≠ "__name__" → mb x = bootBuiltins x) (hlim : s₁.heap.NoLimit) (hg : s₁.gens = #[])
    (hwl : WellAll w.params s₁.heap vals ds) (hpl : plWs ds = true) (hwt : ∀ d ∈ ds, d.weight ≤ 1048576) (hr : Room k callerA)
    (F : ∀ base : Heap, K.In base → base.Ns mainGlobals mg → FnOk P w K mg base CX k fa fd ps sp) (hbind : ∀ (s : Shared) (us : List Value), us.length = ps.length → BindsTo s fd ⟨us, []⟩ (ps.zip us)) (hlen : ds.length = ps.length)
    (hsp : ∀ (H : Hp) (xs : List V), OnlyF H → DwAll K H xs ds → sp xs H (fun v H' => Dw K H' v d0) fun _ _ _ => False)
    (hCX : ∀ H e s', CX [] H s₁ (fun _ _ _ => False) e s' → False) :
    codeAny (model P w) callerA (.call (.ref fa) ⟨vals, []⟩) (fun r s' => ∃ u as, r = .ok (.ret u) ∧ ReadsW R cl s'.heap u d0 as ∧ OldK s₁.heap s'.heap ∧ s'.os = s₁.os ∧ AllBare s'.gens) s₁ := by
  obtain ⟨A, ho, ar⟩ := area_all ds vals hwl hpl hwt
  have hO : OnlyF (argH K s₁.heap A) := argH_only ar
  have hok : HOk P w (argH K s₁.heap A) s₁.heap := argH_ok ar
  have hS := dw_all KX ar ds vals hwl hpl ho
  have hV := vals_toV ho
  have hK : ∀ b u, argH K s₁.heap A b = some u → K.lookup b = none := fun b u q => (argH_is ar q).1
  have noA : ∀ {b : Addr} {o : Obj} {es : Array DictEntry} {ep : Nat}, s₁.heap.get? b = some o → o.data = .dict es ep → argH K s₁.heap A b = none := fun {b o es ep} e d => by
    cases q : argH K s₁.heap A b with
    | none => rfl
    | some u =>
      obtain ⟨_, vs, _, _, ⟨e2, _⟩ | ⟨e2, _⟩⟩ := argH_is ar q
      · rw [e2] at e
        cases e
        have d' : Data.seq vs.toArray _ = Data.dict es ep := d
        cases d'
      · rw [e2] at e
        cases e
        have d' : Data.seq vs.toArray _ = Data.dict es ep := d
        cases d'
  generalize argH K s₁.heap A = H at hO hok hS hK noA
  have base_of : ∀ {b : Addr} {o : Obj}, s₁.heap.get? b = some o → H b = none → (hidT s₁.heap H).get? b = some o := fun e n => hidT_get e n
  have nsK : ∀ {b : Addr} {m : Str → Option Value}, s₁.heap.Ns b m → (hidT s₁.heap H).Ns b m := fun {b m} ⟨o, es, ep, e, d, r⟩ => ⟨o, es, ep, base_of e (noA e d), d, r⟩
  have nK : ∀ b o, K.lookup b = some o → H b = none := fun b o e => by
    cases q : H b with
    | none => rfl
    | some u =>
      rw [hK b u q] at e
      cases e
  have hKb : K.In (hidT s₁.heap H) := fun b o e => base_of (KX b o e) (nK b o e)
  have hM : Mod K mg (hidT s₁.heap H) := ⟨hKb, nsK hns, ⟨mb, nsK hb, hbb⟩, let ⟨mc, h1, h2⟩ := hlim; ⟨mc, nsK h1, h2⟩⟩
  have e0 : Env0 P w K mg (hidT s₁.heap H) callerA [] s₁ H := ⟨rfl, hM, fun b o e => of_hidT e, Nat.le_of_eq (hidT_size _ _), trivial, fun b hb => absurd (show b ∈ ([] : List Addr) from hb) (by simp), hok, .of_eq hg⟩
  have hl : vals.length = ps.length := by rw [wellAll_len hwl]; exact hlen
  refine codeAny_mono ((F _ hKb (nsK hns)).run callerA [] s₁ H ⟨vals, []⟩ vals (vals.map toV) _ _ hr e0 (hbind s₁ vals hl) hV (hsp H _ hO hS)) fun r s' x => ?_
  cases r with
  | error e => exact (hCX H e s' x).elim
  | ok fl =>
    cases fl with
    | next => exact False.elim x
    | brk => exact False.elim x
    | cont => exact False.elim x
    | ret u =>
      obtain ⟨v, H', os, bare, un, hok', r', q⟩ := x
      have kept : ∀ b o, s₁.heap.get? b = some o → s'.heap.get? b = some o := fun b o e => by
        cases q2 : H b with
        | none => exact un.keep b o e q2 (by intro z; exact absurd (show b ∈ ([] : List Addr) from z) (by simp)) (by simp)
        | some u2 =>
          rcases hO b with z | ⟨ob, u3, z⟩
          · rw [q2] at z
            cases z
          · have z2 := un.frzs b ob _ z
            obtain ⟨e1, _⟩ := hok b _ z
            obtain ⟨e2, _⟩ := hok' b _ z2
            rw [e] at e1
            cases e1
            exact e2
      have KX' : K.In s'.heap := fun b o e => kept b o (KX b o e)
      obtain ⟨as, hrd⟩ := Dw.reads (R := R) (cl := cl) hok' KX' d0 v u q r'
      exact ⟨u, as, rfl, hrd, OldK.of_keep kept, os, bare⟩
theorem layable_weight {ds : List WData} (h : WData.layableAll ds = true) : ∀ d ∈ ds, d.weight ≤ 1048576 := fun d hd =>
  (PySem.W.layableW_iff.mp (List.all_eq_true.mp h d hd)).2.2
theorem encAll_len : ∀ (cs : List Codec) (a : Codec.denoteAll cs), (Codec.encAll cs a).length = cs.length
  | [], _ => rfl
  | c :: cs, a => by
    show (Codec.encAll cs a.2).length + 1 = cs.length + 1
    rw [encAll_len cs a.2]
theorem walk_spec {r : OpenSpec} {k : Nat} {q : Program} {loose : List Str} {XP : (Str → Option Value) → Heap → Prop} {YP : World → Heap → Prop} {d : DefRec} {K : Params → PySem.W.Frag} {CX : World → CXT} {ps : List Str} {sp : World → Sp}
    (hwell : r.wellSaid = true) (hdf : d.params.defaults = []) (hlen : r.args.length = ps.length) (hr : Room k callerA)
    (hY : ∀ (w : World) (h : Heap), YP w h → (K w.params).In h)
    (F : ∀ (w : World) (mg : Str → Option Value) (fa : Addr) (h : Heap), YP w h → (K w.params).In h → h.Ns mainGlobals mg → mg d.name = some (.ref fa) →
      ∃ fd : FuncData, (∀ (s : Shared) (us : List Value), us.length = ps.length → BindsTo s fd ⟨us, []⟩ (ps.zip us)) ∧
        ∀ base : Heap, (K w.params).In base → base.Ns mainGlobals mg → FnOk r.prog w (K w.params) mg base (CX w) k fa fd ps (sp w))
    (hsp : ∀ (w : World) (H : Hp) (xs : List V) (a : Codec.denoteAll r.args), OnlyF H → Codec.withinAll r.args a = true → Codec.app r.args r.asked a = true → DwAll (K w.params) H xs (Codec.encAll r.args a) →
      sp w xs H (fun v H' => Dw (K w.params) H' v (r.ret.enc (Codec.app r.args r.f a))) fun _ _ _ => False)
    (hCX : ∀ (w : World) (H : Hp) (s : Shared) (e : Value) (s' : Shared), CX w [] H s (fun _ _ _ => False) e s' → False) :
    PySem.W.WalkOS q loose XP YP r d [] (fun f vs => PySem.call f vs) := by
  intro w s_0 s₁ mg mb G Y fa o pm cd doc dV kV ho hd hcd hD hmg hg args vals as hpre hlay hrd hwl hlo
  obtain ⟨a, e1, e2⟩ := PySem.W.os_pre_some hpre
  obtain ⟨e3, hwi⟩ := Codec.encAll_of_decAll r.args args a e1
  subst e3
  have KX := hY w _ Y
  obtain ⟨fd, hb, hF⟩ := F w mg fa _ Y KX G.T.g hmg
  refine PySem.W.enter_call (codeAny_mono (spec_call (R := []) (cl := classAt s_0.heap) (d0 := r.ret.enc (Codec.app r.args r.f a)) KX G.T.g G.T.b G.T.builtins G.T.nolimit hg hwl (pl_encAll _ _) (layable_weight hlay) hr hF hb (by rw [encAll_len]; exact hlen)
    (fun H xs hO hS => hsp w H xs a hO hwi e2 hS) fun H e s' => hCX w H s₁ e s') fun r' s' hq => ?_)
  obtain ⟨u, as', rfl, h1, h2, h3, h4⟩ := hq
  exact ⟨.inl ⟨u, _, as', rfl, fun _ => rfl, h1, (OpenSpec.post_iff hwell hwi _ _).mpr rfl, fun z => Bool.noConfusion (show false = true from z)⟩, h2, h3, h4⟩
theorem walk_specK {r : OpenSpec} {k : Nat} {q : Program} {loose : List Str} {XP : (Str → Option Value) → Heap → Prop} {YP : World → Heap → Prop} {d : DefRec} {K : Params → PySem.W.Frag} {CX : CXT} {ps : List Str} {sp : PySem.W.Frag → Sp}
    (hwell : r.wellSaid = true) (hdf : d.params.defaults = []) (hlen : r.args.length = ps.length) (hr : Room k callerA)
    (hY : ∀ (w : World) (h : Heap), YP w h → (K w.params).In h)
    (F : ∀ (w : World) (mg : Str → Option Value) (fa : Addr) (h : Heap), YP w h → (K w.params).In h → h.Ns mainGlobals mg → mg d.name = some (.ref fa) →
      ∃ fd : FuncData, (∀ (s : Shared) (us : List Value), us.length = ps.length → BindsTo s fd ⟨us, []⟩ (ps.zip us)) ∧
        ∀ base : Heap, (K w.params).In base → base.Ns mainGlobals mg → FnOk r.prog w (K w.params) mg base CX k fa fd ps (sp (K w.params)))
    (hsp : ∀ (K : PySem.W.Frag) (H : Hp) (xs : List V) (a : Codec.denoteAll r.args), OnlyF H → Codec.withinAll r.args a = true → Codec.app r.args r.asked a = true → DwAll K H xs (Codec.encAll r.args a) →
      sp K xs H (fun v H' => Dw K H' v (r.ret.enc (Codec.app r.args r.f a))) fun _ _ _ => False)
    (hCX : ∀ (H : Hp) (s : Shared) (e : Value) (s' : Shared), CX [] H s (fun _ _ _ => False) e s' → False) :
    PySem.W.WalkOS q loose XP YP r d [] (fun f vs => PySem.call f vs) :=
  walk_spec (K := K) (CX := fun _ => CX) (sp := fun w => sp (K w.params)) hwell hdf hlen hr hY F (fun w H xs a h1 h2 h3 h4 => hsp (K w.params) H xs a h1 h2 h3 h4) fun _ H s e s' => hCX H s e s'
end L2
end
section
namespace JM
def S : Nat → (Nat → Rat) → Rat
  | 0, _ => 0
  | n + 1, f => S n f + f n
theorem S_congr (n : Nat) (f g : Nat → Rat) (h : ∀ i, i < n → f i = g i) : S n f = S n g := by
  induction n with
  | zero => rfl
  | succ n ih => simp only [S]; rw [ih (fun i hi => h i (by omega)), h n (by omega)]
theorem S_zero (n : Nat) (f : Nat → Rat) (h : ∀ i, i < n → f i = 0) : S n f = 0 := by
  induction n with
  | zero => rfl
  | succ n ih => simp only [S]; rw [ih (fun i hi => h i (by omega)), h n (by omega)]; grind
theorem S_add (n : Nat) (f g : Nat → Rat) : S n (fun i => f i + g i) = S n f + S n g := by
  induction n with
  | zero => simp only [S]; grind
  | succ n ih => simp only [S]; rw [ih]; grind
theorem S_sub (n : Nat) (f g : Nat → Rat) : S n (fun i => f i - g i) = S n f - S n g := by
  induction n with
  | zero => simp only [S]; grind
  | succ n ih => simp only [S]; rw [ih]; grind
theorem S_mul (n : Nat) (c : Rat) (f : Nat → Rat) : S n (fun i => c * f i) = c * S n f := by
  induction n with
  | zero => simp only [S]; grind
  | succ n ih => simp only [S]; rw [ih]; grind
theorem S_mul' (n : Nat) (c : Rat) (f : Nat → Rat) : S n (fun i => f i * c) = S n f * c := by
  induction n with
  | zero => simp only [S]; grind
  | succ n ih => simp only [S]; rw [ih]; grind
theorem S_swap (n m : Nat) (f : Nat → Nat → Rat) : S n (fun i => S m (fun j => f i j)) = S m (fun j => S n (fun i => f i j)) := by
  induction n with
  | zero => simp only [S]; rw [S_zero]; intro i _; rfl
  | succ n ih => simp only [S]; rw [ih, ← S_add]
theorem S_nonneg (n : Nat) (f : Nat → Rat) (h : ∀ i, i < n → 0 ≤ f i) : 0 ≤ S n f := by
  induction n with
  | zero => simp only [S]; grind
  | succ n ih =>
    have h1 := ih (fun i hi => h i (by omega))
    have h2 := h n (by omega)
    simp only [S]; grind
theorem S_nonpos (n : Nat) (f : Nat → Rat) (h : ∀ i, i < n → f i ≤ 0) : S n f ≤ 0 := by
  induction n with
  | zero => simp only [S]; grind
  | succ n ih =>
    have h1 := ih (fun i hi => h i (by omega))
    have h2 := h n (by omega)
    simp only [S]; grind
theorem S_single (n k : Nat) (f : Nat → Rat) (hk : k < n) (h : ∀ i, i < n → i ≠ k → f i = 0) : S n f = f k := by
  induction n with
  | zero => omega
  | succ n ih =>
    simp only [S]
    by_cases hn : k = n
    · subst hn
      rw [S_zero k f (fun i hi => h i (by omega) (by omega))]; grind
    · rw [ih (by omega) (fun i hi hne => h i (by omega) hne), h n (by omega) (by omega)]; grind
theorem S_pos (n : Nat) (f : Nat → Rat) (h : 0 < S n f) : ∃ i, i < n ∧ 0 < f i := by
  induction n with
  | zero => simp only [S] at h; grind
  | succ n ih =>
    simp only [S] at h
    by_cases h1 : 0 < f n
    · exact ⟨n, by omega, h1⟩
    · obtain ⟨i, hi, hp⟩ := ih (by grind)
      exact ⟨i, by omega, hp⟩
theorem S_neg (n : Nat) (f : Nat → Rat) (h : S n f < 0) : ∃ i, i < n ∧ f i < 0 := by
  induction n with
  | zero => simp only [S] at h; grind
  | succ n ih =>
    simp only [S] at h
    by_cases h1 : f n < 0
    · exact ⟨n, by omega, h1⟩
    · obtain ⟨i, hi, hp⟩ := ih (by grind)
      exact ⟨i, by omega, hp⟩
theorem S_all_zero (n : Nat) (f : Nat → Rat) (h : ∀ i, i < n → 0 ≤ f i) (hs : S n f ≤ 0) : ∀ i, i < n → f i = 0 := by
  induction n with
  | zero => intro i hi; omega
  | succ n ih =>
    have h1 := S_nonneg n f (fun i hi => h i (by omega))
    have h2 := h n (by omega)
    simp only [S] at hs
    intro i hi
    by_cases hin : i = n
    · subst hin; grind
    · exact ih (fun i hi => h i (by omega)) (by grind) i (by omega)
theorem S_pick (n k : Nat) (c : Rat) (hk : k < n) : S n (fun j => if j = k then c else 0) = c := by
  rw [S_single n k _ hk (by intro i _ hne; simp [hne])]; simp
theorem S_pick_mul (n k : Nat) (f : Nat → Rat) (c : Rat) (hk : k < n) : S n (fun j => f j * (if k = j then c else 0)) = f k * c := by
  rw [S_single n k _ hk (by intro i _ hne; have : ¬ k = i := fun h => hne h.symm
                            simp only [this, if_false]; grind)]; simp
end JM
end
section
namespace JM
structure Tab where
  T : Nat → Nat → Rat
  b : Nat → Rat
  base : Nat → Nat
structure Inv (m n : Nat) (A : Tab) : Prop where
  nonneg : ∀ i, i < m → 0 ≤ A.b i
  unit : ∀ k, k < m → A.base k < n → ∀ i, i < m → A.T i (A.base k) = if i = k then 1 else 0
  art : ∀ i, i < m → n ≤ A.base i → A.base i = n + i
def z (m n : Nat) (A : Tab) (j : Nat) : Rat := S m (fun i => if n ≤ A.base i then A.T i j else 0)
def w (m n : Nat) (A : Tab) : Rat := S m (fun i => if n ≤ A.base i then A.b i else 0)
structure Piv (m n : Nat) (A A' : Tab) (s p : Nat) : Prop where
  hs : s < n
  hp : p < m
  pos : 0 < z m n A s
  least : ∀ j, j < s → z m n A j ≤ 0
  piv : 0 < A.T p s
  leave : ∀ i, i < m → 0 < A.T i s → A.b p / A.T p s < A.b i / A.T i s ∨ (A.b p / A.T p s = A.b i / A.T i s ∧ A.base p ≤ A.base i)
  basep : A'.base p = s
  basei : ∀ i, i < m → i ≠ p → A'.base i = A.base i
  Tp : ∀ j, j < n → A'.T p j = A.T p j / A.T p s
  Ti : ∀ i, i < m → i ≠ p → ∀ j, j < n → A'.T i j = A.T i j - A.T i s * (A.T p j / A.T p s)
  bp : A'.b p = A.b p / A.T p s
  bi : ∀ i, i < m → i ≠ p → A'.b i = A.b i - A.T i s * (A.b p / A.T p s)
theorem div_mul_self (a c : Rat) (h : 0 < c) : a / c * c = a := by
  have : c ≠ 0 := by grind
  grind
theorem div_nonneg (a c : Rat) (ha : 0 ≤ a) (h : 0 < c) : 0 ≤ a / c := by
  rw [Rat.div_def]
  exact Rat.mul_nonneg ha (Rat.le_of_lt (Rat.inv_pos.mpr h))
theorem mul_nonpos (a c : Rat) (ha : a ≤ 0) (h : 0 ≤ c) : a * c ≤ 0 := by
  have := Rat.mul_nonneg (a := -a) (b := c) (by grind) h
  grind
theorem mul_pos (a c : Rat) (ha : 0 < a) (h : 0 < c) : 0 < a * c := Rat.mul_pos ha h
theorem Piv.inv {m n : Nat} {A A' : Tab} {s p : Nat} (P : Piv m n A A' s p) (I : Inv m n A) : Inv m n A' := by
  have hpn := P.piv
  have hne : A.T p s ≠ 0 := by grind
  have hbp := I.nonneg p P.hp
  have hr : 0 ≤ A.b p / A.T p s := div_nonneg _ _ hbp hpn
  refine ⟨?_, ?_, ?_⟩
  · intro i hi
    by_cases hip : i = p
    · subst hip; rw [P.bp]; exact hr
    · rw [P.bi i hi hip]
      by_cases hT : 0 < A.T i s
      · have hle : A.b p / A.T p s ≤ A.b i / A.T i s := by
          rcases P.leave i hi hT with h | h
          · grind
          · grind
        have h1 := Rat.mul_le_mul_of_nonneg_left hle (c := A.T i s) (by grind)
        have h2 := div_mul_self (A.b i) (A.T i s) hT
        grind
      · have h1 := mul_nonpos (A.T i s) (A.b p / A.T p s) (by grind) hr
        have h2 := I.nonneg i hi
        grind
  · intro k hk hb i hi
    by_cases hkp : k = p
    · subst hkp
      rw [P.basep] at hb ⊢
      by_cases hik : i = k
      · subst hik; rw [P.Tp s hb]; simp; grind
      · rw [P.Ti i hi hik s hb]; simp only [hik, if_false]
        have : A.T k s / A.T k s = 1 := by grind
        rw [this]; grind
    · rw [P.basei k hk hkp] at hb ⊢
      have hpk : A.T p (A.base k) = 0 := by
        rw [I.unit k hk hb p P.hp]; simp; exact fun h => absurd h.symm hkp
      have hz : (0 : Rat) / A.T p s = 0 := by grind
      by_cases hip : i = p
      · subst hip
        rw [P.Tp _ hb, hpk, hz]
        have : ¬ i = k := fun h => hkp h.symm
        simp [this]
      · rw [P.Ti i hi hip _ hb, hpk, hz, I.unit k hk hb i hi]; grind
  · intro i hi hb
    by_cases hip : i = p
    · subst hip; rw [P.basep] at hb; have := P.hs; omega
    · rw [P.basei i hi hip] at hb ⊢; exact I.art i hi hb
def dot (n : Nat) (A : Tab) (i : Nat) (x : Nat → Rat) : Rat := S n (fun j => A.T i j * x j)
theorem Piv.dotp {m n : Nat} {A A' : Tab} {s p : Nat} (P : Piv m n A A' s p) (x : Nat → Rat) : dot n A' p x = dot n A p x / A.T p s := by
  unfold dot
  have h : ∀ j, j < n → A'.T p j * x j = (A.T p s)⁻¹ * (A.T p j * x j) := by
    intro j hj; rw [P.Tp j hj]; grind
  rw [S_congr n _ _ h, S_mul]; grind
theorem Piv.doti {m n : Nat} {A A' : Tab} {s p : Nat} (P : Piv m n A A' s p) (x : Nat → Rat) (i : Nat) (hi : i < m) (hip : i ≠ p) : dot n A' i x = dot n A i x - A.T i s * (dot n A p x / A.T p s) := by
  unfold dot
  have h : ∀ j, j < n → A'.T i j * x j = A.T i j * x j - (A.T i s * (A.T p s)⁻¹) * (A.T p j * x j) := by
    intro j hj; rw [P.Ti i hi hip j hj]; grind
  rw [S_congr n _ _ h, S_sub, S_mul]; grind
theorem Piv.all_iff {m n : Nat} {A A' : Tab} {s p : Nat} (P : Piv m n A A' s p) (x : Nat → Rat) : (∀ i, i < m → dot n A' i x = A'.b i) ↔ (∀ i, i < m → dot n A i x = A.b i) := by
  have hpn := P.piv
  have hne : A.T p s ≠ 0 := by grind
  constructor
  · intro h i hi
    have h1 := h p P.hp
    rw [P.dotp, P.bp] at h1
    have h2 : dot n A p x = A.b p := by
      have e1 := div_mul_self (dot n A p x) (A.T p s) hpn
      have e2 := div_mul_self (A.b p) (A.T p s) hpn
      rw [h1] at e1; grind
    by_cases hip : i = p
    · subst hip; exact h2
    · have h3 := h i hi
      rw [P.doti x i hi hip, P.bi i hi hip, h2] at h3
      grind
  · intro h i hi
    by_cases hip : i = p
    · subst hip; rw [P.dotp, P.bp, h i hi]
    · rw [P.doti x i hi hip, P.bi i hi hip, h i hi, h p P.hp]
theorem z_base {m n : Nat} {A : Tab} (I : Inv m n A) (r : Nat) (hr : r < m) (hb : A.base r < n) : z m n A (A.base r) = 0 := by
  unfold z
  apply S_zero
  intro i hi
  by_cases ho : n ≤ A.base i
  · rw [if_pos ho, I.unit r hr hb i hi]
    have : ¬ i = r := by intro h; subst h; omega
    simp [this]
  · rw [if_neg ho]
theorem base_inj {m n : Nat} {A : Tab} (I : Inv m n A) (i r : Nat) (hi : i < m) (hr : r < m) (hb : A.base r < n) (h : A.base i = A.base r) : i = r := by
  have h1 := I.unit r hr hb i hi
  have h2 := I.unit i hi (by omega) i hi
  rw [h, h1] at h2
  by_cases hir : i = r
  · exact hir
  · simp [hir] at h2
def lay (m : Nat) (A : Tab) (c : Nat → Rat) (j : Nat) : Rat := S m (fun r => if A.base r = j then c r else 0)
theorem dot_lay (m n : Nat) (A A' : Tab) (c : Nat → Rat) (i : Nat) : dot n A' i (lay m A c) = S m (fun r => if A.base r < n then A'.T i (A.base r) * c r else 0) := by
  unfold dot lay
  have h : ∀ j, j < n → A'.T i j * S m (fun r => if A.base r = j then c r else 0) = S m (fun r => A'.T i j * (if A.base r = j then c r else 0)) := by
    intro j _; rw [S_mul]
  rw [S_congr n _ _ h, S_swap]
  apply S_congr
  intro r _
  by_cases hb : A.base r < n
  · rw [S_pick_mul n (A.base r) (fun j => A'.T i j) (c r) hb, if_pos hb]
  · rw [if_neg hb]
    apply S_zero
    intro j hj
    have : ¬ A.base r = j := by omega
    rw [if_neg this]; grind
theorem dot_lay_closed {m n : Nat} {A : Tab} (I : Inv m n A) (c : Nat → Rat) (i : Nat) (hi : i < m) (hb : A.base i < n) : dot n A i (lay m A c) = c i := by
  rw [dot_lay, S_single m i _ hi]
  · rw [if_pos hb, I.unit i hi hb i hi]; simp
  · intro r hr hne
    by_cases h : A.base r < n
    · rw [if_pos h, I.unit r hr h i hi]
      have : ¬ i = r := fun h => hne h.symm
      simp only [this, if_false]; grind
    · rw [if_neg h]
theorem dot_lay_open {m n : Nat} {A : Tab} (I : Inv m n A) (c : Nat → Rat) (i : Nat) (hi : i < m) (hb : n ≤ A.base i) : dot n A i (lay m A c) = 0 := by
  rw [dot_lay]
  apply S_zero
  intro r hr
  by_cases h : A.base r < n
  · rw [if_pos h, I.unit r hr h i hi]
    have : ¬ i = r := by intro e; subst e; omega
    simp only [this, if_false]; grind
  · rw [if_neg h]
end JM
end
section
namespace JM
structure Run (m n : Nat) (A : Nat → Tab) (s p : Nat → Nat) (i k : Nat) : Prop where
  step : ∀ c, i ≤ c → c < k → Piv m n (A c) (A (c + 1)) (s c) (p c)
  inv : ∀ c, i ≤ c → c ≤ k → Inv m n (A c)
theorem up {P : Nat → Prop} {a b : Nat} (h : ∀ c, a ≤ c → c < b → P c → P (c + 1)) (h0 : P a) : ∀ c, a ≤ c → c ≤ b → P c := by
  intro c
  induction c with
  | zero => intro h1 h2; have : a = 0 := by omega
            subst this; exact h0
  | succ c ih =>
    intro h1 h2
    by_cases hc : a = c + 1
    · subst hc; exact h0
    · exact h c (by omega) (by omega) (ih (by omega) (by omega))
theorem cross {P : Nat → Prop} {a b : Nat} (hab : a ≤ b) (h0 : P a) (h1 : ¬ P b) : ∃ c, a ≤ c ∧ c < b ∧ P c ∧ ¬ P (c + 1) := by
  apply Classical.byContradiction
  intro hn
  apply h1
  refine up (P := P) (a := a) (b := b) ?_ h0 b hab (by omega)
  intro c hc1 hc2 hc
  apply Classical.byContradiction
  intro hc3
  exact hn ⟨c, hc1, hc2, hc, hc3⟩
theorem ring_cross {P : Nat → Prop} {i k a b : Nat} (hia : i ≤ a) (hak : a ≤ k) (hib : i ≤ b) (hbk : b ≤ k) (hik : P i ↔ P k) (ha : P a) (hb : ¬ P b) :
    (∃ c, i ≤ c ∧ c < k ∧ P c ∧ ¬ P (c + 1)) ∧ (∃ c, i ≤ c ∧ c < k ∧ ¬ P c ∧ P (c + 1)) := by
  have dn : ∀ x y, i ≤ x → x ≤ y → y ≤ k → P x → ¬ P y → ∃ c, i ≤ c ∧ c < k ∧ P c ∧ ¬ P (c + 1) := by
    intro x y h1 h2 h3 h4 h5
    obtain ⟨c, q1, q2, q3, q4⟩ := cross h2 h4 h5
    exact ⟨c, by omega, by omega, q3, q4⟩
  have upw : ∀ x y, i ≤ x → x ≤ y → y ≤ k → ¬ P x → P y → ∃ c, i ≤ c ∧ c < k ∧ ¬ P c ∧ P (c + 1) := by
    intro x y h1 h2 h3 h4 h5
    obtain ⟨c, q1, q2, q3, q4⟩ := cross (P := fun c => ¬ P c) h2 h4 (fun h => h h5)
    exact ⟨c, by omega, by omega, q3, Classical.byContradiction q4⟩
  by_cases hi : P i
  · exact ⟨dn i b (by omega) hib hbk hi hb, upw b k hib hbk (by omega) hb (hik.mp hi)⟩
  · exact ⟨dn a k hia hak (by omega) ha (fun h => hi (hik.mpr h)), upw i a (by omega) hia hak hi ha⟩
theorem greatest (f : Nat → Nat) (i k : Nat) (h : i < k) : ∃ a, i ≤ a ∧ a < k ∧ ∀ c, i ≤ c → c < k → f c ≤ f a := by
  induction k with
  | zero => omega
  | succ k ih =>
    by_cases hik : i = k
    · subst hik
      exact ⟨i, by omega, by omega, fun c h1 h2 => by have : c = i := by omega
                                                      subst this; omega⟩
    · obtain ⟨a, h1, h2, h3⟩ := ih (by omega)
      by_cases hf : f k ≤ f a
      · refine ⟨a, h1, by omega, fun c q1 q2 => ?_⟩
        by_cases hc : c = k
        · subst hc; exact hf
        · exact h3 c q1 (by omega)
      · refine ⟨k, by omega, by omega, fun c q1 q2 => ?_⟩
        by_cases hc : c = k
        · subst hc; omega
        · have := h3 c q1 (by omega); omega
def InB (m : Nat) (A : Tab) (v : Nat) : Prop := ∃ r, r < m ∧ A.base r = v
section
variable {m n : Nat} {A : Nat → Tab} {s p : Nat → Nat} {i k : Nat}
theorem Run.closed_up (R : Run m n A s p i k) (r : Nat) (hr : r < m) (a b : Nat) (h1 : i ≤ a) (h2 : a ≤ b) (h3 : b ≤ k) (h : (A a).base r < n) : (A b).base r < n := by
  refine up (P := fun c => (A c).base r < n) (a := a) (b := b) ?_ h b h2 (by omega)
  intro c hc1 hc2 hc
  have P := R.step c (by omega) (by omega)
  by_cases hrp : r = p c
  · rw [hrp, P.basep]; exact P.hs
  · rw [P.basei r hr hrp]; exact hc
theorem Run.open_iff (R : Run m n A s p i k) (hb : ∀ r, r < m → (A i).base r = (A k).base r) (r : Nat) (hr : r < m) (c : Nat) (h1 : i ≤ c) (h2 : c ≤ k) : (n ≤ (A c).base r ↔ n ≤ (A i).base r) := by
  constructor
  · intro h
    apply Classical.byContradiction
    intro hn
    have := R.closed_up r hr i c (by omega) h1 h2 (by omega)
    omega
  · intro h
    apply Classical.byContradiction
    intro hn
    have := R.closed_up r hr c k h1 h2 (by omega) (by omega)
    have := hb r hr
    omega
theorem Run.piv_closed (R : Run m n A s p i k) (hb : ∀ r, r < m → (A i).base r = (A k).base r) (c : Nat) (h1 : i ≤ c) (h2 : c < k) : (A c).base (p c) < n := by
  have P := R.step c h1 h2
  have e1 := R.open_iff hb (p c) P.hp c h1 (by omega)
  have e2 := R.open_iff hb (p c) P.hp (c + 1) (by omega) (by omega)
  have e3 := P.basep
  have e4 := P.hs
  omega
theorem Run.keep (R : Run m n A s p i k) (hb : ∀ r, r < m → (A i).base r = (A k).base r) (x : Nat → Rat) (h : ∀ r, r < m → (A i).base r < n → dot n (A i) r x = (A i).b r) :
    ∀ c, i ≤ c → c ≤ k → (∀ r, r < m → (A i).base r < n → dot n (A c) r x = (A c).b r) ∧ (∀ r, r < m → n ≤ (A i).base r → (A c).b r - dot n (A c) r x = (A i).b r - dot n (A i) r x) := by
  refine up ?_ ⟨h, fun r _ _ => rfl⟩
  intro c hc1 hc2 hc
  have P := R.step c (by omega) (by omega)
  have hpc := R.piv_closed hb c hc1 hc2
  have hpi : (A i).base (p c) < n := by
    have := R.open_iff hb (p c) P.hp c hc1 (by omega); omega
  have hdp := hc.1 (p c) P.hp hpi
  constructor
  · intro r hr hrb
    by_cases hrp : r = p c
    · rw [hrp, P.dotp, P.bp, hdp]
    · rw [P.doti x r hr hrp, P.bi r hr hrp, hdp, hc.1 r hr hrb]
  · intro r hr hrb
    have hrp : r ≠ p c := by intro e; subst e; omega
    rw [P.doti x r hr hrp, P.bi r hr hrp, hdp, ← hc.2 r hr hrb]
    grind
theorem Run.back (R : Run m n A s p i k) (hb : ∀ r, r < m → (A i).base r = (A k).base r) (x : Nat → Rat) (d : Nat) (hd1 : i ≤ d) (hd2 : d ≤ k) (h : ∀ r, r < m → (A i).base r < n → dot n (A d) r x = (A d).b r) :
    (∀ r, r < m → (A i).base r < n → dot n (A i) r x = (A i).b r) := by
  have key : ∀ t, t ≤ d - i → (∀ r, r < m → (A i).base r < n → dot n (A (d - t)) r x = (A (d - t)).b r) := by
    intro t
    induction t with
    | zero => intro _; exact h
    | succ t ih =>
      intro ht
      have hc := ih (by omega)
      have hc1 : i ≤ d - (t + 1) := by omega
      have hc2 : d - (t + 1) < k := by omega
      have he : d - t = d - (t + 1) + 1 := by omega
      rw [he] at hc
      revert hc hc1 hc2
      generalize d - (t + 1) = c
      intro hc hc1 hc2
      have P := R.step c hc1 hc2
      have hpc := R.piv_closed hb c hc1 hc2
      have hpi : (A i).base (p c) < n := by
        have := R.open_iff hb (p c) P.hp c hc1 (by omega); omega
      have hpn := P.piv
      have hdp : dot n (A c) (p c) x = (A c).b (p c) := by
        have h1 := hc (p c) P.hp hpi
        rw [P.dotp, P.bp] at h1
        have e1 := div_mul_self (dot n (A c) (p c) x) _ hpn
        have e2 := div_mul_self ((A c).b (p c)) _ hpn
        rw [h1] at e1; grind
      intro r hr hrb
      by_cases hrp : r = p c
      · rw [hrp]; exact hdp
      · have h1 := hc r hr hrb
        rw [P.doti x r hr hrp, P.bi r hr hrp, hdp] at h1
        grind
  have := key (d - i) (by omega)
  have he : d - (d - i) = i := by omega
  rw [he] at this
  exact this
theorem Run.w_step (R : Run m n A s p i k) (hb : ∀ r, r < m → (A i).base r = (A k).base r) (c : Nat) (h1 : i ≤ c) (h2 : c < k) : w m n (A (c + 1)) = w m n (A c) - z m n (A c) (s c) * ((A c).b (p c) / (A c).T (p c) (s c)) := by
  have P := R.step c h1 h2
  have hpc := R.piv_closed hb c h1 h2
  unfold w z
  rw [← S_mul', ← S_sub]
  apply S_congr
  intro r hr
  have o1 := R.open_iff hb r hr c h1 (by omega)
  have o2 := R.open_iff hb r hr (c + 1) (by omega) (by omega)
  by_cases ho : n ≤ (A i).base r
  · have hrp : r ≠ p c := by intro e; subst e; omega
    rw [if_pos (o2.mpr ho), if_pos (o1.mpr ho), if_pos (o1.mpr ho), P.bi r hr hrp]
  · have a1 : ¬ n ≤ (A c).base r := fun h => ho (o1.mp h)
    have a2 : ¬ n ≤ (A (c + 1)).base r := fun h => ho (o2.mp h)
    rw [if_neg a1, if_neg a2, if_neg a1]; grind
theorem Run.w_same (R : Run m n A s p i k) (hik : i ≤ k) (hb : ∀ r, r < m → (A i).base r = (A k).base r) : w m n (A k) = w m n (A i) := by
  have Ik := R.inv k hik (by omega)
  have Ii := R.inv i (by omega) hik
  let x := lay m (A k) (A k).b
  have hx : ∀ r, r < m → (A i).base r < n → dot n (A k) r x = (A k).b r := by
    intro r hr hrb
    exact dot_lay_closed Ik _ r hr (by rw [← hb r hr]; exact hrb)
  have hxi := R.back hb x k hik (by omega) hx
  have hk := (R.keep hb x hxi k hik (by omega)).2
  unfold w
  apply S_congr
  intro r hr
  rw [hb r hr]
  by_cases ho : n ≤ (A k).base r
  · rw [if_pos ho, if_pos ho]
    have h1 := hk r hr (by rw [hb r hr]; exact ho)
    have h2 : dot n (A k) r x = 0 := dot_lay_open Ik _ r hr ho
    have h3 : dot n (A i) r x = 0 := by
      have he : ∀ j, j < n → (A i).T r j * x j = (A i).T r j * lay m (A i) (A k).b j := by
        intro j _
        congr 1
        show lay m (A k) (A k).b j = _
        unfold lay
        apply S_congr
        intro q hq
        rw [hb q hq]
      unfold dot
      rw [S_congr n _ _ he]
      exact dot_lay_open Ii _ r hr (by rw [hb r hr]; exact ho)
    rw [h2, h3] at h1
    grind
  · rw [if_neg ho, if_neg ho]
theorem Run.w_le (R : Run m n A s p i k) (hb : ∀ r, r < m → (A i).base r = (A k).base r) (c : Nat) (h1 : i ≤ c) (h2 : c < k) : w m n (A (c + 1)) ≤ w m n (A c) := by
  have P := R.step c h1 h2
  have I := R.inv c h1 (by omega)
  rw [R.w_step hb c h1 h2]
  have q1 := div_nonneg _ _ (I.nonneg (p c) P.hp) P.piv
  have q2 := Rat.mul_nonneg (Rat.le_of_lt P.pos) q1
  grind
theorem Run.w_const (R : Run m n A s p i k) (hik : i ≤ k) (hb : ∀ r, r < m → (A i).base r = (A k).base r) (c : Nat) (h1 : i ≤ c) (h2 : c ≤ k) : w m n (A c) = w m n (A i) := by
  have a1 : w m n (A c) ≤ w m n (A i) := by
    refine up (P := fun c => w m n (A c) ≤ w m n (A i)) (a := i) (b := k) ?_ (by grind) c h1 h2
    intro c q1 q2 q3
    have := R.w_le hb c q1 q2
    grind
  have a2 : w m n (A k) ≤ w m n (A c) := by
    refine up (P := fun d => w m n (A d) ≤ w m n (A c)) (a := c) (b := k) ?_ (by grind) k h2 (by omega)
    intro d q1 q2 q3
    have := R.w_le hb d (by omega) q2
    grind
  have a3 := R.w_same hik hb
  grind
theorem Run.zero (R : Run m n A s p i k) (hik : i ≤ k) (hb : ∀ r, r < m → (A i).base r = (A k).base r) (c : Nat) (h1 : i ≤ c) (h2 : c < k) : (A c).b (p c) = 0 := by
  have P := R.step c h1 h2
  have e := R.w_step hb c h1 h2
  rw [R.w_const hik hb c h1 (by omega), R.w_const hik hb (c + 1) (by omega) (by omega)] at e
  have hz := P.pos
  have hp := P.piv
  have h0 : z m n (A c) (s c) * ((A c).b (p c) / (A c).T (p c) (s c)) = 0 := by grind
  have h3 : (A c).b (p c) / (A c).T (p c) (s c) = 0 := by
    rcases Rat.mul_eq_zero.mp h0 with h | h
    · grind
    · exact h
  have := div_mul_self ((A c).b (p c)) _ hp
  rw [h3] at this
  grind
theorem Run.b_const (R : Run m n A s p i k) (hik : i ≤ k) (hb : ∀ r, r < m → (A i).base r = (A k).base r) (r : Nat) (hr : r < m) : ∀ c, i ≤ c → c ≤ k → (A c).b r = (A i).b r := by
  refine up ?_ rfl
  intro c h1 h2 h3
  have P := R.step c h1 h2
  have h0 := R.zero hik hb c h1 h2
  by_cases hrp : r = p c
  · rw [← h3, hrp, P.bp, h0]; grind
  · rw [← h3, P.bi r hr hrp, h0]; grind
end
end JM
end
section
namespace JM
section
variable {m n : Nat} {A : Nat → Tab} {s p : Nat → Nat} {i k : Nat}
theorem Run.keep0 (R : Run m n A s p i k) (hb : ∀ r, r < m → (A i).base r = (A k).base r) (x : Nat → Rat) (h : ∀ r, r < m → (A i).base r < n → dot n (A i) r x = 0) :
    ∀ c, i ≤ c → c ≤ k → (∀ r, r < m → (A i).base r < n → dot n (A c) r x = 0) ∧ (∀ r, r < m → n ≤ (A i).base r → dot n (A c) r x = dot n (A i) r x) := by
  refine up ?_ ⟨h, fun r _ _ => rfl⟩
  intro c hc1 hc2 hc
  have P := R.step c (by omega) (by omega)
  have hpc := R.piv_closed hb c hc1 hc2
  have hpi : (A i).base (p c) < n := by
    have := R.open_iff hb (p c) P.hp c hc1 (by omega); omega
  have hdp := hc.1 (p c) P.hp hpi
  constructor
  · intro r hr hrb
    by_cases hrp : r = p c
    · rw [hrp, P.dotp, hdp]; grind
    · rw [P.doti x r hr hrp, hdp, hc.1 r hr hrb]; grind
  · intro r hr hrb
    have hrp : r ≠ p c := by intro e; subst e; omega
    rw [P.doti x r hr hrp, hdp, ← hc.2 r hr hrb]
    grind
theorem Run.back0 (R : Run m n A s p i k) (hb : ∀ r, r < m → (A i).base r = (A k).base r) (x : Nat → Rat) (d : Nat) (hd1 : i ≤ d) (hd2 : d ≤ k) (h : ∀ r, r < m → (A i).base r < n → dot n (A d) r x = 0) :
    (∀ r, r < m → (A i).base r < n → dot n (A i) r x = 0) := by
  have key : ∀ t, t ≤ d - i → (∀ r, r < m → (A i).base r < n → dot n (A (d - t)) r x = 0) := by
    intro t
    induction t with
    | zero => intro _; exact h
    | succ t ih =>
      intro ht
      have hc := ih (by omega)
      have hc1 : i ≤ d - (t + 1) := by omega
      have hc2 : d - (t + 1) < k := by omega
      have he : d - t = d - (t + 1) + 1 := by omega
      rw [he] at hc
      revert hc hc1 hc2
      generalize d - (t + 1) = c
      intro hc hc1 hc2
      have P := R.step c hc1 hc2
      have hpc := R.piv_closed hb c hc1 hc2
      have hpi : (A i).base (p c) < n := by
        have := R.open_iff hb (p c) P.hp c hc1 (by omega); omega
      have hpn := P.piv
      have hdp : dot n (A c) (p c) x = 0 := by
        have h1 := hc (p c) P.hp hpi
        rw [P.dotp] at h1
        have e1 := div_mul_self (dot n (A c) (p c) x) _ hpn
        rw [h1] at e1; grind
      intro r hr hrb
      by_cases hrp : r = p c
      · rw [hrp]; exact hdp
      · have h1 := hc r hr hrb
        rw [P.doti x r hr hrp, hdp] at h1
        grind
  have := key (d - i) (by omega)
  have he : d - (d - i) = i := by omega
  rw [he] at this
  exact this
def dir (m n : Nat) (A : Tab) (s : Nat) (j : Nat) : Rat := (if s = j then 1 else 0) - lay m A (fun r => A.T r s) j
theorem dot_dir (m n : Nat) (A A' : Tab) (s r : Nat) (hs : s < n) : dot n A' r (dir m n A s) = A'.T r s - dot n A' r (lay m A (fun r => A.T r s)) := by
  unfold dot dir
  have h : ∀ j, j < n → A'.T r j * ((if s = j then 1 else 0) - lay m A (fun r => A.T r s) j) = A'.T r j * (if s = j then 1 else 0) - A'.T r j * lay m A (fun r => A.T r s) j := by
    intro j _; grind
  rw [S_congr n _ _ h, S_sub, S_pick_mul n s (fun j => A'.T r j) 1 hs]
  grind
theorem Run.exchange (R : Run m n A s p i k) (hb : ∀ r, r < m → (A i).base r = (A k).base r) (a e v : Nat) (ha1 : i ≤ a) (ha2 : a ≤ k) (he1 : i ≤ e) (he2 : e ≤ k) (hv : v < n) :
    z m n (A a) v = z m n (A e) v - S m (fun r => if (A a).base r < n then z m n (A e) ((A a).base r) * (A a).T r v else 0) := by
  have Ia := R.inv a ha1 ha2
  let d := dir m n (A a) v
  have hd0 : ∀ r, r < m → (A i).base r < n → dot n (A a) r d = 0 := by
    intro r hr hrb
    have ho := R.open_iff hb r hr a ha1 ha2
    show dot n (A a) r (dir m n (A a) v) = 0
    rw [dot_dir m n (A a) (A a) v r hv, dot_lay_closed Ia _ r hr (by omega)]
    grind
  have hdi := R.back0 hb d a ha1 ha2 hd0
  have ka := (R.keep0 hb d hdi a ha1 ha2).2
  have ke := (R.keep0 hb d hdi e he1 he2).2
  have hza : z m n (A a) v = S m (fun r => if n ≤ (A i).base r then dot n (A a) r d else 0) := by
    unfold z
    apply S_congr
    intro r hr
    have ho := R.open_iff hb r hr a ha1 ha2
    by_cases h : n ≤ (A i).base r
    · rw [if_pos (ho.mpr h), if_pos h]
      show _ = dot n (A a) r (dir m n (A a) v)
      rw [dot_dir m n (A a) (A a) v r hv, dot_lay_open Ia _ r hr (ho.mpr h)]
      grind
    · rw [if_neg (fun q => h (ho.mp q)), if_neg h]
  have hze : S m (fun r => if n ≤ (A i).base r then dot n (A a) r d else 0) = S m (fun r => if n ≤ (A e).base r then (A e).T r v - S m (fun q => if (A a).base q < n then (A e).T r ((A a).base q) * (A a).T q v else 0) else 0) := by
    apply S_congr
    intro r hr
    have ho := R.open_iff hb r hr e he1 he2
    by_cases h : n ≤ (A i).base r
    · rw [if_pos h, if_pos (ho.mpr h), ka r hr h, ← ke r hr h]
      show dot n (A e) r (dir m n (A a) v) = _
      rw [dot_dir m n (A a) (A e) v r hv, dot_lay]
    · rw [if_neg (fun q => h (ho.mp q)), if_neg h]
  rw [hza, hze]
  have hsplit : ∀ r, r < m → (if n ≤ (A e).base r then (A e).T r v - S m (fun q => if (A a).base q < n then (A e).T r ((A a).base q) * (A a).T q v else 0) else 0)
      = (if n ≤ (A e).base r then (A e).T r v else 0) - S m (fun q => if (A a).base q < n then (if n ≤ (A e).base r then (A e).T r ((A a).base q) else 0) * (A a).T q v else 0) := by
    intro r _
    by_cases h : n ≤ (A e).base r
    · simp only [if_pos h]
    · simp only [if_neg h]
      rw [S_zero]
      · grind
      · intro q _
        by_cases h2 : (A a).base q < n
        · simp only [if_pos h2]; grind
        · simp only [if_neg h2]
  rw [S_congr m _ _ hsplit, S_sub]
  congr 1
  rw [S_swap]
  apply S_congr
  intro q _
  by_cases h2 : (A a).base q < n
  · simp only [if_pos h2]
    rw [S_mul']; rfl
  · simp only [if_neg h2]
    exact S_zero m _ (fun _ _ => rfl)
theorem Run.down (R : Run m n A s p i k) (c v : Nat) (h1 : i ≤ c) (h2 : c < k) (hin : InB m (A c) v) (hout : ¬ InB m (A (c + 1)) v) : v = (A c).base (p c) := by
  have P := R.step c h1 h2
  obtain ⟨r, hr, hv⟩ := hin
  by_cases hrp : r = p c
  · rw [← hrp]; exact hv.symm
  · exact absurd ⟨r, hr, by rw [P.basei r hr hrp]; exact hv⟩ hout
theorem Run.upw (R : Run m n A s p i k) (c v : Nat) (h1 : i ≤ c) (h2 : c < k) (hin : ¬ InB m (A c) v) (hout : InB m (A (c + 1)) v) : v = s c := by
  have P := R.step c h1 h2
  obtain ⟨r, hr, hv⟩ := hout
  by_cases hrp : r = p c
  · rw [hrp, P.basep] at hv; exact hv.symm
  · exact absurd ⟨r, hr, by rw [← P.basei r hr hrp]; exact hv⟩ hin
theorem Run.no_ring (R : Run m n A s p i k) (hik : i < k) (hb : ∀ r, r < m → (A i).base r = (A k).base r) : False := by
  have hle : i ≤ k := by omega
  obtain ⟨a, ha1, ha2, hmax⟩ := greatest (fun c => (A c).base (p c)) i k hik
  have Pa := R.step a ha1 ha2
  have Ia := R.inv a ha1 (by omega)
  have hend : ∀ v, InB m (A i) v ↔ InB m (A k) v := by
    intro v
    constructor
    · rintro ⟨r, hr, hv⟩; exact ⟨r, hr, by rw [← hb r hr]; exact hv⟩
    · rintro ⟨r, hr, hv⟩; exact ⟨r, hr, by rw [hb r hr]; exact hv⟩
  have change : ∀ v x y, i ≤ x → x ≤ k → i ≤ y → y ≤ k → InB m (A x) v → ¬ InB m (A y) v →
      (∃ c, i ≤ c ∧ c < k ∧ v = (A c).base (p c)) ∧ (∃ c, i ≤ c ∧ c < k ∧ v = s c) := by
    intro v x y x1 x2 y1 y2 hx hy
    obtain ⟨⟨c, c1, c2, c3, c4⟩, ⟨e, e1, e2, e3, e4⟩⟩ := ring_cross (P := fun c => InB m (A c) v) x1 x2 y1 y2 (hend v) hx hy
    exact ⟨⟨c, c1, c2, R.down c v c1 c2 c3 c4⟩, ⟨e, e1, e2, R.upw e v e1 e2 e3 e4⟩⟩
  have leaves : ∀ v x y, i ≤ x → x ≤ k → i ≤ y → y ≤ k → InB m (A x) v → ¬ InB m (A y) v → v ≤ (A a).base (p a) := by
    intro v x y x1 x2 y1 y2 hx hy
    obtain ⟨⟨c, c1, c2, c3⟩, _⟩ := change v x y x1 x2 y1 y2 hx hy
    rw [c3]; exact hmax c c1 c2
  have notin : ∀ c, i ≤ c → c ≤ k → ∀ v, v < n → z m n (A c) v ≠ 0 → ¬ InB m (A c) v := by
    intro c c1 c2 v hv hz
    rintro ⟨r, hr, hvr⟩
    apply hz
    rw [← hvr]
    exact z_base (R.inv c c1 c2) r hr (by omega)
  have htn := R.piv_closed hb a ha1 ha2
  have hsa : ¬ InB m (A a) (s a) := notin a ha1 (by omega) _ Pa.hs (by have := Pa.pos; grind)
  have hsa' : InB m (A (a + 1)) (s a) := ⟨p a, Pa.hp, Pa.basep⟩
  have hta : InB m (A a) ((A a).base (p a)) := ⟨p a, Pa.hp, rfl⟩
  have hta' : ¬ InB m (A (a + 1)) ((A a).base (p a)) := by
    rintro ⟨r, hr, hvr⟩
    by_cases hrp : r = p a
    · rw [hrp, Pa.basep] at hvr
      exact hsa ⟨p a, Pa.hp, hvr.symm⟩
    · rw [Pa.basei r hr hrp] at hvr
      exact hrp (base_inj Ia r (p a) hr Pa.hp htn hvr)
  obtain ⟨_, ⟨e, he1, he2, hte⟩⟩ := change _ a (a + 1) ha1 (by omega) (by omega) (by omega) hta hta'
  have Pe := R.step e he1 he2
  have Ie := R.inv e he1 (by omega)
  have hst : s a ≤ (A a).base (p a) := leaves _ (a + 1) a (by omega) (by omega) ha1 (by omega) hsa' hsa
  have hsne : s a ≠ (A a).base (p a) := fun h => hsa (by rw [h]; exact hta)
  have hze : z m n (A e) (s a) ≤ 0 := Pe.least _ (by omega)
  have hx := R.exchange hb a e (s a) ha1 (by omega) he1 (by omega) Pa.hs
  have hpos := Pa.pos
  have hneg : S m (fun r => if (A a).base r < n then z m n (A e) ((A a).base r) * (A a).T r (s a) else 0) < 0 := by grind
  obtain ⟨r, hr, hrn⟩ := S_neg m _ hneg
  by_cases hrb : (A a).base r < n
  · rw [if_pos hrb] at hrn
    have hvz : z m n (A e) ((A a).base r) ≠ 0 := by
      intro h; rw [h] at hrn; grind
    have hvin : InB m (A a) ((A a).base r) := ⟨r, hr, rfl⟩
    have hvout := notin e he1 (by omega) _ hrb hvz
    have hvle := leaves _ a e ha1 (by omega) he1 (by omega) hvin hvout
    have hvne : (A a).base r ≠ (A a).base (p a) := by
      intro h
      have hrp := base_inj Ia r (p a) hr Pa.hp htn h
      rw [hrp] at hrn
      have h1 := Pe.pos
      rw [← hte] at h1
      have h2 := mul_pos _ _ h1 Pa.piv
      grind
    have hvz2 : z m n (A e) ((A a).base r) ≤ 0 := Pe.least _ (by omega)
    have hT : 0 < (A a).T r (s a) := by
      apply Classical.byContradiction
      intro hn
      have := Rat.mul_nonneg (a := - z m n (A e) ((A a).base r)) (b := - (A a).T r (s a)) (by grind) (by grind)
      grind
    have hpivoted : ∃ c, i ≤ c ∧ c < k ∧ p c = r := by
      apply Classical.byContradiction
      intro hn
      have hst : ∀ c, i ≤ c → c ≤ k → (A c).base r = (A i).base r := by
        refine up ?_ rfl
        intro c c1 c2 c3
        rw [(R.step c c1 c2).basei r hr (fun h => hn ⟨c, c1, c2, h.symm⟩)]
        exact c3
      exact hvout ⟨r, hr, by rw [hst e he1 (by omega), hst a ha1 (by omega)]⟩
    obtain ⟨c, c1, c2, c3⟩ := hpivoted
    have hbr : (A a).b r = 0 := by
      rw [R.b_const hle hb r hr a ha1 (by omega), ← R.b_const hle hb r hr c c1 (by omega), ← c3]
      exact R.zero hle hb c c1 c2
    have hbp := R.zero hle hb a ha1 ha2
    have hl := Pa.leave r hr hT
    rw [hbr, hbp] at hl
    have z1 : (0 : Rat) / (A a).T (p a) (s a) = 0 := by grind
    have z2 : (0 : Rat) / (A a).T r (s a) = 0 := by grind
    rw [z1, z2] at hl
    rcases hl with h | h
    · grind
    · omega
  · rw [if_neg hrb] at hrn; grind
end
theorem pigeon : ∀ (N : Nat) (f : Nat → Nat), (∀ c, c ≤ N → f c < N) → ∃ i k, i < k ∧ k ≤ N ∧ f i = f k := by
  intro N
  induction N with
  | zero => intro f h; have := h 0 (by omega); omega
  | succ N ih =>
    intro f h
    by_cases hex : ∃ i, i ≤ N ∧ f i = f (N + 1)
    · obtain ⟨i, hi, hf⟩ := hex
      exact ⟨i, N + 1, by omega, by omega, hf⟩
    · have hne : ∀ i, i ≤ N → f i ≠ f (N + 1) := fun i hi hf => hex ⟨i, hi, hf⟩
      obtain ⟨i, k, h1, h2, h3⟩ := ih (fun c => if f c = N then f (N + 1) else f c) (by
        intro c hc
        have a1 := h c (by omega)
        have a2 := h (N + 1) (by omega)
        have a3 := hne c hc
        by_cases hcN : f c = N
        · simp only [hcN, if_true]; omega
        · simp only [hcN, if_false]; omega)
      refine ⟨i, k, h1, by omega, ?_⟩
      have a1 := hne i (by omega)
      have a2 := hne k h2
      by_cases hi : f i = N
      · by_cases hk : f k = N
        · omega
        · simp only [hi, hk, if_true, if_false] at h3; omega
      · by_cases hk : f k = N
        · simp only [hi, hk, if_true, if_false] at h3; omega
        · simp only [hi, hk, if_false] at h3; omega
end JM
end
section
namespace JM
def pos (base : Nat → Nat) (v : Nat) : Nat → Nat
  | 0 => 0
  | m + 1 => if pos base v m < m then pos base v m else if base m = v then m else m + 1
theorem pos_le (base : Nat → Nat) (v m : Nat) : pos base v m ≤ m := by
  induction m with
  | zero => simp [pos]
  | succ m ih =>
    simp only [pos]
    split
    · omega
    · split <;> omega
theorem pos_base (base : Nat → Nat) (v m : Nat) (h : pos base v m < m) : base (pos base v m) = v := by
  induction m with
  | zero => omega
  | succ m ih =>
    simp only [pos] at h ⊢
    by_cases h1 : pos base v m < m
    · rw [if_pos h1]; exact ih h1
    · rw [if_neg h1] at h ⊢
      by_cases h2 : base m = v
      · rw [if_pos h2]; exact h2
      · rw [if_neg h2] at h; omega
theorem pos_lt (base : Nat → Nat) (v m r : Nat) (hr : r < m) (hb : base r = v) : pos base v m < m := by
  induction m with
  | zero => omega
  | succ m ih =>
    simp only [pos]
    by_cases h1 : pos base v m < m
    · rw [if_pos h1]; omega
    · rw [if_neg h1]
      have : r = m := by
        apply Classical.byContradiction
        intro hne
        exact h1 (ih (by omega))
      subst this
      rw [if_pos hb]; omega
def code (B : Nat) (f : Nat → Nat) : Nat → Nat
  | 0 => 0
  | n + 1 => code B f n * B + f n
theorem code_lt (B : Nat) (f : Nat → Nat) (n : Nat) (h : ∀ v, v < n → f v < B) : code B f n < B ^ n := by
  induction n with
  | zero => simp [code]
  | succ n ih =>
    have h1 := ih (fun v hv => h v (by omega))
    have h2 := h n (by omega)
    simp only [code]
    rw [Nat.pow_succ]
    have : (code B f n + 1) * B ≤ B ^ n * B := Nat.mul_le_mul_right B h1
    rw [Nat.add_mul] at this
    omega
theorem code_inj (B : Nat) (f g : Nat → Nat) (n : Nat) (hf : ∀ v, v < n → f v < B) (hg : ∀ v, v < n → g v < B) (h : code B f n = code B g n) : ∀ v, v < n → f v = g v := by
  induction n with
  | zero => intro v hv; omega
  | succ n ih =>
    have a1 := hf n (by omega)
    have a2 := hg n (by omega)
    simp only [code] at h
    have h3 : f n = g n := by
      have e1 : (code B f n * B + f n) % B = f n := by rw [Nat.mul_add_mod_self_right]; exact Nat.mod_eq_of_lt a1
      have e2 : (code B g n * B + g n) % B = g n := by rw [Nat.mul_add_mod_self_right]; exact Nat.mod_eq_of_lt a2
      rw [← e1, ← e2, h]
    have h4 : code B f n = code B g n := by
      rw [h3] at h
      have : code B f n * B = code B g n * B := by omega
      exact Nat.eq_of_mul_eq_mul_right (by omega) this
    intro v hv
    by_cases hvn : v = n
    · subst hvn; exact h3
    · exact ih (fun v hv => hf v (by omega)) (fun v hv => hg v (by omega)) h4 v (by omega)
theorem base_of_code {m n : Nat} {A A' : Tab} (I : Inv m n A) (I' : Inv m n A') (h : code (m + 1) (fun v => pos A.base v m) n = code (m + 1) (fun v => pos A'.base v m) n) : ∀ r, r < m → A.base r = A'.base r := by
  have hp := code_inj (m + 1) _ _ n (fun v _ => Nat.lt_succ_of_le (pos_le A.base v m)) (fun v _ => Nat.lt_succ_of_le (pos_le A'.base v m)) h
  have one : ∀ {A A' : Tab}, Inv m n A → Inv m n A' → (∀ v, v < n → pos A.base v m = pos A'.base v m) → ∀ r, r < m → A.base r < n → A'.base r = A.base r := by
    intro A A' I I' hp r hr hb
    have h1 := pos_lt A.base (A.base r) m r hr rfl
    have h2 := pos_base A.base (A.base r) m h1
    have h3 : pos A.base (A.base r) m = r := base_inj I _ r h1 hr hb h2
    have h4 := hp (A.base r) hb
    rw [h3] at h4
    have h5 := pos_base A'.base (A.base r) m (by omega)
    rw [← h4] at h5
    exact h5
  intro r hr
  by_cases hb : A.base r < n
  · exact (one I I' hp r hr hb).symm
  · by_cases hb' : A'.base r < n
    · exact one I' I (fun v hv => (hp v hv).symm) r hr hb'
    · rw [I.art r hr (by omega), I'.art r hr (by omega)]
theorem ends {m n : Nat} (A : Nat → Tab) (s p : Nat → Nat) (N : Nat) (hN : (m + 1) ^ n ≤ N) (I : Inv m n (A 0)) (h : ∀ c, c < N → Piv m n (A c) (A (c + 1)) (s c) (p c)) : False := by
  have hinv : ∀ c, 0 ≤ c → c ≤ N → Inv m n (A c) := up (fun c _ h2 h3 => (h c h2).inv h3) I
  obtain ⟨i, k, h1, h2, h3⟩ := pigeon ((m + 1) ^ n) (fun c => code (m + 1) (fun v => pos (A c).base v m) n) (by
    intro c _
    exact code_lt _ _ _ (fun v _ => Nat.lt_succ_of_le (pos_le _ v m)))
  have R : Run m n A s p i k := ⟨fun c _ c2 => h c (by omega), fun c _ c2 => hinv c (by omega) (by omega)⟩
  exact R.no_ring h1 (base_of_code (hinv i (by omega) (by omega)) (hinv k (by omega) (by omega)) h3)
end JM
end
section
namespace JM
open Rd07
def none_row : Row := ⟨[], 0, 0⟩
def rowAt (rows : List Row) (i : Nat) : Row := rows.getD i none_row
def tabOf (rows : List Row) : Tab := ⟨fun i j => (rowAt rows i).at_ j, fun i => (rowAt rows i).rhs, fun i => (rowAt rows i).base⟩
theorem S_cons (n : Nat) (f : Nat → Rat) : S (n + 1) f = f 0 + S n (fun i => f (i + 1)) := by
  induction n with
  | zero => simp only [S]; grind
  | succ n ih => rw [S, ih]; simp only [S]; grind
theorem total_acc (l : List Rat) (a : Rat) : l.foldl (fun (a b : Rat) => a + b) a = a + total l := by
  unfold total
  induction l generalizing a with
  | nil => simp; grind
  | cons x l ih => simp only [List.foldl_cons]; rw [ih (a + x), ih (0 + x)]; grind
theorem total_cons (x : Rat) (l : List Rat) : total (x :: l) = x + total l := by
  rw [total, List.foldl_cons, total_acc]; grind
theorem total_filter (q : Row → Bool) (f : Row → Rat) (rows : List Row) : total ((rows.filter q).map f) = S rows.length (fun i => if q (rowAt rows i) = true then f (rowAt rows i) else 0) := by
  induction rows with
  | nil => rfl
  | cons x l ih =>
    rw [List.length_cons, S_cons]
    have h0 : rowAt (x :: l) 0 = x := rfl
    have h1 : ∀ i, rowAt (x :: l) (i + 1) = rowAt l i := fun i => rfl
    simp only [h0, h1]
    by_cases hq : q x = true
    · rw [List.filter_cons_of_pos hq, List.map_cons, total_cons, ih, if_pos hq]
    · rw [List.filter_cons_of_neg hq, ih, if_neg hq]; grind
theorem total_open (n : Nat) (rows : List Row) (j : Nat) : total ((rows.filter fun (r : Row) => decide (n ≤ r.base)).map fun (r : Row) => r.at_ j) = z rows.length n (tabOf rows) j := by
  rw [total_filter]
  unfold z tabOf
  apply S_congr
  intro i _
  simp only [decide_eq_true_eq]
def pick (j : Nat) (m : Option (Nat × Rat × Nat)) (x : Row × Nat) : Option (Nat × Rat × Nat) :=
  if x.1.at_ j ≤ 0 then m else
    let q := x.1.rhs / x.1.at_ j
    match m with
    | none => some (x.2, q, x.1.base)
    | some y => if q < y.2.1 ∨ (q = y.2.1 ∧ x.1.base < y.2.2) then some (x.2, q, x.1.base) else m
def lexle (y y' : Nat × Rat × Nat) : Prop := y.2.1 < y'.2.1 ∨ (y.2.1 = y'.2.1 ∧ y.2.2 ≤ y'.2.2)
theorem lexle_refl (y : Nat × Rat × Nat) : lexle y y := Or.inr ⟨rfl, Nat.le_refl _⟩
theorem lexle_trans (a b c : Nat × Rat × Nat) (h1 : lexle a b) (h2 : lexle b c) : lexle a c := by
  unfold lexle at *
  rcases h1 with h | h <;> rcases h2 with g | g
  · left; grind
  · left; grind
  · left; grind
  · right; exact ⟨h.1.trans g.1, by omega⟩
theorem pick_fold (j : Nat) (l : List (Row × Nat)) : ∀ m0 : Option (Nat × Rat × Nat),
    (l.foldl (pick j) m0 = none → m0 = none ∧ ∀ x, x ∈ l → x.1.at_ j ≤ 0) ∧
    (∀ y, l.foldl (pick j) m0 = some y →
      (m0 = some y ∨ ∃ x, x ∈ l ∧ 0 < x.1.at_ j ∧ y = (x.2, x.1.rhs / x.1.at_ j, x.1.base)) ∧
      (∀ y0, m0 = some y0 → lexle y y0) ∧
      (∀ x, x ∈ l → 0 < x.1.at_ j → lexle y (x.2, x.1.rhs / x.1.at_ j, x.1.base))) := by
  induction l with
  | nil =>
    intro m0
    refine ⟨fun h => ⟨h, fun x hx => absurd hx (by simp)⟩, fun y hy => ⟨Or.inl hy, ?_, fun x hx => absurd hx (by simp)⟩⟩
    intro y0 h0
    simp only [List.foldl_nil] at hy
    rw [hy] at h0; cases h0; exact lexle_refl _
  | cons x l ih =>
    intro m0
    rw [List.foldl_cons]
    obtain ⟨i1, i2⟩ := ih (pick j m0 x)
    by_cases hx : x.1.at_ j ≤ 0
    · have hp : pick j m0 x = m0 := by unfold pick; rw [if_pos hx]
      rw [hp] at i1 i2 ⊢
      refine ⟨fun h => ⟨(i1 h).1, ?_⟩, fun y hy => ?_⟩
      · intro x' hx'
        rcases List.mem_cons.mp hx' with h' | h'
        · rw [h']; exact hx
        · exact (i1 h).2 x' h'
      · obtain ⟨a1, a2, a3⟩ := i2 y hy
        refine ⟨?_, a2, ?_⟩
        · rcases a1 with h | ⟨x', h1, h2⟩
          · exact Or.inl h
          · exact Or.inr ⟨x', List.mem_cons_of_mem _ h1, h2⟩
        · intro x' hx' hpos
          rcases List.mem_cons.mp hx' with h' | h'
          · rw [h'] at hpos; grind
          · exact a3 x' h' hpos
    · have hsome : ∃ y1, pick j m0 x = some y1 ∧ lexle y1 (x.2, x.1.rhs / x.1.at_ j, x.1.base) ∧ (∀ y0, m0 = some y0 → lexle y1 y0) ∧ (m0 = some y1 ∨ y1 = (x.2, x.1.rhs / x.1.at_ j, x.1.base)) := by
        unfold pick
        rw [if_neg hx]
        cases m0 with
        | none => exact ⟨_, rfl, lexle_refl _, fun y0 h => (by cases h), Or.inr rfl⟩
        | some y0 =>
          simp only
          by_cases hc : x.1.rhs / x.1.at_ j < y0.2.1 ∨ (x.1.rhs / x.1.at_ j = y0.2.1 ∧ x.1.base < y0.2.2)
          · rw [if_pos hc]
            refine ⟨_, rfl, lexle_refl _, fun y0' h => ?_, Or.inr rfl⟩
            cases h
            rcases hc with h | h
            · exact Or.inl h
            · exact Or.inr ⟨h.1, Nat.le_of_lt h.2⟩
          · rw [if_neg hc]
            refine ⟨_, rfl, ?_, fun y0' h => ?_, Or.inl rfl⟩
            · unfold lexle
              by_cases h1 : y0.2.1 < x.1.rhs / x.1.at_ j
              · exact Or.inl h1
              · right
                have h2 : ¬ x.1.rhs / x.1.at_ j < y0.2.1 := fun h => hc (Or.inl h)
                have h3 : x.1.rhs / x.1.at_ j = y0.2.1 := by grind
                exact ⟨h3.symm, Nat.le_of_not_lt (fun h => hc (Or.inr ⟨h3, h⟩))⟩
            · cases h; exact lexle_refl _
      obtain ⟨y1, hp, hl, h0, hor⟩ := hsome
      rw [hp] at i1 i2 ⊢
      refine ⟨fun h => absurd (i1 h).1 (by simp), fun y hy => ?_⟩
      obtain ⟨a1, a2, a3⟩ := i2 y hy
      have hyy1 := a2 y1 rfl
      refine ⟨?_, ?_, ?_⟩
      · rcases a1 with h | ⟨x', h1, h2⟩
        · cases h
          rcases hor with h | h
          · exact Or.inl h
          · exact Or.inr ⟨x, List.mem_cons_self, by grind, h⟩
        · exact Or.inr ⟨x', List.mem_cons_of_mem _ h1, h2⟩
      · intro y0 hy0
        exact lexle_trans _ _ _ hyy1 (h0 y0 hy0)
      · intro x' hx' hpos
        rcases List.mem_cons.mp hx' with h' | h'
        · rw [h']; exact lexle_trans _ _ _ hyy1 hl
        · exact a3 x' h' hpos
theorem leaving_eq (j : Nat) (rows : List Row) : leaving j rows = rows.zipIdx.foldl (pick j) none := rfl
theorem rowAt_eq (rows : List Row) (i : Nat) (h : i < rows.length) : rowAt rows i = rows[i] := by
  unfold rowAt
  rw [List.getD_eq_getElem?_getD, List.getElem?_eq_getElem h]; rfl
theorem mem_zip (rows : List Row) (x : Row × Nat) : x ∈ rows.zipIdx ↔ x.2 < rows.length ∧ x.1 = rowAt rows x.2 := by
  obtain ⟨r, i⟩ := x
  rw [List.mem_zipIdx_iff_getElem?]
  simp only
  constructor
  · intro h
    obtain ⟨h1, h2⟩ := List.getElem?_eq_some_iff.mp h
    exact ⟨h1, by rw [rowAt_eq rows i h1]; exact h2.symm⟩
  · rintro ⟨h1, h2⟩
    rw [List.getElem?_eq_getElem h1, h2, rowAt_eq rows i h1]
theorem leaving_none (j : Nat) (rows : List Row) (h : leaving j rows = none) : ∀ i, i < rows.length → (tabOf rows).T i j ≤ 0 := by
  rw [leaving_eq] at h
  intro i hi
  exact ((pick_fold j rows.zipIdx none).1 h).2 (rowAt rows i, i) ((mem_zip rows _).mpr ⟨hi, rfl⟩)
theorem leaving_some (j : Nat) (rows : List Row) (y : Nat × Rat × Nat) (h : leaving j rows = some y) : y.1 < rows.length ∧ 0 < (tabOf rows).T y.1 j ∧
    ∀ i, i < rows.length → 0 < (tabOf rows).T i j → (tabOf rows).b y.1 / (tabOf rows).T y.1 j < (tabOf rows).b i / (tabOf rows).T i j ∨ ((tabOf rows).b y.1 / (tabOf rows).T y.1 j = (tabOf rows).b i / (tabOf rows).T i j ∧ (tabOf rows).base y.1 ≤ (tabOf rows).base i) := by
  rw [leaving_eq] at h
  obtain ⟨a1, _, a3⟩ := (pick_fold j rows.zipIdx none).2 y h
  rcases a1 with h1 | ⟨x, hx, hpos, hy⟩
  · cases h1
  · obtain ⟨x1, x2⟩ := (mem_zip rows x).mp hx
    subst hy
    refine ⟨x1, ?_, ?_⟩
    · show 0 < (rowAt rows x.2).at_ j
      rw [← x2]; exact hpos
    · intro i hi hip
      have := a3 (rowAt rows i, i) ((mem_zip rows _).mpr ⟨hi, rfl⟩) hip
      unfold lexle at this
      simp only at this
      show (rowAt rows x.2).rhs / (rowAt rows x.2).at_ j < _ ∨ ((rowAt rows x.2).rhs / (rowAt rows x.2).at_ j = _ ∧ (rowAt rows x.2).base ≤ _)
      rw [← x2]
      exact this
end JM
end
section
namespace JM
open Rd07
def pivoted (rows : List Row) (j p : Nat) (pr : Row) : List Row :=
  let q : Row := { coef := pr.coef.map fun (a : Rat) => a / pr.at_ j, rhs := pr.rhs / pr.at_ j, base := j }
  rows.zipIdx.map fun (y : Row × Nat) => if y.2 = p then q else y.1.less q (y.1.at_ j)
def next (n : Nat) (rows : List Row) : Option (List Row) :=
  match (List.range n).find? fun (j : Nat) => decide (0 < total ((rows.filter fun (r : Row) => decide (n ≤ r.base)).map fun (r : Row) => r.at_ j)) with
  | none => none
  | some j => match leaving j rows with
    | none => none
    | some x => match rows[x.1]? with
      | none => none
      | some p => some (pivoted rows j x.1 p)
theorem stands_succ (n f : Nat) (rows : List Row) : stands n (f + 1) rows = match next n rows with
    | none => rows
    | some r => stands n f r := by
  rw [stands]
  unfold next
  simp only
  cases h1 : (List.range n).find? fun (j : Nat) => decide (0 < total ((rows.filter fun (r : Row) => decide (n ≤ r.base)).map fun (r : Row) => r.at_ j)) with
  | none => rfl
  | some j =>
    simp only
    cases h2 : leaving j rows with
    | none => rfl
    | some x =>
      simp only
      cases h3 : rows[x.1]? with
      | none => rfl
      | some p => rfl
structure Good (m n : Nat) (rows : List Row) : Prop where
  len : rows.length = m
  coef : ∀ r, r ∈ rows → r.coef.length = n
  inv : Inv m n (tabOf rows)
theorem rowAt_mem (rows : List Row) (i : Nat) (h : i < rows.length) : rowAt rows i ∈ rows := by
  rw [rowAt_eq rows i h]; exact List.getElem_mem h
theorem pivoted_len (rows : List Row) (j p : Nat) (pr : Row) : (pivoted rows j p pr).length = rows.length := by
  unfold pivoted; simp
theorem pivoted_at (rows : List Row) (j p : Nat) (pr : Row) (i : Nat) (hi : i < rows.length) : rowAt (pivoted rows j p pr) i =
    if i = p then { coef := pr.coef.map fun (a : Rat) => a / pr.at_ j, rhs := pr.rhs / pr.at_ j, base := j }
    else (rowAt rows i).less { coef := pr.coef.map fun (a : Rat) => a / pr.at_ j, rhs := pr.rhs / pr.at_ j, base := j } ((rowAt rows i).at_ j) := by
  rw [rowAt_eq _ i (by rw [pivoted_len]; exact hi), rowAt_eq rows i hi]
  unfold pivoted
  simp
theorem at_map (r : Row) (c : Rat) (j : Nat) (b : Rat) (v : Nat) (h : j < r.coef.length) : Row.at_ { coef := r.coef.map fun (a : Rat) => a / c, rhs := b, base := v } j = r.at_ j / c := by
  unfold Row.at_
  simp only
  rw [List.getD_eq_getElem?_getD, List.getD_eq_getElem?_getD, List.getElem?_map, List.getElem?_eq_getElem h]
  rfl
theorem at_less (r p : Row) (x : Rat) (j : Nat) (h : j < r.coef.length) (h' : j < p.coef.length) : (r.less p x).at_ j = r.at_ j - x * p.at_ j := by
  unfold Row.at_ Row.less
  simp only
  rw [List.getD_eq_getElem?_getD, List.getD_eq_getElem?_getD, List.getD_eq_getElem?_getD, List.getElem?_zipWith, List.getElem?_eq_getElem h, List.getElem?_eq_getElem h']
  rfl
theorem find_range (n : Nat) (q : Nat → Bool) : ((List.range n).find? q = none → ∀ j, j < n → q j = false) ∧ (∀ j, (List.range n).find? q = some j → j < n ∧ q j = true ∧ ∀ i, i < j → q i = false) := by
  constructor
  · intro h j hj
    have := List.find?_eq_none.mp h j (List.mem_range.mpr hj)
    simpa using this
  · intro j h
    have h1 := List.find?_some h
    have h2 := List.mem_of_find?_eq_some h
    have h3 := List.find?_range_eq_some.mp h
    refine ⟨List.mem_range.mp h2, h1, ?_⟩
    intro i hi
    have := h3.2.2 i hi
    simpa using this
theorem next_some {m n : Nat} {rows rows' : List Row} (G : Good m n rows) (h : next n rows = some rows') : ∃ s p, Piv m n (tabOf rows) (tabOf rows') s p ∧ Good m n rows' := by
  unfold next at h
  cases hf : (List.range n).find? fun (j : Nat) => decide (0 < total ((rows.filter fun (r : Row) => decide (n ≤ r.base)).map fun (r : Row) => r.at_ j)) with
  | none => rw [hf] at h; simp at h
  | some j =>
    rw [hf] at h
    simp only at h
    cases hl : leaving j rows with
    | none => rw [hl] at h; simp at h
    | some x =>
      rw [hl] at h
      simp only at h
      obtain ⟨l1, l2, l3⟩ := leaving_some j rows x hl
      rw [List.getElem?_eq_getElem l1] at h
      simp only [Option.some.injEq] at h
      rw [← rowAt_eq rows x.1 l1] at h
      subst h
      obtain ⟨f1, f2, f3⟩ := (find_range n _).2 j hf
      have hm := G.len
      have hcp : (rowAt rows x.1).coef.length = n := G.coef _ (rowAt_mem rows x.1 l1)
      have hlen : (pivoted rows j x.1 (rowAt rows x.1)).length = m := by rw [pivoted_len]; exact hm
      have P : Piv m n (tabOf rows) (tabOf (pivoted rows j x.1 (rowAt rows x.1))) j x.1 := by
        refine ⟨f1, by omega, ?_, ?_, l2, ?_, ?_, ?_, ?_, ?_, ?_, ?_⟩
        · have := of_decide_eq_true f2
          rw [total_open, hm] at this; exact this
        · intro i hi
          have := of_decide_eq_false (f3 i hi)
          rw [total_open, hm] at this
          grind
        · intro i hi; exact l3 i (by omega)
        · show (rowAt _ _).base = _
          rw [pivoted_at rows j x.1 _ x.1 l1, if_pos rfl]
        · intro i hi hip
          show (rowAt _ _).base = _
          rw [pivoted_at rows j x.1 _ i (by omega), if_neg hip]; rfl
        · intro v hv
          show (rowAt _ _).at_ v = _
          rw [pivoted_at rows j x.1 _ x.1 l1, if_pos rfl, at_map _ _ _ _ _ (by omega)]; rfl
        · intro i hi hip v hv
          show (rowAt _ _).at_ v = _
          have hci : (rowAt rows i).coef.length = n := G.coef _ (rowAt_mem rows i (by omega))
          rw [pivoted_at rows j x.1 _ i (by omega), if_neg hip, at_less _ _ _ _ (by omega) (by simp; omega), at_map _ _ _ _ _ (by omega)]; rfl
        · show (rowAt _ _).rhs = _
          rw [pivoted_at rows j x.1 _ x.1 l1, if_pos rfl]; rfl
        · intro i hi hip
          show (rowAt _ _).rhs = _
          rw [pivoted_at rows j x.1 _ i (by omega), if_neg hip]; rfl
      refine ⟨j, x.1, P, hlen, ?_, P.inv G.inv⟩
      intro r hr
      obtain ⟨i, hi, hri⟩ := List.mem_iff_getElem.mp hr
      rw [← rowAt_eq _ i hi] at hri
      have hi' : i < rows.length := by rw [pivoted_len] at hi; exact hi
      rw [← hri, pivoted_at rows j x.1 _ i hi']
      have hci : (rowAt rows i).coef.length = n := G.coef _ (rowAt_mem rows i hi')
      by_cases hip : i = x.1
      · rw [if_pos hip]; simp; exact hcp
      · rw [if_neg hip]; unfold Row.less; simp; omega
theorem next_none {m n : Nat} {rows : List Row} (G : Good m n rows) (h : next n rows = none) : ∀ j, j < n → z m n (tabOf rows) j ≤ 0 := by
  unfold next at h
  have hm := G.len
  cases hf : (List.range n).find? fun (j : Nat) => decide (0 < total ((rows.filter fun (r : Row) => decide (n ≤ r.base)).map fun (r : Row) => r.at_ j)) with
  | none =>
    intro j hj
    have := of_decide_eq_false ((find_range n _).1 hf j hj)
    rw [total_open, hm] at this
    grind
  | some j =>
    exfalso
    rw [hf] at h
    simp only at h
    obtain ⟨f1, f2, f3⟩ := (find_range n _).2 j hf
    have hz := of_decide_eq_true f2
    rw [total_open, hm] at hz
    cases hl : leaving j rows with
    | none =>
      have hn := leaving_none j rows hl
      unfold z at hz
      obtain ⟨i, hi, hp⟩ := S_pos m _ hz
      have := hn i (by omega)
      by_cases ho : n ≤ (tabOf rows).base i
      · rw [if_pos ho] at hp; grind
      · rw [if_neg ho] at hp; grind
    | some x =>
      rw [hl] at h
      simp only at h
      obtain ⟨l1, l2, l3⟩ := leaving_some j rows x hl
      rw [List.getElem?_eq_getElem l1] at h
      simp at h
def walk (n : Nat) (rows : List Row) : Nat → List Row
  | 0 => rows
  | c + 1 => match next n (walk n rows c) with
    | none => walk n rows c
    | some r => r
theorem walk_shift (n : Nat) (rows r : List Row) (h : next n rows = some r) (c : Nat) : walk n r c = walk n rows (c + 1) := by
  induction c with
  | zero => simp only [walk, h]
  | succ c ih =>
    rw [walk, ih]
    conv => rhs; rw [walk]
theorem stands_walk (n : Nat) : ∀ (f : Nat) (rows : List Row), (∃ c, c ≤ f ∧ stands n f rows = walk n rows c ∧ (c < f → next n (walk n rows c) = none) ∧ ∀ d, d < c → next n (walk n rows d) ≠ none) := by
  intro f
  induction f with
  | zero => intro rows; exact ⟨0, by omega, rfl, fun h => by omega, fun d hd => by omega⟩
  | succ f ih =>
    intro rows
    rw [stands_succ]
    cases hn : next n rows with
    | none => exact ⟨0, by omega, rfl, fun _ => hn, fun d hd => by omega⟩
    | some r =>
      obtain ⟨c, h1, h2, h3, h4⟩ := ih r
      refine ⟨c + 1, by omega, ?_, ?_, ?_⟩
      · simp only; rw [h2, walk_shift n rows r hn]
      · intro hc; rw [← walk_shift n rows r hn]; exact h3 (by omega)
      · intro d hd
        cases d with
        | zero => simp [walk, hn]
        | succ d => rw [← walk_shift n rows r hn]; exact h4 d (by omega)
theorem walk_good {m n : Nat} {rows : List Row} (G : Good m n rows) : ∀ c, Good m n (walk n rows c) := by
  intro c
  induction c with
  | zero => exact G
  | succ c ih =>
    rw [walk]
    cases hn : next n (walk n rows c) with
    | none => exact ih
    | some r => obtain ⟨_, _, _, h⟩ := next_some ih hn; exact h
theorem stands_end {m n : Nat} {rows : List Row} (G : Good m n rows) (f : Nat) (hf : (m + 1) ^ n ≤ f) : Good m n (stands n f rows) ∧ next n (stands n f rows) = none ∧
    ∀ x : Nat → Rat, (∀ i, i < m → dot n (tabOf (stands n f rows)) i x = (tabOf (stands n f rows)).b i) ↔ (∀ i, i < m → dot n (tabOf rows) i x = (tabOf rows).b i) := by
  obtain ⟨c, h1, h2, h3, h4⟩ := stands_walk n f rows
  have hstep : ∀ d, d < c → ∃ s p, Piv m n (tabOf (walk n rows d)) (tabOf (walk n rows (d + 1))) s p := by
    intro d hd
    cases hn : next n (walk n rows d) with
    | none => exact absurd hn (h4 d hd)
    | some r =>
      obtain ⟨s, p, hP, _⟩ := next_some (walk_good G d) hn
      refine ⟨s, p, ?_⟩
      rw [walk, hn]; exact hP
  have hc : c < f := by
    apply Classical.byContradiction
    intro hn
    have hcf : c = f := by omega
    subst hcf
    have hs : ∀ d, ∃ s, d < c → ∃ p, Piv m n (tabOf (walk n rows d)) (tabOf (walk n rows (d + 1))) s p := by
      intro d
      by_cases hd : d < c
      · obtain ⟨s, p, h⟩ := hstep d hd; exact ⟨s, fun _ => ⟨p, h⟩⟩
      · exact ⟨0, fun h => absurd h hd⟩
    have hs2 := Classical.axiomOfChoice hs
    obtain ⟨s, hs2⟩ := hs2
    have hp : ∀ d, ∃ p, d < c → Piv m n (tabOf (walk n rows d)) (tabOf (walk n rows (d + 1))) (s d) p := by
      intro d
      by_cases hd : d < c
      · obtain ⟨p, h⟩ := hs2 d hd; exact ⟨p, fun _ => h⟩
      · exact ⟨0, fun h => absurd h hd⟩
    obtain ⟨p, hp2⟩ := Classical.axiomOfChoice hp
    exact ends (fun d => tabOf (walk n rows d)) s p c hf G.inv hp2
  rw [h2]
  refine ⟨walk_good G c, h3 hc, ?_⟩
  intro x
  have key : ∀ d, d ≤ c → ((∀ i, i < m → dot n (tabOf (walk n rows d)) i x = (tabOf (walk n rows d)).b i) ↔ (∀ i, i < m → dot n (tabOf rows) i x = (tabOf rows).b i)) := by
    intro d
    induction d with
    | zero => intro _; exact Iff.rfl
    | succ d ih =>
      intro hd
      obtain ⟨s, p, hP⟩ := hstep d (by omega)
      exact (hP.all_iff x).trans (ih (by omega))
  exact key c (by omega)
theorem fits_iff {m n : Nat} {rows : List Row} (G : Good m n rows) (hf : (m + 1) ^ n ≤ 2 ^ 1000) : fits n rows = true ↔ ∃ x : Nat → Rat, (∀ j, 0 ≤ x j) ∧ ∀ i, i < m → dot n (tabOf rows) i x = (tabOf rows).b i := by
  unfold fits
  generalize 2 ^ 1000 = f at *
  obtain ⟨G', hn, hx⟩ := stands_end G f hf
  generalize stands n f rows = last at *
  have hall : ((last.filter fun (r : Row) => decide (n ≤ r.base)).all fun (r : Row) => r.rhs == 0) = true ↔ ∀ i, i < m → n ≤ (tabOf last).base i → (tabOf last).b i = 0 := by
    rw [List.all_eq_true]
    have hm := G'.len
    constructor
    · intro h i hi hb
      have := h (rowAt last i) (List.mem_filter.mpr ⟨rowAt_mem last i (by omega), decide_eq_true hb⟩)
      exact eq_of_beq this
    · intro h r hr
      obtain ⟨h1, h2⟩ := List.mem_filter.mp hr
      obtain ⟨i, hi, hri⟩ := List.mem_iff_getElem.mp h1
      rw [← rowAt_eq _ i hi] at hri
      have := h i (by omega) (by show n ≤ (rowAt last i).base; rw [hri]; simpa using h2)
      have h3 : r.rhs = 0 := by rw [← hri]; exact this
      simp [h3]
  rw [hall]
  constructor
  · intro h
    refine ⟨lay m (tabOf last) (tabOf last).b, ?_, ?_⟩
    · intro j
      apply S_nonneg
      intro r hr
      by_cases hb : (tabOf last).base r = j
      · rw [if_pos hb]; exact G'.inv.nonneg r hr
      · rw [if_neg hb]; grind
    · rw [← hx]
      intro i hi
      by_cases hb : n ≤ (tabOf last).base i
      · rw [dot_lay_open G'.inv _ i hi hb, h i hi hb]
      · rw [dot_lay_closed G'.inv _ i hi (by omega)]
  · rintro ⟨x, hx0, hxr⟩
    have hk := (hx x).mpr hxr
    have hz := next_none G' hn
    -- what is open comes to at most 0
    have hw : S m (fun i => if n ≤ (tabOf last).base i then (tabOf last).b i else 0) = S n (fun j => z m n (tabOf last) j * x j) := by
      have e1 : ∀ j, j < n → z m n (tabOf last) j * x j = S m (fun i => if n ≤ (tabOf last).base i then (tabOf last).T i j * x j else 0) := by
        intro j _
        unfold z
        rw [← S_mul']
        apply S_congr
        intro i _
        by_cases hb : n ≤ (tabOf last).base i
        · simp only [if_pos hb]
        · simp only [if_neg hb]; grind
      rw [S_congr n _ _ e1, S_swap]
      apply S_congr
      intro i hi
      by_cases hb : n ≤ (tabOf last).base i
      · simp only [if_pos hb]; exact (hk i hi).symm
      · simp only [if_neg hb]; exact (S_zero n _ (fun _ _ => rfl)).symm
    have hle : S m (fun i => if n ≤ (tabOf last).base i then (tabOf last).b i else 0) ≤ 0 := by
      rw [hw]
      apply S_nonpos
      intro j hj
      exact mul_nonpos _ _ (hz j hj) (hx0 j)
    have := S_all_zero m _ (by
      intro i hi
      by_cases hb : n ≤ (tabOf last).base i
      · simp only [if_pos hb]; exact G'.inv.nonneg i hi
      · simp only [if_neg hb]; grind) hle
    intro i hi hb
    have h0 := this i hi
    simpa only [if_pos hb] using h0
end JM
end
section
namespace JM
open Rd07
def pairsOf (n : Nat) (l : List Table) : List (List Rat × Rat) :=
  l.flatMap fun (t : Table) => (List.range (long t.mask)).map fun (j : Nat) => ((List.range (2 ^ n)).map fun (x : Nat) => if place t.mask x = j then (1 : Rat) else 0, ((t.w.getD j 0 : Nat) : Rat))
theorem rowsOf_eq (n : Nat) (l : List Table) : rowsOf n l = (pairsOf n l).zipIdx.map fun (z : (List Rat × Rat) × Nat) => (⟨z.1.1, z.1.2, 2 ^ n + z.2⟩ : Row) := rfl
theorem rowsOf_len (n : Nat) (l : List Table) : (rowsOf n l).length = (pairsOf n l).length := by
  rw [rowsOf_eq]; simp
theorem rowsOf_at (n : Nat) (l : List Table) (i : Nat) (h : i < (pairsOf n l).length) : rowAt (rowsOf n l) i = ⟨((pairsOf n l)[i]).1, ((pairsOf n l)[i]).2, 2 ^ n + i⟩ := by
  rw [rowAt_eq _ i (by rw [rowsOf_len]; exact h)]
  simp only [rowsOf_eq, List.getElem_map, List.getElem_zipIdx]
  simp
theorem mem_pairs (n : Nat) (l : List Table) (y : List Rat × Rat) : y ∈ pairsOf n l ↔ ∃ t, t ∈ l ∧ ∃ j, j < long t.mask ∧ y = ((List.range (2 ^ n)).map fun (x : Nat) => if place t.mask x = j then (1 : Rat) else 0, ((t.w.getD j 0 : Nat) : Rat)) := by
  unfold pairsOf
  simp only [List.mem_flatMap, List.mem_map, List.mem_range]
  constructor
  · rintro ⟨t, ht, j, hj, e⟩; exact ⟨t, ht, j, hj, e.symm⟩
  · rintro ⟨t, ht, j, hj, e⟩; exact ⟨t, ht, j, hj, e.symm⟩
theorem rowsOf_good (n : Nat) (l : List Table) : Good (pairsOf n l).length (2 ^ n) (rowsOf n l) := by
  have hlen := rowsOf_len n l
  refine ⟨hlen, ?_, ?_, ?_, ?_⟩
  · intro r hr
    obtain ⟨i, hi, hri⟩ := List.mem_iff_getElem.mp hr
    rw [← rowAt_eq _ i hi, rowsOf_at n l i (by omega)] at hri
    rw [← hri]
    obtain ⟨t, _, j, _, e⟩ := (mem_pairs n l _).mp (List.getElem_mem (l := pairsOf n l) (n := i) (by omega))
    simp only [e]
    simp
  · intro i hi
    show 0 ≤ (rowAt _ i).rhs
    rw [rowsOf_at n l i hi]
    obtain ⟨t, _, j, _, e⟩ := (mem_pairs n l _).mp (List.getElem_mem (l := pairsOf n l) (n := i) hi)
    simp only [e]
    exact Rat.natCast_nonneg
  · intro k hk hb
    exfalso
    have : (tabOf (rowsOf n l)).base k = 2 ^ n + k := by
      show (rowAt _ k).base = _
      rw [rowsOf_at n l k hk]
    omega
  · intro i hi _
    show (rowAt _ i).base = _
    rw [rowsOf_at n l i hi]
theorem getD_map_range (N : Nat) (f : Nat → Rat) (y : Nat) (h : y < N) : ((List.range N).map f).getD y 0 = f y := by
  rw [List.getD_eq_getElem?_getD, List.getElem?_map, List.getElem?_range h]; rfl
theorem rows_keep (n : Nat) (l : List Table) (x : Nat → Rat) : (∀ i, i < (pairsOf n l).length → dot (2 ^ n) (tabOf (rowsOf n l)) i x = (tabOf (rowsOf n l)).b i) ↔
    ∀ t, t ∈ l → ∀ j, j < long t.mask → S (2 ^ n) (fun y => if place t.mask y = j then x y else 0) = ((t.w.getD j 0 : Nat) : Rat) := by
  have one : ∀ i (hi : i < (pairsOf n l).length) (t : Table) (j : Nat), (pairsOf n l)[i] = ((List.range (2 ^ n)).map fun (x : Nat) => if place t.mask x = j then (1 : Rat) else 0, ((t.w.getD j 0 : Nat) : Rat)) →
      dot (2 ^ n) (tabOf (rowsOf n l)) i x = S (2 ^ n) (fun y => if place t.mask y = j then x y else 0) ∧ (tabOf (rowsOf n l)).b i = ((t.w.getD j 0 : Nat) : Rat) := by
    intro i hi t j e
    constructor
    · unfold dot
      apply S_congr
      intro y hy
      show (rowAt _ i).at_ y * _ = _
      rw [rowsOf_at n l i hi]
      unfold Row.at_
      simp only [e]
      rw [getD_map_range _ _ y hy]
      by_cases h : place t.mask y = j
      · simp only [if_pos h]; grind
      · simp only [if_neg h]; grind
    · show (rowAt _ i).rhs = _
      rw [rowsOf_at n l i hi]
      simp only [e]
  constructor
  · intro h t ht j hj
    obtain ⟨i, hi, hri⟩ := List.mem_iff_getElem.mp ((mem_pairs n l _).mpr ⟨t, ht, j, hj, rfl⟩)
    obtain ⟨o1, o2⟩ := one i hi t j hri
    rw [← o1, ← o2]; exact h i hi
  · intro h i hi
    obtain ⟨t, ht, j, hj, e⟩ := (mem_pairs n l _).mp (List.getElem_mem (l := pairsOf n l) (n := i) hi)
    obtain ⟨o1, o2⟩ := one i hi t j e
    rw [o1, o2]; exact h t ht j hj
def JointQ (n : Nat) (l : List Table) : Prop := ∃ x : Nat → Rat, (∀ j, 0 ≤ x j) ∧ ∀ t, t ∈ l → ∀ j, j < long t.mask → S (2 ^ n) (fun y => if place t.mask y = j then x y else 0) = ((t.w.getD j 0 : Nat) : Rat)
theorem solvable_iffQ (n : Nat) (l : List Table) (hf : ((pairsOf n l).length + 1) ^ (2 ^ n) ≤ 2 ^ 1000) : solvable n l = true ↔ JointQ n l := by
  unfold solvable JointQ
  rw [fits_iff (rowsOf_good n l) hf]
  constructor
  · rintro ⟨x, h1, h2⟩; exact ⟨x, h1, (rows_keep n l x).mp h2⟩
  · rintro ⟨x, h1, h2⟩; exact ⟨x, h1, (rows_keep n l x).mpr h2⟩
theorem sum_cast (N : Nat) (g : Nat → Int) : ((((List.range N).map g).sum : Int) : Rat) = S N (fun y => ((g y : Int) : Rat)) := by
  induction N with
  | zero => rfl
  | succ N ih =>
    rw [List.range_succ, List.map_append, List.sum_append]
    simp only [List.map_cons, List.map_nil, List.sum_cons, List.sum_nil, S]
    rw [Rat.intCast_add, ih]
    simp
theorem num_den (a : Rat) : a * (a.den : Rat) = (a.num : Rat) := by
  have h1 := Rat.num_divInt_den a
  rw [Rat.divInt_eq_div] at h1
  have h2 : (((a.den : Nat) : Int) : Rat) = (a.den : Rat) := Rat.intCast_natCast _
  rw [h2] at h1
  have h3 : (a.den : Rat) ≠ 0 := by
    have := Rat.natCast_pos.mpr a.den_pos
    grind
  have h4 := Rat.div_mul_cancel (a := (a.num : Rat)) h3
  rw [h1] at h4
  exact h4
theorem common (x : Nat → Rat) (N : Nat) : ∃ k : Nat, 1 ≤ k ∧ ∀ y, y < N → ∃ a : Int, x y * (k : Rat) = (a : Rat) := by
  induction N with
  | zero => exact ⟨1, by omega, fun y hy => by omega⟩
  | succ N ih =>
    obtain ⟨k, hk, h⟩ := ih
    have hd := (x N).den_pos
    refine ⟨k * (x N).den, Nat.mul_pos hk hd, ?_⟩
    intro y hy
    by_cases hyN : y = N
    · subst hyN
      refine ⟨(x y).num * (k : Int), ?_⟩
      have h1 : x y * ((x y).den : Rat) = ((x y).num : Rat) := num_den (x y)
      rw [Rat.natCast_mul, Rat.intCast_mul]
      have h2 : (((k : Nat) : Int) : Rat) = (k : Rat) := Rat.intCast_natCast k
      rw [h2, ← h1]; grind
    · obtain ⟨a, ha⟩ := h y (by omega)
      refine ⟨a * ((x N).den : Int), ?_⟩
      have h2 : ((((x N).den : Nat) : Int) : Rat) = ((x N).den : Rat) := Rat.intCast_natCast _
      rw [Rat.natCast_mul, Rat.intCast_mul, ← ha, h2]; grind
theorem jointQ_iff (n : Nat) (l : List Table) : JointQ n l ↔ Joint n l := by
  unfold JointQ Joint
  constructor
  · rintro ⟨x, h1, h2⟩
    obtain ⟨k, hk, hc⟩ := common x (2 ^ n)
    have hc2 : ∀ y, ∃ a : Int, 0 ≤ a ∧ (y < 2 ^ n → x y * (k : Rat) = (a : Rat)) := by
      intro y
      by_cases hy : y < 2 ^ n
      · obtain ⟨a, ha⟩ := hc y hy
        refine ⟨a, ?_, fun _ => ha⟩
        have : 0 ≤ x y * (k : Rat) := Rat.mul_nonneg (h1 y) Rat.natCast_nonneg
        rw [ha] at this
        exact Rat.intCast_nonneg.mp this
      · exact ⟨0, by omega, fun h => absurd h hy⟩
    obtain ⟨f, hf⟩ := Classical.axiomOfChoice hc2
    refine ⟨f, k, hk, fun y => (hf y).1, ?_⟩
    intro t ht j hj
    have h3 := h2 t ht j hj
    apply Rat.intCast_inj.mp
    unfold told
    rw [sum_cast]
    have e : ∀ y, y < 2 ^ n → ((((if place t.mask y = j then f y else 0) : Int)) : Rat) = (k : Rat) * (if place t.mask y = j then x y else 0) := by
      intro y hy
      by_cases h : place t.mask y = j
      · simp only [if_pos h]
        rw [← (hf y).2 hy]; grind
      · simp only [if_neg h]
        have : ((0 : Int) : Rat) = 0 := rfl
        rw [this]; grind
    rw [S_congr _ _ _ e, S_mul, h3, Rat.intCast_natCast, Rat.natCast_mul]
  · rintro ⟨f, k, hk, h1, h2⟩
    have hkp : (0 : Rat) < (k : Rat) := Rat.natCast_pos.mpr hk
    have hkn : (k : Rat) ≠ 0 := by grind
    refine ⟨fun y => (f y : Rat) / (k : Rat), ?_, ?_⟩
    · intro y
      exact div_nonneg _ _ (Rat.intCast_nonneg.mpr (h1 y)) hkp
    · intro t ht j hj
      have h3 := congrArg (fun (a : Int) => (a : Rat)) (h2 t ht j hj)
      unfold told at h3
      rw [sum_cast, Rat.intCast_natCast, Rat.natCast_mul] at h3
      have e : ∀ y, y < 2 ^ n → (if place t.mask y = j then (f y : Rat) / (k : Rat) else 0) = (k : Rat)⁻¹ * ((((if place t.mask y = j then f y else 0) : Int)) : Rat) := by
        intro y hy
        by_cases h : place t.mask y = j
        · simp only [if_pos h]; grind
        · simp only [if_neg h]
          have : ((0 : Int) : Rat) = 0 := rfl
          rw [this]; grind
      rw [S_congr _ _ _ e, S_mul, h3]
      have := Rat.inv_mul_cancel (k : Rat) hkn
      grind
theorem long_le (m : Nat) (h : m < 32) : long m ≤ 32 := by
  revert m; decide
theorem pairs_len (n : Nat) (l : List Table) (h : ∀ t, t ∈ l → t.mask < 32) : (pairsOf n l).length ≤ 32 * l.length := by
  induction l with
  | nil => simp [pairsOf]
  | cons t l ih =>
    have h1 := ih (fun u hu => h u (List.mem_cons_of_mem _ hu))
    have h2 := long_le t.mask (h t List.mem_cons_self)
    unfold pairsOf at *
    rw [List.flatMap_cons, List.length_append, List.length_map, List.length_range, List.length_cons]
    omega
theorem few (a c : Nat) (h : a ≤ 512) (hc : c = 32) : a ^ c ≤ 2 ^ 1000 := by
  have h1 : a ≤ 2 ^ 9 := h
  have h2 := Nat.pow_le_pow_left h1 c
  rw [← Nat.pow_mul] at h2
  exact Nat.le_trans h2 (Nat.pow_le_pow_right (by omega) (by omega))
theorem solvable_iff (l : List Table) (hl : l.length ≤ 8) (hm : ∀ t, t ∈ l → t.mask < 32) : solvable 5 l = true ↔ Joint 5 l := by
  rw [← jointQ_iff]
  apply solvable_iffQ
  have h := pairs_len 5 l hm
  exact few _ _ (by omega) rfl
end JM
end
section
namespace DT
open JM
def skip {α : Type} (j : Nat) (f : Nat → α) : Nat → α := fun i => if i < j then f i else f (i + 1)
def put {α : Type} (f : Nat → α) (i : Nat) (v : α) : Nat → α := fun k => if k = i then v else f k
def sg : Nat → Rat
  | 0 => 1
  | n + 1 => - sg n
theorem sg_two (a : Nat) : sg (a + a) = 1 := by
  induction a with
  | zero => rfl
  | succ a ih =>
    have : a + 1 + (a + 1) = (a + a) + 1 + 1 := by omega
    rw [this]; simp only [sg]; rw [ih]; grind
def det : Nat → (Nat → Nat → Rat) → Rat
  | 0, _ => 1
  | m + 1, f => S (m + 1) (fun j => sg (j + m) * f j m * det m (skip j f))
theorem det_congr (m : Nat) : ∀ (f g : Nat → Nat → Rat), (∀ i k, i < m → k < m → f i k = g i k) → det m f = det m g := by
  induction m with
  | zero => intros; rfl
  | succ m ih =>
    intro f g h
    simp only [det]
    apply S_congr
    intro j hj
    rw [h j m hj (by omega), ih (skip j f) (skip j g) (by
      intro i k hi hk
      unfold skip
      by_cases hij : i < j
      · simp only [if_pos hij]; exact h i k (by omega) (by omega)
      · simp only [if_neg hij]; exact h (i + 1) k (by omega) (by omega))]
theorem skip_put_same {α : Type} (f : Nat → α) (i : Nat) (v : α) : skip i (put f i v) = skip i f := by
  funext k
  unfold skip put
  by_cases h : k < i
  · simp only [if_pos h]; rw [if_neg (by omega)]
  · simp only [if_neg h]; rw [if_neg (by omega)]
theorem skip_put_lt {α : Type} (f : Nat → α) (i j : Nat) (v : α) (h : i < j) : skip j (put f i v) = put (skip j f) i v := by
  funext k
  unfold skip put
  by_cases h1 : k < j
  · simp only [if_pos h1]
  · simp only [if_neg h1]
    rw [if_neg (by omega), if_neg (by omega)]
theorem skip_put_gt {α : Type} (f : Nat → α) (i j : Nat) (v : α) (h : j < i) : skip j (put f i v) = put (skip j f) (i - 1) v := by
  funext k
  unfold skip put
  by_cases h1 : k < j
  · simp only [if_pos h1]
    rw [if_neg (by omega), if_neg (by omega)]
  · simp only [if_neg h1]
    by_cases h2 : k + 1 = i
    · rw [if_pos h2, if_pos (by omega)]
    · rw [if_neg h2, if_neg (by omega)]
theorem det_lin (m : Nat) : ∀ (f : Nat → Nat → Rat) (i : Nat) (a b : Rat) (u v : Nat → Rat), i < m → det m (put f i (fun k => a * u k + b * v k)) = a * det m (put f i u) + b * det m (put f i v) := by
  induction m with
  | zero => intros; omega
  | succ m ih =>
    intro f i a b u v hi
    simp only [det]
    rw [← S_mul, ← S_mul, ← S_add]
    apply S_congr
    intro j hj
    by_cases hij : j = i
    · subst hij
      rw [skip_put_same, skip_put_same, skip_put_same]
      simp only [put, if_true]
      grind
    · have e : ∀ w : Nat → Rat, put f i w j m = f j m := by intro w; unfold put; rw [if_neg hij]
      rw [e, e, e]
      by_cases hlt : i < j
      · rw [skip_put_lt f i j _ hlt, skip_put_lt f i j _ hlt, skip_put_lt f i j _ hlt, ih (skip j f) i a b u v (by omega)]
        grind
      · rw [skip_put_gt f i j _ (by omega), skip_put_gt f i j _ (by omega), skip_put_gt f i j _ (by omega), ih (skip j f) (i - 1) a b u v (by omega)]
        grind
theorem det_adj (m : Nat) : ∀ (f : Nat → Nat → Rat) (i : Nat), i + 1 < m → (∀ k, f i k = f (i + 1) k) → det m f = 0 := by
  induction m with
  | zero => intros; omega
  | succ m ih =>
    intro f i hi h
    simp only [det]
    have hz : ∀ j, j < m + 1 → j ≠ i → j ≠ i + 1 → sg (j + m) * f j m * det m (skip j f) = 0 := by
      intro j hj h1 h2
      have : det m (skip j f) = 0 := by
        by_cases hlt : j < i
        · apply ih (skip j f) (i - 1) (by omega)
          intro k
          unfold skip
          rw [if_neg (by omega), if_neg (by omega)]
          have e1 : i - 1 + 1 = i := by omega
          rw [e1]; exact h k
        · apply ih (skip j f) i (by omega)
          intro k
          unfold skip
          rw [if_pos (by omega), if_pos (by omega)]; exact h k
      rw [this]; grind
    have hsk : det m (skip i f) = det m (skip (i + 1) f) := by
      apply det_congr
      intro a k _ _
      unfold skip
      by_cases h1 : a < i
      · rw [if_pos h1, if_pos (by omega)]
      · rw [if_neg h1]
        by_cases h2 : a = i
        · subst h2; rw [if_pos (by omega)]; exact (h k).symm
        · rw [if_neg (by omega)]
    -- the two terms cancel
    have two : ∀ (n : Nat) (g : Nat → Rat), i + 1 < n → (∀ j, j < n → j ≠ i → j ≠ i + 1 → g j = 0) → S n g = g i + g (i + 1) := by
      intro n
      induction n with
      | zero => intros; omega
      | succ n ihn =>
        intro g hn hg
        simp only [S]
        by_cases hin : n = i + 1
        · subst hin
          rw [S_single (i + 1) i g (by omega) (fun k hk hne => hg k (by omega) hne (by omega))]
        · rw [ihn g (by omega) (fun j hj => hg j (by omega)), hg n (by omega) (by omega) hin]
          grind
    rw [two (m + 1) _ hi hz, hsk, h m]
    have : i + 1 + m = (i + m) + 1 := by omega
    rw [this]
    simp only [sg]
    grind
theorem put_comm {α : Type} (f : Nat → α) (i j : Nat) (u v : α) (h : i ≠ j) : put (put f i u) j v = put (put f j v) i u := by
  funext k; unfold put
  by_cases h1 : k = j
  · subst h1; rw [if_pos rfl, if_neg (by omega), if_pos rfl]
  · rw [if_neg h1]
    by_cases h2 : k = i
    · rw [if_pos h2, if_pos h2]
    · rw [if_neg h2, if_neg h2, if_neg h1]
theorem put_self {α : Type} (f : Nat → α) (i : Nat) : put f i (f i) = f := by
  funext k; unfold put; by_cases h : k = i
  · subst h; simp
  · simp [h]
theorem det_swap (m : Nat) (f : Nat → Nat → Rat) (i : Nat) (hi : i + 1 < m) (u v : Nat → Rat) : det m (put (put f i u) (i + 1) v) = - det m (put (put f i v) (i + 1) u) := by
  have lin1 : ∀ (g : Nat → Nat → Rat) (j : Nat) (a b : Nat → Rat), j < m → det m (put g j (fun k => a k + b k)) = det m (put g j a) + det m (put g j b) := by
    intro g j a b hj
    have := det_lin m g j 1 1 a b hj
    have e : (fun k => 1 * a k + 1 * b k) = (fun k => a k + b k) := by funext k; grind
    rw [e] at this
    rw [this]; grind
  have zero : ∀ a : Nat → Rat, det m (put (put f i a) (i + 1) a) = 0 := by
    intro a
    apply det_adj m _ i hi
    intro k
    unfold put
    rw [if_neg (by omega), if_pos rfl, if_pos rfl]
  have h0 := zero (fun k => u k + v k)
  rw [lin1 _ (i + 1) u v hi] at h0
  rw [put_comm f i (i + 1) _ _ (by omega), lin1 _ i u v (by omega), put_comm f i (i + 1) _ _ (by omega), lin1 _ i u v (by omega)] at h0
  rw [put_comm f (i + 1) i _ _ (by omega), put_comm f (i + 1) i _ _ (by omega), put_comm f (i + 1) i _ _ (by omega), put_comm f (i + 1) i _ _ (by omega)] at h0
  rw [zero u, zero v] at h0
  grind
theorem det_alt (m : Nat) : ∀ (d : Nat) (f : Nat → Nat → Rat) (i : Nat), i + d + 1 < m → (∀ k, f i k = f (i + d + 1) k) → det m f = 0 := by
  intro d
  induction d with
  | zero => intro f i hi h; exact det_adj m f i hi h
  | succ d ih =>
    intro f i hi h
    have e := det_swap m f (i + (d + 1)) (by omega) (f (i + (d + 1))) (f (i + (d + 1) + 1))
    rw [put_self, put_self] at e
    rw [e]
    rw [ih (put (put f (i + (d + 1)) (f (i + (d + 1) + 1))) (i + (d + 1) + 1) (f (i + (d + 1)))) i (by omega) (by
      intro k
      unfold put
      rw [if_neg (by omega), if_neg (by omega), if_neg (by omega), if_pos (by omega)]
      exact h k)]
    grind
theorem det_same (m : Nat) (f : Nat → Nat → Rat) (i j : Nat) (hi : i < m) (hj : j < m) (hne : i ≠ j) (h : ∀ k, f i k = f j k) : det m f = 0 := by
  by_cases hlt : i < j
  · exact det_alt m (j - i - 1) f i (by omega) (by
      have : i + (j - i - 1) + 1 = j := by omega
      rw [this]; exact h)
  · exact det_alt m (i - j - 1) f j (by omega) (by
      have : j + (i - j - 1) + 1 = i := by omega
      rw [this]; exact fun k => (h k).symm)
theorem det_sum (m : Nat) (f : Nat → Nat → Rat) (i : Nat) (hi : i < m) (c : Nat → Rat) (u : Nat → Nat → Rat) : ∀ n, det m (put f i (fun k => S n (fun r => c r * u r k))) = S n (fun r => c r * det m (put f i (u r))) := by
  intro n
  induction n with
  | zero =>
    simp only [S]
    have := det_lin m f i 0 0 (fun _ => 0) (fun _ => 0) hi
    have e : (fun (k : Nat) => (0 : Rat) * 0 + 0 * 0) = fun _ => 0 := by funext k; grind
    rw [e] at this
    rw [this]; grind
  | succ n ih =>
    simp only [S]
    have := det_lin m f i 1 (c n) (fun k => S n (fun r => c r * u r k)) (u n) hi
    have e : (fun k => 1 * S n (fun r => c r * u r k) + c n * u n k) = fun k => S n (fun r => c r * u r k) + c n * u n k := by funext k; grind
    rw [e] at this
    rw [this, ih]; grind
theorem cramer (m : Nat) (f : Nat → Nat → Rat) (i : Nat) (hi : i < m) (c : Nat → Rat) (v : Nat → Rat) (h : ∀ k, k < m → v k = S m (fun r => c r * f r k)) : det m (put f i v) = c i * det m f := by
  have e : det m (put f i v) = det m (put f i (fun k => S m (fun r => c r * f r k))) := by
    apply det_congr
    intro a k _ hk
    unfold put
    by_cases h1 : a = i
    · simp only [if_pos h1]; exact h k hk
    · simp only [if_neg h1]
  rw [e, det_sum m f i hi c f m, S_single m i _ hi]
  · rw [put_self]
  · intro r hr hne
    rw [det_same m (put f i (f r)) i r hi hr (fun h => hne h.symm) (by
      intro k; unfold put; rw [if_pos rfl, if_neg hne])]
    grind
theorem det_one (m : Nat) : det m (fun i k => if i = k then 1 else 0) = 1 := by
  induction m with
  | zero => rfl
  | succ m ih =>
    simp only [det]
    rw [S_single (m + 1) m _ (by omega)]
    · rw [sg_two]
      simp only [if_true]
      have : det m (skip m fun i k => if i = k then (1 : Rat) else 0) = det m (fun i k => if i = k then (1 : Rat) else 0) := by
        apply det_congr
        intro i k hi hk
        unfold skip
        rw [if_pos hi]
      rw [this, ih]; grind
    · intro i hi hne
      rw [if_neg hne]; grind
theorem S_int (n : Nat) (f : Nat → Rat) (h : ∀ i, i < n → ∃ a : Int, f i = (a : Rat)) : ∃ a : Int, S n f = (a : Rat) := by
  induction n with
  | zero => exact ⟨0, rfl⟩
  | succ n ih =>
    obtain ⟨a, ha⟩ := ih (fun i hi => h i (by omega))
    obtain ⟨b, hb⟩ := h n (by omega)
    exact ⟨a + b, by simp only [S]; rw [ha, hb, Rat.intCast_add]⟩
theorem sg_int (n : Nat) : ∃ a : Int, sg n = (a : Rat) := by
  induction n with
  | zero => exact ⟨1, rfl⟩
  | succ n ih => obtain ⟨a, ha⟩ := ih; exact ⟨-a, by simp only [sg]; rw [ha, Rat.intCast_neg]⟩
theorem det_int (m : Nat) : ∀ (f : Nat → Nat → Rat), (∀ i k, i < m → k < m → ∃ a : Int, f i k = (a : Rat)) → ∃ a : Int, det m f = (a : Rat) := by
  induction m with
  | zero => intro f _; exact ⟨1, rfl⟩
  | succ m ih =>
    intro f h
    simp only [det]
    apply S_int
    intro j hj
    obtain ⟨a, ha⟩ := sg_int (j + m)
    obtain ⟨b, hb⟩ := h j m hj (by omega)
    obtain ⟨c, hc⟩ := ih (skip j f) (by
      intro i k hi hk
      unfold skip
      by_cases hij : i < j
      · simp only [if_pos hij]; exact h i k (by omega) (by omega)
      · simp only [if_neg hij]; exact h (i + 1) k (by omega) (by omega))
    exact ⟨a * b * c, by rw [ha, hb, hc, Rat.intCast_mul, Rat.intCast_mul]⟩
def Le (a c : Rat) : Prop := -c ≤ a ∧ a ≤ c
theorem Le_mul (a b c d : Rat) (h : Le a c) (g : Le b d) : Le (a * b) (c * d) := by
  obtain ⟨h1, h2⟩ := h
  obtain ⟨g1, g2⟩ := g
  have p1 := Rat.mul_nonneg (a := c - a) (b := d - b) (by grind) (by grind)
  have p2 := Rat.mul_nonneg (a := c + a) (b := d + b) (by grind) (by grind)
  have p3 := Rat.mul_nonneg (a := c - a) (b := d + b) (by grind) (by grind)
  have p4 := Rat.mul_nonneg (a := c + a) (b := d - b) (by grind) (by grind)
  constructor <;> grind
theorem S_le (n : Nat) (f : Nat → Rat) (c : Rat) (h : ∀ i, i < n → Le (f i) c) : Le (S n f) ((n : Rat) * c) := by
  induction n with
  | zero => simp only [S]; unfold Le; constructor <;> grind
  | succ n ih =>
    have h1 := ih (fun i hi => h i (by omega))
    have h2 := h n (by omega)
    obtain ⟨a1, a2⟩ := h1
    obtain ⟨b1, b2⟩ := h2
    have e : ((n + 1 : Nat) : Rat) = (n : Rat) + 1 := by rw [Rat.natCast_add]; rfl
    simp only [S]
    unfold Le
    rw [e]
    constructor <;> grind
theorem sg_le (n : Nat) : Le (sg n) 1 := by
  induction n with
  | zero => unfold Le sg; constructor <;> grind
  | succ n ih => obtain ⟨a, b⟩ := ih; unfold Le; simp only [sg]; constructor <;> grind
def bnd (c : Nat) : Nat → Nat
  | 0 => 1
  | m + 1 => (m + 1) * (c * bnd c m)
theorem det_le (c : Nat) (m : Nat) : ∀ (f : Nat → Nat → Rat), (∀ i k, i < m → k < m → Le (f i k) (c : Rat)) → Le (det m f) (bnd c m : Rat) := by
  induction m with
  | zero => intro f _; unfold Le; simp only [det, bnd]; constructor <;> grind
  | succ m ih =>
    intro f h
    have key : ∀ j, j < m + 1 → Le (sg (j + m) * f j m * det m (skip j f)) ((c * bnd c m : Nat) : Rat) := by
      intro j hj
      have h1 := h j m hj (by omega)
      have h2 := ih (skip j f) (by
        intro i k hi hk
        unfold skip
        by_cases hij : i < j
        · simp only [if_pos hij]; exact h i k (by omega) (by omega)
        · simp only [if_neg hij]; exact h (i + 1) k (by omega) (by omega))
      have h3 := Le_mul _ _ _ _ (Le_mul _ _ _ _ (sg_le (j + m)) h1) h2
      have e : (1 : Rat) * (c : Rat) * (bnd c m : Rat) = ((c * bnd c m : Nat) : Rat) := by rw [Rat.natCast_mul]; grind
      rw [e] at h3
      exact h3
    have := S_le (m + 1) _ _ key
    simp only [det, bnd]
    rw [Rat.natCast_mul]
    exact this
end DT
end
section
namespace DT
open JM
structure Alg (m n : Nat) (A A' : Tab) (s p : Nat) : Prop where
  hs : s < n
  hp : p < m
  piv : 0 < A.T p s
  basep : A'.base p = s
  basei : ∀ i, i < m → i ≠ p → A'.base i = A.base i
  Tp : ∀ j, j < n → A'.T p j = A.T p j / A.T p s
  Ti : ∀ i, i < m → i ≠ p → ∀ j, j < n → A'.T i j = A.T i j - A.T i s * (A.T p j / A.T p s)
  bp : A'.b p = A.b p / A.T p s
  bi : ∀ i, i < m → i ≠ p → A'.b i = A.b i - A.T i s * (A.b p / A.T p s)
theorem alg_of {m n : Nat} {A A' : Tab} {s p : Nat} (P : Piv m n A A' s p) : Alg m n A A' s p :=
  ⟨P.hs, P.hp, P.piv, P.basep, P.basei, P.Tp, P.Ti, P.bp, P.bi⟩
def bc (n : Nat) (A0 : Nat → Nat → Rat) (base : Nat → Nat) (i k : Nat) : Rat := if base i < n then A0 k (base i) else if i = k then 1 else 0
structure Col (m n : Nat) (A0 : Nat → Nat → Rat) (b0 : Nat → Rat) (A : Tab) : Prop where
  col : ∀ j, j < n → ∀ k, k < m → A0 k j = S m (fun i => A.T i j * bc n A0 A.base i k)
  rhs : ∀ k, k < m → b0 k = S m (fun i => A.b i * bc n A0 A.base i k)
  pos : 0 < det m (bc n A0 A.base)
theorem Col.first {m n : Nat} (A : Tab) (h : ∀ i, i < m → n ≤ A.base i) : Col m n A.T A.b A := by
  have hb : ∀ i k, i < m → bc n A.T A.base i k = if i = k then 1 else 0 := by
    intro i k hi
    unfold bc
    rw [if_neg (by have := h i hi; omega)]
  refine ⟨?_, ?_, ?_⟩
  · intro j hj k hk
    rw [S_single m k _ hk]
    · rw [hb k k hk]; simp
    · intro i hi hne; rw [hb i k hi, if_neg hne]; grind
  · intro k hk
    rw [S_single m k _ hk]
    · rw [hb k k hk]; simp
    · intro i hi hne; rw [hb i k hi, if_neg hne]; grind
  · rw [det_congr m _ (fun i k => if i = k then 1 else 0) (fun i k hi _ => hb i k hi), det_one]
    grind
section
variable {m n : Nat} {A0 : Nat → Nat → Rat} {b0 : Nat → Rat} {A A' : Tab} {s p : Nat}
theorem Alg.sum (P : Alg m n A A' s p) (C : Col m n A0 b0 A) (c c' : Nat → Rat) (hp : c' p = c p / A.T p s) (hi : ∀ i, i < m → i ≠ p → c' i = c i - A.T i s * (c p / A.T p s)) (k : Nat) (hk : k < m) :
    S m (fun i => c' i * bc n A0 A'.base i k) = S m (fun i => c i * bc n A0 A.base i k) := by
  have hne : A.T p s ≠ 0 := by have := P.piv; grind
  have hs := C.col s P.hs k hk
  have hbp : bc n A0 A'.base p k = A0 k s := by unfold bc; rw [P.basep, if_pos P.hs]
  have hbi : ∀ i, i < m → i ≠ p → bc n A0 A'.base i k = bc n A0 A.base i k := by
    intro i him hip; unfold bc; rw [P.basei i him hip]
  -- split the place p off
  have split : ∀ f : Nat → Rat, S m f = S m (fun i => if i = p then 0 else f i) + f p := by
    intro f
    have e : ∀ i, i < m → f i = (if i = p then 0 else f i) + (if i = p then f p else 0) := by
      intro i _
      by_cases h : i = p
      · subst h; simp only [if_true]; grind
      · simp only [if_neg h]; grind
    rw [S_congr m f _ e, S_add, S_pick m p _ P.hp]
  have hsp : A0 k s = S m (fun i => if i = p then 0 else A.T i s * bc n A0 A.base i k) + A.T p s * bc n A0 A.base p k := by
    rw [hs]; exact split _
  have e1 : S m (fun i => if i = p then 0 else c' i * bc n A0 A'.base i k) = S m (fun i => if i = p then 0 else c i * bc n A0 A.base i k) - (c p / A.T p s) * S m (fun i => if i = p then 0 else A.T i s * bc n A0 A.base i k) := by
    rw [← S_mul, ← S_sub]
    apply S_congr
    intro i him
    by_cases h : i = p
    · simp only [if_pos h]; grind
    · simp only [if_neg h]
      rw [hi i him h, hbi i him h]; grind
  rw [split (fun i => c' i * bc n A0 A'.base i k), split (fun i => c i * bc n A0 A.base i k), e1, hp, hbp, hsp]
  have e2 : c p / A.T p s * A.T p s = c p := Rat.div_mul_cancel hne
  grind
theorem Alg.det (P : Alg m n A A' s p) (C : Col m n A0 b0 A) : det m (bc n A0 A'.base) = A.T p s * det m (bc n A0 A.base) := by
  have e : DT.det m (bc n A0 A'.base) = DT.det m (put (bc n A0 A.base) p (fun k => A0 k s)) := by
    apply det_congr
    intro i k hi _
    unfold put bc
    by_cases h : i = p
    · simp only [if_pos h]; rw [h, P.basep, if_pos P.hs]
    · simp only [if_neg h]; rw [P.basei i hi h]
  rw [e]
  exact cramer m _ p P.hp (fun i => A.T i s) _ (fun k hk => C.col s P.hs k hk)
theorem Alg.col (P : Alg m n A A' s p) (C : Col m n A0 b0 A) : Col m n A0 b0 A' := by
  refine ⟨?_, ?_, ?_⟩
  · intro j hj k hk
    rw [P.sum C (fun i => A.T i j) (fun i => A'.T i j) (P.Tp j hj) (fun i hi hip => P.Ti i hi hip j hj) k hk]
    exact C.col j hj k hk
  · intro k hk
    rw [P.sum C A.b A'.b P.bp P.bi k hk]
    exact C.rhs k hk
  · rw [P.det C]
    exact Rat.mul_pos P.piv C.pos
theorem Col.T_det (C : Col m n A0 b0 A) (i j : Nat) (hi : i < m) (hj : j < n) : A.T i j * DT.det m (bc n A0 A.base) = DT.det m (put (bc n A0 A.base) i (fun k => A0 k j)) :=
  (cramer m _ i hi (fun i => A.T i j) _ (fun k hk => C.col j hj k hk)).symm
theorem Col.b_det (C : Col m n A0 b0 A) (i : Nat) (hi : i < m) : A.b i * DT.det m (bc n A0 A.base) = DT.det m (put (bc n A0 A.base) i b0) :=
  (cramer m _ i hi A.b _ (fun k hk => C.rhs k hk)).symm
structure Whole (m n c : Nat) (A0 : Nat → Nat → Rat) (b0 : Nat → Rat) : Prop where
  one : 1 ≤ c
  T : ∀ k j, k < m → j < n → (∃ a : Int, A0 k j = (a : Rat)) ∧ Le (A0 k j) c
  b : ∀ k, k < m → (∃ a : Int, b0 k = (a : Rat)) ∧ Le (b0 k) c
theorem one_le {c : Nat} (h : 1 ≤ c) : (1 : Rat) ≤ (c : Rat) := by
  have : ((1 : Nat) : Rat) ≤ (c : Rat) := Rat.natCast_le_natCast.mpr h
  exact this
theorem bc_whole {c : Nat} (W : Whole m n c A0 b0) (base : Nat → Nat) (i k : Nat) (hk : k < m) : (∃ a : Int, bc n A0 base i k = (a : Rat)) ∧ Le (bc n A0 base i k) c := by
  have h1 := one_le W.one
  unfold bc
  by_cases h : base i < n
  · simp only [if_pos h]; exact W.T k (base i) hk h
  · simp only [if_neg h]
    by_cases h2 : i = k
    · simp only [if_pos h2]; exact ⟨⟨1, rfl⟩, by unfold Le; constructor <;> grind⟩
    · simp only [if_neg h2]; exact ⟨⟨0, rfl⟩, by unfold Le; constructor <;> grind⟩
theorem det_whole {c : Nat} (W : Whole m n c A0 b0) (base : Nat → Nat) (i : Nat) (v : Nat → Rat) (hv : ∀ k, k < m → (∃ a : Int, v k = (a : Rat)) ∧ Le (v k) c) : (∃ a : Int, DT.det m (put (bc n A0 base) i v) = (a : Rat)) ∧ Le (DT.det m (put (bc n A0 base) i v)) (bnd c m) := by
  constructor
  · apply det_int
    intro r k hr hk
    unfold put
    by_cases h : r = i
    · simp only [if_pos h]; exact (hv k hk).1
    · simp only [if_neg h]; exact (bc_whole W base r k hk).1
  · apply det_le
    intro r k hr hk
    unfold put
    by_cases h : r = i
    · simp only [if_pos h]; exact (hv k hk).2
    · simp only [if_neg h]; exact (bc_whole W base r k hk).2
theorem Col.whole {c : Nat} (C : Col m n A0 b0 A) (W : Whole m n c A0 b0) :
    ((∃ a : Int, DT.det m (bc n A0 A.base) = (a : Rat)) ∧ Le (DT.det m (bc n A0 A.base)) (bnd c m)) ∧
    (∀ i j, i < m → j < n → (∃ a : Int, A.T i j * DT.det m (bc n A0 A.base) = (a : Rat)) ∧ Le (A.T i j * DT.det m (bc n A0 A.base)) (bnd c m)) ∧
    (∀ i, i < m → (∃ a : Int, A.b i * DT.det m (bc n A0 A.base) = (a : Rat)) ∧ Le (A.b i * DT.det m (bc n A0 A.base)) (bnd c m)) := by
  refine ⟨⟨det_int m _ (fun i k hi hk => (bc_whole W A.base i k hk).1), det_le c m _ (fun i k hi hk => (bc_whole W A.base i k hk).2)⟩, ?_, ?_⟩
  · intro i j hi hj
    rw [C.T_det i j hi hj]
    exact det_whole W A.base i _ (fun k hk => W.T k j hk hj)
  · intro i hi
    rw [C.b_det i hi]
    exact det_whole W A.base i _ (fun k hk => W.b k hk)
end
end DT
end
section
namespace SP
open Rd07
def aw (m : Nat) : List Nat := (List.range 32).filter fun x => decide (x &&& m = x)
theorem aw_len : ∀ m, m < 32 → (aw m).length = long m := by decide +kernel
theorem aw_get' : ∀ m, m < 32 → ∀ j, j < 32 → j < long m → (aw m)[j]? = some (spread m j) := by decide +kernel
theorem long_le32 : ∀ m, m < 32 → long m ≤ 32 := by decide +kernel
theorem aw_get (m j : Nat) (hm : m < 32) (hj : j < long m) : (aw m)[j]? = some (spread m j) :=
  aw_get' m hm j (Nat.lt_of_lt_of_le hj (long_le32 m hm)) hj
theorem place_lt : ∀ m, m < 32 → ∀ x, x < 32 → place m x < long m := by decide +kernel
theorem spread_place : ∀ m, m < 32 → ∀ x, x < 32 → spread m (place m x) = x &&& m := by decide +kernel
theorem place_spread' : ∀ m, m < 32 → ∀ j, j < 32 → j < long m → place m (spread m j) = j := by decide +kernel
theorem place_spread (m j : Nat) (hm : m < 32) (hj : j < long m) : place m (spread m j) = j :=
  place_spread' m hm j (Nat.lt_of_lt_of_le hj (long_le32 m hm)) hj
theorem spread_lt' : ∀ m, m < 32 → ∀ j, j < 32 → spread m j < 32 := by decide +kernel
theorem spread_lt (m j : Nat) (hm : m < 32) (hj : j < long m) : spread m j < 32 :=
  spread_lt' m hm j (Nat.lt_of_lt_of_le hj (long_le32 m hm))
theorem spread_sub' : ∀ m, m < 32 → ∀ j, j < 32 → j < long m → spread m j &&& m = spread m j := by decide +kernel
theorem aw_mem (m x : Nat) : x ∈ aw m ↔ x < 32 ∧ x &&& m = x := by
  unfold aw
  rw [List.mem_filter, List.mem_range, decide_eq_true_eq]
theorem aw_nodup (m : Nat) : (aw m).Nodup := (List.Pairwise.filter _ (List.nodup_range (n := 32)))
def prs (t : Table) : List (Nat × Nat) := (aw t.mask).zip t.w
structure Ok (t : Table) : Prop where
  lo : 1 ≤ t.mask
  hi : t.mask < 32
  len : t.w.length = long t.mask
  most : ∀ x, x ∈ t.w → x ≤ 1000
theorem sum_range_zip (f : Nat → Nat → Nat) : ∀ (a b : List Nat), a.length = b.length → ((List.range a.length).map fun j => f (a.getD j 0) (b.getD j 0)).sum = ((a.zip b).map fun p => f p.1 p.2).sum
  | [], [], _ => rfl
  | [], _ :: _, h => by simp at h
  | _ :: _, [], h => by simp at h
  | x :: a, y :: b, h => by
    have ih := sum_range_zip f a b (by simpa using h)
    rw [List.length_cons, List.range_succ_eq_map, List.map_cons, List.map_map, List.zip_cons_cons, List.map_cons, List.sum_cons, List.sum_cons, ← ih]
    rfl
theorem share_eq (t : Table) (hm : t.mask < 32) (hl : t.w.length = long t.mask) (s x : Nat) : share t s x = ((prs t).map fun p => if p.1 &&& s = x &&& s then p.2 else 0).sum := by
  have hal : (aw t.mask).length = t.w.length := by rw [aw_len t.mask hm, hl]
  unfold prs
  rw [← sum_range_zip (fun a b => if a &&& s = x &&& s then b else 0) _ _ hal, aw_len t.mask hm]
  unfold share
  congr 1
  apply List.map_congr_left
  intro j hj
  have hj' := List.mem_range.mp hj
  have e : (aw t.mask).getD j 0 = spread t.mask j := by
    rw [List.getD_eq_getElem?_getD, aw_get t.mask j hm hj']; rfl
  rw [e]
  rfl
end SP
end
section
namespace SP
open Rd07
inductive One : List Int → List (List Int) → Nat → Prop
  | begin (r : List Int) : One (0 :: r) [[0]] 1
  | add (m : Int) (w r : List Int) : One (1 :: m :: (w.length : Int) :: (w ++ r)) [[1, m], w] (3 + w.length)
  | share (i m x : Int) (r : List Int) : One (2 :: i :: m :: x :: r) [[2, i, m, x]] 4
  | agree (r : List Int) : One (3 :: r) [[3]] 1
  | joint (r : List Int) : One (4 :: r) [[4]] 1
  | possible (r : List Int) : One (5 :: r) [[5]] 1
  | covered (r : List Int) : One (6 :: r) [[6]] 1
  | tree (r : List Int) : One (7 :: r) [[7]] 1
theorem call_eq (p : Int) (r : List Int) : PyFlat.call PyRd07.shape (p :: r) = match PyRd07.shape p with
    | none => none
    | some (n, k) => if r.length < n then none else match PyFlat.rows k (r.drop n) with
      | none => none
      | some (xs, t) => some ((p :: r.take n) :: xs, t) := rfl
theorem call_plain {p : Int} {r : List Int} (h : PyRd07.shape p = some (0, 0)) : PyFlat.call PyRd07.shape (p :: r) = some ([[p]], r) := by
  rw [call_eq, h]
  simp [PyFlat.rows]
theorem call_one (l : List Int) (c : List (List Int)) (t : List Int) (h : PyFlat.call PyRd07.shape l = some (c, t)) : ∃ k, One l c k ∧ t = l.drop k ∧ k ≤ l.length ∧ 1 ≤ k := by
  cases l with
  | nil => simp [PyFlat.call] at h
  | cons p r =>
    by_cases h0 : p = 0
    · subst h0; rw [call_plain rfl] at h; cases h; exact ⟨1, .begin _, rfl, by simp, by omega⟩
    by_cases h3 : p = 3
    · subst h3; rw [call_plain rfl] at h; cases h; exact ⟨1, .agree _, rfl, by simp, by omega⟩
    by_cases h4 : p = 4
    · subst h4; rw [call_plain rfl] at h; cases h; exact ⟨1, .joint _, rfl, by simp, by omega⟩
    by_cases h5 : p = 5
    · subst h5; rw [call_plain rfl] at h; cases h; exact ⟨1, .possible _, rfl, by simp, by omega⟩
    by_cases h6 : p = 6
    · subst h6; rw [call_plain rfl] at h; cases h; exact ⟨1, .covered _, rfl, by simp, by omega⟩
    by_cases h7 : p = 7
    · subst h7; rw [call_plain rfl] at h; cases h; exact ⟨1, .tree _, rfl, by simp, by omega⟩
    by_cases h1 : p = 1
    · subst h1
      rw [call_eq] at h
      have hs : PyRd07.shape 1 = some (1, 1) := rfl
      rw [hs] at h
      simp only at h
      match r, h with
      | [], h => simp at h
      | [m], h => simp [PyFlat.rows, PyFlat.row] at h
      | m :: n :: b, h =>
        rw [if_neg (by simp)] at h
        simp only [List.drop_succ_cons, List.drop_zero, List.take_succ_cons, List.take_zero, PyFlat.rows, PyFlat.row] at h
        by_cases hn : 0 ≤ n ∧ n.toNat ≤ b.length
        · rw [if_pos hn] at h
          simp only [Option.some.injEq, Prod.mk.injEq] at h
          obtain ⟨rfl, rfl⟩ := h
          have hl : (b.take n.toNat).length = n.toNat := by rw [List.length_take]; omega
          have hn2 : n = ((b.take n.toNat).length : Int) := by rw [hl]; omega
          refine ⟨3 + (b.take n.toNat).length, ?_, ?_, ?_, by omega⟩
          · have key := One.add m (b.take n.toNat) (b.drop n.toNat)
            rw [List.take_append_drop, ← hn2] at key
            exact key
          · rw [hl, Nat.add_comm]; rfl
          · simp only [List.length_cons]; omega
        · rw [if_neg hn] at h; simp at h
    by_cases h2 : p = 2
    · subst h2
      rw [call_eq] at h
      have hs : PyRd07.shape 2 = some (3, 0) := rfl
      rw [hs] at h
      simp only at h
      match r, h with
      | [], h => simp at h
      | [_], h => simp at h
      | [_, _], h => simp at h
      | i :: m :: x :: b, h =>
        rw [if_neg (by simp)] at h
        simp only [PyFlat.rows, List.drop_succ_cons, List.drop_zero, List.take_succ_cons, List.take_zero, Option.some.injEq, Prod.mk.injEq] at h
        obtain ⟨rfl, rfl⟩ := h
        exact ⟨4, .share i m x b, rfl, by simp, by omega⟩
    · exfalso
      rw [call_eq] at h
      have hs : PyRd07.shape p = none := by
        unfold PyRd07.shape
        rw [if_neg h0, if_neg h1, if_neg h2, if_neg h3, if_neg h4, if_neg h5, if_neg h6, if_neg h7]
      rw [hs] at h
      simp at h
structure Left (l : List Int) (cs : List (List (List Int))) : Prop where
  ex : ∃ f, PyFlat.calls PyRd07.shape f l = some cs
theorem Left.nil_of {cs : List (List (List Int))} (h : Left [] cs) : cs = [] := by
  obtain ⟨f, h⟩ := h.ex
  cases f <;> (simp [PyFlat.calls] at h; exact h)
theorem Left.cons_of {p : Int} {r : List Int} {cs : List (List (List Int))} (h : Left (p :: r) cs) : ∃ c cs' k, cs = c :: cs' ∧ One (p :: r) c k ∧ k ≤ (p :: r).length ∧ 1 ≤ k ∧ Left ((p :: r).drop k) cs' := by
  obtain ⟨f, h⟩ := h.ex
  cases f with
  | zero => simp [PyFlat.calls] at h
  | succ f =>
    unfold PyFlat.calls at h
    cases hc : PyFlat.call PyRd07.shape (p :: r) with
    | none => rw [hc] at h; simp at h
    | some ct =>
      obtain ⟨c, t⟩ := ct
      rw [hc] at h
      simp only at h
      cases hf : PyFlat.calls PyRd07.shape f t with
      | none => rw [hf] at h; simp at h
      | some cs' =>
        rw [hf] at h
        simp only [Option.some.injEq] at h
        obtain ⟨k, h1, h2, h3, h4⟩ := call_one _ _ _ hc
        exact ⟨c, cs', k, h.symm, h1, h3, h4, ⟨f, by rw [← h2]; exact hf⟩⟩
def due (s : Abs) (cs : List (List (List Int))) : List Int := PyFlat.told (PyFlat.played Rd07Neutral.step s (cs.map PyRd07.whole))
theorem due_nil (s : Abs) : due s [] = [] := rfl
theorem due_cons (s : Abs) (c : List (List Int)) (cs : List (List (List Int))) (x : Rd07.Call) (h : Rd07Neutral.callOf (PyRd07.whole c) = some x) (hn : (does s x).2.numbers = []) : due s (c :: cs) = [1, (does s x).2.value] ++ due (does s x).1 cs := by
  have e : Rd07Neutral.step s (PyRd07.whole c) = ((does s x).1, [(does s x).2.value]) := by
    unfold Rd07Neutral.step
    rw [h]
    simp only [hn, List.map_nil]
  have e2 : PyFlat.played Rd07Neutral.step s ((c :: cs).map PyRd07.whole) = (Rd07Neutral.step s (PyRd07.whole c)).2 :: PyFlat.played Rd07Neutral.step (Rd07Neutral.step s (PyRd07.whole c)).1 (cs.map PyRd07.whole) := rfl
  unfold due
  rw [e2, e]
  rfl
theorem numbers_nil (s : Abs) (x : Rd07.Call) : (does s x).2.numbers = [] := by
  cases x with
  | add m l n =>
    simp only [does]
    split
    · split <;> rfl
    · rfl
  | share i q x =>
    simp only [does]
    split
    · split
      · split <;> rfl
      · rfl
    · rfl
  | _ => rfl
theorem asked_left (ns : List Int) (h : PyRd07.answers_asked ns = true) : ∃ cs, Left ns cs ∧ PyRd07.answers ns = due {} cs ∧ cs.length ≤ 100 ∧ (∀ c, c ∈ cs → Rd07Neutral.asked1 (PyRd07.whole c) = true) := by
  unfold PyRd07.answers_asked at h
  unfold PyRd07.answers
  cases hc : PyRd07.calls ns with
  | none => rw [hc] at h; simp at h
  | some ws =>
    rw [hc] at h
    simp only at h ⊢
    unfold PyRd07.calls at hc
    cases hp : PyFlat.calls PyRd07.shape ns.length ns with
    | none => rw [hp] at hc; simp at hc
    | some cs =>
      rw [hp] at hc
      simp only [Option.some.injEq] at hc
      subst hc
      rw [Bool.and_eq_true] at h
      obtain ⟨h1, h2⟩ := h
      refine ⟨cs, ⟨_, hp⟩, rfl, ?_, ?_⟩
      · have := of_decide_eq_true h1
        simpa using this
      · unfold Rd07Neutral.asked at h2
        rw [Bool.and_eq_true] at h2
        have h3 := List.all_eq_true.mp h2.1
        intro c hc
        exact h3 _ (List.mem_map_of_mem hc)
end SP
end
section
namespace SP
open Rd07
def sumAt (ps : List (Nat × Nat)) (s k : Nat) : Nat := (ps.map fun p => if p.1 &&& s = k then p.2 else 0).sum
theorem share_sumAt (t : Table) (h : Ok t) (s x : Nat) : share t s x = sumAt (prs t) s (x &&& s) := share_eq t h.hi h.len s x
theorem agreeTwo_iff (t u : Table) (ht : Ok t) (hu : Ok u) : agreeTwo 5 t u = true ↔ ∀ x, x < 32 → sumAt (prs t) (t.mask &&& u.mask) (x &&& (t.mask &&& u.mask)) = sumAt (prs u) (t.mask &&& u.mask) (x &&& (t.mask &&& u.mask)) := by
  unfold agreeTwo
  rw [List.all_eq_true]
  constructor
  · intro h x hx
    have := eq_of_beq (h x (List.mem_range.mpr hx))
    rw [share_sumAt t ht, share_sumAt u hu] at this
    exact this
  · intro h x hx
    have := h x (List.mem_range.mp hx)
    rw [share_sumAt t ht, share_sumAt u hu]
    exact beq_of_eq this
theorem agreeTwo_symm (t u : Table) (h : agreeTwo 5 t u = true) : agreeTwo 5 u t = true := by
  unfold agreeTwo at *
  rw [List.all_eq_true] at *
  intro x hx
  have := eq_of_beq (h x hx)
  have e : Nat.land u.mask t.mask = Nat.land t.mask u.mask := Nat.and_comm u.mask t.mask
  rw [e]
  exact beq_of_eq this.symm
theorem agreeTwo_refl (t : Table) : agreeTwo 5 t t = true := by
  unfold agreeTwo
  rw [List.all_eq_true]
  intro x _
  exact beq_self_eq_true _
theorem agree_iff (l : List Table) : agree 5 l = true ↔ ∀ (i j : Nat) (t u : Table), j < i → l[j]? = some t → l[i]? = some u → agreeTwo 5 t u = true := by
  unfold agree
  constructor
  · intro h i j t u _ ht hu
    have h1 := List.all_eq_true.mp h t (List.mem_of_getElem? ht)
    exact List.all_eq_true.mp h1 u (List.mem_of_getElem? hu)
  · intro h
    rw [List.all_eq_true]
    intro t ht
    rw [List.all_eq_true]
    intro u hu
    obtain ⟨j, hj⟩ := List.getElem?_of_mem ht
    obtain ⟨i, hi⟩ := List.getElem?_of_mem hu
    by_cases h1 : j < i
    · exact h i j t u h1 hj hi
    · by_cases h2 : i < j
      · exact agreeTwo_symm u t (h j i u t h2 hi hj)
      · have : i = j := by omega
        subst this
        rw [hi] at hj; cases hj
        exact agreeTwo_refl _
theorem key_iff (t : Table) (h : Ok t) (s k : Nat) : (∃ p, p ∈ prs t ∧ p.1 &&& s = k) ↔ ∃ y, y < 32 ∧ y &&& t.mask = y ∧ y &&& s = k := by
  have hl : (aw t.mask).length = t.w.length := by rw [aw_len t.mask h.hi, h.len]
  constructor
  · rintro ⟨p, hp, e⟩
    have := (List.of_mem_zip hp).1
    obtain ⟨h1, h2⟩ := (aw_mem t.mask p.1).mp this
    exact ⟨p.1, h1, h2, e⟩
  · rintro ⟨y, h1, h2, e⟩
    have hm := (aw_mem t.mask y).mpr ⟨h1, h2⟩
    obtain ⟨j, hj, ej⟩ := List.mem_iff_getElem.mp hm
    refine ⟨(y, t.w[j]'(by omega)), ?_, e⟩
    unfold prs
    rw [List.mem_iff_getElem]
    refine ⟨j, by rw [List.length_zip]; omega, ?_⟩
    rw [List.getElem_zip, ej]
theorem key_sub (t : Table) (h : Ok t) (s : Nat) (hs : s &&& t.mask = s) (x : Nat) (hx : x < 32) : ∃ p, p ∈ prs t ∧ p.1 &&& s = x &&& s := by
  rw [key_iff t h]
  refine ⟨x &&& s, Nat.lt_of_le_of_lt Nat.and_le_left hx, ?_, ?_⟩
  · rw [Nat.and_assoc, hs]
  · rw [Nat.and_assoc, Nat.and_self]
end SP
end
section
namespace SP
open Rd07
def putN (l : List (Nat × Nat)) (k v : Nat) : List (Nat × Nat) := if (l.any fun p => decide (p.1 = k)) = true then l.map (fun p => if p.1 = k then (p.1, v) else p) else l ++ [(k, v)]
def lkN (l : List (Nat × Nat)) (k : Nat) : Option Nat := (l.find? fun p => decide (p.1 = k)).map (·.2)
structure ShOk (ps : List (Nat × Nat)) (s : Nat) (l : List (Nat × Nat)) : Prop where
  nd : (l.map (·.1)).Nodup
  mem : ∀ k v, (k, v) ∈ l ↔ (∃ q, q ∈ ps ∧ q.1 &&& s = k) ∧ v = sumAt ps s k
theorem sumAt_snoc (ps : List (Nat × Nat)) (q : Nat × Nat) (s k : Nat) : sumAt (ps ++ [q]) s k = sumAt ps s k + if q.1 &&& s = k then q.2 else 0 := by
  unfold sumAt
  rw [List.map_append, List.sum_append]
  simp
theorem sumAt_none (ps : List (Nat × Nat)) (s k : Nat) (h : ¬ ∃ q, q ∈ ps ∧ q.1 &&& s = k) : sumAt ps s k = 0 := by
  unfold sumAt
  induction ps with
  | nil => rfl
  | cons a r ih =>
    have ha : ¬ a.1 &&& s = k := fun e => h ⟨a, List.mem_cons_self, e⟩
    rw [List.map_cons, List.sum_cons, if_neg ha, ih (fun ⟨q, hq, e⟩ => h ⟨q, List.mem_cons_of_mem _ hq, e⟩)]
theorem nd_sub {α : Type} [DecidableEq α] : ∀ (l l' : List α), l.Nodup → (∀ x, x ∈ l → x ∈ l') → l.length ≤ l'.length
  | [], _, _, _ => Nat.zero_le _
  | a :: r, l', nd, h => by
    obtain ⟨n1, n2⟩ := List.nodup_cons.mp nd
    have ha := h a List.mem_cons_self
    have ih := nd_sub r (l'.erase a) n2 (fun x hx => (List.mem_erase_of_ne (fun e => n1 (by rw [← e]; exact hx))).mpr (h x (List.mem_cons_of_mem _ hx)))
    have h1 := List.length_erase_of_mem ha
    have h2 : 0 < l'.length := List.length_pos_of_mem ha
    rw [List.length_cons]
    omega
theorem shOk_nil (s : Nat) : ShOk [] s [] := ⟨by simp, fun k v => by simp⟩
theorem lkN_some {l : List (Nat × Nat)} {k v : Nat} (h : lkN l k = some v) : (k, v) ∈ l := by
  unfold lkN at h
  cases e : l.find? fun p => decide (p.1 = k) with
  | none => rw [e] at h; simp at h
  | some p =>
    rw [e] at h
    have h1 := List.find?_some e
    have h2 := List.mem_of_find?_eq_some e
    simp only [Option.map_some, Option.some.injEq] at h
    have h3 : p.1 = k := by simpa using h1
    rw [← h3, ← h]
    exact h2
theorem lkN_none {l : List (Nat × Nat)} {k : Nat} (h : lkN l k = none) : ∀ v, ¬ (k, v) ∈ l := by
  intro v hm
  unfold lkN at h
  rw [Option.map_eq_none_iff, List.find?_eq_none] at h
  have := h _ hm
  simp at this
theorem any_iff {l : List (Nat × Nat)} {k : Nat} : (l.any fun p => decide (p.1 = k)) = true ↔ ∃ v, (k, v) ∈ l := by
  rw [List.any_eq_true]
  constructor
  · rintro ⟨p, hp, e⟩
    have e' : p.1 = k := by simpa using e
    exact ⟨p.2, by rw [← e']; exact hp⟩
  · rintro ⟨v, h⟩
    exact ⟨(k, v), h, by simp⟩
theorem nd_val {l : List (Nat × Nat)} (nd : (l.map (·.1)).Nodup) {k v u : Nat} (h1 : (k, v) ∈ l) (h2 : (k, u) ∈ l) : v = u := by
  induction l with
  | nil => cases h1
  | cons a r ih =>
    rw [List.map_cons] at nd
    obtain ⟨n1, n2⟩ := List.nodup_cons.mp nd
    rcases List.mem_cons.mp h1 with e1 | m1
    · rcases List.mem_cons.mp h2 with e2 | m2
      · rw [← e1] at e2
        exact (Prod.mk.inj e2).2.symm
      · exfalso
        apply n1
        rw [← e1]
        exact List.mem_map.mpr ⟨_, m2, rfl⟩
    · rcases List.mem_cons.mp h2 with e2 | m2
      · exfalso
        apply n1
        rw [← e2]
        exact List.mem_map.mpr ⟨_, m1, rfl⟩
      · exact ih n2 m1 m2
theorem ShOk.get {ps l : List (Nat × Nat)} {s : Nat} (h : ShOk ps s l) (k : Nat) : (lkN l k).getD 0 = sumAt ps s k := by
  cases e : lkN l k with
  | none =>
    have hn := lkN_none e
    symm
    apply sumAt_none
    intro hq
    exact hn _ ((h.mem k _).mpr ⟨hq, rfl⟩)
  | some v => exact ((h.mem k v).mp (lkN_some e)).2
theorem ShOk.snoc {ps l : List (Nat × Nat)} {s : Nat} (h : ShOk ps s l) (q : Nat × Nat) : ShOk (ps ++ [q]) s (putN l (q.1 &&& s) ((lkN l (q.1 &&& s)).getD 0 + q.2)) := by
  rw [h.get]
  unfold putN
  by_cases ha : (l.any fun p => decide (p.1 = q.1 &&& s)) = true
  · rw [if_pos ha]
    obtain ⟨v0, hv0⟩ := any_iff.mp ha
    have hkeys : (l.map (fun p => if p.1 = q.1 &&& s then (p.1, sumAt ps s (q.1 &&& s) + q.2) else p)).map (·.1) = l.map (·.1) := by
      rw [List.map_map]
      apply List.map_congr_left
      intro p _
      dsimp only [Function.comp]
      split <;> rfl
    refine ⟨by rw [hkeys]; exact h.nd, fun k v => ?_⟩
    rw [List.mem_map, sumAt_snoc]
    constructor
    · rintro ⟨p, hp, e⟩
      by_cases hc : p.1 = q.1 &&& s
      · rw [if_pos hc] at e
        have e1 := (Prod.mk.inj e).1
        have e2 := (Prod.mk.inj e).2
        subst e1
        refine ⟨⟨q, by simp, hc.symm⟩, ?_⟩
        rw [if_pos hc.symm, hc, e2]
      · rw [if_neg hc] at e
        subst e
        obtain ⟨⟨q', hq', e1⟩, e2⟩ := (h.mem k v).mp hp
        refine ⟨⟨q', by simp [hq'], e1⟩, ?_⟩
        have hc' : ¬ q.1 &&& s = k := fun z => hc z.symm
        rw [if_neg hc', e2]; rfl
    · rintro ⟨⟨q', hq', e1⟩, e2⟩
      by_cases hc : q.1 &&& s = k
      · rw [if_pos hc] at e2
        refine ⟨(k, v0), by rw [← hc]; exact hv0, ?_⟩
        dsimp only
        rw [if_pos hc.symm, hc, e2]
      · rw [if_neg hc] at e2
        have hq'' : q' ∈ ps := by
          rcases List.mem_append.mp hq' with z | z
          · exact z
          · have : q' = q := by simpa using z
            rw [this] at e1
            exact absurd e1 hc
        refine ⟨(k, v), (h.mem k v).mpr ⟨⟨q', hq'', e1⟩, e2⟩, ?_⟩
        dsimp only
        rw [if_neg (fun z => hc z.symm)]
  · rw [if_neg ha]
    have hno : ∀ v, ¬ (q.1 &&& s, v) ∈ l := fun v hv => ha (any_iff.mpr ⟨v, hv⟩)
    have hnop : ¬ ∃ q', q' ∈ ps ∧ q'.1 &&& s = q.1 &&& s := fun z => hno _ ((h.mem _ _).mpr ⟨z, rfl⟩)
    refine ⟨?_, fun k v => ?_⟩
    · rw [List.map_append, List.nodup_append]
      refine ⟨h.nd, by simp, ?_⟩
      intro a ha' b hb
      simp only [List.map_cons, List.map_nil, List.mem_singleton] at hb
      subst hb
      rintro rfl
      obtain ⟨p, hp, e⟩ := List.mem_map.mp ha'
      exact hno p.2 (by rw [← e]; exact hp)
    · rw [List.mem_append, sumAt_snoc, h.mem]
      constructor
      · rintro (⟨⟨q', hq', e1⟩, e2⟩ | hs)
        · refine ⟨⟨q', by simp [hq'], e1⟩, ?_⟩
          have hc : ¬ q.1 &&& s = k := fun z => hnop ⟨q', hq', by rw [e1, z]⟩
          rw [if_neg hc, e2]; rfl
        · simp only [List.mem_singleton, Prod.mk.injEq] at hs
          obtain ⟨rfl, rfl⟩ := hs
          exact ⟨⟨q, by simp, rfl⟩, by rw [if_pos rfl]⟩
      · rintro ⟨⟨q', hq', e1⟩, e2⟩
        by_cases hc : q.1 &&& s = k
        · rw [if_pos hc] at e2
          right
          subst hc
          simp [e2]
        · rw [if_neg hc] at e2
          left
          refine ⟨⟨q', ?_, e1⟩, e2⟩
          rcases List.mem_append.mp hq' with z | z
          · exact z
          · have : q' = q := by simpa using z
            rw [this] at e1
            exact absurd e1 hc
theorem ShOk.len {ps l : List (Nat × Nat)} {s : Nat} (h : ShOk ps s l) : l.length ≤ ps.length := by
  have hsub : ∀ k, k ∈ l.map (·.1) → k ∈ ps.map (fun q => q.1 &&& s) := by
    intro k hk
    obtain ⟨p, hp, rfl⟩ := List.mem_map.mp hk
    obtain ⟨⟨q, hq, e⟩, _⟩ := (h.mem p.1 p.2).mp hp
    exact List.mem_map.mpr ⟨q, hq, e⟩
  have := nd_sub _ _ h.nd hsub
  simpa using this
theorem agree_of (t u : Table) (ht : Ok t) (hu : Ok u) (l l' : List (Nat × Nat)) (h : ShOk (prs t) (t.mask &&& u.mask) l) (h' : ShOk (prs u) (t.mask &&& u.mask) l') :
    (l.length = l'.length ∧ ∀ p, p ∈ l → p ∈ l') ↔ agreeTwo 5 t u = true := by
  rw [agreeTwo_iff t u ht hu]
  have st : (t.mask &&& u.mask) &&& t.mask = t.mask &&& u.mask := by rw [Nat.and_comm, ← Nat.and_assoc, Nat.and_self]
  have su : (t.mask &&& u.mask) &&& u.mask = t.mask &&& u.mask := by rw [Nat.and_assoc, Nat.and_self]
  have kt : ∀ k, (∃ q, q ∈ prs t ∧ q.1 &&& (t.mask &&& u.mask) = k) → ∃ x, x < 32 ∧ x &&& (t.mask &&& u.mask) = k := by
    rintro k ⟨q, hq, e⟩
    exact ⟨q.1, ((aw_mem _ _).mp (List.of_mem_zip hq).1).1, e⟩
  have ku : ∀ k, (∃ q, q ∈ prs u ∧ q.1 &&& (t.mask &&& u.mask) = k) → ∃ x, x < 32 ∧ x &&& (t.mask &&& u.mask) = k := by
    rintro k ⟨q, hq, e⟩
    exact ⟨q.1, ((aw_mem _ _).mp (List.of_mem_zip hq).1).1, e⟩
  constructor
  · rintro ⟨_, hm⟩ x hx
    obtain ⟨q, hq, e⟩ := key_sub t ht _ st x hx
    have h1 := hm _ ((h.mem (x &&& (t.mask &&& u.mask)) _).mpr ⟨⟨q, hq, e⟩, rfl⟩)
    exact ((h'.mem _ _).mp h1).2
  · intro hs
    have hm : ∀ p, p ∈ l → p ∈ l' := by
      rintro ⟨k, v⟩ hp
      obtain ⟨hk, e⟩ := (h.mem k v).mp hp
      obtain ⟨x, hx, rfl⟩ := kt k hk
      obtain ⟨q', hq', e'⟩ := key_sub u hu _ su x hx
      exact (h'.mem _ _).mpr ⟨⟨q', hq', e'⟩, by rw [e]; exact hs x hx⟩
    have hm' : ∀ p, p ∈ l' → p ∈ l := by
      rintro ⟨k, v⟩ hp
      obtain ⟨hk, e⟩ := (h'.mem k v).mp hp
      obtain ⟨x, hx, rfl⟩ := ku k hk
      obtain ⟨q', hq', e'⟩ := key_sub t ht _ st x hx
      exact (h.mem _ _).mpr ⟨⟨q', hq', e'⟩, by rw [e]; exact (hs x hx).symm⟩
    refine ⟨?_, hm⟩
    have n1 : l.Nodup := by
      have := h.nd
      unfold List.Nodup at *
      rw [List.pairwise_map] at this
      exact this.imp (fun hne e => hne (by rw [e]))
    have n2 : l'.Nodup := by
      have := h'.nd
      unfold List.Nodup at *
      rw [List.pairwise_map] at this
      exact this.imp (fun hne e => hne (by rw [e]))
    exact Nat.le_antisymm (nd_sub _ _ n1 hm) (nd_sub _ _ n2 hm')
theorem prs_at (t : Table) (ht : Ok t) (x : Nat) (hx : x < 32) : (x &&& t.mask, t.w.getD (place t.mask x) 0) ∈ prs t := by
  have hl : (aw t.mask).length = t.w.length := by rw [aw_len t.mask ht.hi, ht.len]
  have hp := place_lt t.mask ht.hi x hx
  have e1 := aw_get t.mask _ ht.hi hp
  rw [spread_place t.mask ht.hi x hx] at e1
  unfold prs
  have hw : place t.mask x < t.w.length := by rw [ht.len]; exact hp
  rw [List.mem_iff_getElem?]
  refine ⟨place t.mask x, ?_⟩
  rw [List.getElem?_zip_eq_some]
  refine ⟨e1, ?_⟩
  rw [List.getD_eq_getElem?_getD, List.getElem?_eq_getElem hw]
  rfl
theorem prs_nd (t : Table) (ht : Ok t) : ((prs t).map (·.1)).Nodup := by
  unfold prs
  have hl : (aw t.mask).length = t.w.length := by rw [aw_len t.mask ht.hi, ht.len]
  rw [List.map_fst_zip (by omega)]
  exact aw_nodup t.mask
theorem prs_len (t : Table) (ht : Ok t) : (prs t).length = long t.mask := by
  unfold prs
  rw [List.length_zip, aw_len t.mask ht.hi, ht.len]
  omega
theorem prs_mem (t : Table) (ht : Ok t) (q : Nat × Nat) : q ∈ prs t ↔ ∃ j, j < long t.mask ∧ q = (spread t.mask j, t.w.getD j 0) := by
  have hl : (aw t.mask).length = t.w.length := by rw [aw_len t.mask ht.hi, ht.len]
  unfold prs
  rw [List.mem_iff_getElem?]
  constructor
  · rintro ⟨j, hj⟩
    rw [List.getElem?_zip_eq_some] at hj
    obtain ⟨h1, h2⟩ := hj
    obtain ⟨hj2, _⟩ := List.getElem?_eq_some_iff.mp h2
    have hjl : j < long t.mask := by rw [← ht.len]; exact hj2
    rw [aw_get t.mask j ht.hi hjl] at h1
    refine ⟨j, hjl, ?_⟩
    rw [List.getD_eq_getElem?_getD, h2]
    have h1' := Option.some.inj h1
    rw [h1']
    rfl
  · rintro ⟨j, hj, rfl⟩
    refine ⟨j, ?_⟩
    rw [List.getElem?_zip_eq_some]
    refine ⟨aw_get t.mask j ht.hi hj, ?_⟩
    have hw : j < t.w.length := by rw [ht.len]; exact hj
    rw [List.getD_eq_getElem?_getD, List.getElem?_eq_getElem hw]
    rfl
end SP
end
section
namespace SP
open Rd07
def seen2 (l : List Nat) : Nat × Nat := l.foldl (fun p m => (p.1 ||| m, p.2 ||| (p.1 &&& m))) (0, 0)
def lone (l : List Nat) : List Nat := l.map fun m => m &&& (seen2 l).2
def nub (l : List Nat) : List Nat := l.foldl (fun out m => if (out.any fun o => decide (m &&& o = m)) = true then out else out ++ [m]) []
def PR (l r : List Nat) : Prop := ∃ ns, ns.Perm (lone l) ∧ ns.Pairwise (· ≥ ·) ∧ r = nub ns
theorem foldl_snoc {α β : Type} (f : β → α → β) (b : β) (l : List α) (a : α) : (l ++ [a]).foldl f b = f (l.foldl f b) a := by
  rw [List.foldl_append]; rfl
theorem snoc_ind {α : Type} {P : List α → Prop} (h0 : P []) (hs : ∀ l a, P l → P (l ++ [a])) : ∀ l, P l := by
  intro l
  have : ∀ n (l : List α), l.length = n → P l := by
    intro n
    induction n with
    | zero => intro l hl; rw [List.length_eq_zero_iff.mp hl]; exact h0
    | succ n ih =>
      intro l hl
      rcases List.eq_nil_or_concat l with e | ⟨r, a, e⟩
      · rw [e] at hl; simp at hl
      · rw [e]
        rw [e] at hl
        rw [List.length_concat] at hl
        rw [List.concat_eq_append]
        exact hs r a (ih r (by omega))
  exact this l.length l rfl
theorem seen_bit : ∀ (l : List Nat) (q : Nat), ((seen2 l).1.testBit q = true ↔ ∃ m, m ∈ l ∧ m.testBit q = true) ∧ ((seen2 l).2.testBit q = true ↔ ∃ i j, i < j ∧ (l.getD i 0).testBit q = true ∧ (l.getD j 0).testBit q = true) := by
  intro l
  induction l using snoc_ind with
  | h0 =>
    intro q
    refine ⟨by simp [seen2], ?_⟩
    simp [seen2]
  | hs l a ih =>
    intro q
    obtain ⟨i1, i2⟩ := ih q
    have e : seen2 (l ++ [a]) = ((seen2 l).1 ||| a, (seen2 l).2 ||| ((seen2 l).1 &&& a)) := foldl_snoc _ _ _ _
    have gd : ∀ i, (l ++ [a]).getD i 0 = if i < l.length then l.getD i 0 else if i = l.length then a else 0 := by
      intro i
      rw [List.getD_eq_getElem?_getD, List.getD_eq_getElem?_getD, List.getElem?_append]
      by_cases h : i < l.length
      · rw [if_pos h, if_pos h]
      · rw [if_neg h, if_neg h]
        by_cases h2 : i = l.length
        · subst h2; simp
        · rw [if_neg h2]
          have : ¬ i - l.length < 1 := by omega
          rw [List.getElem?_eq_none (by simp; omega)]
          rfl
    have out : ∀ i, ¬ i < l.length → (l.getD i 0).testBit q = false := by
      intro i hi
      rw [List.getD_eq_getElem?_getD, List.getElem?_eq_none (by omega)]
      simp
    rw [e]
    refine ⟨?_, ?_⟩
    · dsimp only
      rw [Nat.testBit_or, Bool.or_eq_true, i1]
      constructor
      · rintro (⟨m, hm, hb⟩ | hb)
        · exact ⟨m, by simp [hm], hb⟩
        · exact ⟨a, by simp, hb⟩
      · rintro ⟨m, hm, hb⟩
        rcases List.mem_append.mp hm with h | h
        · exact .inl ⟨m, h, hb⟩
        · have : m = a := by simpa using h
          rw [this] at hb
          exact .inr hb
    · dsimp only
      rw [Nat.testBit_or, Bool.or_eq_true, i2, Nat.testBit_and, Bool.and_eq_true, i1]
      constructor
      · rintro (⟨i, j, hij, hi, hj⟩ | ⟨⟨m, hm, hb⟩, ha⟩)
        · have hil : i < l.length := by
            apply Classical.byContradiction
            intro h; rw [out i h] at hi; cases hi
          have hjl : j < l.length := by
            apply Classical.byContradiction
            intro h; rw [out j h] at hj; cases hj
          exact ⟨i, j, hij, by rw [gd, if_pos hil]; exact hi, by rw [gd, if_pos hjl]; exact hj⟩
        · obtain ⟨i, hi⟩ := List.getElem?_of_mem hm
          have hil : i < l.length := (List.getElem?_eq_some_iff.mp hi).1
          refine ⟨i, l.length, hil, ?_, ?_⟩
          · rw [gd, if_pos hil, List.getD_eq_getElem?_getD, hi]; exact hb
          · rw [gd, if_neg (by omega), if_pos rfl]; exact ha
      · rintro ⟨i, j, hij, hi, hj⟩
        rw [gd] at hi hj
        by_cases hjl : j < l.length
        · rw [if_pos hjl] at hj
          rw [if_pos (by omega)] at hi
          exact .inl ⟨i, j, hij, hi, hj⟩
        · rw [if_neg hjl] at hj
          by_cases hje : j = l.length
          · rw [if_pos hje] at hj
            rw [if_pos (by omega)] at hi
            have hil : i < l.length := by omega
            refine .inr ⟨⟨l.getD i 0, ?_, hi⟩, hj⟩
            rw [List.getD_eq_getElem?_getD, List.getElem?_eq_getElem hil]
            exact List.getElem_mem hil
          · rw [if_neg hje] at hj
            simp at hj
theorem others_bit (l : List Nat) (i q : Nat) : (others l i).testBit q = true ↔ ∃ j, j < l.length ∧ j ≠ i ∧ (l.getD j 0).testBit q = true := by
  unfold others
  have key : ∀ (js : List Nat) (a : Nat), (js.foldl (fun a j => Nat.lor a (l.getD j 0)) a).testBit q = true ↔ a.testBit q = true ∨ ∃ j, j ∈ js ∧ (l.getD j 0).testBit q = true := by
    intro js
    induction js with
    | nil => intro a; simp
    | cons j r ih =>
      intro a
      rw [List.foldl_cons, ih]
      have : (Nat.lor a (l.getD j 0)).testBit q = (a.testBit q || (l.getD j 0).testBit q) := Nat.testBit_or ..
      rw [this, Bool.or_eq_true]
      constructor
      · rintro ((h | h) | ⟨j', hj', h⟩)
        · exact .inl h
        · exact .inr ⟨j, by simp, h⟩
        · exact .inr ⟨j', by simp [hj'], h⟩
      · rintro (h | ⟨j', hj', h⟩)
        · exact .inl (.inl h)
        · rcases List.mem_cons.mp hj' with e | e
          · subst e; exact .inl (.inr h)
          · exact .inr ⟨j', e, h⟩
  rw [key]
  simp only [Nat.zero_testBit, Bool.false_eq_true, false_or]
  constructor
  · rintro ⟨j, hj, h⟩
    obtain ⟨h1, h2⟩ := List.mem_filter.mp hj
    exact ⟨j, List.mem_range.mp h1, by simpa using h2, h⟩
  · rintro ⟨j, h1, h2, h⟩
    exact ⟨j, List.mem_filter.mpr ⟨List.mem_range.mpr h1, by simpa using h2⟩, h⟩
theorem lone_eq (l : List Nat) : ((List.range l.length).map fun i => Nat.land (l.getD i 0) (others l i)) = lone l := by
  unfold lone
  apply List.ext_getElem
  · simp
  · intro i h1 h2
    have hi : i < l.length := by simpa using h1
    simp only [List.getElem_map, List.getElem_range]
    have e : l.getD i 0 = l[i] := by rw [List.getD_eq_getElem?_getD, List.getElem?_eq_getElem hi]; rfl
    rw [e]
    apply Nat.eq_of_testBit_eq
    intro q
    have a1 : (Nat.land l[i] (others l i)).testBit q = (l[i].testBit q && (others l i).testBit q) := Nat.testBit_and ..
    rw [a1, Nat.testBit_and, Bool.eq_iff_iff, Bool.and_eq_true, Bool.and_eq_true, others_bit, (seen_bit l q).2]
    refine and_congr_right fun hb => ?_
    constructor
    · rintro ⟨j, hj, hne, h⟩
      by_cases hlt : j < i
      · exact ⟨j, i, hlt, h, by rw [e]; exact hb⟩
      · exact ⟨i, j, by omega, by rw [e]; exact hb, h⟩
    · rintro ⟨a, b, hab, ha, hb'⟩
      have hbl : b < l.length := by
        apply Classical.byContradiction
        intro h
        rw [List.getD_eq_getElem?_getD, List.getElem?_eq_none (by omega)] at hb'
        simp at hb'
      by_cases hai : a = i
      · exact ⟨b, hbl, by omega, hb'⟩
      · exact ⟨a, by omega, hai, ha⟩
def Top (l : List Nat) (x : Nat) : Prop := x ∈ l ∧ ∀ y, y ∈ l → x &&& y = x → x = y
theorem sub_le {x y : Nat} (h : x &&& y = x) : x ≤ y := by rw [← h]; exact Nat.and_le_right
theorem sub_trans {x y z : Nat} (h1 : x &&& y = x) (h2 : y &&& z = y) : x &&& z = x := by
  rw [← h1, Nat.and_assoc, h2]
theorem nub_ok : ∀ (l : List Nat), l.Pairwise (· ≥ ·) → (∀ x, x ∈ nub l ↔ Top l x) ∧ (∀ x, x ∈ l → ∃ o, o ∈ nub l ∧ x &&& o = x) ∧ (nub l).Nodup ∧ (nub l).Sublist l := by
  intro l
  induction l using snoc_ind with
  | h0 => intro _; refine ⟨fun x => by simp [nub, Top], fun x h => by simp at h, by simp [nub], by simp [nub]⟩
  | hs l a ih =>
    intro hp
    rw [List.pairwise_append] at hp
    obtain ⟨p1, _, p3⟩ := hp
    have hge : ∀ x, x ∈ l → x ≥ a := fun x hx => p3 x hx a (by simp)
    obtain ⟨m, c, nd, sb⟩ := ih p1
    have e : nub (l ++ [a]) = if ((nub l).any fun o => decide (a &&& o = a)) = true then nub l else nub l ++ [a] := foldl_snoc _ _ _ _
    rw [e]
    by_cases h : ((nub l).any fun o => decide (a &&& o = a)) = true
    · rw [if_pos h]
      obtain ⟨o, ho, hao⟩ := List.any_eq_true.mp h
      have hao : a &&& o = a := by simpa using hao
      have hol := ((m o).mp ho)
      refine ⟨fun x => ?_, fun x hx => ?_, nd, sb.trans (List.sublist_append_left l [a])⟩
      · rw [m]
        unfold Top
        constructor
        · rintro ⟨h1, h2⟩
          refine ⟨by simp [h1], fun y hy hxy => ?_⟩
          rcases List.mem_append.mp hy with hy | hy
          · exact h2 y hy hxy
          · have : y = a := by simpa using hy
            subst this
            exact Nat.le_antisymm (sub_le hxy) (hge x h1)
        · rintro ⟨h1, h2⟩
          have hxl : x ∈ l := by
            rcases List.mem_append.mp h1 with h1 | h1
            · exact h1
            · have : x = a := by simpa using h1
              subst this
              have := h2 o (by simp [hol.1]) hao
              rw [this]; exact hol.1
          exact ⟨hxl, fun y hy => h2 y (by simp [hy])⟩
      · rcases List.mem_append.mp hx with hx | hx
        · exact c x hx
        · have : x = a := by simpa using hx
          subst this
          exact ⟨o, ho, hao⟩
    · rw [if_neg h]
      have hno : ∀ o, o ∈ nub l → ¬ a &&& o = a := fun o ho hz => h (List.any_eq_true.mpr ⟨o, ho, by simpa using hz⟩)
      have hnl : ∀ y, y ∈ l → ¬ a &&& y = a := by
        intro y hy hz
        obtain ⟨o, ho, hyo⟩ := c y hy
        exact hno o ho (sub_trans hz hyo)
      refine ⟨fun x => ?_, fun x hx => ?_, ?_, ?_⟩
      · rw [List.mem_append, m]
        unfold Top
        constructor
        · rintro (⟨h1, h2⟩ | h1)
          · refine ⟨by simp [h1], fun y hy hxy => ?_⟩
            rcases List.mem_append.mp hy with hy | hy
            · exact h2 y hy hxy
            · have : y = a := by simpa using hy
              subst this
              exact Nat.le_antisymm (sub_le hxy) (hge x h1)
          · have : x = a := by simpa using h1
            subst this
            refine ⟨by simp, fun y hy hxy => ?_⟩
            rcases List.mem_append.mp hy with hy | hy
            · exact absurd hxy (hnl y hy)
            · have : y = x := by simpa using hy
              exact this.symm
        · rintro ⟨h1, h2⟩
          rcases List.mem_append.mp h1 with h1 | h1
          · exact .inl ⟨h1, fun y hy => h2 y (by simp [hy])⟩
          · exact .inr h1
      · rcases List.mem_append.mp hx with hx | hx
        · obtain ⟨o, ho, z⟩ := c x hx
          exact ⟨o, by simp [ho], z⟩
        · have : x = a := by simpa using hx
          subst this
          exact ⟨x, by simp, Nat.and_self x⟩
      · rw [List.nodup_append]
        refine ⟨nd, by simp, fun x hx y hy hxy => ?_⟩
        have : y = a := by simpa using hy
        subst this
        subst hxy
        exact hno x hx (Nat.and_self x)
      · exact sb.append (List.Sublist.refl [a])
theorem thin_eq (l : List Nat) : thin l = ((List.range (lone l).length).filter fun i => !((List.range (lone l).length).any fun j => j != i && (within ((lone l).getD i 0) ((lone l).getD j 0) && ((lone l).getD i 0 != (lone l).getD j 0 || decide (j < i))))).map fun i => (lone l).getD i 0 := by
  unfold thin
  rw [lone_eq]
theorem first_of (k : List Nat) (x : Nat) (h : x ∈ k) : ∃ i, i < k.length ∧ k.getD i 0 = x ∧ ∀ j, j < i → k.getD j 0 ≠ x := by
  induction k with
  | nil => cases h
  | cons a r ih =>
    by_cases e : a = x
    · exact ⟨0, by simp, by simpa using e, fun j hj => by omega⟩
    · have hr : x ∈ r := by
        rcases List.mem_cons.mp h with z | z
        · exact absurd z.symm e
        · exact z
      obtain ⟨i, h1, h2, h3⟩ := ih hr
      refine ⟨i + 1, by simpa using h1, by simpa using h2, fun j hj => ?_⟩
      cases j with
      | zero => simpa using e
      | succ j => simpa using h3 j (by omega)
theorem thin_ok (l : List Nat) : (∀ x, x ∈ thin l ↔ Top (lone l) x) ∧ (thin l).Nodup := by
  rw [thin_eq]
  generalize lone l = k
  have gm : ∀ i, i < k.length → k.getD i 0 ∈ k := by
    intro i hi
    rw [List.getD_eq_getElem?_getD, List.getElem?_eq_getElem hi]
    exact List.getElem_mem hi
  have keep : ∀ i, i < k.length → (((!((List.range k.length).any fun j => j != i && (within (k.getD i 0) (k.getD j 0) && (k.getD i 0 != k.getD j 0 || decide (j < i))))) = true) ↔ ∀ j, j < k.length → j ≠ i → k.getD i 0 &&& k.getD j 0 = k.getD i 0 → k.getD i 0 = k.getD j 0 ∧ ¬ j < i) := by
    intro i hi
    rw [Bool.not_eq_true', List.any_eq_false]
    constructor
    · intro h j hj hne hw
      have := h j (List.mem_range.mpr hj)
      have hw' : within (k.getD i 0) (k.getD j 0) = true := by unfold within; exact beq_of_eq hw
      have hne' : (j != i) = true := by simpa using hne
      rw [hne', hw'] at this
      simp only [Bool.true_and, Bool.or_eq_true, decide_eq_true_eq, not_or, bne_iff_ne, ne_eq, Decidable.not_not] at this
      exact this
    · intro h j hj hc
      have hj := List.mem_range.mp hj
      rw [Bool.and_eq_true, Bool.and_eq_true, Bool.or_eq_true] at hc
      obtain ⟨c1, c2, c3⟩ := hc
      have := h j hj (by simpa using c1) (eq_of_beq c2)
      rcases c3 with c3 | c3
      · have c3' : k.getD i 0 ≠ k.getD j 0 := by simpa using c3
        exact c3' this.1
      · exact this.2 (of_decide_eq_true c3)
  refine ⟨fun x => ?_, ?_⟩
  · rw [List.mem_map]
    constructor
    · rintro ⟨i, hi, rfl⟩
      obtain ⟨h1, h2⟩ := List.mem_filter.mp hi
      have hil := List.mem_range.mp h1
      have h3 := (keep i hil).mp h2
      refine ⟨gm i hil, fun y hy hxy => ?_⟩
      obtain ⟨j, hj⟩ := List.getElem?_of_mem hy
      have hjl : j < k.length := (List.getElem?_eq_some_iff.mp hj).1
      have ey : k.getD j 0 = y := by rw [List.getD_eq_getElem?_getD, hj]; rfl
      by_cases hji : j = i
      · rw [← ey, hji]
      · rw [← ey] at hxy ⊢
        exact (h3 j hjl hji hxy).1
    · rintro ⟨h1, h2⟩
      obtain ⟨i, hi, e, hf⟩ := first_of k x h1
      refine ⟨i, List.mem_filter.mpr ⟨List.mem_range.mpr hi, (keep i hi).mpr fun j hj hne hw => ?_⟩, e⟩
      rw [e] at hw ⊢
      have := h2 _ (gm j hj) hw
      exact ⟨this, fun hlt => hf j hlt this.symm⟩
  · have ndr : ((List.range k.length).filter fun i => !((List.range k.length).any fun j => j != i && (within (k.getD i 0) (k.getD j 0) && (k.getD i 0 != k.getD j 0 || decide (j < i))))).Nodup := List.Pairwise.filter _ List.nodup_range
    unfold List.Nodup at *
    rw [List.pairwise_map]
    apply List.Pairwise.imp_of_mem _ ndr
    intro i j hi hj hne e
    obtain ⟨a1, a2⟩ := List.mem_filter.mp hi
    obtain ⟨b1, b2⟩ := List.mem_filter.mp hj
    have a1 := List.mem_range.mp a1
    have b1 := List.mem_range.mp b1
    have a3 := (keep i a1).mp a2 j b1 (Ne.symm hne) (by rw [e]; exact Nat.and_self _)
    have b3 := (keep j b1).mp b2 i a1 hne (by rw [e]; exact Nat.and_self _)
    omega
theorem perm_of_nd {l l' : List Nat} (h : l.Nodup) (h' : l'.Nodup) (m : ∀ x, x ∈ l ↔ x ∈ l') : l.Perm l' := (List.perm_ext_iff_of_nodup h h').mpr m
theorem Top.perm {l l' : List Nat} (h : l.Perm l') (x : Nat) : Top l x ↔ Top l' x := by
  unfold Top
  rw [h.mem_iff]
  refine and_congr_right fun _ => ⟨fun z y hy => z y (h.mem_iff.mpr hy), fun z y hy => z y (h.mem_iff.mp hy)⟩
theorem PR.thin {l r : List Nat} (h : PR l r) : (thin l).Perm r := by
  obtain ⟨ns, hp, hs, rfl⟩ := h
  obtain ⟨m, _, nd, _⟩ := nub_ok ns hs
  obtain ⟨m', nd'⟩ := thin_ok l
  exact perm_of_nd nd' nd fun x => by rw [m, m', Top.perm hp]
theorem seen2_perm_bit {l l' : List Nat} (h : l.Perm l') (q : Nat) : (seen2 l).2.testBit q = (seen2 l').2.testBit q := by
  have cnt : ∀ l : List Nat, ((seen2 l).2.testBit q = true ↔ 2 ≤ (l.filter fun m => m.testBit q).length) ∧ ((seen2 l).1.testBit q = true ↔ 1 ≤ (l.filter fun m => m.testBit q).length) := by
    intro l
    induction l using snoc_ind with
    | h0 => simp [seen2]
    | hs l a ih =>
      have e : seen2 (l ++ [a]) = ((seen2 l).1 ||| a, (seen2 l).2 ||| ((seen2 l).1 &&& a)) := foldl_snoc _ _ _ _
      rw [e, List.filter_append, List.length_append]
      dsimp only
      rw [Nat.testBit_or, Nat.testBit_or, Nat.testBit_and, Bool.or_eq_true, Bool.or_eq_true, Bool.and_eq_true, ih.1, ih.2]
      cases ha : a.testBit q
      · have : ([a].filter fun m => m.testBit q).length = 0 := by simp [ha]
        rw [this]; simp
      · have : ([a].filter fun m => m.testBit q).length = 1 := by simp [ha]
        rw [this]
        constructor
        · constructor
          · rintro (h | ⟨h, _⟩) <;> omega
          · intro h
            by_cases h2 : 2 ≤ (l.filter fun m => m.testBit q).length
            · exact .inl h2
            · exact .inr ⟨by omega, rfl⟩
        · constructor
          · intro _; omega
          · intro _; exact .inr rfl
  rw [Bool.eq_iff_iff, (cnt l).1, (cnt l').1, (h.filter _).length_eq]
theorem lone_perm {l l' : List Nat} (h : l.Perm l') : (lone l).Perm (lone l') := by
  have e : (seen2 l).2 = (seen2 l').2 := Nat.eq_of_testBit_eq fun q => seen2_perm_bit h q
  unfold lone
  rw [e]
  exact h.map _
theorem thin_perm {l l' : List Nat} (h : l.Perm l') : (thin l).Perm (thin l') := by
  obtain ⟨m, nd⟩ := thin_ok l
  obtain ⟨m', nd'⟩ := thin_ok l'
  exact perm_of_nd nd nd' fun x => by rw [m, m', Top.perm (lone_perm h)]
theorem again_perm : ∀ (n : Nat) {l l' : List Nat}, l.Perm l' → (again n l).Perm (again n l')
  | 0, _, _, h => h
  | n + 1, _, _, h => again_perm n (thin_perm h)
theorem again_succ : ∀ (n : Nat) (l : List Nat), again (n + 1) l = thin (again n l)
  | 0, _ => rfl
  | n + 1, l => by
    show again (n + 1) (thin l) = thin (again n (thin l))
    exact again_succ n (thin l)
theorem again_fix {l : List Nat} (h : (thin l).Perm l) : ∀ n, (again n l).Perm l
  | 0 => List.Perm.refl _
  | n + 1 => by
    rw [again_succ]
    exact (thin_perm (again_fix h n)).trans h
theorem again_add : ∀ (a b : Nat) (l : List Nat), again (a + b) l = again b (again a l)
  | 0, b, l => by rw [Nat.zero_add]; rfl
  | a + 1, b, l => by
    rw [show a + 1 + b = (a + b) + 1 by omega]
    show again (a + b) (thin l) = again b (again a (thin l))
    exact again_add a b (thin l)
def mu (l : List Nat) : Nat := l.sum + l.length
theorem sum_perm {l l' : List Nat} (h : l.Perm l') : l.sum = l'.sum := by
  induction h with
  | nil => rfl
  | cons x _ ih => rw [List.sum_cons, List.sum_cons, ih]
  | swap x y l => rw [List.sum_cons, List.sum_cons, List.sum_cons, List.sum_cons]; omega
  | trans _ _ i1 i2 => rw [i1, i2]
theorem mu_perm {l l' : List Nat} (h : l.Perm l') : mu l = mu l' := by unfold mu; rw [sum_perm h, h.length_eq]
theorem mu_sub {l l' : List Nat} (h : l.Sublist l') : mu l ≤ mu l' ∧ (mu l = mu l' → l = l') := by
  induction h with
  | slnil => exact ⟨Nat.le_refl _, fun _ => rfl⟩
  | cons a h ih =>
    unfold mu at *
    rw [List.sum_cons, List.length_cons]
    refine ⟨by omega, fun e => by omega⟩
  | cons_cons a h ih =>
    unfold mu at *
    rw [List.sum_cons, List.length_cons, List.sum_cons, List.length_cons]
    refine ⟨by omega, fun e => ?_⟩
    rw [ih.2 (by omega)]
theorem mu_and (m : Nat) : ∀ l : List Nat, mu (l.map fun x => x &&& m) ≤ mu l ∧ (mu (l.map fun x => x &&& m) = mu l → (l.map fun x => x &&& m) = l)
  | [] => ⟨Nat.le_refl _, fun _ => rfl⟩
  | a :: r => by
    obtain ⟨h1, h2⟩ := mu_and m r
    have ha : a &&& m ≤ a := Nat.and_le_left
    unfold mu at *
    rw [List.map_cons, List.sum_cons, List.length_cons, List.sum_cons, List.length_cons]
    refine ⟨by omega, fun e => ?_⟩
    rw [h2 (by omega), show a &&& m = a by omega]
theorem sorted_perm {l l' : List Nat} (h : l.Perm l') (s : l.Pairwise (· ≥ ·)) (s' : l'.Pairwise (· ≥ ·)) : l = l' :=
  List.Perm.eq_of_pairwise (fun a b _ _ h1 h2 => Nat.le_antisymm h2 h1) s s' h
theorem PR.sorted {l r : List Nat} (h : PR l r) : r.Pairwise (· ≥ ·) := by
  obtain ⟨ns, hp, hs, rfl⟩ := h
  exact hs.sublist (nub_ok ns hs).2.2.2
theorem PR.mu {l r : List Nat} (h : PR l r) : SP.mu r ≤ SP.mu l ∧ (l.Pairwise (· ≥ ·) → SP.mu r = SP.mu l → r = l) := by
  obtain ⟨ns, hp, hs, rfl⟩ := h
  obtain ⟨s1, s2⟩ := mu_sub (nub_ok ns hs).2.2.2
  have e := mu_perm hp
  obtain ⟨a1, a2⟩ := mu_and (seen2 l).2 l
  have a1 : SP.mu (lone l) ≤ SP.mu l := a1
  refine ⟨by omega, fun sl em => ?_⟩
  rw [s2 (by omega)]
  have : lone l = l := a2 (by show SP.mu (lone l) = SP.mu l; omega)
  rw [this] at hp
  exact sorted_perm hp hs sl
theorem tree_of {l r : List Nat} (c : Nat) (h : r.Perm (again c l)) (hf : PR r r) (hc : c ≤ 65 * l.length + 1) : tree l = decide (r.length ≤ 1) := by
  unfold tree
  have h1 : (thin r).Perm r := hf.thin
  have h2 : (again (65 * l.length + 1) l).Perm r := by
    rw [show 65 * l.length + 1 = c + (65 * l.length + 1 - c) by omega, again_add]
    exact (again_perm _ h.symm).trans (again_fix h1 _)
  rw [h2.length_eq]
theorem mu_le {l : List Nat} (h : ∀ x, x ∈ l → x < 32) : mu l ≤ 32 * l.length := by
  induction l with
  | nil => exact Nat.le_refl _
  | cons a r ih =>
    have h1 := ih fun x hx => h x (by simp [hx])
    have h2 := h a (by simp)
    unfold mu at *
    rw [List.sum_cons, List.length_cons]
    omega
end SP
end
section
namespace AT
open PySem PySem.Spec PyProof.Rows L2
def top (i : Nat) : Stmt := PySem.Challenge.pw_agreeingtables_s01_answers.main.body.getD i (.Pass ⟨0, 0, 0, 0⟩)
structure GF (P : Program) (w : World) (K : PySem.W.Frag) (mg : Str → Option Value) (base : Heap) (k : Nat) (x : Str) (f : Addr) (fd : FuncData) (ps : List Str) (sp : Sp) : Prop where
  ok : FnOk P w K mg base CX0 k f fd ps sp
  b : Binds K fd ps []
  at_ : mg x = some (.ref f)
  kp : PySem.W.keepIn K (.ref f) = true
structure MF (P : Program) (w : World) (K : PySem.W.Frag) (mg : Str → Option Value) (base : Heap) (k : Nat) (C : Addr) (m : Str) (f : Addr) (fd : FuncData) (ps : List Str) (sp : Sp) : Prop where
  ok : FnOk P w K mg base CX0 k f fd ps sp
  b : Binds K fd ps []
  mt : Meth K C m f
structure CF (P : Program) (w : World) (K : PySem.W.Frag) (mg : Str → Option Value) (base : Heap) (k : Nat) (C : Addr) (x : Str) (f : Addr) (fd : FuncData) (ps : List Str) (sp : Sp) : Prop where
  ok : FnOk P w K mg base CX0 k f fd ps sp
  b : Binds K fd ps []
  made : Mk K C f
  at_ : mg x = some (.ref C)
def KI (mg : Str → Option Value) (x : Str) (z : Int) : Prop := ∃ t, mg x = some (.int z t)
structure Bl (mg : Str → Option Value) : Prop where
  sum : mg "sum" = none
  len : mg "len" = none
  range : mg "range" = none
  list : mg "list" = none
  enumerate : mg "enumerate" = none
  zip : mg "zip" = none
  dict : mg "dict" = none
  all : mg "all" = none
  any : mg "any" = none
  sorted : mg "sorted" = none
structure Txt (K : PySem.W.Frag) (mg : Str → Option Value) (CS CT CA : Addr) : Prop where
  s : Cls K CS
  sU : NoAttr K CS "unknowns"
  sR : NoAttr K CS "rows"
  sL : NoAttr K CS "lacking"
  sF : NoAttr K CS "filling"
  sD : NoAttr K CS "divisor"
  t : Cls K CT
  tM : NoAttr K CT "mask"
  tW : NoAttr K CT "weights"
  a : Cls K CA
  aK : NoAttr K CA "kept"
  b : Bl mg
  full : KI mg "FULL_MASK" 31
  mostT : KI mg "MOST_TABLES" 8
  mostW : KI mg "MOST_WEIGHT" 1000
  cB : KI mg "BEGIN" 0
  cA : KI mg "ADD" 1
  cS : KI mg "SHARE" 2
  cG : KI mg "AGREE" 3
  cJ : KI mg "JOINT" 4
  cP : KI mg "POSSIBLE" 5
  cC : KI mg "COVERED" 6
  cT : KI mg "TREE" 7
section
variable {X : Cx}
theorem pe_ki {x : Str} {z : Int} {pos : Pos} (h : KI X.mg x z) (hg : Gl X x := by rfl) (hd : (x == ("__debug__" : Str)) = false := by decide) : PE X (.Name x pos) (tC (.int z)) := by
  obtain ⟨t, e⟩ := h
  exact pe_glob hg e ⟨t, rfl⟩ hd
end
theorem bt_all : bootBuiltins "all" = some (.builtin "all") := by decide +kernel
theorem bt_any : bootBuiltins "any" = some (.builtin "any") := by decide +kernel
theorem bt_sum : bootBuiltins "sum" = some (.builtin "sum") := by decide +kernel
theorem bt_len : bootBuiltins "len" = some (.builtin "len") := by decide +kernel
theorem bt_sorted : bootBuiltins "sorted" = some (.builtin "sorted") := by decide +kernel
theorem bt_list : bootBuiltins "list" = some (.type "list") := by decide +kernel
theorem bt_dict : bootBuiltins "dict" = some (.type "dict") := by decide +kernel
theorem Same.upd {H : Hp} {p : Addr} {o : HO} (h : H p = none) : Same H (L2.upd H p o) := fun b u e => by
  rw [upd_ne (ne_of_none e h)]
  exact e
theorem Same.upd2 {H H1 : Hp} {p : Addr} {o : HO} (s : Same H H1) (h : H1 p = none) : Same H (L2.upd H1 p o) := s.trans (Same.upd h)
end AT
end
section
namespace AT
open PySem PySem.Spec PyProof.Rows L2
abbrev LcW (J : It) (g : TG) (tt : TT) (te : TE) (vs : List Nat) (σ : L2.St) (H1 : Hp) (D : Addr) (Qd : Hp → Prop) : Prop :=
  ∃ W : Nat → Nat → Hp → Prop, (∃ m, W 0 m (upd H1 D (.lst []))) ∧ ∀ i m H, W i m H →
    (J.stop i H ∧ Qd H) ∨ (J.go i H ∧ ∃ Nx : Hp → Prop, (∀ H', Nx H' → ∃ m', m' < m ∧ W (i + 1) m' H') ∧ ∀ x H', J.yld i H x H' → g x (wipe σ vs) H' fun σ2 H2 => wipe σ2 vs = wipe σ vs ∧ tt σ2 H2 fun b H3 =>
      if b = true then te σ2 H3 fun y H4 => ∃ acc, H4 D = some (.lst acc) ∧ acc.length < sizeLine ∧ Nx (upd H4 D (.lst (acc ++ [y]))) else Nx H3)
abbrev TurnOk (g : TG) (tt : TT) (te : TE) (vs : List Nat) (σ : L2.St) (x : V) (H : Hp) (A : V → Hp → Prop) (B : Hp → Prop) : Prop :=
  g x (wipe σ vs) H fun σ2 H2 => wipe σ2 vs = wipe σ vs ∧ tt σ2 H2 fun b H3 => if b = true then te σ2 H3 A else B H3
section
variable {K : PySem.W.Frag} {g : TG} {tt : TT} {te : TE} {vs : List Nat} {σ : L2.St} {H1 : Hp} {D : Addr} {Qd : Hp → Prop}
theorem lc_any {J : It} (n : Nat) (hn : n < sizeLine) (out : Nat → List V) (h0 : out 0 = []) (hlen : ∀ i, i < n → (out i).length ≤ i) (hD : H1 D = none)
    (hgo : ∀ i H, i < n → Same H1 H → J.go i H) (hstop : ∀ H, Same H1 H → J.stop n H)
    (hy : ∀ i H x H', i < n → Same H1 H → J.yld i H x H' → Same H H' ∧ ∀ Nx : Hp → Prop,
      (∀ y H4, Same H' H4 → out (i + 1) = out i ++ [y] → H4 D = some (.lst (out i)) → Nx (upd H4 D (.lst (out i ++ [y])))) → (∀ H4, Same H' H4 → out (i + 1) = out i → Nx H4) → H' D = some (.lst (out i)) →
      TurnOk g tt te vs σ x H' (fun y H4 => ∃ acc, H4 D = some (.lst acc) ∧ acc.length < sizeLine ∧ Nx (upd H4 D (.lst (acc ++ [y])))) Nx)
    (hd : ∀ H, Same H1 H → H D = some (.lst (out n)) → Qd H) : LcW J g tt te vs σ H1 D Qd := by
  refine ⟨fun i m H => m = n - i ∧ i ≤ n ∧ Same H1 H ∧ H D = some (.lst (out i)), ⟨n, by simp, Nat.zero_le _, Same.upd hD, by rw [h0]; exact upd_same⟩, ?_⟩
  rintro i m H ⟨rfl, hi, hS, hacc⟩
  by_cases hlt : i < n
  · refine .inr ⟨hgo i H hlt hS, fun H' => Same H1 H' ∧ H' D = some (.lst (out (i + 1))), fun H' p' => ⟨n - (i + 1), by omega, rfl, hlt, p'⟩, fun x H' y => ?_⟩
    obtain ⟨s1, k⟩ := hy i H x H' hlt hS y
    refine k _ (fun y H4 s4 e4 d4 => ?_) (fun H4 s4 e4 => ?_) (s1 _ _ hacc)
    · refine ⟨fun b o e => ?_, ?_⟩
      · rw [upd_ne (ne_of_none e hD)]
        exact s4 _ _ (s1 _ _ (hS _ _ e))
      · rw [upd_same, e4]
    · exact ⟨(hS.trans s1).trans s4, by rw [e4]; exact s4 _ _ (s1 _ _ hacc)⟩
  · have e : i = n := by omega
    subst e
    exact .inl ⟨hstop H hS, hd H hS hacc⟩
abbrev TurnK (out : Nat → List V) (i : Nat) (H : Hp) (T : (V → Hp → Prop) → (Hp → Prop) → Prop) : Prop :=
  ∀ (Y : V → Hp → Prop) (N : Hp → Prop), (∀ y H4, Same H H4 → out (i + 1) = out i ++ [y] → Y y H4) → (∀ H4, Same H H4 → out (i + 1) = out i → N H4) → T Y N
theorem lc_gen {J : It} (n : Nat) (hn : n < sizeLine) (out : Nat → List V) (h0 : out 0 = []) (hlen : ∀ i, i < n → (out i).length ≤ i) (hD : H1 D = none)
    (hgo : ∀ i H, i < n → Same H1 H → J.go i H) (hstop : ∀ H, Same H1 H → J.stop n H)
    (hy : ∀ i H x H', i < n → Same H1 H → J.yld i H x H' → Same H H' ∧ TurnK out i H' (TurnOk g tt te vs σ x H'))
    (hd : ∀ H, Same H1 H → H D = some (.lst (out n)) → Qd H) : LcW J g tt te vs σ H1 D Qd := by
  refine lc_any n hn out h0 hlen hD hgo hstop (fun i H x H' hi hS y => ?_) hd
  obtain ⟨s1, k⟩ := hy i H x H' hi hS y
  exact ⟨s1, fun Nx k1 k2 hD' => k _ _ (fun y H4 s e => ⟨out i, s _ _ hD', Nat.lt_of_le_of_lt (hlen i hi) (Nat.lt_trans hi hn), k1 y H4 s e (s _ _ hD')⟩) fun H4 s e => k2 H4 s e⟩
theorem lcL {a : Addr} {xs : List V} (hn : xs.length < sizeLine) (out : Nat → List V) (h0 : out 0 = []) (hlen : ∀ i, i < xs.length → (out i).length ≤ i) (hD : H1 D = none) (hq : SqL K H1 a xs)
    (hs : ∀ i x H, xs[i]? = some x → Same H1 H → TurnK out i H (TurnOk g tt te vs σ x H))
    (hd : ∀ H, Same H1 H → H D = some (.lst (out xs.length)) → Qd H) : LcW (Itl K a) g tt te vs σ H1 D Qd := by
  refine lc_gen xs.length hn out h0 hlen hD (fun i H hi hS => ⟨xs, xs[i], hS.seq hq, by simp [hi]⟩) (fun H hS => ⟨xs, hS.seq hq, Nat.le_refl _⟩) (fun i H x H' hi hS y => ?_) hd
  obtain ⟨e, y⟩ := y
  subst e
  exact ⟨Same.refl _, hs i x _ (y xs (hS.seq hq)) hS⟩
theorem lcR {n : Nat} (hn : n < sizeLine) (out : Nat → List V) (h0 : out 0 = []) (hlen : ∀ i, i < n → (out i).length ≤ i) (hD : H1 D = none)
    (hs : ∀ i H, i < n → Same H1 H → TurnK out i H (TurnOk g tt te vs σ (.int (i : Nat)) H))
    (hd : ∀ H, Same H1 H → H D = some (.lst (out n)) → Qd H) : LcW (Itr 0 n) g tt te vs σ H1 D Qd := by
  refine lc_gen n hn out h0 hlen hD (fun i H hi hS => hi) (fun H hS => Nat.le_refl n) (fun i H x H' hi hS y => ?_) hd
  obtain ⟨e, y⟩ := y
  subst e y
  rw [Int.zero_add]
  exact ⟨Same.refl _, hs i _ hi hS⟩
abbrev g2 (K : PySem.W.Frag) (i j : Nat) : TG := gTup K 2 (gCons (gName i) (gCons (gName j) gNil))
theorem g2_at {i j : Nat} {T : Addr} {x y : V} {σ : L2.St} {H : Hp} {Q : L2.St → Hp → Prop} (h : H T = some (.tup [x, y])) (q : Q ((σ.set i (some x)).set j (some y)) H) : g2 K i j (.ref T) σ H Q :=
  ⟨T, [x, y], rfl, SqT.of h, rfl, x, [y], rfl, y, [], rfl, rfl, q⟩
abbrev TurnOk2 (i j : Nat) (tt : TT) (te : TE) (vs : List Nat) (σ : L2.St) (x y : V) (H : Hp) (A : V → Hp → Prop) (B : Hp → Prop) : Prop :=
  wipe (((wipe σ vs).set i (some x)).set j (some y)) vs = wipe σ vs ∧ tt (((wipe σ vs).set i (some x)).set j (some y)) H fun b H3 => if b = true then te (((wipe σ vs).set i (some x)).set j (some y)) H3 A else B H3
theorem lcI {i j : Nat} {d : Addr} {o : Obj} {kvs : List (Key × V)} (hn : kvs.length < sizeLine) (out : Nat → List V) (h0 : out 0 = []) (hlen : ∀ i, i < kvs.length → (out i).length ≤ i) (hD : H1 D = none) (hq : H1 d = some (.frz o (.dK kvs)))
    (hs : ∀ n k v H, kvs[n]? = some (k, v) → Same H1 H → TurnK out n H (TurnOk2 i j tt te vs σ (kV k) v H))
    (hd : ∀ H, Same H1 H → H D = some (.lst (out kvs.length)) → Qd H) : LcW (Iti d o kvs) (g2 K i j) tt te vs σ H1 D Qd := by
  refine lc_gen kvs.length hn out h0 hlen hD (fun n H hi hS => ⟨hS _ _ hq, hi⟩) (fun H hS => ⟨hS _ _ hq, Nat.le_refl _⟩) (fun n H x H' hi hS y => ?_) hd
  obtain ⟨T, k, v, e1, e2, e3, e4⟩ := y
  subst e2 e4
  exact ⟨Same.upd e3, fun Y N k1 k2 => g2_at upd_same (hs n k v _ e1 (Same.upd2 hS e3) Y N k1 k2)⟩
theorem lcZ {i j : Nat} {a b : Addr} {xs ys : List V} (hn : xs.length < sizeLine) (hl : xs.length = ys.length) (out : Nat → List V) (h0 : out 0 = []) (hlen : ∀ i, i < xs.length → (out i).length ≤ i) (hD : H1 D = none) (hq : SqL K H1 a xs) (hr : SqL K H1 b ys)
    (hs : ∀ n x y H, xs[n]? = some x → ys[n]? = some y → Same H1 H → TurnK out n H (TurnOk2 i j tt te vs σ x y H))
    (hd : ∀ H, Same H1 H → H D = some (.lst (out xs.length)) → Qd H) : LcW (Itz K a b) (g2 K i j) tt te vs σ H1 D Qd := by
  refine lc_gen xs.length hn out h0 hlen hD (fun n H hi hS => ⟨xs, ys, xs[n], ys[n]'(by omega), hS.seq hq, hS.seq hr, by simp [hi], by simp⟩) (fun H hS => ⟨xs, ys, hS.seq hq, hS.seq hr, .inl (Nat.le_refl _)⟩) (fun n H x H' hi hS y => ?_) hd
  obtain ⟨T, x, y, e2, e3, e4, e5, e6⟩ := y
  subst e2 e4
  exact ⟨Same.upd e3, fun Y N k1 k2 => g2_at upd_same (hs n x y _ (e5 xs (hS.seq hq)) (e6 ys (hS.seq hr)) (Same.upd2 hS e3) Y N k1 k2)⟩
end
theorem tyes {te : TE} {σ : L2.St} {H : Hp} {Y : V → Hp → Prop} {N : Hp → Prop} (h : te σ H Y) : tYes σ H fun b H3 => if b = true then te σ H3 Y else N H3 := by
  show if true = true then te σ H Y else N H
  exact iteT h
section
variable {K : PySem.W.Frag} {tb : TS} {D : Ends} {σ : L2.St} {H : Hp}
abbrev ForW (J : It) (g : TG) (tb : TS) (D : Ends) (σ : L2.St) (H : Hp) : Prop :=
  ∃ W : Nat → Nat → L2.St → Hp → Prop, (∃ m, W 0 m σ H) ∧ ∀ i m σ H, W i m σ H →
    (J.stop i H ∧ D.nx σ H) ∨ (J.go i H ∧ ∃ N : L2.St → Hp → Prop, (∀ σ' H', N σ' H' → ∃ m', m' < m ∧ W (i + 1) m' σ' H') ∧ ∀ x H', J.yld i H x H' → g x σ H' fun σ2 H2 => tb { D with nx := N, ct := N, bk := D.nx } σ2 H2)
theorem forI {i j : Nat} {d : Addr} {o : Obj} {kvs : List (Key × V)} (Pv : Nat → L2.St → Hp → Prop) (h0 : Pv 0 σ H) (hl : ∀ n σ H, n ≤ kvs.length → Pv n σ H → H d = some (.frz o (.dK kvs)))
    (hs : ∀ n k v σ H T, kvs[n]? = some (k, v) → H T = none → Pv n σ H → tb { D with nx := Pv (n + 1), ct := Pv (n + 1), bk := D.nx } ((σ.set i (some (kV k))).set j (some v)) (upd H T (.tup [kV k, v])))
    (hd : ∀ σ H, Pv kvs.length σ H → D.nx σ H) : ForW (Iti d o kvs) (g2 K i j) tb D σ H := by
  refine ⟨fun n m σ H => m = kvs.length - n ∧ n ≤ kvs.length ∧ Pv n σ H, ⟨kvs.length, by simp, Nat.zero_le _, h0⟩, ?_⟩
  rintro n m σ H ⟨rfl, hi, p⟩
  have q := hl n σ H hi p
  by_cases hlt : n < kvs.length
  · refine .inr ⟨⟨q, hlt⟩, Pv (n + 1), fun σ' H' p' => ⟨kvs.length - (n + 1), by omega, rfl, hlt, p'⟩, fun x H' y => ?_⟩
    obtain ⟨T, k, v, e1, e2, e3, e4⟩ := y
    subst e2 e4
    exact g2_at upd_same (hs n k v σ H T e1 e3 p)
  · have e : n = kvs.length := by omega
    subst e
    exact .inl ⟨⟨q, Nat.le_refl _⟩, hd σ H p⟩
theorem forE {i j : Nat} {a : Addr} {xs : List V} (Pv : Nat → L2.St → Hp → Prop) (h0 : Pv 0 σ H) (hl : ∀ n σ H, n ≤ xs.length → Pv n σ H → SqL K H a xs)
    (hs : ∀ n x σ H T, xs[n]? = some x → H T = none → Pv n σ H → tb { D with nx := Pv (n + 1), ct := Pv (n + 1), bk := D.nx } ((σ.set i (some (.int (n : Nat)))).set j (some x)) (upd H T (.tup [.int (n : Nat), x])))
    (hd : ∀ σ H, Pv xs.length σ H → D.nx σ H) : ForW (Ite K a) (g2 K i j) tb D σ H := by
  refine ⟨fun n m σ H => m = xs.length - n ∧ n ≤ xs.length ∧ Pv n σ H, ⟨xs.length, by simp, Nat.zero_le _, h0⟩, ?_⟩
  rintro n m σ H ⟨rfl, hi, p⟩
  have q := hl n σ H hi p
  by_cases hlt : n < xs.length
  · refine .inr ⟨⟨xs, xs[n], q, by simp [hlt]⟩, Pv (n + 1), fun σ' H' p' => ⟨xs.length - (n + 1), by omega, rfl, hlt, p'⟩, fun x H' y => ?_⟩
    obtain ⟨T, x, e2, e3, e4, e5⟩ := y
    subst e2 e4
    exact g2_at upd_same (hs n x σ H T (e5 xs q) e3 p)
  · have e : n = xs.length := by omega
    subst e
    exact .inl ⟨⟨xs, q, Nat.le_refl _⟩, hd σ H p⟩
end
end AT
end
section
namespace AT
open PySem PySem.Spec PyProof.Rows L2
def Fine (z : Int) : Prop := z.natAbs < 2 ^ 4000
theorem log2_fine {n : Nat} (h : n < 2 ^ 4000) : n.log2 < 4000 := by
  by_cases h0 : n = 0
  · rw [h0]
    decide +kernel
  · exact (Nat.log2_lt h0).mpr h
theorem Fine.bits {z : Int} (h : Fine z) : Builtin.Int.intBits z ≤ 2 ^ 20 := by
  have e : (2 : Nat) ^ 20 = 1048576 := by decide
  have := log2_fine h
  unfold Builtin.Int.intBits
  split
  · exact Nat.zero_le _
  · omega
section
variable {X : Cx}
theorem op_mulF : OpR X (binaryOp .Mult) (rI (fun i j => Fine i ∧ Fine j) fun i j => .int (i * j)) := opI fun _ _ _ _ _ _ _ hc q => mul_int q (IntMulOk.of_bits hc.1.bits hc.2.bits)
theorem op_divF : OpR X (binaryOp .FloorDiv) (rI (fun _ j => 0 < j ∧ Fine j) fun i j => .int (i / j)) := opI fun i j _ _ _ _ _ hc q => by
  refine floordiv_int (by omega) ?_ (.inl (PyProof.noPylong_of_log2 (Nat.lt_of_lt_of_le (log2_fine hc.2) (by decide))))
  rw [Int.fdiv_eq_ediv_of_nonneg i (by omega)]
  exact q
end
def sameD (ka kb : List (Key × Int)) : Prop := ka.length = kb.length ∧ ∀ p ∈ ka, ∃ q ∈ kb, q.1 = p.1 ∧ q.2 = p.2
def dz (l : List (Key × Int)) : List (Key × V) := l.map fun p => (p.1, V.int p.2)
theorem dz_len (l : List (Key × Int)) : (dz l).length = l.length := List.length_map ..
theorem valueAt_dz : ∀ {l : List (Key × Int)} {vs : List (Key × Value)}, KV (dz l) vs → ∀ (k : Key), (∀ p ∈ l, ¬ p.1 = k) → valueAt vs k = none
  | l, vs, h, k, hn => by
    have q := h.val k
    have e : valV (dz l) k = none := by
      cases e : valV (dz l) k with
      | none => rfl
      | some v =>
        obtain ⟨p, hp, e'⟩ := List.mem_map.mp (valV_in e)
        obtain ⟨p0, hp0, rfl⟩ := List.mem_map.mp hp
        exact absurd e' (hn p0 hp0)
    rw [e] at q
    exact q.none_of
theorem valV_dz {l : List (Key × Int)} (nd : (l.map (·.1)).Nodup) {p : Key × Int} (hp : p ∈ l) : valV (dz l) p.1 = some (.int p.2) := by
  induction l with
  | nil => cases hp
  | cons a r ih =>
    rw [List.map_cons] at nd
    obtain ⟨n1, n2⟩ := List.nodup_cons.mp nd
    rcases List.mem_cons.mp hp with e | hr
    · subst e
      exact valV_pos rfl
    · have hne : ¬ a.1 = p.1 := fun e => n1 (by rw [e]; exact List.mem_map_of_mem hr)
      show valV ((a.1, V.int a.2) :: dz r) p.1 = _
      rw [valV_neg (p := (a.1, V.int a.2)) (r := dz r) hne]
      exact ih n2 hr
theorem valueAt_hit {l : List (Key × Int)} {vs : List (Key × Value)} (h : KV (dz l) vs) (nd : (l.map (·.1)).Nodup) {p : Key × Int} (hp : p ∈ l) : ∃ t, valueAt vs p.1 = some (.int p.2 t) := by
  have q := h.val p.1
  rw [valV_dz nd hp] at q
  obtain ⟨u, hu, r⟩ := q.some_of
  obtain ⟨t, rfl⟩ := r
  exact ⟨t, hu⟩
theorem hits_of {A : Around} {s : Shared} {lb : List (Key × Int)} {kb : List (Key × Value)} (hb : KV (dz lb) kb) (nb : (lb.map (·.1)).Nodup) : ∀ {la : List (Key × Int)} {ka : List (Key × Value)}, KV (dz la) ka →
    ∃ r, PySem.W.KeqHits A s kb ka r ∧ (r = true ↔ ∀ p ∈ la, ∃ q ∈ lb, q.1 = p.1 ∧ q.2 = p.2)
  | [], ka, h => by
    cases h
    exact ⟨true, .nil, by simp⟩
  | p :: la, ka, h => by
    have h : KV ((p.1, V.int p.2) :: dz la) ka := h
    cases h with
    | cons h1 h2 =>
      rename_i u ka'
      obtain ⟨e1, t, e2⟩ := h1
      obtain ⟨u1, u2⟩ := u
      dsimp only at e1 e2
      subst e1 e2
      obtain ⟨r, hr, hi⟩ := hits_of hb nb h2
      by_cases hm : ∃ q ∈ lb, q.1 = p.1
      · obtain ⟨q, hq, eq⟩ := hm
        obtain ⟨t', ht'⟩ := valueAt_hit hb nb hq
        rw [eq] at ht'
        refine ⟨_, .hit ht' (SeqAt.EqAt.int_int p.2 t q.2 t') hr, ?_⟩
        rw [Bool.and_eq_true, hi]
        constructor
        · rintro ⟨c1, c2⟩ p' hp'
          rcases List.mem_cons.mp hp' with e | hp'
          · subst e
            refine ⟨q, hq, eq, ?_⟩
            have := eq_of_beq c1
            exact this.symm
          · exact c2 p' hp'
        · intro c
          refine ⟨?_, fun p' hp' => c p' (List.mem_cons_of_mem _ hp')⟩
          obtain ⟨q', hq', e1, e2⟩ := c p List.mem_cons_self
          have : q' = q := by
            obtain ⟨i, hi'⟩ := List.getElem?_of_mem hq
            obtain ⟨j, hj'⟩ := List.getElem?_of_mem hq'
            have a1 : (lb.map (·.1))[i]? = some p.1 := by rw [List.getElem?_map, hi']; exact congrArg some eq
            have a2 : (lb.map (·.1))[j]? = some p.1 := by rw [List.getElem?_map, hj']; exact congrArg some e1
            have := nd_ix nb a1 a2
            subst this
            rw [hi'] at hj'
            exact (Option.some.inj hj').symm
          subst this
          exact beq_of_eq e2.symm
      · refine ⟨_, .miss (valueAt_dz hb p.1 fun q hq e => hm ⟨q, hq, e⟩), ?_⟩
        constructor
        · intro z
          cases z
        · intro c
          obtain ⟨q, hq, e1, _⟩ := c p List.mem_cons_self
          exact absurd ⟨q, hq, e1⟩ hm
open Classical in
theorem op_eqDZ {X : Cx} (hu : X.A.units < cLine) : OpR X (compareOp .Eq) (fun x y H Q => ∃ a b la lb, x = V.ref a ∧ y = V.ref b ∧ H a = some (.dK (dz la)) ∧ H b = some (.dK (dz lb)) ∧ (lb.map (·.1)).Nodup ∧ Q (.bl (decide (sameD la lb))) H) := by
  intro pins s σ H x y v u Q I rx ry h
  obtain ⟨a, b, la, lb, rfl, rfl, ha, hb, nb, q⟩ := h
  cases rx
  cases ry
  obtain ⟨z1, m1, va, ka, da⟩ := dk_of I.hok ha
  obtain ⟨z2, m2, vb, kb, db⟩ := dk_of I.hok hb
  obtain ⟨r, hr, hi⟩ := hits_of (A := X.A.in1) (s := s) kb nb ka
  refine PySem.W.keq_eq m1 m2 da db hu (fun _ => hr) ⟨.bl _, H, I, rfl, ?_⟩
  have e : (va.length == vb.length && r) = decide (sameD la lb) := by
    rw [Bool.eq_iff_iff, Bool.and_eq_true, hi, decide_eq_true_iff]
    unfold sameD
    rw [← ka.length, ← kb.length, dz_len, dz_len, beq_iff_eq]
  rw [e]
  exact q
def tSortR (K : PySem.W.Frag) (t : TA) : TE := fun σ H Q => t σ H fun vs H1 => ∃ (a : Addr) (ns : List Int), vs = [V.ref a] ∧ SqL K H1 a (ns.map V.int) ∧
  ∀ (ns' : List Int) (p : Addr), ns'.Perm ns → ns'.Pairwise (· ≥ ·) → H1 p = none → Q (.ref p) (upd H1 p (.lst (ns'.map V.int)))
theorem pe_sortR {X : Cx} {p pos kpos bpos : Pos} {e : Expr} {j : Nat} {t : TA} (hg : Gl X "sorted") (hm : X.mg "sorted" = none) (ha : PA X [e] t)
    (hall : (backToKw pos (keywordEach [⟨some ("reverse" : Str), .Constant (.bool true) j bpos, kpos⟩] X.env)).all (·.1.isSome) = true := by rfl)
    (hks : (backToKw pos (keywordEach [⟨some ("reverse" : Str), .Constant (.bool true) j bpos, kpos⟩] X.env)).filterMap (·.1) = [("reverse" : Str)] := by rfl)
    (he : starEach [e] X.env = (false, eval e X.env) :: starEach [] X.env := by rfl)
    (hp1 : (backTo pos (starEach [e] X.env)).any (·.1) = false := by rfl) (hp2 : (backToKw pos (keywordEach [⟨some ("reverse" : Str), .Constant (.bool true) j bpos, kpos⟩] X.env)).any (·.1.isNone) = false := by rfl) :
    PE X (.Call (.Name "sorted" p) [e] [⟨some ("reverse" : Str), .Constant (.bool true) j bpos, kpos⟩] pos) (tSortR X.K t) := by
  intro pins s σ H Q I h
  refine wpAny_Call_Name_kw (ld_blt I hg hm bt_sorted ?_ (by decide) (by decide))
  refine callWith_builtin_kwB hp1 hp2 (evalArgs_kw2 hall (thn (ha pos pins s σ H _ I h) fun us s1 ⟨vs, H1, I1, r, q⟩ => ?_) he)
  refine kwAll_cons (Constant_bool (kwAll_nil ?_))
  rw [hks]
  obtain ⟨a, ns, rfl, hs, q⟩ := q
  obtain ⟨its, rv, hl, hz⟩ := I1.list hs
  rw [Vals.ref1 r]
  have hi := rv.ints
  have hzl : its.length ≤ sizeLine := by rw [← rv.length]; exact hz
  show wpAny _ _ (call (.builtin "sorted") [.ref a] [(Str.ofString "reverse", .bool true)]) _ _ _
  refine PyProof.Rows.sorted_ints_revAny hl.isList hi hzl fun out ns' h1 h2 h3 => ?_
  obtain ⟨ep, he'⟩ := PyProof.Rows.sortedAll_at s1.heap its out
  have hlen : (ns'.map V.int).length ≤ sizeLine := by rw [List.length_map, h2.length_eq, ← List.length_map (f := V.int)]; exact hz
  exact ⟨.ref _, upd H1 (s1.heap.objs.size + 1) (.lst (ns'.map V.int)), I1.laid (t' := s1.toks) (fun _ _ => PyProof.Rows.sortedAll_old) (Nat.le_succ _) ⟨hlen, out.toList, ep, vals_of_ints h1, he'⟩, rfl, q ns' _ h2 h3 (I1.hok.fresh (Nat.le_succ _))⟩
end AT
end
section
namespace AT
open PySem PySem.Spec PyProof.Rows L2
theorem zip_keys_none : typeLookup (.type "zip") "keys" = pure none := am_miss_of_fast (by first | decide +kernel | rfl)
theorem zip_getattr_none : typeLookup (.type "zip") "__getattr__" = pure none := am_miss_of_fast (by first | decide +kernel | rfl)
theorem zip_entry_getattribute : entryFor table "zip.__getattribute__" = some Builtin.«object.__getattribute__» :=
  entryFor_alias (id' := "object.__getattribute__") (by kernel_rfl) (by first | rfl | decide +kernel | (unfold String.splitOn; simp +decide [String.splitOnAux])) (by decide +kernel) (by kernel_rfl)
theorem meets_miss_zip (a : Addr) (fs : Array Value) (sl : Array (Option Value)) (name : Str) (u : Tok) (hmiss : typeLookup (.type "zip") name = pure none) (hname : (["__module__", "__name__", "__qualname__", "__doc__", "__annotations__"] : List Str).contains name = false) (hsz : name.length + 100 ≤ sizeLine := by size_fits) :
    Meets (Builtin.«object.__getattribute__» ⟨[.ref a, .str name u], []⟩) (fun A R s => s.heap.get? a = some { cls := .type "zip", dict := none, data := .fields fs, slots := sl } ∧ raisesAttr (.ref a) name A R s) :=
  Meets.of_wp fun prog w A R s hs => by
    obtain ⟨hp, g, d, tk, os⟩ := s
    obtain ⟨hx, hs⟩ := hs
    have hT : (⟨hp, g, d, tk, os⟩ : Shared).TypeIs (.ref a) "zip" := ⟨_, hx, rfl⟩
    unfold Builtin.«object.__getattribute__»
    repeat (any_goals (first | assumption | wp_step))
    simp only [hname, Bool.false_eq_true, if_false]
    repeat (any_goals (first | assumption | wp_step))
    exact wpAny_raiseAttrError hs.1 hs.2 (attrMsg_fits (by decide +kernel) hsz)
section
variable {prog : Program} {w : World} {A : Around} {E : Value → Shared → Prop}
theorem miss_zip {s : Shared} {a : Addr} {fs : Array Value} {Q : Option Value → Shared → Prop} (hx : s.heap.get? a = some { cls := .type "zip", dict := none, data := .fields fs, slots := #[] }) (hA : A.handled = none)
    (h : ∀ h' tk, (∀ b ob, s.heap.get? b = some ob → h'.get? b = some ob) → Q none { s with heap := h', toks := tk }) : wpAny (model prog w) A (getAttr? (.ref a) "keys") Q E s := by
  obtain ⟨hp, g, d, tk, os⟩ := s
  have hT : ∀ tk', (⟨hp, g, d, tk', os⟩ : Shared).TypeIs (.ref a) "zip" := fun _ => ⟨_, hx, rfl⟩
  have hmiss := zip_keys_none
  have hname : (["__module__", "__name__", "__qualname__", "__doc__", "__annotations__"] : List Str).contains "keys" = false := by decide +kernel
  have hsz : ("keys" : Str).length + 100 ≤ sizeLine := by first | size_fits | decide +kernel
  have f1 := sub_AttributeError
  have f3 := PySem.F.slot_zip_getattribute.lookup
  have f4 := PySem.F.slot_zip_getattribute.bind (.ref a)
  have f5 := zip_getattr_none
  unfold getAttr? getAttrBy? getAttrBy
  repeat (any_goals (first | assumption | exact hT _ | ((with_reducible show wpAny _ _ (call (Value.builtin "zip.__getattribute__") _ _) _ _ _); refine call_meets PySem.F.slot_zip_getattribute (hT _) zip_entry_getattribute (PySem.F.args_zip_getattribute_2 _ _) (meets_miss_zip a fs #[] "keys" _ hmiss hname hsz) ⟨hx, hA, fun h' tk' e hx' => ?_⟩) | wp_step))
  obtain ⟨t', u', he⟩ := hx'.there
  show wpAny _ _ (getattributeRaised _ _ _ _ _ _ _) _ _ _
  unfold getattributeRaised
  repeat (any_goals (first | assumption | wp_step))
  all_goals first | exact h _ _ hx'.keeps | (dsimp only; repeat (any_goals (first | assumption | exact h _ _ hx'.keeps | wp_step)))
end
end AT
end
section
namespace AT
open PySem PySem.Spec PyProof.Rows L2
section
variable {prog : Program} {w : World} {A : Around} {E : Value → Shared → Prop}
abbrev IsZip2 (h : Heap) (z TI TO T : Addr) (b : Bool) : Prop :=
  h.get? z = some { cls := .type "zip", dict := none, data := .fields #[rawInt T, .bool b, .bool false, .ref TI, .ref TO], slots := #[] }
theorem wpAny_loadIfAlive {s : Shared} {a : Addr} {Q : Option Obj → Shared → Prop} (h : Q (s.heap.get? a) s) : wpAny (model prog w) A (loadIfAlive a) Q E s := fun Γ p _ => by
  unfold loadIfAlive
  rw [Sem.wp_loadIfAlive]
  exact h
theorem not_free {s : Shared} {z TI TO T : Addr} {b : Bool} {ot : Obj} {Q : Bool → Shared → Prop} (hz : IsZip2 s.heap z TI TO T b) (hT : s.heap.get? T = some ot)
    (h : ∀ h', IsZip2 h' z TI TO T true → Heap.SameBut z s.heap h' → Q false { s with heap := h' }) : wpAny (model prog w) A (Builtin.SmallTypes.ownedTupleIsFree (.ref z)) Q E s := by
  unfold Builtin.SmallTypes.ownedTupleIsFree
  refine wpAny_bind (wpAny_field hz rfl (x := rawInt T) rfl ?_)
  show wpAny _ _ (loadIfAlive (T : Int).toNat >>= _) _ _ _
  refine wpAny_bind (wpAny_loadIfAlive ?_)
  rw [Int.toNat_natCast, hT]
  rw [if_neg (by simp)]
  refine wpAny_bind (wpAny_field hz rfl (x := .bool b) rfl ?_)
  cases b with
  | true =>
    rw [if_neg (by decide)]
    refine wpAny_bind (wpAny_pure (wpAny_pure ?_))
    exact h s.heap hz (Heap.SameBut.refl _ _)
  | false =>
    rw [if_pos (by decide)]
    refine wpAny_bind (wpAny_setField_rec hz (by simp) fun h₁ hz₁ hs₁ => ?_)
    exact wpAny_pure (h h₁ hz₁ hs₁)
theorem zip_next2 {s : Shared} {z TI TO i1 i2 l1 l2 T : Addr} {b : Bool} {ot : Obj} {k1 k2 : Nat} {xs ys : Array Value} {x y : Value} {Q : Value → Shared → Prop} (D : ZipApart z TI TO i1 i2 l1 l2)
    (hz : IsZip2 s.heap z TI TO T b) (hT : s.heap.get? T = some ot) (hTI : IsPair s.heap TI (.ref i1) (.ref i2))
    (h1 : s.heap.IsListIter i1 l1 k1) (h2 : s.heap.IsListIter i2 l2 k2) (hl1 : s.heap.IsList l1 xs) (hl2 : s.heap.IsList l2 ys) (hx : xs[k1]? = some x) (hy : ys[k2]? = some y)
    (hQ : ∀ h', IsZip2 h' z TI TO T true → h'.IsListIter i1 l1 (k1 + 1) → h'.IsListIter i2 l2 (k2 + 1) → IsPair h' s.heap.objs.size x y → h'.objs.size = s.heap.objs.size + 1 →
      (∀ c o, c ≠ z → c ≠ i1 → c ≠ i2 → s.heap.get? c = some o → h'.get? c = some o) → Q (.ref s.heap.objs.size) { s with heap := h' }) :
    wpAny (model prog w) A (Builtin.«zip.__next__» ⟨[.ref z], []⟩) (fun fin s' => ∃ v, fin = .done (.ret v) ∧ Q v s') E s := by
  show wpAny _ _ (field (.ref z) 2 >>= _) _ _ _
  refine wpAny_bind (wpAny_field hz rfl (x := .bool false) rfl ?_)
  show wpAny _ _ (field (.ref z) 3 >>= _) _ _ _
  refine wpAny_bind (wpAny_field hz rfl (x := .ref TI) rfl ?_)
  refine wpAny_bind (wpAny_seqItems hTI rfl ?_)
  show wpAny _ _ (Builtin.SmallTypes.ownedTupleIsFree (.ref z) >>= _) _ _ _
  refine wpAny_bind (not_free hz hT fun h₁ hz₁ hs₁ => ?_)
  simp only [Bool.false_eq_true, if_false]
  refine wpAny_bind ?_
  rw [← Array.forIn_toList]
  simp only [List.forIn_cons, List.forIn_nil]
  refine wpAny_bind (wpAny_bind (wpAny_holding ?_))
  show wpAny _ _ (Builtin.SmallTypes.nextOf (.ref i1) >>= _) _ _ _
  refine wpAny_bind (wpAny_nextOf_list_item (h1.extBut hs₁.extBut D.i1z) (hl1.extBut hs₁.extBut D.l1z) hx fun h₂ h1₂ hs₂ => wpAny_pure ?_)
  refine wpAny_pure ?_
  refine wpAny_bind (wpAny_bind (wpAny_holding ?_))
  show wpAny _ _ (Builtin.SmallTypes.nextOf (.ref i2) >>= _) _ _ _
  refine wpAny_bind (wpAny_nextOf_list_item ((h2.extBut hs₁.extBut D.i2z).extBut hs₂.extBut D.i12.symm)
    ((hl2.extBut hs₁.extBut D.l2z).extBut hs₂.extBut D.l2i1) hy fun h₄ h2₄ hs₄ => wpAny_pure ?_)
  refine wpAny_pure (wpAny_pure ?_)
  refine wpAny_bind (wpAny_newTuple ?_ (by show 2 ≤ sizeLine; decide))
  have hsz : h₄.objs.size = s.heap.objs.size := by rw [hs₄.1, hs₂.1, hs₁.1]
  have hz₄ : IsZip2 h₄ z TI TO T true := hs₄.extBut _ _ D.i2z.symm (hs₂.extBut _ _ D.i1z.symm hz₁)
  have h1₄ : h₄.IsListIter i1 l1 (k1 + 1) := h1₂.extBut hs₄.extBut D.i12
  have up : ∀ c o, h₄.get? c = some o → (h₄.push { cls := .type "tuple", data := .seq #[x, y] }).get? c = some o := fun c o e => Heap.get?_push_of_some _ e
  have hk : ∀ c o, c ≠ z → c ≠ i1 → c ≠ i2 → s.heap.get? c = some o → h₄.get? c = some o := fun c o c1 c3 c4 e =>
    hs₄.extBut _ _ c4 (hs₂.extBut _ _ c3 (hs₁.extBut _ _ c1 e))
  have hT₄ : IsPair (h₄.push { cls := .type "tuple", data := .seq #[x, y] }) h₄.objs.size x y := Heap.get?_push_size _ rfl
  rw [hsz] at hT₄
  refine wpAny_pure ⟨_, rfl, ?_⟩
  show Q (.ref h₄.objs.size) _
  rw [hsz]
  exact hQ _ (up _ _ hz₄) (h1₄.at fun o e => up _ o e) (h2₄.at fun o e => up _ o e) hT₄ (by rw [Heap.size_push, hsz]) fun c o c1 c3 c4 e => up c o (hk c o c1 c3 c4 e)
theorem zip_end2 {s : Shared} {z TI TO i1 i2 l1 l2 T : Addr} {b : Bool} {ot : Obj} {k1 k2 : Nat} {xs ys : Array Value} {Q : Fin → Shared → Prop} (hh : A.handled = none) (D : ZipApart z TI TO i1 i2 l1 l2)
    (hz : IsZip2 s.heap z TI TO T b) (hT : s.heap.get? T = some ot) (hTI : IsPair s.heap TI (.ref i1) (.ref i2))
    (h1 : s.heap.IsListIter i1 l1 k1) (hl1 : s.heap.IsList l1 xs) (hx : xs[k1]? = none)
    (hE : ∀ h' e, (∀ c o, c ≠ z → c ≠ i1 → c ≠ i2 → s.heap.get? c = some o → h'.get? c = some o) → (∃ o, h'.get? e = some o ∧ o.cls = .type "StopIteration") → E (.ref e) { s with heap := h' }) :
    wpAny (model prog w) A (Builtin.«zip.__next__» ⟨[.ref z], []⟩) Q E s := by
  show wpAny _ _ (field (.ref z) 2 >>= _) _ _ _
  refine wpAny_bind (wpAny_field hz rfl (x := .bool false) rfl ?_)
  show wpAny _ _ (field (.ref z) 3 >>= _) _ _ _
  refine wpAny_bind (wpAny_field hz rfl (x := .ref TI) rfl ?_)
  refine wpAny_bind (wpAny_seqItems hTI rfl ?_)
  show wpAny _ _ (Builtin.SmallTypes.ownedTupleIsFree (.ref z) >>= _) _ _ _
  refine wpAny_bind (not_free hz hT fun h₁ hz₁ hs₁ => ?_)
  simp only [Bool.false_eq_true, if_false]
  refine wpAny_bind ?_
  rw [← Array.forIn_toList]
  simp only [List.forIn_cons, List.forIn_nil]
  refine wpAny_bind (wpAny_bind (wpAny_holding ?_))
  show wpAny _ _ (Builtin.SmallTypes.nextOf (.ref i1) >>= _) _ _ _
  refine wpAny_bind (wpAny_nextOf_list_end hh (h1.extBut hs₁.extBut D.i1z) (hl1.extBut hs₁.extBut D.l1z) hx fun h₂ e hs₂ he => ?_)
  exact hE h₂ e (fun c o c1 c3 _ x => hs₂ _ _ c3 (hs₁.extBut _ _ c1 x)) he
theorem pyNext_zip2 {s : Shared} {z TI TO i1 i2 l1 l2 T : Addr} {b : Bool} {ot : Obj} {k1 k2 : Nat} {xs ys : Array Value} {x y : Value} {Q : Option Value → Shared → Prop} (D : ZipApart z TI TO i1 i2 l1 l2)
    (hz : IsZip2 s.heap z TI TO T b) (hT : s.heap.get? T = some ot) (hTI : IsPair s.heap TI (.ref i1) (.ref i2))
    (h1 : s.heap.IsListIter i1 l1 k1) (h2 : s.heap.IsListIter i2 l2 k2) (hl1 : s.heap.IsList l1 xs) (hl2 : s.heap.IsList l2 ys) (hx : xs[k1]? = some x) (hy : ys[k2]? = some y)
    (hQ : ∀ h', IsZip2 h' z TI TO T true → h'.IsListIter i1 l1 (k1 + 1) → h'.IsListIter i2 l2 (k2 + 1) → IsPair h' s.heap.objs.size x y → h'.objs.size = s.heap.objs.size + 1 →
      (∀ c o, c ≠ z → c ≠ i1 → c ≠ i2 → s.heap.get? c = some o → h'.get? c = some o) → Q (some (.ref s.heap.objs.size)) { s with heap := h' }) :
    wpAny (model prog w) A (pyNext (.ref z)) Q E s := by
  have hT' : s.TypeIs (.ref z) "zip" := ⟨_, hz, rfl⟩
  unfold pyNext
  exact wpAny_bind (wpAny_attempt (wpAny_callSpecial?_slot (name := Str.ofString "__next__") hT' PySem.F.slot_zip_next
    (wpAny_call_entry PySem.F.slot_zip_next hT' PySem.F.entry_zip_next
      (zip_next2 D hz hT hTI h1 h2 hl1 hl2 hx hy fun h' a1 a3 a4 a5 a6 a7 => wpAny_pure (hQ h' a1 a3 a4 a5 a6 a7)) (PySem.F.args_zip_next_1 _))))
theorem pyNext_zip2_end {s : Shared} {z TI TO i1 i2 l1 l2 T : Addr} {b : Bool} {ot : Obj} {k1 k2 : Nat} {xs ys : Array Value} {Q : Option Value → Shared → Prop} (hh : A.handled = none) (D : ZipApart z TI TO i1 i2 l1 l2)
    (hz : IsZip2 s.heap z TI TO T b) (hT : s.heap.get? T = some ot) (hTI : IsPair s.heap TI (.ref i1) (.ref i2))
    (h1 : s.heap.IsListIter i1 l1 k1) (hl1 : s.heap.IsList l1 xs) (hx : xs[k1]? = none)
    (hQ : ∀ h', (∀ c o, c ≠ z → c ≠ i1 → c ≠ i2 → s.heap.get? c = some o → h'.get? c = some o) → Q none { s with heap := h' }) : wpAny (model prog w) A (pyNext (.ref z)) Q E s := by
  have hT' : s.TypeIs (.ref z) "zip" := ⟨_, hz, rfl⟩
  unfold pyNext
  refine wpAny_bind (wpAny_attempt (wpAny_callSpecial?_slot (name := Str.ofString "__next__") hT' PySem.F.slot_zip_next
    (wpAny_call_entry PySem.F.slot_zip_next hT' PySem.F.entry_zip_next (zip_end2 (k2 := k2) (ys := ys) hh D hz hT hTI h1 hl1 hx fun h' e hk he => ?_) (PySem.F.args_zip_next_1 _))))
  obtain ⟨o, ho, hc⟩ := he
  refine wpAny_bind (wpAny_isInstance (T := "StopIteration") (b := true) ⟨o, ho, hc⟩ isSubtype_stop ?_)
  exact wpAny_pure (hQ _ hk)
def ZS (h : Heap) (z TI TO : Addr) : Prop := (IsZip h z TI TO .none ∧ ∃ a b, IsPair h TO a b) ∨ ∃ T b ot, IsZip2 h z TI TO T b ∧ h.get? T = some ot
theorem ZS.keep {h h' : Heap} {z TI TO S : Addr} (Z : ZS h z TI TO) (hz : S ≠ z) (hO : S ≠ TO) (he : Heap.SameBut S h h') (hS : ∃ o, h'.get? S = some o) : ZS h' z TI TO := by
  rcases Z with ⟨h1, a, b, h2⟩ | ⟨T, b, ot, h1, h2⟩
  · exact .inl ⟨he.extBut _ _ (Ne.symm hz) h1, a, b, he.extBut _ _ (Ne.symm hO) h2⟩
  · by_cases e : T = S
    · subst e
      obtain ⟨o, ho⟩ := hS
      exact .inr ⟨T, b, o, he.extBut _ _ (Ne.symm hz) h1, ho⟩
    · exact .inr ⟨T, b, ot, he.extBut _ _ (Ne.symm hz) h1, he.extBut _ _ e h2⟩
theorem pyNext_zipS {s : Shared} {z TI TO i1 i2 l1 l2 : Addr} {k1 k2 : Nat} {xs ys : Array Value} {x y : Value} {Q : Option Value → Shared → Prop} (D : ZipApart z TI TO i1 i2 l1 l2)
    (Z : ZS s.heap z TI TO) (hTI : IsPair s.heap TI (.ref i1) (.ref i2))
    (h1 : s.heap.IsListIter i1 l1 k1) (h2 : s.heap.IsListIter i2 l2 k2) (hl1 : s.heap.IsList l1 xs) (hl2 : s.heap.IsList l2 ys) (hx : xs[k1]? = some x) (hy : ys[k2]? = some y)
    (hQ : ∀ h', ZS h' z TI TO → h'.IsListIter i1 l1 (k1 + 1) → h'.IsListIter i2 l2 (k2 + 1) → IsPair h' s.heap.objs.size x y → h'.objs.size = s.heap.objs.size + 1 →
      (∀ c o, c ≠ z → c ≠ TO → c ≠ i1 → c ≠ i2 → s.heap.get? c = some o → h'.get? c = some o) → Q (some (.ref s.heap.objs.size)) { s with heap := h' }) :
    wpAny (model prog w) A (pyNext (.ref z)) Q E s := by
  rcases Z with ⟨hz, a, b, hTO⟩ | ⟨T, b, ot, hz, hT⟩
  · exact wpAny_pyNext_zip_item D hz hTI hTO h1 h2 hl1 hl2 hx hy fun h' z' TO' h1' h2' hT hsz hk => hQ h' (.inr ⟨s.heap.objs.size, false, _, z', hT⟩) h1' h2' hT hsz hk
  · refine pyNext_zip2 D hz hT hTI h1 h2 hl1 hl2 hx hy fun h' z' h1' h2' hT' hsz hk => ?_
    have alive : ∃ o, h'.get? T = some o := by
      by_cases e1 : T = z
      · exact ⟨_, by rw [e1]; exact z'⟩
      · by_cases e2 : T = i1
        · obtain ⟨o, ho, _⟩ := h1'
          exact ⟨o, by rw [e2]; exact ho⟩
        · by_cases e3 : T = i2
          · obtain ⟨o, ho, _⟩ := h2'
            exact ⟨o, by rw [e3]; exact ho⟩
          · exact ⟨ot, hk T ot e1 e2 e3 hT⟩
    obtain ⟨o, ho⟩ := alive
    exact hQ h' (.inr ⟨T, true, o, z', ho⟩) h1' h2' hT' hsz fun c o c1 _ c3 c4 e => hk c o c1 c3 c4 e
theorem pyNext_zipS_end {s : Shared} {z TI TO i1 i2 l1 l2 : Addr} {k1 k2 : Nat} {xs ys : Array Value} {Q : Option Value → Shared → Prop} (hh : A.handled = none) (D : ZipApart z TI TO i1 i2 l1 l2)
    (Z : ZS s.heap z TI TO) (hTI : IsPair s.heap TI (.ref i1) (.ref i2))
    (h1 : s.heap.IsListIter i1 l1 k1) (h2 : s.heap.IsListIter i2 l2 k2) (hl1 : s.heap.IsList l1 xs) (hl2 : s.heap.IsList l2 ys) (hx : xs[k1]? = none)
    (hQ : ∀ h', (∀ c o, c ≠ z → c ≠ TO → c ≠ i1 → c ≠ i2 → s.heap.get? c = some o → h'.get? c = some o) → Q none { s with heap := h' }) : wpAny (model prog w) A (pyNext (.ref z)) Q E s := by
  rcases Z with ⟨hz, a, b, hTO⟩ | ⟨T, b, ot, hz, hT⟩
  · exact wpAny_pyNext_zip_end hh D hz hTI hTO h1 h2 hl1 hl2 (.inl hx) hQ
  · exact pyNext_zip2_end (k2 := k2) (ys := ys) hh D hz hT hTI h1 hl1 hx fun h' hk => hQ h' fun c o c1 _ c3 c4 e => hk c o c1 c3 c4 e
structure Apart (S z TI TO i1 i2 l1 l2 : Addr) : Prop where
  z : S ≠ z
  TI : S ≠ TI
  TO : S ≠ TO
  i1 : S ≠ i1
  i2 : S ≠ i2
  l1 : S ≠ l1
  l2 : S ≠ l2
theorem upd_loop_zip {R : Result → Shared → Prop} {S z TI TO i1 i2 l1 l2 : Addr} {xs ys : Array Value} {res : Value} (hh : A.handled = none) (D : ZipApart z TI TO i1 i2 l1 l2) (Ap : Apart S z TI TO i1 i2 l1 l2) :
    ∀ (rest : List (Key × Value)) (i : Nat) (acc : List (Key × Value)) (ix : Int) (t : Tok) (s : Shared), xs.size = i + rest.length → acc.length + rest.length ≤ sizeLine →
      (∀ (j : Nat) (q : Key × Value), rest[j]? = some q → ∃ u : Value, xs[i + j]? = some u ∧ ys[i + j]? = some q.2 ∧ keyIs q.1 u = true) →
      ZS s.heap z TI TO → IsPair s.heap TI (.ref i1) (.ref i2) → s.heap.IsListIter i1 l1 i → s.heap.IsListIter i2 l2 i → s.heap.IsList l1 xs → s.heap.IsList l2 ys → s.heap.DictOf (mixKind prog w) S acc →
      (∀ h' tk, h'.DictOf (mixKind prog w) S (merged acc rest) → (∀ b o, b ≠ S → b ≠ z → b ≠ TO → b ≠ i1 → b ≠ i2 → s.heap.get? b = some o → h'.get? b = some o) → R (.ok (.ret res)) { s with heap := h', toks := tk }) →
      codeAny (model prog w) A (.builtin "dict.update.loop" ⟨[.ref S, .ref z, .int ix t, res], []⟩) R s
  | [], i, acc, ix, t, s, hsz, hln, ht, Z, hTI, h1, h2, hl1, hl2, hm, hR => by
    refine codeAny_builtin ud_entry ?_
    rw [Around.under_plainId ud_plain _]
    show wpAny _ A.in1 (pyNext (.ref z) >>= _) _ _ s
    refine wpAny_bind (pyNext_zipS_end (A := A.in1) hh D Z hTI h1 h2 hl1 hl2 (by first | exact Array.getElem?_eq_none (Nat.le_of_eq hsz) | (simp at hsz; simp; omega)) fun h' he => ?_)
    show wpAny _ A.in1 (Builtin.Dict.addKeywords S [] >>= _) _ _ _
    refine wpAny_bind (wpAny_pure (wpAny_pure ?_))
    refine hR h' s.toks (hm.at fun o e => he S o Ap.z Ap.TO Ap.i1 Ap.i2 e) fun b o _ a1 a2 a3 a4 e => he b o a1 a2 a3 a4 e
  | q :: rest, i, acc, ix, t, s, hsz, hln, ht, Z, hTI, h1, h2, hl1, hl2, hm, hR => by
    obtain ⟨u, hu, hv, hk⟩ := ht 0 q rfl
    rw [List.length_cons] at hsz hln
    have hSlt : S < s.heap.objs.size := by
      obtain ⟨_, _, _, e, _⟩ := hm
      exact Heap.lt_size e
    refine codeAny_builtin ud_entry ?_
    rw [Around.under_plainId ud_plain _]
    show wpAny _ A.in1 (pyNext (.ref z) >>= _) _ _ s
    refine wpAny_bind (pyNext_zipS (A := A.in1) D Z hTI h1 h2 hl1 hl2 (x := u) (y := q.2) (by simpa using hu) (by simpa using hv) fun h1' Z' h1i h2i hT hsz' hk1 => ?_)
    have hm1 : h1'.DictOf (mixKind prog w) S acc := hm.at fun o e => hk1 S o Ap.z Ap.TO Ap.i1 Ap.i2 e
    show wpAny _ A.in1 (holding [Value.ref s.heap.objs.size] _ >>= _) _ _ _
    refine wpAny_bind (wpAny_holding ?_)
    refine wpAny_bind (wpAny_tryCatch ?_)
    unfold Builtin.Dict.pairItems
    refine wpAny_bind (wpAny_typeOf (T := "tuple") ⟨_, hT, rfl⟩ ?_)
    rw [if_pos (by first | decide | rfl | simp)]
    refine wpAny_bind (wpAny_seqItems hT rfl (wpAny_pure ?_))
    show wpAny _ A.in1 (holding [u, q.2] (dictSet S u q.2)) _ _ _
    refine wpAny_holding (wpAny_dictSet_pairs (knd := mixKind prog w) (k := q.1) hk hm1 (fun h2' hm2 hs2 => ?_) (by omega))
    have aliveS : ∃ o, h2'.get? S = some o := by
      obtain ⟨o, _, _, e, _⟩ := hm2
      exact ⟨o, e⟩
    refine wpAny_pure ⟨plainId_quiet ud_plain _, upd_loop_zip (xs := xs) (ys := ys) hh D Ap rest (i + 1) (stored acc q.1 q.2) (ix + 1) 0 _ (show xs.size = i + 1 + rest.length by omega) ?_ (fun j q' e => ?_) (Z'.keep Ap.z Ap.TO hs2 aliveS) ?_ ?_ ?_ ?_ ?_ hm2 fun h' tk hd' k => ?_⟩
    · have z := stored_length_le acc q.1 q.2
      omega
    · obtain ⟨u', a1, a2, a3⟩ := ht (j + 1) q' (by simpa using e)
      refine ⟨u', ?_, ?_, a3⟩
      · rw [show i + 1 + j = i + (j + 1) by omega]
        exact a1
      · rw [show i + 1 + j = i + (j + 1) by omega]
        exact a2
    · exact hs2.extBut _ _ (Ne.symm Ap.TI) (hk1 _ _ D.TIz D.TITO D.TIi1 D.TIi2 hTI)
    · exact h1i.at fun o' e => hs2.extBut i1 o' (Ne.symm Ap.i1) e
    · exact h2i.at fun o' e => hs2.extBut i2 o' (Ne.symm Ap.i2) e
    · exact (hl1.at fun o e => hk1 _ _ D.l1z D.l1TO D.l1i1 D.l1i2 e).extBut hs2.extBut (Ne.symm Ap.l1)
    · exact (hl2.at fun o e => hk1 _ _ D.l2z D.l2TO D.l2i1 D.l2i2 e).extBut hs2.extBut (Ne.symm Ap.l2)
    · exact hR h' tk hd' fun c oc a0 a1 a2 a3 a4 e => k c oc a0 a1 a2 a3 a4 (hs2.extBut c oc a0 (hk1 c oc a1 a2 a3 a4 e))
theorem call_dict_zip {s : Shared} {z TI TO i1 i2 l1 l2 : Addr} {xs ys : Array Value} {prs : List (Key × Value)} {Q : Value → Shared → Prop} (hh : A.handled = none) (D : ZipApart z TI TO i1 i2 l1 l2)
    (hz : IsZip s.heap z TI TO .none) (hTI : IsPair s.heap TI (.ref i1) (.ref i2)) (hTO : ∃ a b, IsPair s.heap TO a b) (h1 : s.heap.IsListIter i1 l1 0) (h2 : s.heap.IsListIter i2 l2 0) (hl1 : s.heap.IsList l1 xs) (hl2 : s.heap.IsList l2 ys)
    (hsz : xs.size = prs.length) (hln : prs.length ≤ sizeLine)
    (ht : ∀ (j : Nat) (q : Key × Value), prs[j]? = some q → ∃ u : Value, xs[j]? = some u ∧ ys[j]? = some q.2 ∧ keyIs q.1 u = true)
    (h : ∀ h' tk, h'.DictOf (mixKind prog w) s.heap.objs.size (merged [] prs) → (∀ b o, b ≠ z → b ≠ TO → b ≠ i1 → b ≠ i2 → s.heap.get? b = some o → h'.get? b = some o) → Q (.ref s.heap.objs.size) { s with heap := h', toks := tk }) :
    wpAny (model prog w) A (call (.type "dict") [.ref z]) Q E s := by
  refine callType_codes (Q₁ := fun obj s₁ => obj = .ref s.heap.objs.size ∧ s₁ = { s with heap := s.heap.push { cls := .type "dict", data := .dict #[] } }) PySem.F.kt_called_dict (PySem.F.kt_typeCall_dict_1 _) PySem.F.entry_dict_init (kt_code_dict_new _ ⟨rfl, rfl⟩) ?_
  rintro obj s₁ ⟨rfl, rfl⟩
  have hnew : (s.heap.push { cls := .type "dict", data := .dict #[] }).DictOf (mixKind prog w) s.heap.objs.size [] := Heap.DictOf.new s.heap
  have k0 : ∀ b o, s.heap.get? b = some o → (s.heap.push { cls := .type "dict", data := .dict #[] }).get? b = some o := fun b o e => Heap.get?_push_of_some _ e
  refine ⟨hnew.typeIs, PySem.F.args_dict_init_2 _ _, ?_⟩
  unfold Builtin.«dict.__init__»
  refine wpAny_bind ?_
  unfold Builtin.Dict.selfAndRest
  refine wpAny_bind (wpAny_notOrdered_dict hnew.typeIs ?_)
  show wpAny _ _ (pure (s.heap.objs.size, [Value.ref z])) _ _ _
  refine wpAny_pure ?_
  show wpAny _ _ (Builtin.Dict.updateFrom "dict.__init__" s.heap.objs.size (.ref z) [] .none) _ _ _
  unfold Builtin.Dict.updateFrom
  refine wpAny_bind (wpAny_typeOf (T := "zip") ⟨_, k0 _ _ hz, rfl⟩ ?_)
  rw [if_pos (by first | decide | rfl | simp)]
  refine wpAny_bind (miss_zip (k0 _ _ hz) hh fun h1' tk1 hk1 => ?_)
  rw [if_pos (show (none : Option Value).isNone = true from rfl)]
  refine wpAny_bind (wpAny_rule ?_)
  have kk : ∀ b o, s.heap.get? b = some o → h1'.get? b = some o := fun b o e => hk1 _ _ (k0 _ _ e)
  refine wpAny_bind (wpAny_pyIter_zip (s := { s with heap := h1', toks := tk1 }) (kk _ _ hz) ?_)
  obtain ⟨ta, tb, hTO'⟩ := hTO
  have lt : ∀ {b o}, s.heap.get? b = some o → s.heap.objs.size ≠ b := fun e => Nat.ne_of_gt (Heap.lt_size e)
  obtain ⟨o1, e1, r1⟩ := h1
  obtain ⟨o2, e2, r2⟩ := h2
  obtain ⟨p1, f1, q1⟩ := hl1
  obtain ⟨p2, f2, q2⟩ := hl2
  have Ap : Apart s.heap.objs.size z TI TO i1 i2 l1 l2 := ⟨lt hz, lt hTI, lt hTO', lt e1, lt e2, lt f1, lt f2⟩
  have key := upd_loop_zip (prog := prog) (w := w) (A := A.in1) (R := wants (fun r s₂ => r = .none ∧ Q (.ref s.heap.objs.size) s₂) E) (S := s.heap.objs.size) (xs := xs) (ys := ys) (res := Value.none) hh D Ap prs 0 [] 0 0
    { s with heap := h1', toks := tk1 } (by rw [hsz, Nat.zero_add]) (by rw [List.length_nil, Nat.zero_add]; exact hln)
    (fun j q e => by
      obtain ⟨u, a1, a2, a3⟩ := ht j q e
      exact ⟨u, by rw [Nat.zero_add]; exact a1, by rw [Nat.zero_add]; exact a2, a3⟩)
    (.inl ⟨kk _ _ hz, ta, tb, kk _ _ hTO'⟩) (kk _ _ hTI) ⟨o1, kk _ _ e1, r1⟩ ⟨o2, kk _ _ e2, r2⟩ ⟨p1, kk _ _ f1, q1⟩ ⟨p2, kk _ _ f2, q2⟩ (hnew.at fun o e => hk1 _ _ e)
    (fun h' tk hd' k => ⟨rfl, h h' tk hd' fun b o a1 a2 a3 a4 e => k b o (Ne.symm (lt e)) a1 a2 a3 a4 (kk _ _ e)⟩)
  first
    | exact wpAny_pure ⟨plainId_quiet ud_plain _, key⟩
    | exact wpAny_bind (wpAny_pure (wpAny_pure ⟨plainId_quiet ud_plain _, key⟩))
end
theorem zip_prs (P : Program) (w : World) {xs : List V} {us : List Value} (hx : Vals xs us) : ∀ {ks : List Key} {ys : List V} {vs : List Value}, xs = ks.map kV → Vals ys vs → ks.length = ys.length →
    ∃ prs : List (Key × Value), KV (ks.zip ys) prs ∧ prs.length = ks.length ∧ ∀ (j : Nat) (q : Key × Value), prs[j]? = some q → ∃ u : Value, us[j]? = some u ∧ vs[j]? = some q.2 ∧ keyIs q.1 u = true := by
  induction hx with
  | nil =>
    intro ks ys vs e hy hl
    cases ks with
    | nil => exact ⟨[], .nil, rfl, fun j q e => by simp at e⟩
    | cons k r => cases e
  | cons r1 r2 ih =>
    intro ks ys vs e hy hl
    cases ks with
    | nil => cases e
    | cons k ks =>
      rw [List.map_cons] at e
      obtain ⟨e1, e2⟩ := List.cons.inj e
      cases hy with
      | nil => simp at hl
      | cons s1 s2 =>
        rename_i y v ys' vs'
        obtain ⟨prs, p1, p2, p3⟩ := ih e2 s2 (by simpa using hl)
        subst e1
        refine ⟨(k, v) :: prs, .cons ⟨rfl, s1⟩ p1, by simp [p2], fun j q e => ?_⟩
        cases j with
        | zero =>
          have e' : (k, v) = q := Option.some.inj e
          subst e'
          exact ⟨_, rfl, rfl, kV_is (P := P) (w := w) r1⟩
        | succ j =>
          obtain ⟨u, a1, a2, a3⟩ := p3 j q (by simpa using e)
          exact ⟨u, by simpa using a1, by simpa using a2, a3⟩
def tDZ (K : PySem.W.Frag) (ta : TA) : TE := fun σ H Q => ta σ H fun vs H1 => ∃ (a b : Addr) (ks : List Key) (ys : List V), vs = [.ref a, .ref b] ∧ SqL K H1 a (ks.map kV) ∧ SqL K H1 b ys ∧ ks.length = ys.length ∧ ∀ p, H1 p = none → Q (.ref p) (upd H1 p (.dK (mergeK [] (ks.zip ys))))
theorem pe_dictzip {X : Cx} {e e2 : Expr} {ta : TA} {p pos p2 pos2 : Pos} (hcalm : X.calm = true) (hg : Gl X "dict") (hm : X.mg "dict" = none) (hg2 : Gl X "zip") (hm2 : X.mg "zip" = none) (ha : PA X [e, e2] ta)
    (he1 : starEach [.Call (.Name "zip" p2) [e, e2] [] pos2] X.env = (false, eval (.Call (.Name "zip" p2) [e, e2] [] pos2) X.env) :: starEach [] X.env := by rfl)
    (hs : starEach [e, e2] X.env = (false, eval e X.env) :: starEach [e2] X.env := by rfl) (hpl : (backTo pos2 (starEach [e2] X.env)).any (·.1) = false := by rfl) :
    PE X (.Call (.Name "dict" p) [.Call (.Name "zip" p2) [e, e2] [] pos2] [] pos) (tDZ X.K ta) := by
  intro pins s σ H Q I h
  refine wpAny_Call_Name_kw (ld_blt I hg hm bt_dict ?_ (by decide) (by decide))
  refine PyProof.Rows.callWith_type1 ?_ he1 rfl
  rw [he1]
  refine Calls.spliced_cons ?_
  refine Call_ (ld_blt I hg2 hm2 boot_zip5 (PyProof.Rows.callWith_type1 (thn (ha pos2 pins s σ H _ I h) fun us s1 ⟨vs, H1, I1, r1, q1⟩ => ?_) hs hpl))
  obtain ⟨a, b, ks, ys, ex, hqx, hqy, hl, q⟩ := q1
  subst ex
  cases r1 with
  | cons r rr =>
    cases rr with
    | cons r' rr =>
      cases rr
      cases r
      cases r'
      obtain ⟨its, rv, p1, z1⟩ := I1.list hqx
      obtain ⟨its2, rv2, p2, z2⟩ := I1.list hqy
      have la : a < s1.heap.objs.size := p1.lt
      have lb : b < s1.heap.objs.size := p2.lt
      refine call_zip_2 p1.isList p2.isList fun h' hz hTI hTO h1 h2 hsz hk => Calls.spliced_nil ?_
      obtain ⟨prs, kv, hlen, hp⟩ := zip_prs X.prog X.w rv rfl rv2 hl
      have hle : prs.length ≤ sizeLine := by
        rw [hlen]
        rw [List.length_map] at z1
        exact z1
      refine call_dict_zip (s := { s1 with heap := h' }) (prs := prs) (I1.ok.hd hcalm) (PySem.W.ktu_apart s1.heap.objs.size a b la lb) hz hTI ⟨_, _, hTO⟩ h1 h2 (p1.isList.at fun o e => hk _ _ e) (p2.isList.at fun o e => hk _ _ e) (by rw [List.size_toArray, ← rv.length, List.length_map, hlen]) hle (fun j q' e => ?_) fun h2' tk hd' k => ?_
      · obtain ⟨u, a1, a2, a3⟩ := hp j q' e
        exact ⟨u, by simpa using a1, by simpa using a2, a3⟩
      · have hbig : sysModules < h'.objs.size := by rw [hsz]; exact Nat.lt_of_lt_of_le I1.big (Nat.le_add_right _ _)
        have hmod : (h'.objs.size == sysModules) = false := beq_eq_false_iff_ne.mpr (Nat.ne_of_gt hbig)
        have hlz : (mergeK [] (ks.zip ys)).length ≤ sizeLine := by
          refine Nat.le_trans (length_mergeK _ []) ?_
          rw [List.length_nil, Nat.zero_add, kv.length]
          exact hle
        have keep : ∀ c o, s1.heap.get? c = some o → h2'.get? c = some o := fun c o e => by
          have hc := Heap.lt_size e
          exact k c o (Nat.ne_of_lt (Nat.lt_of_lt_of_le hc (Nat.le_add_right _ _))) (Nat.ne_of_lt (Nat.lt_of_lt_of_le hc (Nat.le_add_right _ _))) (Nat.ne_of_lt hc) (Nat.ne_of_lt (Nat.lt_of_lt_of_le hc (Nat.le_add_right _ _))) (hk _ _ e)
        exact ⟨.ref h'.objs.size, upd H1 h'.objs.size (.dK (mergeK [] (ks.zip ys))), I1.laid (t' := tk) keep (by rw [hsz]; exact Nat.le_add_right _ _) (show ObjOk X.prog X.w _ _ _ (.dK (mergeK [] (ks.zip ys))) from ⟨hlz, hmod, merged [] prs, KV.merge kv .nil, hd'⟩), rfl, q _ (I1.hok.fresh (by rw [hsz]; exact Nat.le_add_right _ _))⟩
theorem mergeK_nd : ∀ (kvs acc : List (Key × V)), ((acc ++ kvs).map (·.1)).Nodup → mergeK acc kvs = acc ++ kvs
  | [], acc, _ => by simp [mergeK]
  | p :: r, acc, h => by
    have hn : valV acc p.1 = none := by
      cases e : valV acc p.1 with
      | none => rfl
      | some v =>
        have m := valV_in e
        rw [List.map_append, List.map_cons] at h
        have := (List.nodup_append.mp h).2.2 p.1 m p.1 List.mem_cons_self
        exact absurd rfl this
    show mergeK (putK acc p.1 p.2) r = acc ++ p :: r
    rw [putK_new p.2 hn, mergeK_nd r (acc ++ [(p.1, p.2)])]
    · simp
    · simpa using h
end AT
end
section
namespace AT
open PySem PySem.Spec PyProof.Rows L2
theorem band (a b : Nat) : Builtin.bitAnd (a : Int) (b : Int) = ((a &&& b : Nat) : Int) := rfl
theorem bor (a b : Nat) : Builtin.bitOr (a : Int) (b : Int) = ((a ||| b : Nat) : Int) := Bits.bitOr_pp (Int.natCast_nonneg a) (Int.natCast_nonneg b)
def vN (l : List Nat) : List V := l.map fun x => V.int (x : Nat)
def vZ (l : List Int) : List V := l.map V.int
theorem vN_len (l : List Nat) : (vN l).length = l.length := List.length_map ..
theorem vZ_len (l : List Int) : (vZ l).length = l.length := List.length_map ..
theorem vN_vZ (l : List Nat) : vN l = vZ (l.map fun (x : Nat) => (x : Int)) := by
  unfold vN vZ
  rw [List.map_map]
  rfl
theorem vZ_at {l : List Int} {i : Nat} {z : Int} (h : l[i]? = some z) : (vZ l)[i]? = some (.int z) := by
  unfold vZ
  rw [List.getElem?_map, h]
  all_goals rfl
theorem of_vZ_at {l : List Int} {i : Nat} {v : V} (h : (vZ l)[i]? = some v) : ∃ z, l[i]? = some z ∧ v = .int z := by
  unfold vZ at h
  rw [List.getElem?_map] at h
  cases e : l[i]? with
  | none =>
    rw [e] at h
    cases h
  | some z =>
    rw [e] at h
    exact ⟨z, rfl, (Option.some.inj h).symm⟩
theorem vN_at {l : List Nat} {i : Nat} {z : Nat} (h : l[i]? = some z) : (vN l)[i]? = some (.int (z : Nat)) := by
  unfold vN
  rw [List.getElem?_map, h]
  all_goals rfl
theorem of_vN_at {l : List Nat} {i : Nat} {v : V} (h : (vN l)[i]? = some v) : ∃ z, l[i]? = some z ∧ v = .int (z : Nat) := by
  unfold vN at h
  rw [List.getElem?_map] at h
  cases e : l[i]? with
  | none =>
    rw [e] at h
    cases h
  | some z =>
    rw [e] at h
    exact ⟨z, rfl, (Option.some.inj h).symm⟩
theorem line_big : 100000 < sizeLine := by rw [sizeLine_eq]; decide
abbrev sIsMask : Stmt := top 17
def spIsMask : Sp := fun vs H Q _ => ∃ z : Int, vs = [.int z] ∧ Q (.bl (decide (0 ≤ z ∧ z ≤ 31))) H
abbrev sWithin : Stmt := top 18
def spWithin : Sp := fun vs H Q _ => ∃ m : Nat, vs = [.int (m : Nat)] ∧ ∀ (H' : Hp) (p : Addr), Same H H' → H p = none → H' p = some (.lst (vN (SP.aw m))) → Q (.ref p) H'
abbrev sIsTable : Stmt := top 19
def goodTable (z : Int) (ws : List Int) : Prop := 1 ≤ z ∧ z ≤ 31 ∧ ws.length = (SP.aw z.toNat).length ∧ ∀ x ∈ ws, x ≤ 1000
instance (z : Int) (ws : List Int) : Decidable (goodTable z ws) := by unfold goodTable; infer_instance
def spIsTable : Sp := fun vs H Q _ => ∃ (z : Int) (a : Addr) (ws : List Int), vs = [.int z, .ref a] ∧ H a = some (.lst (vZ ws)) ∧ ws.length ≤ 4000 ∧ ∀ H' : Hp, Same H H' → Q (.bl (decide (goodTable z ws))) H'
section
variable {P : Program} {w : World} {K : PySem.W.Frag} {mg : Str → Option Value} {base : Heap} {CS CT CA : Addr}
theorem scIsMask : FnScope ["number"] ["number"] (defScope sIsMask) := ⟨rfl, rfl, rfl, by decide +kernel, rfl, by decide +kernel, by decide +kernel⟩
theorem ok_isMask {f : Addr} {fd : FuncData} (F : Fun K "is_mask" "is_mask" sIsMask f fd) (T : Txt K mg CS CT CA) : FnOk P w K mg base CX0 1 f fd ["number"] spIsMask := by
  refine F.ok scIsMask (fun vs H Q E h => ?_) (fun cdv A outer s H vs Q E hr h => ?_)
  · obtain ⟨z, rfl, _⟩ := h
    rfl
  · obtain ⟨z, rfl, k⟩ := h
    refine ⟨_, pss_one (ps_ret (pe_chain op_le op_le pe_int (pv 0) (pe_ki T.full))), ?_⟩
    refine ⟨_, rfl, _, _, rfl, rfl, _, rfl, ?_⟩
    by_cases h0 : 0 ≤ z
    · rw [decide_eq_true h0]
      refine iteT ⟨_, _, rfl, rfl, ?_⟩
      have e : decide (z ≤ 31) = decide (0 ≤ z ∧ z ≤ 31) := by simp [h0]
      show Q (.bl (decide (z ≤ 31))) H
      rw [e]
      exact k
    · rw [decide_eq_false h0]
      refine iteF ?_
      have e : false = decide (0 ≤ z ∧ z ≤ 31) := by simp [h0]
      show Q (.bl false) H
      rw [e]
      exact k
theorem scWithin : FnScope ["mask", "told"] ["mask"] (defScope sWithin) := ⟨rfl, rfl, rfl, by decide +kernel, rfl, by decide +kernel, by decide +kernel⟩
theorem aw_take (m i : Nat) (hi : i < 32) : ((List.range (i + 1)).filter fun x => decide (x &&& m = x)) = ((List.range i).filter fun x => decide (x &&& m = x)) ++ (if i &&& m = i then [i] else []) := by
  rw [List.range_succ, List.filter_append, List.filter_cons]
  by_cases h : i &&& m = i
  · rw [if_pos (by simpa using h), if_pos h]
    rfl
  · rw [if_neg (by simpa using h), if_neg h]
    rfl
theorem ok_within {f : Addr} {fd : FuncData} (F : Fun K "answers_within" "answers_within" sWithin f fd) (T : Txt K mg CS CT CA) : FnOk P w K mg base CX0 1 f fd ["mask"] spWithin := by
  refine F.ok scWithin (fun vs H Q E h => ?_) (fun cdv A outer s H vs Q E hr h => ?_)
  · obtain ⟨z, rfl, _⟩ := h
    rfl
  · obtain ⟨m, rfl, k⟩ := h
    refine ⟨_, pss_one (ps_ret (pe_lc (own := [("told", 1)]) rfl scWithin.nd (pi_range1 rfl T.b.range (pa_cons (pe_op op_add (pe_ki T.full) pe_int) pa_nil)) (blkOk_by rfl)
      (fun s H C cl fp => pg_name (i := 1) scWithin.nd rfl (Or.inl rfl)) (fun s H C cl fp => pts_one (pt_cmpR op_eq (pe_op op_and (pv 1) (pv 0)) (pv 1) (nomark _))) (fun s H C cl fp => pv 1))), ?_⟩
    refine ⟨_, _, rfl, rfl, 32, rfl, by decide, by decide, fun D hD => ?_⟩
    refine lcR (n := 32) (by decide) (fun i => vN ((List.range i).filter fun x => decide (x &&& m = x))) rfl (fun i _ => ?_) hD (fun i H1 hi hS Y N kY kN => ?_) (fun H1 hS hD1 => k H1 D hS hD hD1)
    · rw [vN_len]
      exact Nat.le_trans (List.length_filter_le _ _) (by simp)
    · refine ⟨rfl, _, rfl, _, rfl, _, _, rfl, rfl, _, rfl, rfl, _, rfl, ?_⟩
      have e : decide (V.int (Builtin.bitAnd (i : Int) (m : Int)) = V.int (i : Nat)) = decide (i &&& m = i) := by
        rw [band]
        simp only [V.int.injEq, Int.ofNat_inj]
      rw [e]
      by_cases hc : i &&& m = i
      · rw [decide_eq_true hc]
        refine iteT ⟨_, rfl, kY _ _ (Same.refl _) ?_⟩
        dsimp only
        rw [aw_take m i hi, if_pos hc]
        unfold vN
        rw [List.map_append]
        rfl
      · rw [decide_eq_false hc]
        refine iteF (kN _ (Same.refl _) ?_)
        dsimp only
        rw [aw_take m i hi, if_neg hc, List.append_nil]
theorem scIsTable : FnScope ["mask", "weights", "weight"] ["mask", "weights"] (defScope sIsTable) := ⟨rfl, rfl, rfl, by decide +kernel, rfl, by decide +kernel, by decide +kernel⟩
theorem ok_isTable {f f1 f2 : Addr} {fd fd1 fd2 : FuncData} (F : Fun K "is_table" "is_table" sIsTable f fd) (T : Txt K mg CS CT CA) (GM : GF P w K mg base 1 "is_mask" f1 fd1 ["number"] spIsMask) (GW : GF P w K mg base 1 "answers_within" f2 fd2 ["mask"] spWithin) :
    FnOk P w K mg base CX0 2 f fd ["mask", "weights"] spIsTable := by
  refine F.ok scIsTable (fun vs H Q E h => ?_) (fun cdv A outer s H vs Q E hr h => ?_)
  · obtain ⟨z, a, ws, rfl, _⟩ := h
    rfl
  · obtain ⟨z, a, ws, rfl, ha, hl, k⟩ := h
    refine ⟨_, pss_cons (ps_if (PW.pt (pw_or (pt_not (pt_val (pe_call GM.ok hr rfl GM.at_ GM.kp GM.b .nil pass0 (pa_cons (pv 0) pa_nil)))) (pw_or1 (pt_cmpR op_eq (pv 0) pe_int (nomark _))))) (pss_one (ps_ret pe_bl)) pss_nil)
      (pss_cons (ps_if (pt_cmpR op_ne (pe_callB call_len_seq rfl T.b.len bt_len (pa_cons (pv 1) pa_nil)) (pe_callB call_len_seq rfl T.b.len bt_len (pa_cons (pe_call GW.ok hr rfl GW.at_ GW.kp GW.b .nil pass0 (pa_cons (pv 0) pa_nil)) pa_nil)) (nomark _)) (pss_one (ps_ret pe_bl)) pss_nil)
      (pss_one (ps_ret (pe_callB (cr_all rfl) rfl T.b.all bt_all (pa_cons (pe_lc (own := [("weight", 2)]) rfl scIsTable.nd (pi_list (pv 1)) (blkOk_by rfl)
        (fun s H C cl fp => pg_name (i := 2) scIsTable.nd rfl (Or.inl rfl)) (fun s H C cl fp => pts_nil) (fun s H C cl fp => pe_cmpR op_le (pv 2) (pe_ki T.mostW) (nomark _))) pa_nil))))), ?_⟩
    refine ⟨_, rfl, z, rfl, _, rfl, ?_⟩
    by_cases h0 : 0 ≤ z ∧ z ≤ 31
    · rw [decide_eq_true h0]
      refine iteF ⟨_, rfl, rfl, _, rfl, ?_⟩
      by_cases hz : z = 0
      · subst hz
        refine iteT ?_
        have e : false = decide (goodTable 0 ws) := by simp [goodTable]
        show Q (.bl false) H
        rw [e]
        exact k H (Same.refl _)
      · rw [decide_eq_false (by simpa using hz)]
        refine iteF ?_
        obtain ⟨m, rfl⟩ : ∃ m : Nat, z = (m : Int) := ⟨z.toNat, by omega⟩
        refine ⟨_, rfl, a, _, rfl, .inl (SqL.of ha), _, rfl, m, rfl, fun H1 p hS hp hH1 => ⟨p, _, rfl, .inl (SqL.of hH1), rfl, _, rfl, ?_⟩⟩
        rw [vZ_len, vN_len]
        by_cases hw : ws.length = (SP.aw m).length
        · rw [show decide (V.int (ws.length : Nat) = V.int ((SP.aw m).length : Nat)) = true from decide_eq_true (by rw [hw])]
          refine iteF ⟨_, rfl, a, rfl, ⟨_, SqL.of (hS _ _ ha)⟩, fun D hD => ?_⟩
          refine lcL (xs := vZ ws) (by rw [vZ_len]; exact Nat.lt_of_le_of_lt hl (Nat.lt_trans (by decide) line_big)) (fun i => ((ws.take i).map fun x => V.bl (decide (x ≤ 1000)))) rfl (fun i _ => by rw [List.length_map, List.length_take]; omega) hD (SqL.of (hS _ _ ha)) (fun i x H2 hx hS2 Y N kY kN => ?_) (fun H2 hS2 hD2 => ?_)
          · obtain ⟨y, hy, rfl⟩ := of_vZ_at hx
            refine ⟨rfl, tyes ⟨_, rfl, _, _, rfl, rfl, kY _ _ (Same.refl _) ?_⟩⟩
            dsimp only
            rw [List.take_add_one, hy, List.map_append]
            rfl
          · refine ⟨D, ws.map fun x => decide (x ≤ 1000), rfl, SqL.of ?_, ?_⟩
            · rw [hD2, vZ_len, List.take_length, List.map_map]
              rfl
            · have e : ((ws.map fun x => decide (x ≤ 1000)).all id) = decide (goodTable (m : Int) ws) := by
                rw [Bool.eq_iff_iff, List.all_eq_true, decide_eq_true_iff]
                constructor
                · intro q
                  exact ⟨by omega, h0.2, hw, fun x hx => of_decide_eq_true (q _ (List.mem_map_of_mem hx))⟩
                · rintro ⟨_, _, _, q⟩ b hb
                  obtain ⟨x, hx, rfl⟩ := List.mem_map.mp hb
                  exact decide_eq_true (q x hx)
              rw [e]
              exact k _ (hS.trans hS2)
        · rw [show decide (V.int (ws.length : Nat) = V.int ((SP.aw m).length : Nat)) = false from decide_eq_false (fun q => hw (Int.ofNat_inj.mp (V.int.inj q)))]
          refine iteT ?_
          have e : false = decide (goodTable (m : Int) ws) := by simp [goodTable, hw]
          show Q (.bl false) _
          rw [e]
          exact k _ hS
    · rw [decide_eq_false h0]
      refine iteT ?_
      have e : false = decide (goodTable z ws) := by
        symm
        apply decide_eq_false
        rintro ⟨a1, a2, _⟩
        exact h0 ⟨by omega, a2⟩
      show Q (.bl false) H
      rw [e]
      exact k H (Same.refl _)
end
end AT
end
section
namespace AT
open PySem PySem.Spec PyProof.Rows L2
def dn (l : List (Nat × Nat)) : List (Key × Int) := l.map fun q => (Sum.inl (q.1 : Int), (q.2 : Int))
theorem dn_len (l : List (Nat × Nat)) : (dn l).length = l.length := List.length_map ..
theorem dzdn_len (l : List (Nat × Nat)) : (dz (dn l)).length = l.length := by rw [dz_len, dn_len]
theorem dzdn_at {l : List (Nat × Nat)} {i : Nat} {k : Key} {v : V} (h : (dz (dn l))[i]? = some (k, v)) : ∃ q, l[i]? = some q ∧ k = Sum.inl (q.1 : Int) ∧ v = .int (q.2 : Nat) := by
  unfold dz dn at h
  rw [List.getElem?_map, List.getElem?_map] at h
  cases e : l[i]? with
  | none =>
    rw [e] at h
    cases h
  | some q =>
    rw [e] at h
    have h' := Option.some.inj h
    exact ⟨q, rfl, (Prod.mk.inj h').1.symm, (Prod.mk.inj h').2.symm⟩
theorem key_inj {a b : Nat} : ((Sum.inl (a : Int) : Key) = Sum.inl (b : Int)) ↔ a = b := by
  constructor
  · intro h
    exact Int.ofNat_inj.mp (Sum.inl.inj h)
  · rintro rfl
    rfl
theorem valV_dn : ∀ (l : List (Nat × Nat)) (k : Nat), valV (dz (dn l)) (Sum.inl (k : Int)) = (SP.lkN l k).map fun v => V.int (v : Nat)
  | [], k => rfl
  | p :: r, k => by
    have ih := valV_dn r k
    show valV ((Sum.inl (p.1 : Int), V.int (p.2 : Nat)) :: dz (dn r)) _ = _
    by_cases e : p.1 = k
    · rw [valV_pos (p := (Sum.inl (p.1 : Int), V.int (p.2 : Nat))) (key_inj.mpr e)]
      unfold SP.lkN
      rw [List.find?_cons, decide_eq_true e]
      rfl
    · rw [valV_neg (p := (Sum.inl (p.1 : Int), V.int (p.2 : Nat))) (fun z => e (key_inj.mp z)), ih]
      unfold SP.lkN
      rw [List.find?_cons, decide_eq_false e]
theorem putK_dn (l : List (Nat × Nat)) (k v : Nat) : putK (dz (dn l)) (Sum.inl (k : Int)) (.int (v : Nat)) = dz (dn (SP.putN l k v)) := by
  have hany : ((dz (dn l)).any fun kv => decide (kv.1 = Sum.inl (k : Int))) = (l.any fun p => decide (p.1 = k)) := by
    unfold dz dn
    rw [List.map_map, List.any_map]
    congr 1
    funext p
    dsimp only [Function.comp]
    rw [decide_eq_decide]
    exact key_inj
  unfold putK SP.putN
  rw [hany]
  by_cases h : (l.any fun p => decide (p.1 = k)) = true
  · rw [if_pos h, if_pos h]
    unfold dz dn
    rw [List.map_map, List.map_map, List.map_map, List.map_map]
    apply List.map_congr_left
    intro p _
    dsimp only [Function.comp]
    by_cases e : p.1 = k
    · rw [if_pos (key_inj.mpr e), if_pos e]
    · rw [if_neg (fun z => e (key_inj.mp z)), if_neg e]
  · rw [if_neg h, if_neg h]
    unfold dz dn
    rw [List.map_append, List.map_append]
    rfl
theorem pg2 (K' : PySem.W.Frag) {X : Cx} {i j : Nat} {x y : Str} {p1 p2 pos : Pos} {k : Nat} (hK : X.K = K') (hc : X.calm = true) (hN : X.N.Nodup) (hi : X.N[i]? = some x) (hx : Loc X.env.scope x) (hfx : X.fn x = true ∨ X.env.scope.names.lookup x = some .local) (hj : X.N[j]? = some y) (hy : Loc X.env.scope y) (hfy : X.fn y = true ∨ X.env.scope.names.lookup y = some .local) :
    PG X (.Tuple [.Name x p1, .Name y p2] k pos) (g2 K' i j) := by
  subst hK
  exact pg_tup hc (pgs_cons (pg_name hN hi hx hfx) (pgs_cons (pg_name hN hj hy hfy) pgs_nil))
def tf (m : Nat) (d : Addr) : List (Str × V) := putF "weights" (.ref d) (putF "mask" (.int (m : Nat)) [])
theorem tf_mask (m : Nat) (d : Addr) : (tf m d).lookup ("mask" : Str) = some (.int (m : Nat)) := by
  unfold tf
  rw [lookup_putF, if_neg (by decide +kernel), lookup_putF, if_pos rfl]
theorem tf_weights (m : Nat) (d : Addr) : (tf m d).lookup ("weights" : Str) = some (.ref d) := by
  unfold tf
  rw [lookup_putF, if_pos rfl]
theorem tf_no (m : Nat) (d : Addr) {x : Str} (h1 : ¬ x = "weights") (h2 : ¬ x = "mask") : (tf m d).lookup x = none := by
  unfold tf
  rw [lookup_putF, if_neg h1, lookup_putF, if_neg h2]
  all_goals rfl
def TabAt (CT : Addr) (H : Hp) (p : Addr) (t : Rd07.Table) : Prop := ∃ dx d, H p = some (.ins CT dx (tf t.mask d)) ∧ H d = some (.dK (dz (dn (SP.prs t))))
theorem TabAt.same {CT : Addr} {H H' : Hp} {p : Addr} {t : Rd07.Table} (h : TabAt CT H p t) (s : Same H H') : TabAt CT H' p t := by
  obtain ⟨dx, d, h1, h2⟩ := h
  exact ⟨dx, d, s _ _ h1, s _ _ h2⟩
theorem Same.unlock {H H' : Hp} {d : Addr} {u f : HO} (h : H d = some u) (s : Same (L2.upd H d f) H') : Same H (L2.upd H' d u) := fun b o e => by
  by_cases hb : b = d
  · subst hb
    rw [upd_same]
    rw [h] at e
    exact e
  · rw [upd_ne hb]
    exact s b o (by rw [upd_ne hb]; exact e)
abbrev sTable : Stmt := top 20
abbrev sTInit : Stmt := inClass sTable 0
abbrev sShares : Stmt := inClass sTable 1
abbrev sAllows : Stmt := inClass sTable 2
abbrev sIsCovered : Stmt := inClass sTable 3
def spTInit (CT : Addr) : Sp := fun vs H Q _ => ∃ (p dx a : Addr) (t : Rd07.Table), vs = [.ref p, .int (t.mask : Nat), .ref a] ∧ H p = some (.ins CT dx []) ∧ H a = some (.lst (vN t.w)) ∧ SP.Ok t ∧ ∀ H' : Hp, TabAt CT H' p t → (∀ b o, H b = some o → b ≠ p → H' b = some o) → Q .non H'
def spShares (CT : Addr) : Sp := fun vs H Q _ => ∃ (p : Addr) (t : Rd07.Table) (s : Nat), vs = [.ref p, .int (s : Nat)] ∧ TabAt CT H p t ∧ SP.Ok t ∧
  ∀ (H' : Hp) (r : Addr) (l : List (Nat × Nat)), Same H H' → H r = none → H' r = some (.dK (dz (dn l))) → SP.ShOk (SP.prs t) s l → Q (.ref r) H'
def spAllows (CT : Addr) : Sp := fun vs H Q _ => ∃ (p : Addr) (t : Rd07.Table) (x : Nat), vs = [.ref p, .int (x : Nat)] ∧ TabAt CT H p t ∧ SP.Ok t ∧ x < 32 ∧ Q (.bl (t.w.getD (Rd07.place t.mask x) 0 != 0)) H
def spIsCovered (CT : Addr) : Sp := fun vs H Q _ => ∃ (p a : Addr) (t : Rd07.Table) (l : List Nat), vs = [.ref p, .ref a] ∧ TabAt CT H p t ∧ SP.Ok t ∧ H a = some (.lst (vN l)) ∧ l.length ≤ 32 ∧
  ∀ H' : Hp, Same H H' → Q (.bl ((SP.prs t).all fun q => q.2 == 0 || l.any fun x => x &&& t.mask == q.1)) H'
section
variable {P : Program} {w : World} {K : PySem.W.Frag} {mg : Str → Option Value} {base : Heap} {CS CT CA : Addr}
theorem scTInit : FnScope ["self", "mask", "weights"] ["self", "mask", "weights"] (defScope sTInit) := ⟨rfl, rfl, rfl, by decide +kernel, rfl, by decide +kernel, by decide +kernel⟩
theorem zip_dn : ∀ (a b : List Nat), (a.map fun (x : Nat) => (Sum.inl (x : Int) : Key)).zip (vN b) = dz (dn (a.zip b))
  | [], _ => rfl
  | _ :: _, [] => rfl
  | x :: a, y :: b => by
    have ih := zip_dn a b
    exact congrArg (List.cons _) ih
theorem dn_nd {l : List (Nat × Nat)} (h : (l.map (·.1)).Nodup) : ((dz (dn l)).map (·.1)).Nodup := by
  unfold dz dn
  rw [List.map_map, List.map_map]
  unfold List.Nodup at *
  rw [List.pairwise_map] at *
  exact h.imp fun hne e => hne (key_inj.mp e)
theorem ok_tInit {f f2 : Addr} {fd fd2 : FuncData} (F : Fun K "__init__" "Table.__init__" sTInit f fd) (T : Txt K mg CS CT CA) (GW : GF P w K mg base 1 "answers_within" f2 fd2 ["mask"] spWithin) :
    FnOk P w K mg base CX0 2 f fd ["self", "mask", "weights"] (spTInit CT) := by
  refine F.ok scTInit (fun vs H Q E h => ?_) (fun cdv A outer s H vs Q E hr h => ?_)
  · obtain ⟨p, dx, a, t, rfl, _⟩ := h
    rfl
  · obtain ⟨p, dx, a, t, rfl, hp, ha, hok, k⟩ := h
    refine ⟨_, pss_cons (ps_fld (pv 0) (pv 1) rfl) (pss_one (ps_fld (pv 0) (pe_dictzip rfl rfl T.b.dict rfl T.b.zip (pa_cons (pe_call GW.ok hr rfl GW.at_ GW.kp GW.b .nil pass0 (pa_cons (pv 1) pa_nil)) (pa_cons (pv 2) pa_nil))) rfl)), ?_⟩
    refine ⟨_, rfl, _, rfl, p, CT, dx, [], rfl, hp, T.t, T.tM, (by show 0 < 1000; decide), ?_⟩
    refine ⟨_, rfl, t.mask, rfl, fun H1 q hS hq hq1 => ?_⟩
    have nap : a ≠ p := ne_of ha hp (by intro z; cases z)
    have ha1 : H1 a = some (.lst (vN t.w)) := hS _ _ (by rw [upd_ne nap]; exact ha)
    have hl : (SP.aw t.mask).length = t.w.length := by rw [SP.aw_len t.mask hok.hi, hok.len]
    refine ⟨_, rfl, q, a, (SP.aw t.mask).map fun (x : Nat) => (Sum.inl (x : Int) : Key), vN t.w, rfl, SqL.of ?_, SqL.of ha1, (by rw [List.length_map, vN_len]; exact hl), fun d hd => ?_⟩
    · rw [hq1, List.map_map]
      rfl
    · rw [zip_dn, mergeK_nd _ [] (by rw [List.nil_append]; exact dn_nd (SP.prs_nd t hok)), List.nil_append]
      have hp1 : H1 p = some (.ins CT dx (putF "mask" (.int (t.mask : Nat)) [])) := hS _ _ upd_same
      have npd : p ≠ d := ne_of_none hp1 hd
      refine ⟨_, rfl, p, CT, dx, _, rfl, (by rw [upd_ne npd]; exact hp1), T.t, T.tW, (by show 1 < 1000; decide), ?_⟩
      refine k _ ⟨dx, d, upd_same, ?_⟩ fun b o e hb => ?_
      · rw [upd_ne (Ne.symm npd), upd_same]
        all_goals rfl
      · rw [upd_ne hb]
        have e1 : H1 b = some o := hS _ _ (by rw [upd_ne hb]; exact e)
        rw [upd_ne (ne_of_none e1 hd)]
        exact e1
theorem scShares : FnScope ["self", "mask", "sums", "told", "weight"] ["self", "mask"] (defScope sShares) := ⟨rfl, rfl, rfl, by decide +kernel, rfl, by decide +kernel, by decide +kernel⟩
theorem ok_shares {f : Addr} {fd : FuncData} (F : Fun K "shares" "Table.shares" sShares f fd) (T : Txt K mg CS CT CA) :
    FnOk P w K mg base CX0 1 f fd ["self", "mask"] (spShares CT) := by
  refine F.ok scShares (fun vs H Q E h => ?_) (fun cdv A outer s H vs Q E hr h => ?_)
  · obtain ⟨p, t, s, rfl, _⟩ := h
    rfl
  · obtain ⟨p, t, m, rfl, ⟨dx, d, hp, hd⟩, hok, k⟩ := h
    have hu := hu_of hr
    refine ⟨_, pss_cons (ps_set (i := 2) scShares.nd rfl (Or.inl rfl) pe_dnewK)
      (pss_cons (ps_lock (ps_for PassesOwn.never rfl (pi_items (pe_fld (pv 0) rfl)) (pg_tup rfl (pgs_cons (pg_name (i := 3) scShares.nd rfl (Or.inl rfl)) (pgs_cons (pg_name (i := 4) scShares.nd rfl (Or.inl rfl)) pgs_nil)))
        (pss_one (ps_dput hu (pv 2) (pe_op op_and (pv 3) (pv 1)) (pe_op op_add (pe_dget2 hu (pv 2) (pe_op op_and (pv 3) (pv 1)) pe_int ⟨rfl, rfl, rfl, rfl⟩) (pv 4)) rfl))))
      (pss_one (ps_ret (pv 2)))), ?_⟩
    intro r hr0
    have npr : p ≠ r := ne_of_none hp hr0
    have ndr : d ≠ r := ne_of_none hd hr0
    have npd : p ≠ d := ne_of hp hd (by intro z; cases z)
    have hp1 : (upd H r (.dK [])) p = some (.ins CT dx (tf t.mask d)) := by rw [upd_ne npr]; exact hp
    have hd1 : (upd H r (.dK [])) d = some (.dK (dz (dn (SP.prs t)))) := by rw [upd_ne ndr]; exact hd
    refine ⟨d, _, hd1, trivial, fun od => ?_⟩
    refine ⟨_, rfl, p, CT, dx, _, _, rfl, (by rw [upd_ne npd]; exact hp1), T.t, T.tW, tf_weights _ _, d, od, _, rfl, upd_same, ?_⟩
    refine forI (fun n σ H' => ∃ (v3 v4 : Option V) (l : List (Nat × Nat)), σ = [some (.ref p), some (.int (m : Nat)), some (.ref r), v3, v4] ∧ Same (upd H d (.frz od (.dK (dz (dn (SP.prs t)))))) H' ∧ H' r = some (.dK (dz (dn l))) ∧ SP.ShOk ((SP.prs t).take n) m l)
      ⟨none, none, [], rfl, ?_, ?_, SP.shOk_nil m⟩ (fun n σ H' _ ⟨_, _, _, _, hS, _⟩ => hS _ _ upd_same) (fun n ky v σ H' Tt hn hT ⟨v3, v4, l, e, hS, hr', hl⟩ => ?_) (fun σ H' ⟨v3, v4, l, e, hS, hr', hl⟩ => ?_)
    · exact fun b o e => by
        by_cases hb : b = d
        · subst hb
          rw [upd_same] at e ⊢
          exact e
        · rw [upd_ne hb] at e ⊢
          rw [upd_ne (ne_of_none e hr0)]
          exact e
    · rw [upd_ne (Ne.symm ndr), upd_same]
      rfl
    · subst e
      obtain ⟨q, hq, rfl, rfl⟩ := dzdn_at hn
      have nrT : r ≠ Tt := ne_of_none hr' hT
      have hr1 : (upd H' Tt (.tup [kV (Sum.inl (q.1 : Int)), .int (q.2 : Nat)])) r = some (.dK (dz (dn l))) := by rw [upd_ne nrT]; exact hr'
      refine ⟨_, rfl, r, rfl, .inl ⟨_, .inl hr1⟩, _, rfl, _, rfl, _, _, rfl, rfl, _, DGet.k (k := Sum.inl ((q.1 &&& m : Nat) : Int)) hr1, _, rfl, ?_⟩
      rw [valV_dn]
      have eg : ((SP.lkN l (q.1 &&& m)).map fun v => V.int (v : Nat)).getD (.int 0) = V.int (((SP.lkN l (q.1 &&& m)).getD 0 : Nat) : Int) := by
        cases SP.lkN l (q.1 &&& m) <;> rfl
      rw [eg]
      refine ⟨_, _, rfl, rfl, _, rfl, _, rfl, _, rfl, _, _, rfl, rfl, r, _, rfl, DPut.k (k := Sum.inl ((q.1 &&& m : Nat) : Int)) hr1 ?_, ?_⟩
      · rw [dzdn_len]
        have h1 := hl.len
        rw [List.length_take] at h1
        have h2 := SP.prs_len t hok
        have h3 := SP.long_le32 t.mask hok.hi
        exact Nat.lt_of_le_of_lt (show l.length ≤ 32 by omega) (Nat.lt_trans (by decide) line_big)
      · refine ⟨_, _, SP.putN l (q.1 &&& m) ((SP.lkN l (q.1 &&& m)).getD 0 + q.2), rfl, fun b o e => ?_, ?_, ?_⟩
        rotate_left
        · rw [upd_same, ← putK_dn]
          rfl
        · rw [List.take_add_one, hq]
          exact hl.snoc q
        · have e1 := hS b o e
          have nbr : b ≠ r := by
            intro z
            subst z
            by_cases hb : b = d
            · exact ndr hb.symm
            · rw [upd_ne hb, hr0] at e
              cases e
          rw [upd_ne nbr, upd_ne (ne_of_none e1 hT)]
          exact e1
    · subst e
      rw [dzdn_len, List.take_length] at hl
      refine ⟨hS _ _ upd_same, _, rfl, ?_⟩
      exact k _ r l (Same.unlock hd hS) hr0 (by rw [upd_ne (Ne.symm ndr)]; exact hr') hl
theorem scAllows : FnScope ["self", "told"] ["self", "told"] (defScope sAllows) := ⟨rfl, rfl, rfl, by decide +kernel, rfl, by decide +kernel, by decide +kernel⟩
theorem lk_prs {t : Rd07.Table} (hok : SP.Ok t) {x : Nat} (hx : x < 32) : SP.lkN (SP.prs t) (x &&& t.mask) = some (t.w.getD (Rd07.place t.mask x) 0) := by
  have hm := SP.prs_at t hok x hx
  cases e : SP.lkN (SP.prs t) (x &&& t.mask) with
  | none => exact absurd hm (SP.lkN_none e _)
  | some v => rw [SP.nd_val (SP.prs_nd t hok) (SP.lkN_some e) hm]
theorem ok_allows {f : Addr} {fd : FuncData} (F : Fun K "allows" "Table.allows" sAllows f fd) (T : Txt K mg CS CT CA) :
    FnOk P w K mg base CX0 1 f fd ["self", "told"] (spAllows CT) := by
  refine F.ok scAllows (fun vs H Q E h => ?_) (fun cdv A outer s H vs Q E hr h => ?_)
  · obtain ⟨p, t, s, rfl, _⟩ := h
    rfl
  · obtain ⟨p, t, x, rfl, ⟨dx, d, hp, hd⟩, hok, hx, k⟩ := h
    have hu := hu_of hr
    refine ⟨_, pss_one (ps_ret (pe_cmpR op_ne (pe_dget hu (pe_fld (pv 0) rfl) (pe_op op_and (pv 1) (pe_fld (pv 0) rfl)) (fun _ _ => rfl)) pe_int (nomark _))), ?_⟩
    refine ⟨_, rfl, p, CT, dx, _, _, rfl, hp, T.t, T.tW, tf_weights _ _, _, rfl, _, rfl, p, CT, dx, _, _, rfl, hp, T.t, T.tM, tf_mask _ _, _, _, rfl, rfl, d, .int ((t.w.getD (Rd07.place t.mask x) 0 : Nat) : Int), rfl, ?_, rfl, ?_⟩
    · have e := DGet.k (k := Sum.inl ((x &&& t.mask : Nat) : Int)) hd
      rw [valV_dn, lk_prs hok hx] at e
      exact e
    · have e : (!decide (V.int ((t.w.getD (Rd07.place t.mask x) 0 : Nat) : Int) = V.int 0)) = (t.w.getD (Rd07.place t.mask x) 0 != 0) := by
        generalize t.w.getD (Rd07.place t.mask x) 0 = n
        cases n with
        | zero => rfl
        | succ n =>
          rw [decide_eq_false (by intro z; have := V.int.inj z; omega)]
          rfl
      show Q (.bl _) H
      rw [e]
      exact k
theorem scIsCovered : FnScope ["self", "possible_answers", "given", "told", "weight"] ["self", "possible_answers"] (defScope sIsCovered) := ⟨rfl, rfl, rfl, by decide +kernel, rfl, by decide +kernel, by decide +kernel⟩
theorem ok_isCovered {f : Addr} {fd : FuncData} (F : Fun K "is_covered" "Table.is_covered" sIsCovered f fd) (T : Txt K mg CS CT CA) :
    FnOk P w K mg base CX0 1 f fd ["self", "possible_answers"] (spIsCovered CT) := by
  refine F.ok scIsCovered (fun vs H Q E h => ?_) (fun cdv A outer s H vs Q E hr h => ?_)
  · obtain ⟨p, a, t, l, rfl, _⟩ := h
    rfl
  · obtain ⟨p, a, t, l, rfl, ⟨dx, d, hp, hd⟩, hok, ha, hl, k⟩ := h
    have hu := hu_of hr
    refine ⟨_, pss_cons (ps_set (i := 2) scIsCovered.nd rfl (Or.inr rfl) pe_dnewK)
      (pss_cons (ps_for PassesOwn.never rfl (pi_list (pv 1)) (pg_name (i := 3) scIsCovered.nd rfl (Or.inl rfl))
        (pss_one (ps_dput hu (pv 2) (pe_op op_and (pv 3) (pe_fld (pv 0) rfl)) pe_bl rfl)))
      (pss_one (ps_ret (pe_callB (cr_all rfl) rfl T.b.all bt_all (pa_cons (pe_lock (pe_lc (own := [("told", 3), ("weight", 4)]) rfl scIsCovered.nd (pi_items (pe_fld (pv 0) rfl)) (blkOk_by rfl)
        (fun s H C cl fp => pg2 K (i := 3) (j := 4) rfl rfl scIsCovered.nd rfl (Or.inl rfl) (Or.inr rfl) rfl (Or.inl rfl) (Or.inr rfl))
        (fun s H C cl fp => pts_one (pt_cmpR op_ne (pv 4) pe_int (nomark _))) (fun s H C cl fp => pe_cmp (pc_din hu (pv 3) (pv 2))))) pa_nil))))), ?_⟩
    intro r hr0
    have npr : p ≠ r := ne_of_none hp hr0
    have ndr : d ≠ r := ne_of_none hd hr0
    have nar : a ≠ r := ne_of_none ha hr0
    have npd : p ≠ d := ne_of hp hd (by intro z; cases z)
    refine ⟨_, rfl, a, rfl, ⟨_, SqL.of (by rw [upd_ne nar]; exact ha)⟩, ?_⟩
    refine for_list (K := K) (a := a) (xs := vN l) (fun n σ H' => ∃ (v3 : Option V) (kvs : List (Key × V)), σ = [some (.ref p), some (.ref a), some (.ref r), v3, none] ∧ Same H H' ∧ H' r = some (.dK kvs) ∧ kvs.length ≤ n ∧ ∀ y : Nat, (valV kvs (Sum.inl (y : Int))).isSome = (l.take n).any fun x => x &&& t.mask == y)
      ⟨none, [], rfl, Same.upd hr0, upd_same, Nat.le_refl _, fun y => rfl⟩ (fun n σ H' _ ⟨_, _, _, hS, _⟩ => SqL.of (hS _ _ ha)) (fun n x σ H' hx ⟨v3, kvs, e, hS, hr', hln, hv⟩ => ?_) (fun σ H' ⟨v3, kvs, e, hS, hr', hln, hv⟩ => ?_)
    · subst e
      obtain ⟨y, hy, rfl⟩ := of_vN_at hx
      refine ⟨_, rfl, _, rfl, _, rfl, p, CT, dx, _, _, rfl, hS _ _ hp, T.t, T.tM, tf_mask _ _, _, _, rfl, rfl, r, _, rfl, DPut.k (k := Sum.inl ((y &&& t.mask : Nat) : Int)) hr' ?_, ?_⟩
      · have : n < l.length := (List.getElem?_eq_some_iff.mp hy).1
        exact Nat.lt_of_le_of_lt (show kvs.length ≤ 32 by omega) (Nat.lt_trans (by decide) line_big)
      · refine ⟨_, _, rfl, fun b o e => ?_, upd_same, ?_, fun z => ?_⟩
        · rw [upd_ne (ne_of_none e hr0)]
          exact hS _ _ e
        · exact Nat.le_trans (length_putK _ _ _) (by omega)
        · rw [valV_put, List.take_add_one, hy, List.any_append]
          have hz := hv z
          by_cases e : z = y &&& t.mask
          · subst e
            rw [if_pos rfl]
            simp
          · rw [if_neg (fun q => e (key_inj.mp q)), hz]
            have e' : ((y &&& t.mask) == z) = false := beq_eq_false_iff_ne.mpr (Ne.symm e)
            simp [e']
    · subst e
      rw [vN_len, List.take_length] at hv
      have ndr' : d ≠ r := ndr
      refine ⟨d, _, hS _ _ hd, trivial, fun od => ?_⟩
      refine ⟨_, rfl, p, CT, dx, _, _, rfl, (by rw [upd_ne npd]; exact hS _ _ hp), T.t, T.tW, tf_weights _ _, d, od, _, rfl, upd_same, fun D hD => ?_⟩
      have hrl : (upd H' d (.frz od (.dK (dz (dn (SP.prs t)))))) r = some (.dK kvs) := by rw [upd_ne (Ne.symm ndr)]; exact hr'
      have hpl := SP.prs_len t hok
      have hpl2 := SP.long_le32 t.mask hok.hi
      refine lcI (kvs := dz (dn (SP.prs t))) (by rw [dzdn_len]; exact Nat.lt_of_le_of_lt (show (SP.prs t).length ≤ 32 by omega) (Nat.lt_trans (by decide) line_big))
        (fun i => (((SP.prs t).take i).filter fun q => q.2 != 0).map fun q => V.bl (l.any fun x => x &&& t.mask == q.1)) rfl (fun i hi => ?_) hD upd_same (fun n ky v H1 hn hS1 Y N kY kN => ?_) (fun H1 hS1 hD1 => ?_)
      · rw [List.length_map]
        exact Nat.le_trans (List.length_filter_le _ _) (by rw [List.length_take]; omega)
      · obtain ⟨q, hq, rfl, rfl⟩ := dzdn_at hn
        refine ⟨rfl, _, rfl, rfl, _, rfl, ?_⟩
        have et : ((SP.prs t).take (n + 1)).filter (fun q => q.2 != 0) = ((SP.prs t).take n).filter (fun q => q.2 != 0) ++ if q.2 = 0 then [] else [q] := by
          rw [List.take_add_one, hq, List.filter_append]
          congr 1
          by_cases h0 : q.2 = 0
          · simp [h0]
          · simp [h0]
        by_cases h0 : q.2 = 0
        · rw [show (!decide (V.int (q.2 : Nat) = V.int 0)) = false by rw [h0]; rfl]
          refine iteF (kN _ (Same.refl _) ?_)
          dsimp only
          rw [et, if_pos h0, List.append_nil]
        · rw [show (!decide (V.int (q.2 : Nat) = V.int 0)) = true by rw [decide_eq_false (by intro z; have := V.int.inj z; omega)]; rfl]
          refine iteT ⟨_, rfl, _, rfl, r, _, rfl, DGet.k (k := Sum.inl (q.1 : Int)) (hS1 _ _ hrl), kY _ _ (Same.refl _) ?_⟩
          dsimp only
          rw [et, if_neg h0, List.map_append, hv]
          rfl
      · refine ⟨hS1 _ _ upd_same, D, ((SP.prs t).filter fun q => q.2 != 0).map fun q => l.any fun x => x &&& t.mask == q.1, rfl, ?_⟩
        have eD : D ≠ d := by
          intro z
          subst z
          rw [upd_same] at hD
          cases hD
        rw [dzdn_len, List.take_length] at hD1
        refine ⟨SqL.of ?_, ?_⟩
        · rw [upd_ne eD, hD1, List.map_map]
          rfl
        · have e : ((((SP.prs t).filter fun q => q.2 != 0).map fun q => l.any fun x => x &&& t.mask == q.1).all id) = ((SP.prs t).all fun q => q.2 == 0 || l.any fun x => x &&& t.mask == q.1) := by
            rw [List.all_map, List.all_filter]
            congr 1
            funext q
            dsimp only [Function.comp, id, bne]
            rw [Bool.not_not]
          rw [e]
          exact k _ (hS.trans (Same.unlock (hS _ _ hd) hS1))
end
abbrev sTwoAgree : Stmt := top 21
def spTwoAgree (CT : Addr) : Sp := fun vs H Q _ => ∃ (p q : Addr) (t u : Rd07.Table), vs = [.ref p, .ref q] ∧ TabAt CT H p t ∧ SP.Ok t ∧ TabAt CT H q u ∧ SP.Ok u ∧ ∀ H' : Hp, Same H H' → Q (.bl (Rd07.agreeTwo 5 t u)) H'
section
variable {P : Program} {w : World} {K : PySem.W.Frag} {mg : Str → Option Value} {base : Heap} {CS CT CA : Addr}
theorem sameD_dn (l l' : List (Nat × Nat)) : sameD (dn l) (dn l') ↔ (l.length = l'.length ∧ ∀ p, p ∈ l → p ∈ l') := by
  unfold sameD
  rw [dn_len, dn_len]
  refine and_congr_right fun _ => ⟨fun h p hp => ?_, fun h p hp => ?_⟩
  · obtain ⟨q, hq, e1, e2⟩ := h (Sum.inl (p.1 : Int), (p.2 : Int)) (List.mem_map.mpr ⟨p, hp, rfl⟩)
    obtain ⟨q0, hq0, rfl⟩ := List.mem_map.mp hq
    have a1 : q0.1 = p.1 := key_inj.mp e1
    have a2 : q0.2 = p.2 := Int.ofNat_inj.mp e2
    have : q0 = p := Prod.ext a1 a2
    rw [← this]
    exact hq0
  · obtain ⟨p0, hp0, rfl⟩ := List.mem_map.mp hp
    exact ⟨_, List.mem_map.mpr ⟨p0, h p0 hp0, rfl⟩, rfl, rfl⟩
theorem dn_keys {l : List (Nat × Nat)} (h : (l.map (·.1)).Nodup) : ((dn l).map (·.1)).Nodup := by
  unfold dn
  rw [List.map_map]
  unfold List.Nodup at *
  rw [List.pairwise_map] at *
  exact h.imp fun hne e => hne (key_inj.mp e)
theorem scTwoAgree : FnScope ["first", "second", "common"] ["first", "second"] (defScope sTwoAgree) := ⟨rfl, rfl, rfl, by decide +kernel, rfl, by decide +kernel, by decide +kernel⟩
theorem ok_twoAgree {f f1 : Addr} {fd fd1 : FuncData} (F : Fun K "two_agree" "two_agree" sTwoAgree f fd) (T : Txt K mg CS CT CA) (MS : MF P w K mg base 1 CT "shares" f1 fd1 ["self", "mask"] (spShares CT)) :
    FnOk P w K mg base CX0 2 f fd ["first", "second"] (spTwoAgree CT) := by
  refine F.ok scTwoAgree (fun vs H Q E h => ?_) (fun cdv A outer s H vs Q E hr h => ?_)
  · obtain ⟨p, q, t, u, rfl, _⟩ := h
    rfl
  · obtain ⟨p, q, t, u, rfl, tp, ot, tq, ou, k⟩ := h
    refine ⟨_, pss_cons (ps_set (i := 2) scTwoAgree.nd rfl (Or.inl rfl) (pe_op op_and (pe_fld (pv 0) rfl) (pe_fld (pv 1) rfl)))
      (pss_one (ps_ret (pe_cmpR (op_eqDZ hr.units0) (pe_meth (pv 0) T.t MS.mt MS.ok hr MS.b .nil pass0 (pa_cons (pv 2) pa_nil)) (pe_meth (pv 1) T.t MS.mt MS.ok hr MS.b .nil pass0 (pa_cons (pv 2) pa_nil)) (nomark _)))), ?_⟩
    obtain ⟨dx, d, hp, hd⟩ := id tp
    obtain ⟨dy, d', hq, hd'⟩ := id tq
    refine ⟨_, rfl, p, CT, dx, _, _, rfl, hp, T.t, T.tM, tf_mask _ _, _, rfl, q, CT, dy, _, _, rfl, hq, T.t, T.tM, tf_mask _ _, _, _, rfl, rfl, ?_⟩
    refine ⟨_, rfl, p, dx, _, rfl, hp, tf_no _ _ (by decide +kernel) (by decide +kernel), _, rfl, p, t, t.mask &&& u.mask, rfl, tp, ot, fun H1 r l hS hr0 hr1 hl => ?_⟩
    refine ⟨_, rfl, q, dy, _, rfl, hS _ _ hq, tf_no _ _ (by decide +kernel) (by decide +kernel), _, rfl, q, u, t.mask &&& u.mask, rfl, tq.same hS, ou, fun H2 r' l' hS' hr0' hr1' hl' => ?_⟩
    refine ⟨r, r', dn l, dn l', rfl, rfl, hS' _ _ hr1, hr1', dn_keys hl'.nd, ?_⟩
    have e : (@decide (sameD (dn l) (dn l')) (Classical.propDecidable _)) = Rd07.agreeTwo 5 t u := by
      rw [Bool.eq_iff_iff, @decide_eq_true_iff _ (Classical.propDecidable _), sameD_dn]
      exact SP.agree_of t u ot ou l l' hl hl'
    show Q (.bl _) H2
    rw [e]
    exact k _ (hS.trans hS')
end
end AT
end
section
namespace AT
open PySem PySem.Spec PyProof.Rows L2
theorem small {n : Nat} (h : n ≤ 1000) : n < sizeLine := Nat.lt_of_le_of_lt h (Nat.lt_trans (by decide) line_big)
theorem map_take {α β : Type} (f : α → β) (l : List α) {i : Nat} {x : α} (h : l[i]? = some x) : (l.take (i + 1)).map f = (l.take i).map f ++ [f x] := by
  rw [List.take_add_one, h, List.map_append]
  rfl
theorem dband (a b c : Nat) : decide (V.int (Builtin.bitAnd (a : Int) (b : Int)) = V.int (c : Nat)) = decide (a &&& b = c) := by
  rw [band]
  simp only [V.int.injEq, Int.ofNat_inj]
abbrev sEquation : Stmt := top 22
def eqRow (a tot : Nat) : List Int := ((List.range 32).map fun x => if x &&& a = a then (1 : Int) else 0) ++ [(tot : Int)]
def spEquation : Sp := fun vs H Q _ => ∃ a tot : Nat, vs = [.int (a : Nat), .int (tot : Nat)] ∧ ∀ (H' : Hp) (p : Addr), Same H H' → H p = none → H' p = some (.lst (vZ (eqRow a tot))) → Q (.ref p) H'
abbrev sLone : Stmt := top 23
def spLone : Sp := fun vs H Q _ => ∃ (a : Addr) (l : List Nat), vs = [.ref a] ∧ H a = some (.lst (vN l)) ∧ l.length ≤ 1000 ∧ ∀ (H' : Hp) (p : Addr), Same H H' → H p = none → H' p = some (.lst (vN (SP.lone l))) → Q (.ref p) H'
abbrev sInner : Stmt := top 24
def spInner : Sp := fun vs H Q _ => ∃ (a : Addr) (l : List Nat), vs = [.ref a] ∧ H a = some (.lst (vN l)) ∧ l.length ≤ 1000 ∧ ∀ (H' : Hp) (p : Addr) (ns : List Nat), ns.Perm l → ns.Pairwise (· ≥ ·) → Same H H' → H p = none → H' p = some (.lst (vN (SP.nub ns))) → Q (.ref p) H'
abbrev sHang : Stmt := top 25
def spHang : Sp := fun vs H Q _ => ∃ (a : Addr) (l : List Nat), vs = [.ref a] ∧ H a = some (.lst (vN l)) ∧ l.length ≤ 8 ∧ (∀ x ∈ l, x < 32) ∧ ∀ H' : Hp, Same H H' → Q (.bl (Rd07.tree l)) H'
section
variable {P : Program} {w : World} {K : PySem.W.Frag} {mg : Str → Option Value} {base : Heap} {CS CT CA : Addr}
theorem scEquation : FnScope ["asked", "total", "told"] ["asked", "total"] (defScope sEquation) := ⟨rfl, rfl, rfl, by decide +kernel, rfl, by decide +kernel, by decide +kernel⟩
theorem ok_equation {f : Addr} {fd : FuncData} (F : Fun K "equation" "equation" sEquation f fd) (T : Txt K mg CS CT CA) : FnOk P w K mg base CX0 1 f fd ["asked", "total"] spEquation := by
  refine F.ok scEquation (fun vs H Q E h => ?_) (fun cdv A outer s H vs Q E hr h => ?_)
  · obtain ⟨a, t, rfl, _⟩ := h
    rfl
  · obtain ⟨a, tot, rfl, k⟩ := h
    refine ⟨_, pss_one (ps_ret (pe_op op_cat (pe_lc (own := [("told", 2)]) rfl scEquation.nd (pi_range1 rfl T.b.range (pa_cons (pe_op op_add (pe_ki T.full) pe_int) pa_nil)) (blkOk_by rfl)
      (fun s H C cl fp => pg_name (i := 2) scEquation.nd rfl (Or.inl rfl)) (fun s H C cl fp => pts_nil) (fun s H C cl fp => pe_ifExp (pt_cmpR op_eq (pe_op op_and (pv 2) (pv 0)) (pv 0) (nomark _)) pe_int pe_int)) (pe_lst (pa_cons (pv 1) pa_nil)))), ?_⟩
    refine ⟨_, _, rfl, rfl, 32, rfl, by decide, by decide, fun D hD => ?_⟩
    refine lcR (n := 32) (by decide) (fun i => vZ ((List.range i).map fun x => if x &&& a = a then (1 : Int) else 0)) rfl (fun i _ => by rw [vZ_len]; simp) hD (fun i H1 hi hS Y N kY kN => ?_) (fun H1 hS hD1 => ?_)
    · refine ⟨rfl, tyes ⟨_, rfl, _, rfl, _, _, rfl, rfl, _, rfl, rfl, _, rfl, ?_⟩⟩
      have e : decide (V.int (Builtin.bitAnd (i : Int) (a : Int)) = V.int (a : Nat)) = decide (i &&& a = a) := by
        rw [band]
        simp only [V.int.injEq, Int.ofNat_inj]
      rw [e]
      have st : vZ ((List.range (i + 1)).map fun x => if x &&& a = a then (1 : Int) else 0) = vZ ((List.range i).map fun x => if x &&& a = a then (1 : Int) else 0) ++ [V.int (if i &&& a = a then 1 else 0)] := by
        rw [List.range_succ, List.map_append]
        unfold vZ
        rw [List.map_append]
        rfl
      by_cases hc : i &&& a = a
      · rw [decide_eq_true hc]
        refine iteT (kY _ _ (Same.refl _) ?_)
        dsimp only
        rw [st, if_pos hc]
      · rw [decide_eq_false hc]
        refine iteF (kY _ _ (Same.refl _) ?_)
        dsimp only
        rw [st, if_neg hc]
    · refine ⟨_, rfl, (by show 1 ≤ sizeLine; decide), fun p hp => ?_⟩
      have nDp : D ≠ p := ne_of_none hD1 hp
      refine ⟨D, p, _, _, rfl, rfl, (by rw [upd_ne nDp]; exact hD1), upd_same, (by rw [vZ_len]; exact Nat.le_of_lt (small (by simp))), fun q hq => ?_⟩
      have hS2 : Same H1 (upd H1 p (.lst [.int (tot : Nat)])) := Same.upd hp
      refine k _ q ((hS.trans hS2).trans (Same.upd hq)) (hS.free (hS2.free hq)) ?_
      rw [upd_same]
      unfold eqRow vZ
      rw [List.map_append]
      rfl
theorem scLone : FnScope ["masks", "seen", "seen_again", "mask"] ["masks"] (defScope sLone) := ⟨rfl, rfl, rfl, by decide +kernel, rfl, by decide +kernel, by decide +kernel⟩
theorem ok_lone {f : Addr} {fd : FuncData} (F : Fun K "without_lone_questions" "without_lone_questions" sLone f fd) (T : Txt K mg CS CT CA) : FnOk P w K mg base CX0 1 f fd ["masks"] spLone := by
  refine F.ok scLone (fun vs H Q E h => ?_) (fun cdv A outer s H vs Q E hr h => ?_)
  · obtain ⟨a, l, rfl, _⟩ := h
    rfl
  · obtain ⟨a, l, rfl, ha, hl, k⟩ := h
    refine ⟨_, pss_cons (ps_set (i := 1) scLone.nd rfl (Or.inl rfl) pe_int) (pss_cons (ps_set (i := 2) scLone.nd rfl (Or.inr rfl) pe_int)
      (pss_cons (ps_for PassesOwn.never rfl (pi_list (pv 0)) (pg_name (i := 3) scLone.nd rfl (Or.inl rfl))
        (pss_cons (ps_set (i := 2) scLone.nd rfl (Or.inr rfl) (pe_op op_or (pv 2) (pe_op op_and (pv 1) (pv 3)))) (pss_one (ps_set (i := 1) scLone.nd rfl (Or.inl rfl) (pe_op op_or (pv 1) (pv 3))))))
      (pss_one (ps_ret (pe_lc (own := [("mask", 3)]) rfl scLone.nd (pi_list (pv 0)) (blkOk_by rfl) (fun s H C cl fp => pg_name (i := 3) scLone.nd rfl (Or.inl rfl)) (fun s H C cl fp => pts_nil) (fun s H C cl fp => pe_op op_and (pv 3) (pv 2))))))), ?_⟩
    refine ⟨_, rfl, a, rfl, ⟨_, SqL.of ha⟩, ?_⟩
    refine for_list (K := K) (a := a) (xs := vN l) (fun n σ H' => ∃ v : Option V, σ = [some (.ref a), some (.int ((SP.seen2 (l.take n)).1 : Nat)), some (.int ((SP.seen2 (l.take n)).2 : Nat)), v] ∧ H' = H) ⟨none, rfl, rfl⟩ (fun n σ H' _ ⟨_, _, e⟩ => by subst e; exact SqL.of ha) (fun n x σ H' hx ⟨v, e, e'⟩ => ?_) (fun σ H' ⟨v, e, e'⟩ => ?_)
    · subst e e'
      obtain ⟨m, hm, rfl⟩ := of_vN_at hx
      refine ⟨_, rfl, _, rfl, _, rfl, _, _, rfl, rfl, _, _, rfl, rfl, _, rfl, _, rfl, _, _, rfl, rfl, ?_⟩
      refine ⟨some (.int (m : Nat)), ?_, rfl⟩
      have e2 : SP.seen2 (l.take (n + 1)) = ((SP.seen2 (l.take n)).1 ||| m, (SP.seen2 (l.take n)).2 ||| ((SP.seen2 (l.take n)).1 &&& m)) := by
        rw [List.take_add_one, hm]
        exact SP.foldl_snoc _ _ _ _
      rw [e2]
      show [some (V.ref a), some (V.int (Builtin.bitOr ((SP.seen2 (l.take n)).1 : Int) (m : Int))), some (V.int (Builtin.bitOr ((SP.seen2 (l.take n)).2 : Int) (Builtin.bitAnd ((SP.seen2 (l.take n)).1 : Int) (m : Int)))), some (V.int (m : Nat))] = _
      rw [band, bor, bor]
    · subst e e'
      rw [vN_len, List.take_length]
      refine ⟨_, rfl, a, rfl, ⟨_, SqL.of ha⟩, fun D hD => ?_⟩
      refine lcL (xs := vN l) (by rw [vN_len]; exact small hl) (fun i => vN ((l.take i).map fun x => x &&& (SP.seen2 l).2)) rfl (fun i _ => by rw [vN_len, List.length_map, List.length_take]; omega) hD (SqL.of ha) (fun i x H2 hx hS2 Y N kY kN => ?_) (fun H2 hS2 hD2 => ?_)
      · obtain ⟨y, hy, rfl⟩ := of_vN_at hx
        refine ⟨rfl, tyes ⟨_, rfl, _, rfl, _, _, rfl, rfl, kY _ _ (Same.refl _) ?_⟩⟩
        dsimp only
        rw [map_take _ l hy]
        unfold vN
        rw [List.map_append]
        rfl
      · rw [vN_len, List.take_length] at hD2
        exact k _ D hS2 hD hD2
theorem scInner : FnScope ["masks", "outer", "mask", "other"] ["masks"] (defScope sInner) := ⟨rfl, rfl, rfl, by decide +kernel, rfl, by decide +kernel, by decide +kernel⟩
theorem nat_of_ints {l : List Nat} : ∀ {ns : List Int}, ns.Perm (l.map fun (x : Nat) => (x : Int)) → ∃ ms : List Nat, ns = ms.map (fun (x : Nat) => (x : Int)) ∧ ms.Perm l := by
  intro ns h
  refine ⟨ns.map Int.toNat, ?_, ?_⟩
  · rw [List.map_map]
    have : ∀ x ∈ ns, x = ((fun (x : Nat) => (x : Int)) ∘ Int.toNat) x := by
      intro x hx
      obtain ⟨y, _, rfl⟩ := List.mem_map.mp (h.mem_iff.mp hx)
      rfl
    conv => lhs; rw [← List.map_id ns]
    exact List.map_congr_left this
  · have := h.map Int.toNat
    rw [List.map_map] at this
    have e : l.map (Int.toNat ∘ fun (x : Nat) => (x : Int)) = l := by
      conv => rhs; rw [← List.map_id l]
      exact List.map_congr_left fun x _ => rfl
    rw [e] at this
    exact this
theorem ok_inner {f : Addr} {fd : FuncData} (F : Fun K "without_inner_masks" "without_inner_masks" sInner f fd) (T : Txt K mg CS CT CA) : FnOk P w K mg base CX0 1 f fd ["masks"] spInner := by
  refine F.ok scInner (fun vs H Q E h => ?_) (fun cdv A outer s H vs Q E hr h => ?_)
  · obtain ⟨a, l, rfl, _⟩ := h
    rfl
  · obtain ⟨a, l, rfl, ha, hl, k⟩ := h
    refine ⟨_, pss_cons (ps_set (i := 1) scInner.nd rfl (Or.inl rfl) (pe_lst pa_nil))
      (pss_cons (ps_for PassesOwn.never rfl (pi_list (pe_sortR rfl T.b.sorted (pa_cons (pv 0) pa_nil))) (pg_name (i := 2) scInner.nd rfl (Or.inr rfl))
        (pss_one (ps_if (pt_not (pt_val (pe_callB (cr_any rfl) rfl T.b.any bt_any (pa_cons (pe_lc (own := [("other", 3)]) rfl scInner.nd (pi_list (pv 1)) (blkOk_by rfl) (fun s H C cl fp => pg_name (i := 3) scInner.nd rfl (Or.inl rfl)) (fun s H C cl fp => pts_nil)
          (fun s H C cl fp => pe_cmpR op_eq (pe_op op_and (pv 2) (pv 3)) (pv 2) (nomark _))) pa_nil))))
          (pss_one (ps_expr (pe_bm PySem.F.plainAttrs_list PySem.F.slot_list_append PySem.F.type_list_append mt_append (pv 1) (pa_cons (pv 2) pa_nil)))) pss_nil)))
      (pss_one (ps_ret (pv 1)))), ?_⟩
    refine ⟨Nat.zero_le _, fun o ho => ?_⟩
    have nao : a ≠ o := ne_of_none ha ho
    have ea : vN l = (l.map fun (x : Nat) => (x : Int)).map V.int := vN_vZ l
    refine ⟨_, rfl, a, _, rfl, SqL.of (by rw [upd_ne nao, ha, ea]), fun ns' p hp hs hp0 => ?_⟩
    obtain ⟨ns, rfl, hpl⟩ := nat_of_ints hp
    have hs' : ns.Pairwise (· ≥ ·) := by
      rw [List.pairwise_map] at hs
      exact hs.imp fun z => Int.ofNat_le.mp z
    have hop : o ≠ p := by
      intro z
      subst z
      rw [upd_same] at hp0
      cases hp0
    have hHp : H p = none := by rw [upd_ne (Ne.symm hop)] at hp0; exact hp0
    have hns : ns.length ≤ 1000 := by rw [hpl.length_eq]; exact hl
    have epv : (ns.map fun (x : Nat) => (x : Int)).map V.int = vN ns := (vN_vZ ns).symm
    rw [epv]
    refine ⟨p, rfl, ⟨_, SqL.of upd_same⟩, ?_⟩
    refine for_list (K := K) (a := p) (xs := vN ns) (fun n σ H' => ∃ v : Option V, σ = [some (.ref a), some (.ref o), v, none] ∧ Same H H' ∧ H' p = some (.lst (vN ns)) ∧ H' o = some (.lst (vN (SP.nub (ns.take n)))))
      ⟨none, rfl, Same.upd2 (Same.upd ho) hp0, upd_same, by rw [upd_ne hop, upd_same]; rfl⟩ (fun n σ H' _ ⟨_, _, _, e, _⟩ => SqL.of e) (fun n x σ H' hx ⟨v, e, hS, hp1, ho1⟩ => ?_) (fun σ H' ⟨v, e, hS, hp1, ho1⟩ => ?_)
    · subst e
      obtain ⟨m, hm, rfl⟩ := of_vN_at hx
      have hnl : (SP.nub (ns.take n)).length ≤ n := by
        have := (SP.nub_ok (ns.take n) (hs'.sublist (List.take_sublist _ _))).2.2.2.length_le
        rw [List.length_take] at this
        omega
      have hn : n < ns.length := (List.getElem?_eq_some_iff.mp hm).1
      refine ⟨_, rfl, o, rfl, ⟨_, SqL.of ho1⟩, fun D hD => ?_⟩
      refine lcL (xs := vN (SP.nub (ns.take n))) (by rw [vN_len]; exact small (by omega)) (fun i => ((SP.nub (ns.take n)).take i).map fun y => V.bl (decide (m &&& y = m))) rfl (fun i _ => by rw [List.length_map, List.length_take]; omega) hD (SqL.of ho1) (fun i x H2 hx hS2 Y N kY kN => ?_) (fun H2 hS2 hD2 => ?_)
      · obtain ⟨y, hy, rfl⟩ := of_vN_at hx
        refine ⟨rfl, tyes ⟨_, rfl, _, rfl, _, _, rfl, rfl, _, rfl, rfl, kY _ _ (Same.refl _) ?_⟩⟩
        dsimp only
        rw [map_take _ _ hy, ← dband]
      · rw [vN_len, List.take_length] at hD2
        refine ⟨D, (SP.nub (ns.take n)).map fun y => decide (m &&& y = m), rfl, SqL.of (by rw [hD2, List.map_map]; rfl), _, rfl, ?_⟩
        have eany : (((SP.nub (ns.take n)).map fun y => decide (m &&& y = m)).any id) = ((SP.nub (ns.take n)).any fun y => decide (m &&& y = m)) := by
          rw [List.any_map]
          rfl
        rw [eany]
        have est : SP.nub (ns.take (n + 1)) = if ((SP.nub (ns.take n)).any fun y => decide (m &&& y = m)) = true then SP.nub (ns.take n) else SP.nub (ns.take n) ++ [m] := by
          rw [List.take_add_one, hm]
          exact SP.foldl_snoc _ _ _ _
        cases hc : ((SP.nub (ns.take n)).any fun y => decide (m &&& y = m)) with
        | true =>
          rw [hc, if_pos rfl] at est
          refine iteF ⟨_, rfl, hS.trans hS2, hS2 _ _ hp1, ?_⟩
          rw [est]
          exact hS2 _ _ ho1
        | false =>
          rw [hc, if_neg Bool.false_ne_true] at est
          refine iteT ⟨_, rfl, .inl ⟨rfl, _, SqL.of (hS2 _ _ ho1)⟩, _, rfl, o, _, _, rfl, rfl, hS2 _ _ ho1, (by rw [vN_len]; exact small (by omega)), ?_⟩
          refine ⟨_, rfl, fun b u e => ?_, ?_, ?_⟩
          · rw [upd_ne (ne_of_none e ho)]
            exact hS2 _ _ (hS _ _ e)
          · rw [upd_ne (Ne.symm hop)]
            exact hS2 _ _ hp1
          · rw [upd_same, est]
            unfold vN
            rw [List.map_append]
            rfl
    · subst e
      rw [vN_len, List.take_length] at ho1
      refine ⟨_, rfl, k _ o ns hpl hs' hS ho ho1⟩
theorem scHang : FnScope ["masks", "before", "left"] ["masks"] (defScope sHang) := ⟨rfl, rfl, rfl, by decide +kernel, rfl, by decide +kernel, by decide +kernel⟩
theorem dp_ints {H : Hp} : ∀ (l : List Nat), DpAll K H (vN l) (l.map fun (x : Nat) => PyData.int (x : Int))
  | [] => .nil
  | x :: r => .cons (.int _) (dp_ints r)
theorem eqv_nats (l r : List Nat) : PyData.eqv (.list (l.map fun (x : Nat) => PyData.int (x : Int))) (.list (r.map fun (x : Nat) => PyData.int (x : Int))) = decide (l = r) := by
  have e1 : ∀ l : List Nat, (l.map fun (x : Nat) => PyData.int (x : Int)) = (l.map fun (x : Nat) => (x : Int)).map PyData.int := fun l => by
    rw [List.map_map]
    rfl
  rw [e1, e1, ← SeqAt.same_eq_eqv _ _ (by simp only [SeqAt.noMix]; exact PySem.W.noMix_ints _ _)]
  simp only [PySem.Spec.same]
  rw [PySem.W.same_ints, decide_eq_decide]
  constructor
  · intro h
    have := congrArg (List.map Int.toNat) h
    rw [List.map_map, List.map_map] at this
    have id' : ∀ l : List Nat, l.map (Int.toNat ∘ fun (x : Nat) => (x : Int)) = l := fun l => by
      conv => rhs; rw [← List.map_id l]
      exact List.map_congr_left fun x _ => rfl
    rw [id', id'] at this
    exact this
  · rintro rfl
    rfl
theorem shaped_nats (l : List Nat) : SeqAt.shaped (.list (l.map fun (x : Nat) => PyData.int (x : Int))) = true := by
  have e1 : (l.map fun (x : Nat) => PyData.int (x : Int)) = (l.map fun (x : Nat) => (x : Int)).map PyData.int := by
    rw [List.map_map]
    rfl
  rw [e1]
  exact PySem.W.shaped_ints _
theorem ok_hang {f f1 f2 : Addr} {fd fd1 fd2 : FuncData} (F : Fun K "hang_together" "hang_together" sHang f fd) (T : Txt K mg CS CT CA) (GL : GF P w K mg base 1 "without_lone_questions" f1 fd1 ["masks"] spLone) (GI : GF P w K mg base 1 "without_inner_masks" f2 fd2 ["masks"] spInner) :
    FnOk P w K mg base CX0 2 f fd ["masks"] spHang := by
  refine F.ok scHang (fun vs H Q E h => ?_) (fun cdv A outer s H vs Q E hr h => ?_)
  · obtain ⟨a, l, rfl, _⟩ := h
    rfl
  · obtain ⟨a, l, rfl, ha, hl, h32, k⟩ := h
    refine ⟨_, pss_cons (ps_set (i := 1) scHang.nd rfl (Or.inl rfl) pe_non) (pss_cons (ps_set (i := 2) scHang.nd rfl (Or.inl rfl) (pv 0))
      (pss_cons (ps_while PassesOwn.never (pt_cmpR (op_neD hr.units) (pv 2) (pv 1) (nomark _))
        (pss_cons (ps_set (i := 1) scHang.nd rfl (Or.inl rfl) (pv 2)) (pss_one (ps_set (i := 2) scHang.nd rfl (Or.inl rfl) (pe_call GI.ok hr rfl GI.at_ GI.kp GI.b .nil pass0 (pa_cons (pe_call GL.ok hr rfl GL.at_ GL.kp GL.b .nil pass0 (pa_cons (pv 2) pa_nil)) pa_nil))))))
      (pss_one (ps_ret (pe_cmpR op_le (pe_callB call_len_seq rfl T.b.len bt_len (pa_cons (pv 2) pa_nil)) pe_int (nomark _)))))), ?_⟩
    refine ⟨_, rfl, ?_⟩
    -- how far it is from the end
    let far : Option (List Nat) → List Nat → Nat := fun b r => match b with
      | none => SP.mu r + 2
      | some b => SP.mu r + if r = b then 0 else 1
    refine ⟨fun m σ H' => ∃ (b : Option (List Nat)) (bv : V) (q : Addr) (r : List Nat) (c : Nat), σ = [some (.ref a), some bv, some (.ref q)] ∧ Same H H' ∧ H' q = some (.lst (vN r)) ∧ r.length ≤ 8 ∧
        m = far b r ∧ m + c ≤ SP.mu l + 2 ∧ r.Perm (Rd07.again c l) ∧ ((b = none ∧ bv = .non) ∨ ∃ (q' : Addr) (b' : List Nat), b = some b' ∧ bv = .ref q' ∧ H' q' = some (.lst (vN b')) ∧ SP.PR b' r ∧ 1 ≤ c ∧ b'.Perm (Rd07.again (c - 1) l)),
      ⟨_, none, .non, a, l, 0, rfl, Same.refl _, ha, hl, rfl, by show SP.mu l + 2 + 0 ≤ _; omega, List.Perm.refl _, .inl ⟨rfl, rfl⟩⟩, ?_⟩
    rintro m σ H' ⟨b, bv, q, r, c, rfl, hS, hq, hrl, hm, hmc, hperm, hb⟩
    -- one more round
    have round : (∀ z, b = some z → ¬ r = z) → ∃ N : L2.St → Hp → Prop, (∀ σ' H'', N σ' H'' → ∃ m', m' < m ∧ ∃ (b : Option (List Nat)) (bv : V) (q : Addr) (r : List Nat) (c : Nat), σ' = [some (.ref a), some bv, some (.ref q)] ∧ Same H H'' ∧ H'' q = some (.lst (vN r)) ∧ r.length ≤ 8 ∧
        m' = far b r ∧ m' + c ≤ SP.mu l + 2 ∧ r.Perm (Rd07.again c l) ∧ ((b = none ∧ bv = .non) ∨ ∃ (q' : Addr) (b' : List Nat), b = some b' ∧ bv = .ref q' ∧ H'' q' = some (.lst (vN b')) ∧ SP.PR b' r ∧ 1 ≤ c ∧ b'.Perm (Rd07.again (c - 1) l))) ∧
        ∀ (H1 H2 : Hp) (p1 p2 : Addr) (ns : List Nat), Same H' H1 → H1 p1 = some (.lst (vN (SP.lone r))) → ns.Perm (SP.lone r) → ns.Pairwise (· ≥ ·) → Same H1 H2 → H2 p2 = some (.lst (vN (SP.nub ns))) → N [some (.ref a), some (.ref q), some (.ref p2)] H2 := by
      intro hne
      refine ⟨fun σ' H'' => ∃ (p2 : Addr) (r2 : List Nat), σ' = [some (.ref a), some (.ref q), some (.ref p2)] ∧ Same H' H'' ∧ H'' p2 = some (.lst (vN r2)) ∧ SP.PR r r2, ?_, ?_⟩
      · rintro σ' H'' ⟨p2, r2, rfl, hS2, hp2, hPR⟩
        have hmu := hPR.mu
        have hlen : r2.length ≤ 8 := by
          obtain ⟨ns, n1, n2, rfl⟩ := hPR
          have := (SP.nub_ok ns n2).2.2.2.length_le
          rw [n1.length_eq] at this
          unfold SP.lone at this
          rw [List.length_map] at this
          omega
        have hthin : r2.Perm (Rd07.again (c + 1) l) := by
          rw [SP.again_succ]
          exact hPR.thin.symm.trans (SP.thin_perm hperm)
        have dec : far (some r) r2 < m := by
          show SP.mu r2 + (if r2 = r then 0 else 1) < m
          rcases hb with ⟨rfl, _⟩ | ⟨q', b', rfl, _, _, hPRb, _, _⟩
          · have hm' : m = SP.mu r + 2 := hm
            split <;> omega
          · have hm' : m = SP.mu r + if r = b' then 0 else 1 := hm
            rw [if_neg (hne b' rfl)] at hm'
            by_cases e2 : r2 = r
            · rw [if_pos e2]
              omega
            · rw [if_neg e2]
              have : ¬ SP.mu r2 = SP.mu r := fun z => e2 (hmu.2 hPRb.sorted z)
              omega
        exact ⟨_, dec, some r, .ref q, p2, r2, c + 1, rfl, hS.trans hS2, hp2, hlen, rfl, by omega, hthin, .inr ⟨q, r, rfl, rfl, hS2 _ _ hq, hPR, by omega, by rw [Nat.add_sub_cancel]; exact hperm⟩⟩
      · intro H1 H2 p1 p2 ns s1 _ n1 n2 s2 hp2
        exact ⟨p2, _, rfl, s1.trans s2, hp2, ns, n1, n2, rfl⟩
    have hr1000 : r.length ≤ 1000 := by omega
    have hl1000 : (SP.lone r).length ≤ 1000 := by
      unfold SP.lone
      rw [List.length_map]
      exact hr1000
    refine ⟨_, rfl, bv, rfl, ?_⟩
    rcases hb with ⟨rfl, rfl⟩ | ⟨q', b', rfl, rfl, hq', hPRb, hc1, hbp⟩
    · refine ⟨_, _, .lst (SqL.of hq) (dp_ints r), .non, shaped_nats r, rfl, _, rfl, ?_⟩
      refine iteT ?_
      obtain ⟨N, hN1, hN2⟩ := round (fun z hz => nomatch hz)
      refine ⟨N, hN1, ?_⟩
      refine ⟨_, rfl, _, rfl, q, r, rfl, hq, hr1000, fun H1 p1 s1 _ hp1 => ?_⟩
      refine ⟨p1, _, rfl, hp1, hl1000, fun H2 p2 ns n1 n2 s2 _ hp2 => ?_⟩
      exact hN2 H1 H2 p1 p2 ns s1 hp1 n1 n2 s2 hp2
    · refine ⟨_, _, .lst (SqL.of hq) (dp_ints r), .lst (SqL.of hq') (dp_ints b'), shaped_nats r, shaped_nats b', _, rfl, ?_⟩
      rw [eqv_nats]
      by_cases e : r = b'
      · rw [decide_eq_true e]
        refine iteF ?_
        refine ⟨_, rfl, q, _, rfl, .inl (SqL.of hq), _, _, rfl, rfl, ?_⟩
        rw [vN_len]
        subst e
        have hcl : c - 1 ≤ 65 * l.length + 1 := by
          have := SP.mu_le h32
          omega
        have et := SP.tree_of (c - 1) hbp hPRb hcl
        have e2 : decide ((r.length : Int) ≤ 1) = Rd07.tree l := by
          rw [et, decide_eq_decide]
          omega
        show Q (.bl (decide ((r.length : Int) ≤ 1))) H'
        rw [e2]
        exact k _ hS
      · rw [decide_eq_false e]
        refine iteT ?_
        obtain ⟨N, hN1, hN2⟩ := round (fun z hz => by cases hz; exact e)
        refine ⟨N, hN1, ?_⟩
        refine ⟨_, rfl, _, rfl, q, r, rfl, hq, hr1000, fun H1 p1 s1 _ hp1 => ?_⟩
        refine ⟨p1, _, rfl, hp1, hl1000, fun H2 p2 ns n1 n2 s2 _ hp2 => ?_⟩
        exact hN2 H1 H2 p1 p2 ns s1 hp1 n1 n2 s2 hp2
end
end AT
end
section
namespace EQ
open JM DT
def at2 (rows : List (List Int)) (i j : Nat) : Int := (rows.getD i []).getD j 0
def tabI (n : Nat) (rows : List (List Int)) (fill : List Nat) (D : Int) : Tab :=
  ⟨fun i j => (at2 rows i j : Rat) / (D : Rat), fun i => (at2 rows i n : Rat) / (D : Rat), fun i => fill.getD i 0⟩
def clr (row by_ : List Int) (s : Nat) (D : Int) : List Int := List.zipWith (fun a b => (by_.getD s 0 * a - row.getD s 0 * b) / D) row by_
def newRows (rows : List (List Int)) (p s : Nat) (D : Int) : List (List Int) := (List.range rows.length).map fun i => if i = p then rows.getD p [] else clr (rows.getD i []) (rows.getD p []) s D
theorem clr_len (row by_ : List Int) (s : Nat) (D : Int) (h : row.length = by_.length) : (clr row by_ s D).length = row.length := by
  unfold clr; rw [List.length_zipWith, h, Nat.min_self]
theorem clr_at (row by_ : List Int) (s : Nat) (D : Int) (j : Nat) (h : j < row.length) (h' : j < by_.length) : (clr row by_ s D).getD j 0 = (by_.getD s 0 * row.getD j 0 - row.getD s 0 * by_.getD j 0) / D := by
  unfold clr
  rw [List.getD_eq_getElem?_getD, List.getElem?_zipWith, List.getElem?_eq_getElem h, List.getElem?_eq_getElem h']
  simp only [Option.getD_some]
  rw [List.getD_eq_getElem?_getD (l := row) (i := j), List.getElem?_eq_getElem h, List.getD_eq_getElem?_getD (l := by_) (i := j), List.getElem?_eq_getElem h']
  rfl
theorem newRows_len (rows : List (List Int)) (p s : Nat) (D : Int) : (newRows rows p s D).length = rows.length := by
  unfold newRows; rw [List.length_map, List.length_range]
theorem newRows_at (rows : List (List Int)) (p s : Nat) (D : Int) (i : Nat) (h : i < rows.length) : (newRows rows p s D).getD i [] = if i = p then rows.getD p [] else clr (rows.getD i []) (rows.getD p []) s D := by
  unfold newRows
  rw [List.getD_eq_getElem?_getD, List.getElem?_map, List.getElem?_range h]
  rfl
theorem cast_div (a D : Int) (hD : 0 < D) (x : Rat) (h : (a : Rat) = x * (D : Rat)) : (a : Rat) / (D : Rat) = x := by
  have hd : (0 : Rat) < (D : Rat) := by
    have : ((0 : Int) : Rat) < (D : Rat) := Rat.intCast_lt_intCast.mpr hD
    simpa using this
  have : (D : Rat) ≠ 0 := by grind
  rw [h]; grind
theorem div_cast (a D : Int) (hD : 0 < D) : (a : Rat) = (a : Rat) / (D : Rat) * (D : Rat) := by
  have hd : (0 : Rat) < (D : Rat) := by
    have : ((0 : Int) : Rat) < (D : Rat) := Rat.intCast_lt_intCast.mpr hD
    simpa using this
  have : (D : Rat) ≠ 0 := by grind
  grind
theorem cast_pos {D : Int} (hD : 0 < D) : (0 : Rat) < (D : Rat) := by
  have : ((0 : Int) : Rat) < (D : Rat) := Rat.intCast_lt_intCast.mpr hD
  simpa using this
theorem exact_div (u N D : Int) (hD : 0 < D) (h : (u : Rat) = (N : Rat) * (D : Rat)) : u / D = N := by
  have : u = N * D := by
    apply Rat.intCast_inj.mp
    rw [h, Rat.intCast_mul]
  rw [this]
  exact Int.mul_ediv_cancel N (by omega)
structure SI (m n : Nat) (T0 : Nat → Nat → Rat) (b0 : Nat → Rat) (rows : List (List Int)) (lack : List Int) (fill : List Nat) (D : Int) (c : Nat) : Prop where
  rm : rows.length = m
  fl : fill.length = m
  ll : lack.length = n + 1
  rl : ∀ i, i < m → (rows.getD i []).length = n + 1
  pos : 0 < D
  inv : Inv m n (tabI n rows fill D)
  lz : ∀ j, j < n → (lack.getD j 0 : Rat) = z m n (tabI n rows fill D) j * (D : Rat)
  lw : (lack.getD n 0 : Rat) = w m n (tabI n rows fill D) * (D : Rat)
  col : Col m n T0 b0 (tabI n rows fill D)
  dt : det m (bc n T0 (tabI n rows fill D).base) = (D : Rat)
  keep : ∀ x : Nat → Rat, (∀ i, i < m → dot n (tabI n rows fill D) i x = (tabI n rows fill D).b i) ↔ (∀ i, i < m → S n (fun j => T0 i j * x j) = b0 i)
  run : ∃ (A : Nat → Tab) (s p : Nat → Nat), Inv m n (A 0) ∧ (∀ k, k < c → Piv m n (A k) (A (k + 1)) (s k) (p k)) ∧ A c = tabI n rows fill D
theorem open_step {m n : Nat} {A : Tab} {base' : Nat → Nat} {s p : Nat} (hp : p < m) (hs : s < n) (piv : 0 < A.T p s) (bp : base' p = s) (bi : ∀ i, i < m → i ≠ p → base' i = A.base i) (v v' : Nat → Rat)
    (hv : ∀ i, i < m → i ≠ p → v' i = v i - A.T i s * (v p / A.T p s)) :
    S m (fun i => if n ≤ base' i then v' i else 0) = S m (fun i => if n ≤ A.base i then v i else 0) - S m (fun i => if n ≤ A.base i then A.T i s else 0) * (v p / A.T p s) := by
  have hne : A.T p s ≠ 0 := by grind
  rw [← S_mul', ← S_sub]
  apply S_congr
  intro i hi
  by_cases hip : i = p
  · subst hip
    rw [if_neg (by rw [bp]; omega)]
    by_cases ho : n ≤ A.base i
    · rw [if_pos ho, if_pos ho]
      have : A.T i s * (v i / A.T i s) = v i := by rw [Rat.mul_comm]; exact Rat.div_mul_cancel hne
      grind
    · rw [if_neg ho, if_neg ho]; grind
  · rw [bi i hi hip]
    by_cases ho : n ≤ A.base i
    · rw [if_pos ho, if_pos ho, if_pos ho, hv i hi hip]
    · rw [if_neg ho, if_neg ho, if_neg ho]; grind
section
variable {m n : Nat} {T0 : Nat → Nat → Rat} {b0 : Nat → Rat} {rows : List (List Int)} {lack : List Int} {fill : List Nat} {D : Int} {c : Nat}
theorem SI.T (I : SI m n T0 b0 rows lack fill D c) (i j : Nat) : (at2 rows i j : Rat) = (tabI n rows fill D).T i j * (D : Rat) := div_cast _ _ I.pos
theorem SI.b (I : SI m n T0 b0 rows lack fill D c) (i : Nat) : (at2 rows i n : Rat) = (tabI n rows fill D).b i * (D : Rat) := div_cast _ _ I.pos
theorem SI.Tpos (I : SI m n T0 b0 rows lack fill D c) (i j : Nat) : 0 < (tabI n rows fill D).T i j ↔ 0 < at2 rows i j := by
  have h := I.T i j
  have hD := cast_pos I.pos
  constructor
  · intro h1
    apply Rat.intCast_lt_intCast.mp
    rw [h]
    exact Rat.mul_pos h1 hD
  · intro h1
    show 0 < (at2 rows i j : Rat) / (D : Rat)
    rw [Rat.div_def]
    exact Rat.mul_pos (cast_pos h1) (Rat.inv_pos.mpr hD)
theorem SI.step {k : Nat} (I : SI m n T0 b0 rows lack fill D c) (W : Whole m n k T0 b0) {s p : Nat} (hs : s < n) (hp : p < m) (hz : 0 < lack.getD s 0) (hz' : ∀ j, j < s → lack.getD j 0 ≤ 0) (piv : 0 < at2 rows p s)
    (leave : ∀ i, i < m → 0 < at2 rows i s → at2 rows p n * at2 rows i s < at2 rows i n * at2 rows p s ∨ (at2 rows p n * at2 rows i s = at2 rows i n * at2 rows p s ∧ fill.getD p 0 ≤ fill.getD i 0)) :
    SI m n T0 b0 (newRows rows p s D) (clr lack (rows.getD p []) s D) (fill.set p s) (at2 rows p s) (c + 1) := by
  have hD := cast_pos I.pos
  have hDne : (D : Rat) ≠ 0 := by grind
  have Apiv : 0 < (tabI n rows fill D).T p s := (I.Tpos p s).mpr piv
  have hne : (tabI n rows fill D).T p s ≠ 0 := by grind
  -- the table behind the step, in fractions
  let A := tabI n rows fill D
  let A' : Tab := ⟨fun i j => if i = p then A.T p j / A.T p s else A.T i j - A.T i s * (A.T p j / A.T p s), fun i => if i = p then A.b p / A.T p s else A.b i - A.T i s * (A.b p / A.T p s), fun i => if i = p then s else A.base i⟩
  have alg : Alg m n A A' s p := ⟨hs, hp, Apiv, by simp [A'], fun i hi hip => by simp [A', hip], fun j hj => by simp [A'], fun i hi hip j hj => by simp [A', hip], by simp [A'], fun i hi hip => by simp [A', hip]⟩
  have col' : Col m n T0 b0 A' := alg.col I.col
  have dt' : det m (bc n T0 A'.base) = (at2 rows p s : Rat) := by
    rw [alg.det I.col, I.dt]
    exact (I.T p s).symm
  obtain ⟨_, wT, wb⟩ := col'.whole W
  rw [dt'] at wT wb
  -- the numbers
  have cellT : ∀ i j, i < m → j < n → (at2 (newRows rows p s D) i j : Rat) = A'.T i j * (at2 rows p s : Rat) := by
    intro i j hi hj
    unfold at2
    rw [newRows_at _ _ _ _ _ (by rw [I.rm]; exact hi)]
    by_cases hip : i = p
    · rw [if_pos hip]
      have e : A'.T i j = A.T p j / A.T p s := by simp [A', hip]
      rw [e]
      have h1 := I.T p j
      have h2 := I.T p s
      unfold at2 at h1 h2
      rw [h1, h2]
      have : A.T p j / A.T p s * A.T p s = A.T p j := Rat.div_mul_cancel hne
      show A.T p j * (D : Rat) = A.T p j / A.T p s * (A.T p s * (D : Rat))
      grind
    · rw [if_neg hip, clr_at _ _ _ _ _ (by rw [I.rl i hi]; omega) (by rw [I.rl p hp]; omega)]
      obtain ⟨⟨N, hN⟩, _⟩ := wT i j hi hj
      have h1 := I.T p s
      have h2 := I.T i j
      have h3 := I.T i s
      have h4 := I.T p j
      unfold at2 at h1 h2 h3 h4 hN
      have e : A'.T i j = A.T i j - A.T i s * (A.T p j / A.T p s) := by simp [A', hip]
      have e2 : A.T p j / A.T p s * A.T p s = A.T p j := Rat.div_mul_cancel hne
      have key : (((rows.getD p []).getD s 0 * (rows.getD i []).getD j 0 - (rows.getD i []).getD s 0 * (rows.getD p []).getD j 0 : Int) : Rat) = (N : Rat) * (D : Rat) := by
        rw [← hN, e, Rat.intCast_sub, Rat.intCast_mul, Rat.intCast_mul, h1, h2, h3, h4]
        show A.T p s * (D : Rat) * (A.T i j * (D : Rat)) - A.T i s * (D : Rat) * (A.T p j * (D : Rat)) = (A.T i j - A.T i s * (A.T p j / A.T p s)) * (A.T p s * (D : Rat)) * (D : Rat)
        grind
      rw [exact_div _ N D I.pos key]
      exact hN.symm
  have cellb : ∀ i, i < m → (at2 (newRows rows p s D) i n : Rat) = A'.b i * (at2 rows p s : Rat) := by
    intro i hi
    unfold at2
    rw [newRows_at _ _ _ _ _ (by rw [I.rm]; exact hi)]
    by_cases hip : i = p
    · rw [if_pos hip]
      have e : A'.b i = A.b p / A.T p s := by simp [A', hip]
      rw [e]
      have h1 := I.b p
      have h2 := I.T p s
      unfold at2 at h1 h2
      rw [h1, h2]
      have : A.b p / A.T p s * A.T p s = A.b p := Rat.div_mul_cancel hne
      show A.b p * (D : Rat) = A.b p / A.T p s * (A.T p s * (D : Rat))
      grind
    · rw [if_neg hip, clr_at _ _ _ _ _ (by rw [I.rl i hi]; omega) (by rw [I.rl p hp]; omega)]
      obtain ⟨⟨N, hN⟩, _⟩ := wb i hi
      have h1 := I.T p s
      have h2 := I.b i
      have h3 := I.T i s
      have h4 := I.b p
      unfold at2 at h1 h2 h3 h4 hN
      have e : A'.b i = A.b i - A.T i s * (A.b p / A.T p s) := by simp [A', hip]
      have e2 : A.b p / A.T p s * A.T p s = A.b p := Rat.div_mul_cancel hne
      have key : (((rows.getD p []).getD s 0 * (rows.getD i []).getD n 0 - (rows.getD i []).getD s 0 * (rows.getD p []).getD n 0 : Int) : Rat) = (N : Rat) * (D : Rat) := by
        rw [← hN, e, Rat.intCast_sub, Rat.intCast_mul, Rat.intCast_mul, h1, h2, h3, h4]
        show A.T p s * (D : Rat) * (A.b i * (D : Rat)) - A.T i s * (D : Rat) * (A.b p * (D : Rat)) = (A.b i - A.T i s * (A.b p / A.T p s)) * (A.T p s * (D : Rat)) * (D : Rat)
        grind
      rw [exact_div _ N D I.pos key]
      exact hN.symm
  -- the new table is that one
  have nT : ∀ i j, i < m → j < n → (tabI n (newRows rows p s D) (fill.set p s) (at2 rows p s)).T i j = A'.T i j := fun i j hi hj => cast_div _ _ piv _ (cellT i j hi hj)
  have nb : ∀ i, i < m → (tabI n (newRows rows p s D) (fill.set p s) (at2 rows p s)).b i = A'.b i := fun i hi => cast_div _ _ piv _ (cellb i hi)
  have nbase : ∀ i, i < m → (tabI n (newRows rows p s D) (fill.set p s) (at2 rows p s)).base i = A'.base i := by
    intro i hi
    show (fill.set p s).getD i 0 = if i = p then s else fill.getD i 0
    rw [List.getD_eq_getElem?_getD, List.getElem?_set]
    by_cases h : p = i
    · rw [if_pos h, if_pos (by rw [I.fl]; exact hp), if_pos h.symm]; rfl
    · rw [if_neg h, if_neg (fun e => h e.symm), List.getD_eq_getElem?_getD]
  have bcE : ∀ i k', i < m → bc n T0 (tabI n (newRows rows p s D) (fill.set p s) (at2 rows p s)).base i k' = bc n T0 A'.base i k' := by
    intro i k' hi
    unfold bc
    rw [nbase i hi]
  -- the step is one of those that end
  have P : Piv m n A (tabI n (newRows rows p s D) (fill.set p s) (at2 rows p s)) s p := by
    refine ⟨hs, hp, ?_, ?_, Apiv, ?_, ?_, ?_, ?_, ?_, ?_, ?_⟩
    · have h := I.lz s hs
      have h1 := cast_pos hz
      rw [h] at h1
      apply Classical.byContradiction
      intro hc
      have := mul_nonpos (z m n A s) (D : Rat) (by grind) (by grind)
      grind
    · intro j hj
      have h := I.lz j (by omega)
      have h1 : (lack.getD j 0 : Rat) ≤ 0 := by
        have : (lack.getD j 0 : Rat) ≤ ((0 : Int) : Rat) := Rat.intCast_le_intCast.mpr (hz' j hj)
        simpa using this
      rw [h] at h1
      apply Classical.byContradiction
      intro hc
      have := Rat.mul_pos (a := z m n A j) (b := (D : Rat)) (by grind) hD
      grind
    · intro i hi hT
      have hi2 := (I.Tpos i s).mp hT
      have q1 : A.b p / A.T p s = (at2 rows p n : Rat) / (at2 rows p s : Rat) := by
        have a1 := I.b p
        have a2 := I.T p s
        have a3 : (at2 rows p s : Rat) ≠ 0 := by have := cast_pos piv; grind
        show A.b p / A.T p s = _
        rw [a1, a2]
        show A.b p / A.T p s = A.b p * (D : Rat) / (A.T p s * (D : Rat))
        grind
      have q2 : A.b i / A.T i s = (at2 rows i n : Rat) / (at2 rows i s : Rat) := by
        have a1 := I.b i
        have a2 := I.T i s
        have a4 : A.T i s ≠ 0 := by grind
        rw [a1, a2]
        show A.b i / A.T i s = A.b i * (D : Rat) / (A.T i s * (D : Rat))
        grind
      have r1 := cast_pos piv
      have r2 := cast_pos hi2
      have c1 : (at2 rows p n : Rat) / (at2 rows p s : Rat) * ((at2 rows p s : Rat) * (at2 rows i s : Rat)) = ((at2 rows p n * at2 rows i s : Int) : Rat) := by
        rw [Rat.intCast_mul]; have : (at2 rows p s : Rat) ≠ 0 := by grind
        grind
      have c2 : (at2 rows i n : Rat) / (at2 rows i s : Rat) * ((at2 rows p s : Rat) * (at2 rows i s : Rat)) = ((at2 rows i n * at2 rows p s : Int) : Rat) := by
        rw [Rat.intCast_mul]; have : (at2 rows i s : Rat) ≠ 0 := by grind
        grind
      have rp := Rat.mul_pos r1 r2
      rw [q1, q2]
      rcases leave i hi hi2 with h | ⟨h, hb⟩
      · left
        have h' : ((at2 rows p n * at2 rows i s : Int) : Rat) < ((at2 rows i n * at2 rows p s : Int) : Rat) := Rat.intCast_lt_intCast.mpr h
        rw [← c1, ← c2] at h'
        apply Classical.byContradiction
        intro hc
        have hge : (at2 rows i n : Rat) / (at2 rows i s : Rat) ≤ (at2 rows p n : Rat) / (at2 rows p s : Rat) := by grind
        have := Rat.mul_le_mul_of_nonneg_right hge (c := (at2 rows p s : Rat) * (at2 rows i s : Rat)) (by grind)
        grind
      · right
        refine ⟨?_, hb⟩
        rw [h] at c1
        have : (at2 rows p s : Rat) * (at2 rows i s : Rat) ≠ 0 := by grind
        have e3 : (at2 rows p n : Rat) / (at2 rows p s : Rat) * ((at2 rows p s : Rat) * (at2 rows i s : Rat)) = (at2 rows i n : Rat) / (at2 rows i s : Rat) * ((at2 rows p s : Rat) * (at2 rows i s : Rat)) := by rw [c1, c2]
        grind
    · rw [nbase p hp]; exact alg.basep
    · intro i hi hip; rw [nbase i hi]; exact alg.basei i hi hip
    · intro j hj; rw [nT p j hp hj]; exact alg.Tp j hj
    · intro i hi hip j hj; rw [nT i j hi hj]; exact alg.Ti i hi hip j hj
    · rw [nb p hp]; exact alg.bp
    · intro i hi hip; rw [nb i hi]; exact alg.bi i hi hip
  -- what is lacking
  have openz : ∀ j, j < n → z m n (tabI n (newRows rows p s D) (fill.set p s) (at2 rows p s)) j = z m n A j - z m n A s * (A.T p j / A.T p s) := by
    intro j hj
    unfold z
    exact open_step hp hs Apiv P.basep P.basei (fun i => A.T i j) _ (fun i hi hip => P.Ti i hi hip j hj)
  have openw : w m n (tabI n (newRows rows p s D) (fill.set p s) (at2 rows p s)) = w m n A - z m n A s * (A.b p / A.T p s) := by
    unfold w z
    exact open_step hp hs Apiv P.basep P.basei A.b _ P.bi
  have intz : ∀ j, j < n → ∃ N : Int, z m n (tabI n (newRows rows p s D) (fill.set p s) (at2 rows p s)) j * (at2 rows p s : Rat) = (N : Rat) := by
    intro j hj
    unfold z
    rw [← S_mul']
    apply S_int
    intro i hi
    by_cases ho : n ≤ (tabI n (newRows rows p s D) (fill.set p s) (at2 rows p s)).base i
    · rw [if_pos ho, nT i j hi hj]; exact (wT i j hi hj).1
    · rw [if_neg ho]; exact ⟨0, by simp⟩
  have intw : ∃ N : Int, w m n (tabI n (newRows rows p s D) (fill.set p s) (at2 rows p s)) * (at2 rows p s : Rat) = (N : Rat) := by
    unfold w
    rw [← S_mul']
    apply S_int
    intro i hi
    by_cases ho : n ≤ (tabI n (newRows rows p s D) (fill.set p s) (at2 rows p s)).base i
    · rw [if_pos ho, nb i hi]; exact (wb i hi).1
    · rw [if_neg ho]; exact ⟨0, by simp⟩
  have hTps := I.T p s
  refine ⟨by rw [newRows_len]; exact I.rm, by rw [List.length_set]; exact I.fl, by rw [clr_len _ _ _ _ (by rw [I.ll, I.rl p hp])]; exact I.ll, ?_, piv, P.inv I.inv, ?_, ?_, ?_, ?_, ?_, ?_⟩
  · intro i hi
    rw [newRows_at _ _ _ _ _ (by rw [I.rm]; exact hi)]
    by_cases hip : i = p
    · rw [if_pos hip]; exact I.rl p hp
    · rw [if_neg hip, clr_len _ _ _ _ (by rw [I.rl i hi, I.rl p hp])]; exact I.rl i hi
  · intro j hj
    rw [clr_at _ _ _ _ _ (by rw [I.ll]; omega) (by rw [I.rl p hp]; omega)]
    obtain ⟨N, hN⟩ := intz j hj
    have h1 := I.lz j hj
    have h2 := I.lz s hs
    have h3 := I.T p j
    have e2 : A.T p j / A.T p s * A.T p s = A.T p j := Rat.div_mul_cancel hne
    have key : (((rows.getD p []).getD s 0 * lack.getD j 0 - lack.getD s 0 * (rows.getD p []).getD j 0 : Int) : Rat) = (N : Rat) * (D : Rat) := by
      rw [← hN, openz j hj, Rat.intCast_sub, Rat.intCast_mul, Rat.intCast_mul, h1, h2]
      have h3' : (((rows.getD p []).getD j 0 : Int) : Rat) = A.T p j * (D : Rat) := h3
      have h4' : (((rows.getD p []).getD s 0 : Int) : Rat) = A.T p s * (D : Rat) := hTps
      have h5' : (at2 rows p s : Rat) = A.T p s * (D : Rat) := hTps
      rw [h3', h4', h5']
      show A.T p s * (D : Rat) * (z m n A j * (D : Rat)) - z m n A s * (D : Rat) * (A.T p j * (D : Rat)) = (z m n A j - z m n A s * (A.T p j / A.T p s)) * (A.T p s * (D : Rat)) * (D : Rat)
      grind
    rw [exact_div _ N D I.pos key]
    exact hN.symm
  · rw [clr_at _ _ _ _ _ (by rw [I.ll]; omega) (by rw [I.rl p hp]; omega)]
    obtain ⟨N, hN⟩ := intw
    have h1 := I.lw
    have h2 := I.lz s hs
    have h3 := I.b p
    have e2 : A.b p / A.T p s * A.T p s = A.b p := Rat.div_mul_cancel hne
    have key : (((rows.getD p []).getD s 0 * lack.getD n 0 - lack.getD s 0 * (rows.getD p []).getD n 0 : Int) : Rat) = (N : Rat) * (D : Rat) := by
      rw [← hN, openw, Rat.intCast_sub, Rat.intCast_mul, Rat.intCast_mul, h1, h2]
      have h3' : (((rows.getD p []).getD n 0 : Int) : Rat) = A.b p * (D : Rat) := h3
      have h4' : (((rows.getD p []).getD s 0 : Int) : Rat) = A.T p s * (D : Rat) := hTps
      have h5' : (at2 rows p s : Rat) = A.T p s * (D : Rat) := hTps
      rw [h3', h4', h5']
      show A.T p s * (D : Rat) * (w m n A * (D : Rat)) - z m n A s * (D : Rat) * (A.b p * (D : Rat)) = (w m n A - z m n A s * (A.b p / A.T p s)) * (A.T p s * (D : Rat)) * (D : Rat)
      grind
    rw [exact_div _ N D I.pos key]
    exact hN.symm
  · exact (alg_of P).col I.col
  · rw [det_congr m _ (bc n T0 A'.base) (fun i k' hi _ => bcE i k' hi)]
    exact dt'
  · intro x
    exact (P.all_iff x).trans (I.keep x)
  · obtain ⟨B, s', p', h0, h1, h2⟩ := I.run
    refine ⟨fun k => if k ≤ c then B k else tabI n (newRows rows p s D) (fill.set p s) (at2 rows p s), fun k => if k < c then s' k else s, fun k => if k < c then p' k else p, by simpa using h0, ?_, by dsimp only; rw [if_neg (by omega)]⟩
    intro k hk
    by_cases hkc : k < c
    · simp only [if_pos (show k ≤ c by omega), if_pos (show k + 1 ≤ c by omega), if_pos hkc]
      exact h1 k hkc
    · have : k = c := by omega
      subst this
      simp only [Nat.le_refl, if_true, if_neg (show ¬ k + 1 ≤ k by omega), if_neg hkc, h2]
      exact P
end
end EQ
end
section
namespace EQ
open JM DT
section
variable {m n : Nat} {T0 : Nat → Nat → Rat} {b0 : Nat → Rat} {rows : List (List Int)} {lack : List Int} {fill : List Nat} {D : Int} {c : Nat}
def Feas (m n : Nat) (rows : List (List Int)) : Prop := ∃ x : Nat → Rat, (∀ j, 0 ≤ x j) ∧ ∀ i, i < m → S n (fun j => (at2 rows i j : Rat) * x j) = (at2 rows i n : Rat)
theorem div_one' (a : Rat) : a / ((1 : Int) : Rat) = a := by
  have : ((1 : Int) : Rat) = 1 := rfl
  rw [this]; grind
theorem SI.first (rows : List (List Int)) (lack : List Int) (fill : List Nat) (hm : rows.length = m) (hf : fill.length = m) (hl : lack.length = n + 1) (hr : ∀ i, i < m → (rows.getD i []).length = n + 1)
    (hb : ∀ i, i < m → fill.getD i 0 = n + i) (h0 : ∀ i, i < m → 0 ≤ at2 rows i n) (hs : ∀ j, j < n + 1 → (lack.getD j 0 : Rat) = S m (fun i => (at2 rows i j : Rat))) :
    SI m n (fun i j => (at2 rows i j : Rat)) (fun i => (at2 rows i n : Rat)) rows lack fill 1 0 := by
  have eT : ∀ i j, (tabI n rows fill 1).T i j = (at2 rows i j : Rat) := fun i j => div_one' _
  have eb : ∀ i, (tabI n rows fill 1).b i = (at2 rows i n : Rat) := fun i => div_one' _
  have hbase : ∀ i, i < m → n ≤ (tabI n rows fill 1).base i := by
    intro i hi
    show n ≤ fill.getD i 0
    rw [hb i hi]; omega
  have e1 : ((1 : Int) : Rat) = 1 := rfl
  have inv : Inv m n (tabI n rows fill 1) := by
    refine ⟨?_, ?_, ?_⟩
    · intro i hi
      rw [eb]
      have : ((0 : Int) : Rat) ≤ (at2 rows i n : Rat) := Rat.intCast_le_intCast.mpr (h0 i hi)
      simpa using this
    · intro k hk hlt
      have := hbase k hk
      omega
    · intro i hi _
      exact hb i hi
  have bcE : ∀ i k, i < m → bc n (fun i j => (at2 rows i j : Rat)) (tabI n rows fill 1).base i k = if i = k then 1 else 0 := by
    intro i k hi
    unfold bc
    rw [if_neg (by have := hbase i hi; omega)]
  refine ⟨hm, hf, hl, hr, by decide, inv, ?_, ?_, ?_, ?_, ?_, ?_⟩
  · intro j hj
    rw [hs j (by omega), e1]
    unfold z
    have : S m (fun i => if n ≤ (tabI n rows fill 1).base i then (tabI n rows fill 1).T i j else 0) = S m (fun i => (at2 rows i j : Rat)) := by
      apply S_congr
      intro i hi
      rw [if_pos (hbase i hi), eT]
    rw [this]; grind
  · rw [hs n (by omega), e1]
    unfold w
    have : S m (fun i => if n ≤ (tabI n rows fill 1).base i then (tabI n rows fill 1).b i else 0) = S m (fun i => (at2 rows i n : Rat)) := by
      apply S_congr
      intro i hi
      rw [if_pos (hbase i hi), eb]
    rw [this]; grind
  · have hC := Col.first (m := m) (n := n) (tabI n rows fill 1) hbase
    have t : (tabI n rows fill 1).T = fun i j => (at2 rows i j : Rat) := by funext i j; exact eT i j
    have t2 : (tabI n rows fill 1).b = fun i => (at2 rows i n : Rat) := by funext i; exact eb i
    rw [t, t2] at hC
    exact hC
  · rw [det_congr m _ (fun i k => if i = k then 1 else 0) (fun i k hi _ => bcE i k hi), det_one, e1]
  · intro x
    unfold dot
    constructor
    · intro h i hi
      have := h i hi
      rw [eb] at this
      rw [← this]
      apply S_congr
      intro j _
      rw [eT]
    · intro h i hi
      rw [eb, ← h i hi]
      apply S_congr
      intro j _
      rw [eT]
  · exact ⟨fun _ => tabI n rows fill 1, fun _ => 0, fun _ => 0, inv, fun k hk => by omega, rfl⟩
theorem SI.few (I : SI m n T0 b0 rows lack fill D c) : c < (m + 1) ^ n := by
  apply Classical.byContradiction
  intro h
  obtain ⟨A, s, p, h0, h1, _⟩ := I.run
  exact ends A s p ((m + 1) ^ n) (Nat.le_refl _) h0 (fun k hk => h1 k (by omega))
theorem SI.done (I : SI m n T0 b0 rows lack fill D c) (h : lack.getD n 0 = 0) : ∃ x : Nat → Rat, (∀ j, 0 ≤ x j) ∧ ∀ i, i < m → S n (fun j => T0 i j * x j) = b0 i := by
  have hD := cast_pos I.pos
  have hw : w m n (tabI n rows fill D) = 0 := by
    have := I.lw
    rw [h] at this
    have e0 : ((0 : Int) : Rat) = 0 := rfl
    rw [e0] at this
    have hne : (D : Rat) ≠ 0 := by grind
    have := this.symm
    rcases Rat.mul_eq_zero.mp this with z | z
    · exact z
    · exact absurd z hne
  have hz : ∀ i, i < m → n ≤ (tabI n rows fill D).base i → (tabI n rows fill D).b i = 0 := by
    have hall := S_all_zero m (fun i => if n ≤ (tabI n rows fill D).base i then (tabI n rows fill D).b i else 0) (by
      intro i hi
      by_cases hb : n ≤ (tabI n rows fill D).base i
      · simp only [if_pos hb]; exact I.inv.nonneg i hi
      · simp only [if_neg hb]; grind) (by
      have : S m (fun i => if n ≤ (tabI n rows fill D).base i then (tabI n rows fill D).b i else 0) = w m n (tabI n rows fill D) := rfl
      rw [this, hw]; grind)
    intro i hi hb
    have := hall i hi
    simpa only [if_pos hb] using this
  refine ⟨lay m (tabI n rows fill D) (tabI n rows fill D).b, ?_, ?_⟩
  · intro j
    apply S_nonneg
    intro r hr
    by_cases hb : (tabI n rows fill D).base r = j
    · rw [if_pos hb]; exact I.inv.nonneg r hr
    · rw [if_neg hb]; grind
  · rw [← I.keep]
    intro i hi
    by_cases hb : n ≤ (tabI n rows fill D).base i
    · rw [dot_lay_open I.inv _ i hi hb, hz i hi hb]
    · rw [dot_lay_closed I.inv _ i hi (by omega)]
theorem SI.stuck (I : SI m n T0 b0 rows lack fill D c) (h : lack.getD n 0 ≠ 0) (hz : ∀ j, j < n → lack.getD j 0 ≤ 0) : ¬ ∃ x : Nat → Rat, (∀ j, 0 ≤ x j) ∧ ∀ i, i < m → S n (fun j => T0 i j * x j) = b0 i := by
  rintro ⟨x, hx0, hxr⟩
  have hD := cast_pos I.pos
  have hk := (I.keep x).mpr hxr
  have hz' : ∀ j, j < n → z m n (tabI n rows fill D) j ≤ 0 := by
    intro j hj
    have h1 := I.lz j hj
    have h2 : (lack.getD j 0 : Rat) ≤ 0 := by
      have : (lack.getD j 0 : Rat) ≤ ((0 : Int) : Rat) := Rat.intCast_le_intCast.mpr (hz j hj)
      simpa using this
    rw [h1] at h2
    apply Classical.byContradiction
    intro hc
    have := Rat.mul_pos (a := z m n (tabI n rows fill D) j) (b := (D : Rat)) (by grind) hD
    grind
  have hw : w m n (tabI n rows fill D) = S n (fun j => z m n (tabI n rows fill D) j * x j) := by
    have e1 : ∀ j, j < n → z m n (tabI n rows fill D) j * x j = S m (fun i => if n ≤ (tabI n rows fill D).base i then (tabI n rows fill D).T i j * x j else 0) := by
      intro j _
      unfold z
      rw [← S_mul']
      apply S_congr
      intro i _
      by_cases hb : n ≤ (tabI n rows fill D).base i
      · simp only [if_pos hb]
      · simp only [if_neg hb]; grind
    rw [S_congr n _ _ e1, S_swap]
    unfold w
    apply S_congr
    intro i hi
    by_cases hb : n ≤ (tabI n rows fill D).base i
    · simp only [if_pos hb]; exact (hk i hi).symm
    · simp only [if_neg hb]; exact (S_zero n _ (fun _ _ => rfl)).symm
  have hle : w m n (tabI n rows fill D) ≤ 0 := by
    rw [hw]
    apply S_nonpos
    intro j hj
    exact mul_nonpos _ _ (hz' j hj) (hx0 j)
  have hge : 0 ≤ w m n (tabI n rows fill D) := by
    apply S_nonneg
    intro i hi
    by_cases hb : n ≤ (tabI n rows fill D).base i
    · simp only [if_pos hb]; exact I.inv.nonneg i hi
    · simp only [if_neg hb]; grind
  have h0 : w m n (tabI n rows fill D) = 0 := by grind
  have := I.lw
  rw [h0] at this
  apply h
  apply Rat.intCast_inj.mp
  rw [this]
  have e0 : ((0 : Int) : Rat) = 0 := rfl
  rw [e0]; grind
theorem SI.some_row (I : SI m n T0 b0 rows lack fill D c) {s : Nat} (hs : s < n) (h : 0 < lack.getD s 0) : ∃ i, i < m ∧ 0 < at2 rows i s := by
  have hD := cast_pos I.pos
  have hz : 0 < z m n (tabI n rows fill D) s := by
    have h1 := I.lz s hs
    have h2 := cast_pos h
    rw [h1] at h2
    apply Classical.byContradiction
    intro hc
    have := mul_nonpos (z m n (tabI n rows fill D) s) (D : Rat) (by grind) (by grind)
    grind
  obtain ⟨i, hi, hp⟩ := S_pos m _ hz
  refine ⟨i, hi, (I.Tpos i s).mp ?_⟩
  by_cases hb : n ≤ (tabI n rows fill D).base i
  · simpa only [if_pos hb] using hp
  · simp only [if_neg hb] at hp; grind
theorem bnd_le (c k : Nat) : ∀ m, m ≤ k → bnd c m ≤ (k * c) ^ m
  | 0, _ => Nat.le_refl _
  | m + 1, h => by
    have ih := bnd_le c k m (by omega)
    show (m + 1) * (c * bnd c m) ≤ (k * c) ^ m * (k * c)
    rw [← Nat.mul_assoc, Nat.mul_comm ((k * c) ^ m)]
    exact Nat.mul_le_mul (Nat.mul_le_mul_right c h) ih
theorem le_abs (a : Int) (b : Nat) (h : Le (a : Rat) (b : Rat)) : a.natAbs ≤ b := by
  obtain ⟨h1, h2⟩ := h
  have h2' : ((a : Int) : Rat) ≤ ((b : Int) : Rat) := h2
  have h3 := Rat.intCast_le_intCast.mp h2'
  have h1' : ((-(b : Int) : Int) : Rat) ≤ ((a : Int) : Rat) := by
    rw [Rat.intCast_neg]; exact h1
  have h4 := Rat.intCast_le_intCast.mp h1'
  omega
theorem SI.cell_le {k : Nat} (I : SI m n T0 b0 rows lack fill D c) (W : Whole m n k T0 b0) (i j : Nat) (hi : i < m) (hj : j < n + 1) : (at2 rows i j).natAbs ≤ bnd k m := by
  obtain ⟨_, wT, wb⟩ := I.col.whole W
  rw [I.dt] at wT wb
  apply le_abs
  by_cases h : j < n
  · rw [I.T i j]; exact (wT i j hi h).2
  · have : j = n := by omega
    subst this
    rw [I.b i]; exact (wb i hi).2
theorem SI.D_le {k : Nat} (I : SI m n T0 b0 rows lack fill D c) (W : Whole m n k T0 b0) : D.natAbs ≤ bnd k m := by
  obtain ⟨⟨_, h⟩, _, _⟩ := I.col.whole W
  rw [I.dt] at h
  exact le_abs _ _ h
theorem SI.lack_le {k : Nat} (I : SI m n T0 b0 rows lack fill D c) (W : Whole m n k T0 b0) (j : Nat) (hj : j < n + 1) : (lack.getD j 0).natAbs ≤ m * bnd k m := by
  obtain ⟨_, wT, wb⟩ := I.col.whole W
  rw [I.dt] at wT wb
  apply le_abs
  rw [Rat.natCast_mul]
  have zero : Le 0 (bnd k m : Rat) := by
    have : ((0 : Nat) : Rat) ≤ (bnd k m : Rat) := Rat.natCast_le_natCast.mpr (Nat.zero_le _)
    have h0 : ((0 : Nat) : Rat) = 0 := rfl
    rw [h0] at this
    unfold Le; constructor <;> grind
  by_cases h : j < n
  · rw [I.lz j h]
    unfold z
    rw [← S_mul']
    apply S_le
    intro i hi
    by_cases hb : n ≤ (tabI n rows fill D).base i
    · simp only [if_pos hb]; exact (wT i j hi h).2
    · simp only [if_neg hb]; rw [Rat.zero_mul]; exact zero
  · have : j = n := by omega
    subst this
    rw [I.lw]
    unfold w
    rw [← S_mul']
    apply S_le
    intro i hi
    by_cases hb : j ≤ (tabI j rows fill D).base i
    · simp only [if_pos hb]; exact (wb i hi).2
    · simp only [if_neg hb]; rw [Rat.zero_mul]; exact zero
end
end EQ
end
section
namespace EQ
open JM DT Rd07
def W (t : Table) (u : Nat) : Nat := t.w.getD (place t.mask u) 0
theorem prs_W (t : Table) (ht : SP.Ok t) : SP.prs t = (SP.aw t.mask).map fun u => (u, W t u) := by
  have hl : (SP.aw t.mask).length = t.w.length := by rw [SP.aw_len t.mask ht.hi, ht.len]
  unfold SP.prs
  apply List.ext_getElem
  · rw [List.length_zip, List.length_map]; omega
  · intro j h1 h2
    have hj : j < (SP.aw t.mask).length := by simpa using h2
    have hjl : j < long t.mask := by rw [← SP.aw_len t.mask ht.hi]; exact hj
    have e := SP.aw_get t.mask j ht.hi hjl
    rw [List.getElem?_eq_getElem hj] at e
    have e' := Option.some.inj e
    rw [List.getElem_zip, List.getElem_map]
    congr 1
    unfold W
    rw [e', SP.place_spread t.mask j ht.hi hjl, List.getD_eq_getElem?_getD, List.getElem?_eq_getElem (by omega)]
    rfl
theorem sum_filter (q : Nat → Bool) (g : Nat → Nat) : ∀ n, (((((List.range n).filter q).map g).sum : Nat) : Rat) = S n (fun u => if q u = true then (g u : Rat) else 0)
  | 0 => rfl
  | n + 1 => by
    rw [List.range_succ, List.filter_append, List.map_append, List.sum_append, Rat.natCast_add, sum_filter q g n]
    show _ = S n _ + _
    congr 1
    by_cases h : q n = true
    · simp [h]
    · simp [h]
theorem sumAt_S (t : Table) (ht : SP.Ok t) (c k : Nat) : ((SP.sumAt (SP.prs t) c k : Nat) : Rat) = S 32 (fun u => if u &&& t.mask = u ∧ u &&& c = k then (W t u : Rat) else 0) := by
  unfold SP.sumAt
  rw [prs_W t ht, List.map_map]
  unfold SP.aw
  have := sum_filter (fun x => decide (x &&& t.mask = x)) (fun u => if u &&& c = k then W t u else 0) 32
  refine Eq.trans ?_ (this.trans ?_)
  · rfl
  · apply S_congr
    intro u _
    by_cases h1 : u &&& t.mask = u
    · by_cases h2 : u &&& c = k
      · rw [if_pos (decide_eq_true h1), if_pos h2, if_pos ⟨h1, h2⟩]
      · rw [if_pos (decide_eq_true h1), if_neg h2, if_neg (fun z => h2 z.2)]; rfl
    · rw [if_neg (by rw [decide_eq_false h1]; exact Bool.false_ne_true), if_neg (fun z => h1 z.1)]
def Ex (t : Table) (x : Nat → Rat) (u : Nat) : Rat := S 32 (fun y => if y &&& t.mask = u then x y else 0)
theorem Ex_sum (t : Table) (hm : t.mask < 32) (x : Nat → Rat) (c k : Nat) (hc : c &&& t.mask = c) : S 32 (fun u => if u &&& t.mask = u ∧ u &&& c = k then Ex t x u else 0) = S 32 (fun y => if y &&& c = k then x y else 0) := by
  unfold Ex
  have e1 : ∀ u, u < 32 → (if u &&& t.mask = u ∧ u &&& c = k then S 32 (fun y => if y &&& t.mask = u then x y else 0) else 0) = S 32 (fun y => if (u &&& t.mask = u ∧ u &&& c = k) ∧ y &&& t.mask = u then x y else 0) := by
    intro u _
    by_cases h : u &&& t.mask = u ∧ u &&& c = k
    · rw [if_pos h]
      apply S_congr
      intro y _
      by_cases h2 : y &&& t.mask = u
      · rw [if_pos h2, if_pos ⟨h, h2⟩]
      · rw [if_neg h2, if_neg (fun z => h2 z.2)]
    · rw [if_neg h]
      symm
      apply S_zero
      intro y _
      rw [if_neg (fun z => h z.1)]
  rw [S_congr 32 _ _ e1, S_swap]
  apply S_congr
  intro y hy
  have hu : y &&& t.mask < 32 := Nat.lt_of_le_of_lt Nat.and_le_left hy
  rw [S_single 32 (y &&& t.mask) _ hu]
  · have a1 : (y &&& t.mask) &&& t.mask = y &&& t.mask := by rw [Nat.and_assoc, Nat.and_self]
    have a2 : (y &&& t.mask) &&& c = y &&& c := by rw [Nat.and_assoc, Nat.and_comm t.mask c, hc]
    by_cases h : y &&& c = k
    · rw [if_pos h, if_pos ⟨⟨a1, by rw [a2]; exact h⟩, rfl⟩]
    · rw [if_neg h, if_neg (fun z => h (by rw [← a2]; exact z.1.2))]
  · intro u _ hne
    rw [if_neg (fun z => hne z.2.symm)]
theorem mobius (m : Nat) (f g : Nat → Rat) (h : ∀ a, a < 32 → a &&& m = a → S 32 (fun u => if u &&& m = u ∧ u &&& a = a then f u else 0) = S 32 (fun u => if u &&& m = u ∧ u &&& a = a then g u else 0)) : ∀ a, a < 32 → a &&& m = a → f a = g a := by
  have key : ∀ d a, a < 32 → a &&& m = a → 31 - a ≤ d → f a = g a := by
    intro d
    induction d with
    | zero =>
      intro a ha hm hd
      have e := h a ha hm
      rw [S_single 32 a _ ha, S_single 32 a _ ha] at e
      · simpa [hm, Nat.and_self] using e
      · intro u hu hne
        rw [if_neg]
        rintro ⟨_, z⟩
        have : a ≤ u := by rw [← z]; exact Nat.and_le_left
        omega
      · intro u hu hne
        rw [if_neg]
        rintro ⟨_, z⟩
        have : a ≤ u := by rw [← z]; exact Nat.and_le_left
        omega
    | succ d ih =>
      intro a ha hm hd
      have e := h a ha hm
      have e2 : S 32 (fun u => (if u &&& m = u ∧ u &&& a = a then f u else 0) - (if u &&& m = u ∧ u &&& a = a then g u else 0)) = 0 := by rw [S_sub, e]; grind
      rw [S_single 32 a _ ha] at e2
      · simp only [hm, Nat.and_self, and_self, if_true] at e2
        grind
      · intro u hu hne
        by_cases hc : u &&& m = u ∧ u &&& a = a
        · rw [if_pos hc, if_pos hc]
          have : a ≤ u := by rw [← hc.2]; exact Nat.and_le_left
          rw [ih u hu hc.1 (by omega)]; grind
        · rw [if_neg hc, if_neg hc]; grind
  intro a ha hm
  exact key 31 a ha hm (by omega)
theorem joint_iff (t : Table) (ht : SP.Ok t) (x : Nat → Rat) : (∀ j, j < long t.mask → S (2 ^ 5) (fun y => if place t.mask y = j then x y else 0) = ((t.w.getD j 0 : Nat) : Rat)) ↔ ∀ u, u < 32 → u &&& t.mask = u → Ex t x u = (W t u : Rat) := by
  have e32 : (2 : Nat) ^ 5 = 32 := rfl
  have conv : ∀ j, j < long t.mask → S (2 ^ 5) (fun y => if place t.mask y = j then x y else 0) = Ex t x (spread t.mask j) := by
    intro j hj
    rw [e32]
    unfold Ex
    apply S_congr
    intro y hy
    have e1 := SP.spread_place t.mask ht.hi y hy
    by_cases h : place t.mask y = j
    · rw [if_pos h, if_pos (by rw [← e1, h])]
    · rw [if_neg h, if_neg]
      intro z
      apply h
      rw [← e1] at z
      have := congrArg (place t.mask) z
      rw [SP.place_spread t.mask _ ht.hi (SP.place_lt t.mask ht.hi y hy), SP.place_spread t.mask j ht.hi hj] at this
      exact this
  constructor
  · intro h u hu hm
    have hp := SP.place_lt t.mask ht.hi u hu
    have := h _ hp
    rw [conv _ hp, SP.spread_place t.mask ht.hi u hu, hm] at this
    exact this
  · intro h j hj
    rw [conv j hj, h _ (SP.spread_lt t.mask j ht.hi hj) (SP.spread_sub' t.mask ht.hi j (Nat.lt_of_lt_of_le hj (SP.long_le32 t.mask ht.hi)) hj)]
    unfold W
    rw [SP.place_spread t.mask j ht.hi hj]
structure TotOk (l : List Table) (L : List (Nat × Nat)) : Prop where
  nd : (L.map (·.1)).Nodup
  of : ∀ a v, (a, v) ∈ L → ∃ t, t ∈ l ∧ a &&& t.mask = a ∧ a < 32 ∧ v = SP.sumAt (SP.prs t) a a
  has : ∀ t, t ∈ l → ∀ a, a < 32 → a &&& t.mask = a → ∃ v, (a, v) ∈ L
def eqRow (a tot : Nat) : List Int := ((List.range 32).map fun x => if x &&& a = a then (1 : Int) else 0) ++ [(tot : Int)]
theorem eqRow_len (a tot : Nat) : (eqRow a tot).length = 33 := by unfold eqRow; simp
theorem eqRow_at (a tot j : Nat) (h : j < 32) : (eqRow a tot).getD j 0 = if j &&& a = a then 1 else 0 := by
  unfold eqRow
  rw [List.getD_eq_getElem?_getD, List.getElem?_append_left (by simpa using h), List.getElem?_map, List.getElem?_range h]
  rfl
theorem eqRow_last (a tot : Nat) : (eqRow a tot).getD 32 0 = (tot : Int) := by
  unfold eqRow
  rw [List.getD_eq_getElem?_getD, List.getElem?_append_right (by simp)]
  simp
def eqs (L : List (Nat × Nat)) : List (List Int) := L.map fun q => eqRow q.1 q.2
theorem eqs_at (L : List (Nat × Nat)) (i : Nat) (q : Nat × Nat) (h : L[i]? = some q) : (eqs L).getD i [] = eqRow q.1 q.2 := by
  unfold eqs
  rw [List.getD_eq_getElem?_getD, List.getElem?_map, h]
  rfl
theorem row_sum (a tot : Nat) (x : Nat → Rat) : S 32 (fun j => (((eqRow a tot).getD j 0 : Int) : Rat) * x j) = S 32 (fun y => if y &&& a = a then x y else 0) := by
  apply S_congr
  intro j hj
  rw [eqRow_at a tot j hj]
  by_cases h : j &&& a = a
  · rw [if_pos h, if_pos h]
    have : ((1 : Int) : Rat) = 1 := rfl
    rw [this]; grind
  · rw [if_neg h, if_neg h]
    have : ((0 : Int) : Rat) = 0 := rfl
    rw [this]; grind
theorem feas_iff (L : List (Nat × Nat)) : Feas L.length 32 (eqs L) ↔ ∃ x : Nat → Rat, (∀ j, 0 ≤ x j) ∧ ∀ a v, (a, v) ∈ L → S 32 (fun y => if y &&& a = a then x y else 0) = ((v : Nat) : Rat) := by
  unfold Feas
  constructor
  · rintro ⟨x, h0, h⟩
    refine ⟨x, h0, fun a v hav => ?_⟩
    obtain ⟨i, hi⟩ := List.getElem?_of_mem hav
    have hil : i < L.length := (List.getElem?_eq_some_iff.mp hi).1
    have := h i hil
    unfold at2 at this
    rw [eqs_at L i _ hi, row_sum, eqRow_last] at this
    exact this
  · rintro ⟨x, h0, h⟩
    refine ⟨x, h0, fun i hi => ?_⟩
    unfold at2
    rw [eqs_at L i _ (List.getElem?_eq_getElem hi), row_sum, eqRow_last]
    exact h _ _ (List.getElem_mem hi)
theorem agree_same (t u : Table) (ht : SP.Ok t) (hu : SP.Ok u) (h : agreeTwo 5 t u = true) (a : Nat) (ha : a < 32) (h1 : a &&& t.mask = a) (h2 : a &&& u.mask = a) : SP.sumAt (SP.prs t) a a = SP.sumAt (SP.prs u) a a := by
  have hs := (SP.agreeTwo_iff t u ht hu).mp h
  have hac : a &&& (t.mask &&& u.mask) = a := by rw [← Nat.and_assoc, h1, h2]
  have agg : ∀ t' : Table, SP.Ok t' → (t.mask &&& u.mask) &&& t'.mask = t.mask &&& u.mask → ((SP.sumAt (SP.prs t') a a : Nat) : Rat) = S 32 (fun k => if k &&& (t.mask &&& u.mask) = k ∧ k &&& a = a then ((SP.sumAt (SP.prs t') (t.mask &&& u.mask) k : Nat) : Rat) else 0) := by
    intro t' ht' hc
    rw [sumAt_S t' ht']
    have e1 : ∀ k, k < 32 → (if k &&& (t.mask &&& u.mask) = k ∧ k &&& a = a then ((SP.sumAt (SP.prs t') (t.mask &&& u.mask) k : Nat) : Rat) else 0) = S 32 (fun v => if (k &&& (t.mask &&& u.mask) = k ∧ k &&& a = a) ∧ (v &&& t'.mask = v ∧ v &&& (t.mask &&& u.mask) = k) then (W t' v : Rat) else 0) := by
      intro k _
      by_cases hk : k &&& (t.mask &&& u.mask) = k ∧ k &&& a = a
      · rw [if_pos hk, sumAt_S t' ht']
        apply S_congr
        intro v _
        by_cases hv : v &&& t'.mask = v ∧ v &&& (t.mask &&& u.mask) = k
        · rw [if_pos hv, if_pos ⟨hk, hv⟩]
        · rw [if_neg hv, if_neg (fun z => hv z.2)]
      · rw [if_neg hk]
        symm
        apply S_zero
        intro v _
        rw [if_neg (fun z => hk z.1)]
    rw [S_congr 32 _ _ e1, S_swap]
    apply S_congr
    intro v hv
    have hvl : v &&& (t.mask &&& u.mask) < 32 := Nat.lt_of_le_of_lt Nat.and_le_left hv
    rw [S_single 32 (v &&& (t.mask &&& u.mask)) _ hvl]
    · have a1 : (v &&& (t.mask &&& u.mask)) &&& (t.mask &&& u.mask) = v &&& (t.mask &&& u.mask) := by rw [Nat.and_assoc, Nat.and_self]
      have a2 : (v &&& (t.mask &&& u.mask)) &&& a = v &&& a := by rw [Nat.and_assoc, Nat.and_comm (t.mask &&& u.mask) a, hac]
      by_cases hc' : v &&& t'.mask = v ∧ v &&& a = a
      · rw [if_pos hc', if_pos ⟨⟨a1, by rw [a2]; exact hc'.2⟩, hc'.1, rfl⟩]
      · rw [if_neg hc', if_neg (fun z => hc' ⟨z.2.1, by rw [← a2]; exact z.1.2⟩)]
    · intro k _ hne
      rw [if_neg (fun z => hne z.2.2.symm)]
  have st : (t.mask &&& u.mask) &&& t.mask = t.mask &&& u.mask := by rw [Nat.and_comm, ← Nat.and_assoc, Nat.and_self]
  have su : (t.mask &&& u.mask) &&& u.mask = t.mask &&& u.mask := by rw [Nat.and_assoc, Nat.and_self]
  have e := agg t ht st
  have e' := agg u hu su
  have : ((SP.sumAt (SP.prs t) a a : Nat) : Rat) = ((SP.sumAt (SP.prs u) a a : Nat) : Rat) := by
    rw [e, e']
    apply S_congr
    intro k hk
    by_cases hc : k &&& (t.mask &&& u.mask) = k ∧ k &&& a = a
    · rw [if_pos hc, if_pos hc]
      have := hs k hk
      rw [hc.1] at this
      rw [this]
    · rw [if_neg hc, if_neg hc]
  exact Rat.natCast_inj.mp this
theorem feas_joint (l : List Table) (ok : ∀ t, t ∈ l → SP.Ok t) (hag : agree 5 l = true) (L : List (Nat × Nat)) (hL : TotOk l L) : Feas L.length 32 (eqs L) ↔ JointQ 5 l := by
  rw [feas_iff]
  unfold JointQ
  constructor
  · rintro ⟨x, h0, h⟩
    refine ⟨x, h0, fun t ht => ?_⟩
    rw [joint_iff t (ok t ht)]
    apply mobius t.mask (Ex t x) (fun u => (W t u : Rat))
    intro a ha hm
    rw [Ex_sum t (ok t ht).hi x a a hm, ← sumAt_S t (ok t ht) a a]
    obtain ⟨v, hv⟩ := hL.has t ht a ha hm
    rw [h a v hv]
    obtain ⟨t', ht', hm', _, e⟩ := hL.of a v hv
    have hat : agreeTwo 5 t' t = true := List.all_eq_true.mp (List.all_eq_true.mp hag t' ht') t ht
    rw [e, agree_same t' t (ok t' ht') (ok t ht) hat a ha hm' hm]
  · rintro ⟨x, h0, h⟩
    refine ⟨x, h0, fun a v hav => ?_⟩
    obtain ⟨t, ht, hm, ha, e⟩ := hL.of a v hav
    have hE := (joint_iff t (ok t ht) x).mp (h t ht)
    rw [e, sumAt_S t (ok t ht) a a, ← Ex_sum t (ok t ht).hi x a a hm]
    apply S_congr
    intro u hu
    by_cases hc : u &&& t.mask = u ∧ u &&& a = a
    · rw [if_pos hc, if_pos hc, hE u hu hc.1]
    · rw [if_neg hc, if_neg hc]
theorem joint_agree (l : List Table) (ok : ∀ t, t ∈ l → SP.Ok t) (h : JointQ 5 l) : agree 5 l = true := by
  obtain ⟨x, _, h⟩ := h
  have key : ∀ t, t ∈ l → ∀ c k, c &&& t.mask = c → ((SP.sumAt (SP.prs t) c k : Nat) : Rat) = S 32 (fun y => if y &&& c = k then x y else 0) := by
    intro t ht c k hc
    have hE := (joint_iff t (ok t ht) x).mp (h t ht)
    rw [sumAt_S t (ok t ht) c k, ← Ex_sum t (ok t ht).hi x c k hc]
    apply S_congr
    intro u hu
    by_cases hc : u &&& t.mask = u ∧ u &&& c = k
    · rw [if_pos hc, if_pos hc, hE u hu hc.1]
    · rw [if_neg hc, if_neg hc]
  unfold agree
  rw [List.all_eq_true]
  intro t ht
  rw [List.all_eq_true]
  intro u hu
  rw [SP.agreeTwo_iff t u (ok t ht) (ok u hu)]
  intro y _
  apply Rat.natCast_inj.mp
  rw [key t ht _ _ (by rw [Nat.and_comm, ← Nat.and_assoc, Nat.and_self]), key u hu _ _ (by rw [Nat.and_assoc, Nat.and_self])]
theorem joint_no (l : List Table) (hl : l.length ≤ 8) (ok : ∀ t, t ∈ l → SP.Ok t) (h : agree 5 l = false) : solvable 5 l = false := by
  cases e : solvable 5 l with
  | false => rfl
  | true =>
    have := (solvable_iff l hl (fun t ht => (ok t ht).hi)).mp e
    rw [joint_agree l ok ((jointQ_iff 5 l).mpr this)] at h
    cases h
theorem joint_yes (l : List Table) (hl : l.length ≤ 8) (ok : ∀ t, t ∈ l → SP.Ok t) (h : agree 5 l = true) (L : List (Nat × Nat)) (hL : TotOk l L) : solvable 5 l = true ↔ Feas L.length 32 (eqs L) := by
  rw [solvable_iff l hl (fun t ht => (ok t ht).hi), feas_joint l ok h L hL, jointQ_iff]
theorem TotOk.len {l : List Table} {L : List (Nat × Nat)} (h : TotOk l L) : L.length ≤ 32 := by
  have := SP.nd_sub (L.map (·.1)) (List.range 32) h.nd (by
    intro a ha
    obtain ⟨p, hp, rfl⟩ := List.mem_map.mp ha
    obtain ⟨t, _, _, hlt, _⟩ := h.of p.1 p.2 hp
    exact List.mem_range.mpr hlt)
  simpa using this
end EQ
end
section
namespace AT
open PySem PySem.Spec PyProof.Rows L2
theorem ixK (K' : PySem.W.Frag) {X : Cx} (hK : X.K = K') : IxR X (rIxL K') := by
  subst hK
  exact ix_list
theorem pe_fldK (K' : PySem.W.Frag) {X : Cx} {e : Expr} {f : Str} {pos : Pos} {ta : TE} (hK : X.K = K') (he : PE X e ta) (hb : attributeBase e f X.env (eval e X.env) = eval e X.env) : PE X (.Attribute e f pos) (tFld K' ta f) := by
  subst hK
  exact pe_fld he hb
structure RowsAt (H : Hp) (as : List Addr) (rows : List (List Int)) : Prop where
  len : as.length = rows.length
  at_ : ∀ i a, as[i]? = some a → H a = some (.lst (vZ (rows.getD i [])))
theorem RowsAt.same {H H' : Hp} {as : List Addr} {rows : List (List Int)} (h : RowsAt H as rows) (s : Same H H') : RowsAt H' as rows := ⟨h.len, fun i a e => s _ _ (h.at_ i a e)⟩
theorem refs_get {as : List Addr} {i : Nat} {v : V} (h : (as.map V.ref)[i]? = some v) : ∃ a, as[i]? = some a ∧ v = .ref a := by
  rw [List.getElem?_map] at h
  cases e : as[i]? with
  | none =>
    rw [e] at h
    cases h
  | some a =>
    rw [e] at h
    exact ⟨a, rfl, (Option.some.inj h).symm⟩
theorem RowsAt.get {H : Hp} {as : List Addr} {rows : List (List Int)} (h : RowsAt H as rows) {i : Nat} (hi : i < rows.length) : ∃ a, as[i]? = some a ∧ (as.map V.ref)[i]? = some (.ref a) ∧ H a = some (.lst (vZ (rows.getD i []))) := by
  have hl : i < as.length := by rw [h.len]; exact hi
  refine ⟨as[i], List.getElem?_eq_getElem hl, ?_, h.at_ i _ (List.getElem?_eq_getElem hl)⟩
  rw [List.getElem?_map, List.getElem?_eq_getElem hl]
  all_goals rfl
theorem vZ_get {r : List Int} {j : Nat} (h : j < r.length) : (vZ r)[j]? = some (.int (r.getD j 0)) := by
  rw [List.getD_eq_getElem?_getD, List.getElem?_eq_getElem h]
  exact vZ_at (List.getElem?_eq_getElem h)
theorem vN_get {r : List Nat} {j : Nat} (h : j < r.length) : (vN r)[j]? = some (.int (r.getD j 0 : Nat)) := by
  rw [List.getD_eq_getElem?_getD, List.getElem?_eq_getElem h]
  exact vN_at (List.getElem?_eq_getElem h)
abbrev sColSum : Stmt := top 1
abbrev sSearch : Stmt := top 2
abbrev sSInit : Stmt := inClass sSearch 0
abbrev sIsDone : Stmt := inClass sSearch 1
abbrev sHelpful : Stmt := inClass sSearch 2
abbrev sIsTighter : Stmt := inClass sSearch 3
abbrev sTightest : Stmt := inClass sSearch 4
abbrev sCleared : Stmt := inClass sSearch 5
abbrev sFill : Stmt := inClass sSearch 6
abbrev sCanBeMet : Stmt := top 3
def colSum (rows : List (List Int)) (j : Nat) : Int := (rows.map fun r => r.getD j 0).sum
def spColSum : Sp := fun vs H Q _ => ∃ (a : Addr) (as : List Addr) (rows : List (List Int)) (j : Nat), vs = [.ref a, .int (j : Nat)] ∧ H a = some (.lst (as.map V.ref)) ∧ RowsAt H as rows ∧ rows.length ≤ 1000 ∧ (∀ i, i < rows.length → j < (rows.getD i []).length) ∧
  ∀ H' : Hp, Same H H' → Q (.int (colSum rows j)) H'
def sf (n : Nat) (rw_ lk fl : Addr) (D : Int) : List (Str × V) := putF "divisor" (.int D) (putF "filling" (.ref fl) (putF "lacking" (.ref lk) (putF "rows" (.ref rw_) (putF "unknowns" (.int (n : Nat)) []))))
theorem sf_unknowns (n : Nat) (rw_ lk fl : Addr) (D : Int) : (sf n rw_ lk fl D).lookup ("unknowns" : Str) = some (.int (n : Nat)) := rfl
theorem sf_rows (n : Nat) (rw_ lk fl : Addr) (D : Int) : (sf n rw_ lk fl D).lookup ("rows" : Str) = some (.ref rw_) := rfl
theorem sf_lacking (n : Nat) (rw_ lk fl : Addr) (D : Int) : (sf n rw_ lk fl D).lookup ("lacking" : Str) = some (.ref lk) := rfl
theorem sf_filling (n : Nat) (rw_ lk fl : Addr) (D : Int) : (sf n rw_ lk fl D).lookup ("filling" : Str) = some (.ref fl) := rfl
theorem sf_divisor (n : Nat) (rw_ lk fl : Addr) (D : Int) : (sf n rw_ lk fl D).lookup ("divisor" : Str) = some (.int D) := rfl
theorem sf_put_rows (n : Nat) (rw_ lk fl r' : Addr) (D : Int) : putF "rows" (.ref r') (sf n rw_ lk fl D) = sf n r' lk fl D := rfl
theorem sf_put_lacking (n : Nat) (rw_ lk fl l' : Addr) (D : Int) : putF "lacking" (.ref l') (sf n rw_ lk fl D) = sf n rw_ l' fl D := rfl
theorem sf_put_divisor (n : Nat) (rw_ lk fl : Addr) (D D' : Int) : putF "divisor" (.int D') (sf n rw_ lk fl D) = sf n rw_ lk fl D' := rfl
theorem sf_no (n : Nat) (rw_ lk fl : Addr) (D : Int) {x : Str} (h1 : ¬ x = "unknowns") (h2 : ¬ x = "rows") (h3 : ¬ x = "lacking") (h4 : ¬ x = "filling") (h5 : ¬ x = "divisor") : (sf n rw_ lk fl D).lookup x = none := by
  unfold sf
  rw [lookup_putF, if_neg h5, lookup_putF, if_neg h4, lookup_putF, if_neg h3, lookup_putF, if_neg h2, lookup_putF, if_neg h1]
  all_goals rfl
def SeAt (CS : Addr) (H : Hp) (p fl : Addr) (n : Nat) (rows : List (List Int)) (lack : List Int) (fill : List Nat) (D : Int) : Prop :=
  ∃ (dx rw_ lk : Addr) (as : List Addr), H p = some (.ins CS dx (sf n rw_ lk fl D)) ∧ H rw_ = some (.lst (as.map V.ref)) ∧ RowsAt H as rows ∧ H lk = some (.lst (vZ lack)) ∧ H fl = some (.lst (vN fill)) ∧ fl ≠ rw_ ∧ fl ≠ lk ∧ ∀ (i : Nat) (a : Addr), as[i]? = some a → a ≠ fl
theorem SeAt.same {CS : Addr} {H H' : Hp} {p fl : Addr} {n : Nat} {rows : List (List Int)} {lack : List Int} {fill : List Nat} {D : Int} (h : SeAt CS H p fl n rows lack fill D) (s : Same H H') : SeAt CS H' p fl n rows lack fill D := by
  obtain ⟨dx, rw_, lk, as, h1, h2, h3, h4, h5, h6, h7, h8⟩ := h
  exact ⟨dx, rw_, lk, as, s _ _ h1, s _ _ h2, h3.same s, s _ _ h4, s _ _ h5, h6, h7, h8⟩
structure Dim (n m : Nat) (rows : List (List Int)) (lack : List Int) (fill : List Nat) : Prop where
  rm : rows.length = m
  fl : fill.length = m
  ll : lack.length = n + 1
  rl : ∀ i, i < m → (rows.getD i []).length = n + 1
  n1000 : n ≤ 900
  m1000 : m ≤ 900
def Lex (n s : Nat) (rows : List (List Int)) (fill : List Nat) (p i : Nat) : Prop := EQ.at2 rows p n * EQ.at2 rows i s < EQ.at2 rows i n * EQ.at2 rows p s ∨ (EQ.at2 rows p n * EQ.at2 rows i s = EQ.at2 rows i n * EQ.at2 rows p s ∧ fill.getD p 0 ≤ fill.getD i 0)
def Tighter (n s : Nat) (rows : List (List Int)) (fill : List Nat) (i o : Nat) : Bool := if EQ.at2 rows i n * EQ.at2 rows o s = EQ.at2 rows o n * EQ.at2 rows i s then decide (fill.getD i 0 < fill.getD o 0) else decide (EQ.at2 rows i n * EQ.at2 rows o s < EQ.at2 rows o n * EQ.at2 rows i s)
def spSInit (CS : Addr) : Sp := fun vs H Q _ => ∃ (p dx a : Addr) (as : List Addr) (rows : List (List Int)) (n : Nat), vs = [.ref p, .ref a] ∧ H p = some (.ins CS dx []) ∧ H a = some (.lst (as.map V.ref)) ∧ RowsAt H as rows ∧ 1 ≤ rows.length ∧ rows.length ≤ 900 ∧ n ≤ 900 ∧ (∀ i, i < rows.length → (rows.getD i []).length = n + 1) ∧
  ∀ (H' : Hp) (fl : Addr), SeAt CS H' p fl n rows ((List.range (n + 1)).map (colSum rows)) ((List.range rows.length).map fun i => n + i) 1 → H fl = none → (∀ b o, H b = some o → b ≠ p → H' b = some o) → Q .non H'
def spIsDone (CS : Addr) : Sp := fun vs H Q _ => ∃ (p fl : Addr) (n m : Nat) (rows : List (List Int)) (lack : List Int) (fill : List Nat) (D : Int), vs = [.ref p] ∧ SeAt CS H p fl n rows lack fill D ∧ Dim n m rows lack fill ∧ Q (.bl (decide (lack.getD n 0 = 0))) H
def spHelpful (CS : Addr) : Sp := fun vs H Q _ => ∃ (p fl : Addr) (n m : Nat) (rows : List (List Int)) (lack : List Int) (fill : List Nat) (D : Int), vs = [.ref p] ∧ SeAt CS H p fl n rows lack fill D ∧ Dim n m rows lack fill ∧
  (∀ s : Nat, s < n → 0 < lack.getD s 0 → (∀ j, j < s → lack.getD j 0 ≤ 0) → Q (.int (s : Nat)) H) ∧ ((∀ j, j < n → lack.getD j 0 ≤ 0) → Q .non H)
def FineAll (n m : Nat) (rows : List (List Int)) : Prop := ∀ i j, i < m → j < n + 1 → Fine (EQ.at2 rows i j)
def spIsTighter (CS : Addr) : Sp := fun vs H Q _ => ∃ (p fl : Addr) (n m : Nat) (rows : List (List Int)) (lack : List Int) (fill : List Nat) (D : Int) (i o s : Nat), vs = [.ref p, .int (i : Nat), .int (o : Nat), .int (s : Nat)] ∧ SeAt CS H p fl n rows lack fill D ∧ Dim n m rows lack fill ∧ FineAll n m rows ∧ i < m ∧ o < m ∧ s < n ∧
  Q (.bl (Tighter n s rows fill i o)) H
def spTightest (CS : Addr) : Sp := fun vs H Q _ => ∃ (p fl : Addr) (n m : Nat) (rows : List (List Int)) (lack : List Int) (fill : List Nat) (D : Int) (s : Nat), vs = [.ref p, .int (s : Nat)] ∧ SeAt CS H p fl n rows lack fill D ∧ Dim n m rows lack fill ∧ FineAll n m rows ∧ s < n ∧ (∃ i, i < m ∧ 0 < EQ.at2 rows i s) ∧
  ∀ (H' : Hp) (r : Nat), Same H H' → r < m → 0 < EQ.at2 rows r s → (∀ i, i < m → 0 < EQ.at2 rows i s → Lex n s rows fill r i) → Q (.int (r : Nat)) H'
def spCleared (CS : Addr) : Sp := fun vs H Q _ => ∃ (p fl : Addr) (n : Nat) (rows : List (List Int)) (lack : List Int) (fill : List Nat) (D : Int) (a b : Addr) (row by_ : List Int) (s : Nat), vs = [.ref p, .ref a, .ref b, .int (s : Nat)] ∧ SeAt CS H p fl n rows lack fill D ∧ H a = some (.lst (vZ row)) ∧ H b = some (.lst (vZ by_)) ∧ 0 < D ∧ Fine D ∧
  row.length = by_.length ∧ row.length ≤ 1000 ∧ s < row.length ∧ (∀ j, j < row.length → Fine (row.getD j 0)) ∧ (∀ j, j < by_.length → Fine (by_.getD j 0)) ∧
  ∀ (H' : Hp) (r : Addr), Same H H' → H r = none → H' r = some (.lst (vZ (EQ.clr row by_ s D))) → Q (.ref r) H'
def spFill (CS : Addr) : Sp := fun vs H Q _ => ∃ (p fl : Addr) (n m : Nat) (rows : List (List Int)) (lack : List Int) (fill : List Nat) (D : Int) (r s : Nat), vs = [.ref p, .int (r : Nat), .int (s : Nat)] ∧ SeAt CS H p fl n rows lack fill D ∧ Dim n m rows lack fill ∧ FineAll n m rows ∧ (∀ j, j < n + 1 → Fine (lack.getD j 0)) ∧ 0 < D ∧ Fine D ∧ r < m ∧ s < n ∧
  ∀ H' : Hp, SeAt CS H' p fl n (EQ.newRows rows r s D) (EQ.clr lack (rows.getD r []) s D) (fill.set r s) (EQ.at2 rows r s) → (∀ b o, H b = some o → b ≠ p → b ≠ fl → H' b = some o) → Q .non H'
section
variable {P : Program} {w : World} {K : PySem.W.Frag} {mg : Str → Option Value} {base : Heap} {CS CT CA : Addr}
theorem scColSum : FnScope ["rows", "column", "row"] ["rows", "column"] (defScope sColSum) := ⟨rfl, rfl, rfl, by decide +kernel, rfl, by decide +kernel, by decide +kernel⟩
theorem ok_colSum {f : Addr} {fd : FuncData} (F : Fun K "column_sum" "column_sum" sColSum f fd) (T : Txt K mg CS CT CA) : FnOk P w K mg base CX0 1 f fd ["rows", "column"] spColSum := by
  refine F.ok scColSum (fun vs H Q E h => ?_) (fun cdv A outer s H vs Q E hr h => ?_)
  · obtain ⟨a, as, rows, j, rfl, _⟩ := h
    rfl
  · obtain ⟨a, as, rows, j, rfl, ha, hR, hl, hj, k⟩ := h
    refine ⟨_, pss_one (ps_ret (pe_callB (cr_sum rfl) rfl T.b.sum bt_sum (pa_cons (pe_lc (own := [("row", 2)]) rfl scColSum.nd (pi_list (pv 0)) (blkOk_by rfl) (fun s H C cl fp => pg_name (i := 2) scColSum.nd rfl (Or.inl rfl)) (fun s H C cl fp => pts_nil)
      (fun s H C cl fp => pe_ix (ixK K rfl) (pv 2) (pv 1) (fun _ _ => rfl))) pa_nil))), ?_⟩
    refine ⟨_, rfl, a, rfl, ⟨_, SqL.of ha⟩, fun D hD => ?_⟩
    refine lcL (xs := as.map V.ref) (by rw [List.length_map, hR.len]; exact small hl) (fun i => vZ ((rows.take i).map fun r => r.getD j 0)) rfl (fun i _ => by rw [vZ_len, List.length_map, List.length_take]; omega) hD (SqL.of ha) (fun i x H2 hx hS2 Y N kY kN => ?_) (fun H2 hS2 hD2 => ?_)
    · obtain ⟨b, hb, rfl⟩ := refs_get hx
      have hi : i < rows.length := by rw [← hR.len]; exact (List.getElem?_eq_some_iff.mp hb).1
      refine ⟨rfl, tyes ⟨_, rfl, _, rfl, b, _, _, _, rfl, rfl, SqL.of (hS2 _ _ (hR.at_ i b hb)), atI_nat (vZ_get (hj i hi)), kY _ _ (Same.refl _) ?_⟩⟩
      dsimp only
      have e : rows[i]? = some (rows.getD i []) := by rw [List.getD_eq_getElem?_getD, List.getElem?_eq_getElem hi]; rfl
      rw [map_take _ rows e]
      unfold vZ
      rw [List.map_append]
      rfl
    · rw [List.length_map, hR.len, List.take_length] at hD2
      exact ⟨D, _, rfl, SqL.of hD2, k _ hS2⟩
theorem scIsDone : FnScope ["self"] ["self"] (defScope sIsDone) := ⟨rfl, rfl, rfl, by decide +kernel, rfl, by decide +kernel, by decide +kernel⟩
theorem ok_isDone {f : Addr} {fd : FuncData} (F : Fun K "is_done" "Search.is_done" sIsDone f fd) (T : Txt K mg CS CT CA) : FnOk P w K mg base CX0 1 f fd ["self"] (spIsDone CS) := by
  refine F.ok scIsDone (fun vs H Q E h => ?_) (fun cdv A outer s H vs Q E hr h => ?_)
  · obtain ⟨p, fl, n, m, rows, lack, fill, D, rfl, _⟩ := h
    rfl
  · obtain ⟨p, fl, n, m, rows, lack, fill, D, rfl, ⟨dx, rw_, lk, as, h1, h2, h3, h4, h5, h6⟩, dim, k⟩ := h
    refine ⟨_, pss_one (ps_ret (pe_cmpR op_eq (pe_ix ix_list (pe_fld (pv 0) rfl) (pe_fld (pv 0) rfl) (fun _ _ => rfl)) pe_int (nomark _))), ?_⟩
    refine ⟨_, rfl, p, CS, dx, _, _, rfl, h1, T.s, T.sL, sf_lacking _ _ _ _ _, _, rfl, p, CS, dx, _, _, rfl, h1, T.s, T.sU, sf_unknowns _ _ _ _ _, lk, _, _, _, rfl, rfl, SqL.of h4, atI_nat (vZ_get (by rw [dim.ll]; omega)), rfl, ?_⟩
    have e : decide (V.int (lack.getD n 0) = V.int 0) = decide (lack.getD n 0 = 0) := by simp only [V.int.injEq]
    show Q (.bl _) H
    rw [e]
    exact k
theorem scHelpful : FnScope ["self", "column"] ["self"] (defScope sHelpful) := ⟨rfl, rfl, rfl, by decide +kernel, rfl, by decide +kernel, by decide +kernel⟩
theorem ok_helpful {f : Addr} {fd : FuncData} (F : Fun K "helpful_column" "Search.helpful_column" sHelpful f fd) (T : Txt K mg CS CT CA) : FnOk P w K mg base CX0 1 f fd ["self"] (spHelpful CS) := by
  refine F.ok scHelpful (fun vs H Q E h => ?_) (fun cdv A outer s H vs Q E hr h => ?_)
  · obtain ⟨p, fl, n, m, rows, lack, fill, D, rfl, _⟩ := h
    rfl
  · obtain ⟨p, fl, n, m, rows, lack, fill, D, rfl, ⟨dx, rw_, lk, as, h1, h2, h3, h4, h5, h6⟩, dim, k1, k2⟩ := h
    refine ⟨_, pss_cons (ps_for PassesOwn.never rfl (pi_range1 rfl T.b.range (pa_cons (pe_fld (pv 0) rfl) pa_nil)) (pg_name (i := 1) scHelpful.nd rfl (Or.inl rfl))
      (pss_one (ps_if (pt_cmpR op_gt (pe_ix ix_list (pe_fld (pv 0) rfl) (pv 1) (fun _ _ => rfl)) pe_int (nomark _)) (pss_one (ps_ret (pv 1))) pss_nil))) (pss_one (ps_ret pe_non)), ?_⟩
    have hn := dim.n1000
    refine ⟨_, rfl, p, CS, dx, _, _, rfl, h1, T.s, T.sU, sf_unknowns _ _ _ _ _, (n : Int), rfl, by omega, by omega, ?_⟩
    rw [Int.toNat_natCast]
    refine for_range (n := n) (fun i σ H' => ∃ v, σ = [some (.ref p), v] ∧ H' = H ∧ ∀ j, j < i → lack.getD j 0 ≤ 0) ⟨none, rfl, rfl, fun j hj => by omega⟩ (fun i σ H' hi ⟨v, e, e', hz⟩ => ?_) (fun σ H' ⟨v, e, e', hz⟩ => ?_)
    · subst e e'
      rw [Int.zero_add]
      refine ⟨_, rfl, p, CS, dx, _, _, rfl, h1, T.s, T.sL, sf_lacking _ _ _ _ _, _, rfl, lk, _, _, _, rfl, rfl, SqL.of h4, atI_nat (vZ_get (by rw [dim.ll]; omega)), _, _, rfl, rfl, _, rfl, ?_⟩
      by_cases hc : 0 < lack.getD i 0
      · rw [decide_eq_true hc]
        refine iteT ⟨_, rfl, ?_⟩
        exact k1 i hi hc hz
      · rw [decide_eq_false hc]
        refine iteF ⟨_, rfl, rfl, fun j hj => ?_⟩
        by_cases e : j = i
        · subst e
          omega
        · exact hz j (by omega)
    · subst e e'
      exact k2 hz
end
end AT
end
section
namespace AT
open PySem PySem.Spec PyProof.Rows L2
section
variable {P : Program} {w : World} {K : PySem.W.Frag} {mg : Str → Option Value} {base : Heap} {CS CT CA : Addr}
theorem scSInit : FnScope ["self", "rows", "column", "i"] ["self", "rows"] (defScope sSInit) := ⟨rfl, rfl, rfl, by decide +kernel, rfl, by decide +kernel, by decide +kernel⟩
theorem ok_sInit {f f1 : Addr} {fd fd1 : FuncData} (F : Fun K "__init__" "Search.__init__" sSInit f fd) (T : Txt K mg CS CT CA) (GS : GF P w K mg base 1 "column_sum" f1 fd1 ["rows", "column"] spColSum) : FnOk P w K mg base CX0 2 f fd ["self", "rows"] (spSInit CS) := by
  refine F.ok scSInit (fun vs H Q E h => ?_) (fun cdv A outer s H vs Q E hr h => ?_)
  · obtain ⟨p, dx, a, as, rows, n, rfl, _⟩ := h
    rfl
  · obtain ⟨p, dx, a, as, rows, n, rfl, hp, ha, hR, h1, h900, hn, hrl, k⟩ := h
    refine ⟨_, pss_cons (ps_fld (pv 0) (pe_op op_sub (pe_callB call_len_seq rfl T.b.len bt_len (pa_cons (pe_ix ix_list (pv 1) pe_int (fun _ _ => rfl)) pa_nil)) pe_int) rfl)
      (pss_cons (ps_fld (pv 0) (pe_callTy call_list_of rfl T.b.list bt_list (pa_cons (pv 1) pa_nil)) rfl)
      (pss_cons (ps_fld (pv 0) (pe_lc (own := [("column", 2)]) rfl scSInit.nd (pi_range1 rfl T.b.range (pa_cons (pe_op op_add (pe_fld (pv 0) rfl) pe_int) pa_nil)) (blkOk_by rfl) (fun s H C cl fp => pg_name (i := 2) scSInit.nd rfl (Or.inl rfl)) (fun s H C cl fp => pts_nil)
        (fun s H C cl fp => pe_call GS.ok hr rfl GS.at_ GS.kp GS.b .nil pass0 (pa_cons (pv 1) (pa_cons (pv 2) pa_nil)))) rfl)
      (pss_cons (ps_fld (pv 0) (pe_lc (own := [("i", 3)]) rfl scSInit.nd (pi_range1 rfl T.b.range (pa_cons (pe_callB call_len_seq rfl T.b.len bt_len (pa_cons (pv 1) pa_nil)) pa_nil)) (blkOk_by rfl) (fun s H C cl fp => pg_name (i := 3) scSInit.nd rfl (Or.inl rfl)) (fun s H C cl fp => pts_nil)
        (fun s H C cl fp => pe_op op_add (pe_fldK K rfl (pv 0) rfl) (pv 3))) rfl)
      (pss_one (ps_fld (pv 0) pe_int rfl))))), ?_⟩
    -- unknowns
    obtain ⟨a0, ha0, ha0', hH0⟩ := hR.get (i := 0) (by omega)
    have nap : a ≠ p := ne_of ha hp (by intro z; cases z)
    refine ⟨_, rfl, a, _, _, _, rfl, rfl, SqL.of ha, atI_nat (j := 0) ha0', a0, _, rfl, .inl (SqL.of hH0), _, _, rfl, rfl, _, rfl, p, CS, dx, [], rfl, hp, T.s, T.sU, (by show 0 < 1000; decide), ?_⟩
    have en : (((vZ (rows.getD 0 [])).length : Nat) : Int) - 1 = (n : Int) := by
      rw [vZ_len, hrl 0 (by omega)]
      omega
    rw [show ((fun i j : Int => V.int (i - j)) (((vZ (rows.getD 0 [])).length : Nat) : Int) 1) = V.int (n : Int) from congrArg V.int en]
    -- rows
    have ha1 : (upd H p (.ins CS dx (putF "unknowns" (.int (n : Nat)) []))) a = some (.lst (as.map V.ref)) := by rw [upd_ne nap]; exact ha
    refine ⟨_, rfl, a, _, rfl, .inl (SqL.of ha1), fun rw_ hrw => ?_⟩
    have nprw : p ≠ rw_ := by
      intro z
      subst z
      rw [upd_same] at hrw
      cases hrw
    have hrw0 : H rw_ = none := by rw [upd_ne (Ne.symm nprw)] at hrw; exact hrw
    refine ⟨_, rfl, p, CS, dx, _, rfl, (by rw [upd_ne nprw]; exact upd_same), T.s, T.sR, (by show 1 < 1000; decide), ?_⟩
    -- the heap so far: what was there but p
    generalize hH2 : upd (upd (upd H p (.ins CS dx (putF "unknowns" (.int (n : Nat)) []))) rw_ (.lst (as.map V.ref))) p (.ins CS dx (putF "rows" (.ref rw_) (putF "unknowns" (.int (n : Nat)) []))) = H2
    have p2 : H2 p = some (.ins CS dx (putF "rows" (.ref rw_) (putF "unknowns" (.int (n : Nat)) []))) := by rw [← hH2]; exact upd_same
    have rw2 : H2 rw_ = some (.lst (as.map V.ref)) := by rw [← hH2, upd_ne (Ne.symm nprw)]; exact upd_same
    have k2 : ∀ b o, H b = some o → b ≠ p → H2 b = some o := fun b o e hb => by
      rw [← hH2, upd_ne hb, upd_ne (ne_of_none e hrw0), upd_ne hb]
      exact e
    clear hH2 ha1 hrw
    have a2 : H2 a = some (.lst (as.map V.ref)) := k2 _ _ ha nap
    have R2 : RowsAt H2 as rows := ⟨hR.len, fun i b e => k2 _ _ (hR.at_ i b e) (ne_of (hR.at_ i b e) hp (by intro z; cases z))⟩
    -- lacking
    refine ⟨_, rfl, p, CS, dx, _, _, rfl, p2, T.s, T.sU, rfl, _, _, rfl, rfl, _, rfl, (by omega), (by omega), fun D hD => ?_⟩
    rw [show ((n : Int) + 1).toNat = n + 1 by omega]
    refine lcR (n := n + 1) (small (by omega)) (fun i => vZ ((List.range i).map (colSum rows))) rfl (fun i _ => by rw [vZ_len]; simp) hD (fun i H3 hi hS Y N kY kN => ?_) (fun H3 hS hD3 => ?_)
    · refine ⟨rfl, tyes ⟨_, rfl, _, rfl, a, as, rows, i, rfl, hS _ _ a2, R2.same hS, by omega, fun j hj => by rw [hrl j hj]; exact hi, fun H4 hS4 => kY _ _ hS4 ?_⟩⟩
      dsimp only
      rw [List.range_succ, List.map_append]
      unfold vZ
      rw [List.map_append]
      rfl
    · have p3 := hS _ _ p2
      refine ⟨_, rfl, p, CS, dx, _, rfl, p3, T.s, T.sL, (by show 2 < 1000; decide), ?_⟩
      have nDp : D ≠ p := (ne_of_none p2 hD).symm
      generalize hH4 : upd H3 p (.ins CS dx (putF "lacking" (.ref D) (putF "rows" (.ref rw_) (putF "unknowns" (.int (n : Nat)) [])))) = H4
      have p4 : H4 p = some (.ins CS dx (putF "lacking" (.ref D) (putF "rows" (.ref rw_) (putF "unknowns" (.int (n : Nat)) [])))) := by rw [← hH4]; exact upd_same
      have k4 : ∀ b o, H3 b = some o → b ≠ p → H4 b = some o := fun b o e hb => by rw [← hH4, upd_ne hb]; exact e
      clear hH4
      have a4 := k4 _ _ (hS _ _ a2) nap
      have D4 := k4 _ _ hD3 nDp
      -- filling
      refine ⟨_, rfl, a, _, rfl, .inl (SqL.of a4), (rows.length : Int), (by rw [List.length_map, hR.len]), (by omega), (by omega), fun fl hfl => ?_⟩
      rw [Int.toNat_natCast]
      refine lcR (n := rows.length) (small (by omega)) (fun i => vN ((List.range i).map fun j => n + j)) rfl (fun i _ => by rw [vN_len]; simp) hfl (fun i H5 hi hS5 Y N kY kN => ?_) (fun H5 hS5 hfl5 => ?_)
      · refine ⟨rfl, tyes ⟨_, rfl, p, CS, dx, _, _, rfl, hS5 _ _ p4, T.s, T.sU, rfl, _, rfl, _, _, rfl, rfl, kY _ _ (Same.refl _) ?_⟩⟩
        dsimp only
        rw [List.range_succ, List.map_append]
        unfold vN
        rw [List.map_append]
        rfl
      · have p5 := hS5 _ _ p4
        refine ⟨_, rfl, p, CS, dx, _, rfl, p5, T.s, T.sF, (by show 3 < 1000; decide), ?_⟩
        refine ⟨_, rfl, p, CS, dx, _, rfl, upd_same, T.s, T.sD, (by show 4 < 1000; decide), ?_⟩
        have nfp : fl ≠ p := (ne_of_none p4 hfl).symm
        have keep : ∀ b o, H b = some o → b ≠ p → H5 b = some o := fun b o e hb => hS5 _ _ (k4 _ _ (hS _ _ (k2 _ _ e hb)) hb)
        have rw4 := k4 _ _ (hS _ _ rw2) (Ne.symm nprw)
        have fl0 : H fl = none := by
          cases e : H fl with
          | none => rfl
          | some o =>
            have := k4 _ _ (hS _ _ (k2 _ _ e nfp)) nfp
            rw [hfl] at this
            cases this
        refine k _ fl ⟨dx, rw_, D, as, upd_same, ?_, ⟨hR.len, fun i b e => ?_⟩, ?_, ?_, ?_, ?_, fun i b e => ?_⟩ fl0 fun b o e hb => ?_
        · rw [upd_ne (Ne.symm nprw), upd_ne (Ne.symm nprw)]
          exact hS5 _ _ rw4
        · have nb : b ≠ p := ne_of (hR.at_ i b e) hp (by intro z; cases z)
          rw [upd_ne nb, upd_ne nb]
          exact keep _ _ (hR.at_ i b e) nb
        · rw [upd_ne nDp, upd_ne nDp]
          exact hS5 _ _ D4
        · rw [upd_ne nfp, upd_ne nfp]
          exact hfl5
        · exact (ne_of_none rw4 hfl).symm
        · exact (ne_of_none D4 hfl).symm
        · have nb : b ≠ p := ne_of (hR.at_ i b e) hp (by intro z; cases z)
          exact ne_of_none (hR.at_ i b e) fl0
        · rw [upd_ne hb, upd_ne hb]
          exact keep _ _ e hb
theorem scIsTighter : FnScope ["self", "i", "other", "column", "row", "against", "here", "there"] ["self", "i", "other", "column"] (defScope sIsTighter) := ⟨rfl, rfl, rfl, by decide +kernel, rfl, by decide +kernel, by decide +kernel⟩
theorem ok_isTighter {f : Addr} {fd : FuncData} (F : Fun K "is_tighter" "Search.is_tighter" sIsTighter f fd) (T : Txt K mg CS CT CA) : FnOk P w K mg base CX0 1 f fd ["self", "i", "other", "column"] (spIsTighter CS) := by
  refine F.ok scIsTighter (fun vs H Q E h => ?_) (fun cdv A outer s H vs Q E hr h => ?_)
  · obtain ⟨p, fl, n, m, rows, lack, fill, D, i, o, s, rfl, _⟩ := h
    rfl
  · obtain ⟨p, fl, n, m, rows, lack, fill, D, i, o, c, rfl, ⟨dx, rw_, lk, as, h1, h2, h3, h4, h5, h6⟩, dim, fine, hi, ho, hc, k⟩ := h
    have nd := scIsTighter.nd
    refine ⟨_, pss_cons (ps_set (i := 4) nd rfl (Or.inl rfl) (pe_ix ix_list (pe_fld (pv 0) rfl) (pv 1) (fun _ _ => rfl)))
      (pss_cons (ps_set (i := 5) nd rfl (Or.inl rfl) (pe_ix ix_list (pe_fld (pv 0) rfl) (pv 2) (fun _ _ => rfl)))
      (pss_cons (ps_set (i := 6) nd rfl (Or.inl rfl) (pe_op op_mulF (pe_ix ix_list (pv 4) (pe_fld (pv 0) rfl) (fun _ _ => rfl)) (pe_ix ix_list (pv 5) (pv 3) (fun _ _ => rfl))))
      (pss_cons (ps_set (i := 7) nd rfl (Or.inl rfl) (pe_op op_mulF (pe_ix ix_list (pv 5) (pe_fld (pv 0) rfl) (fun _ _ => rfl)) (pe_ix ix_list (pv 4) (pv 3) (fun _ _ => rfl))))
      (pss_cons (ps_if (pt_cmpR op_eq (pv 6) (pv 7) (nomark _)) (pss_one (ps_ret (pe_cmpR op_lt (pe_ix ix_list (pe_fld (pv 0) rfl) (pv 1) (fun _ _ => rfl)) (pe_ix ix_list (pe_fld (pv 0) rfl) (pv 2) (fun _ _ => rfl)) (nomark _)))) pss_nil)
      (pss_one (ps_ret (pe_cmpR op_lt (pv 6) (pv 7) (nomark _)))))))), ?_⟩
    obtain ⟨a, _, ha, hHa⟩ := h3.get (i := i) (by rw [dim.rm]; exact hi)
    obtain ⟨b, _, hb, hHb⟩ := h3.get (i := o) (by rw [dim.rm]; exact ho)
    have li : (rows.getD i []).length = n + 1 := dim.rl i hi
    have lo : (rows.getD o []).length = n + 1 := dim.rl o ho
    refine ⟨_, rfl, p, CS, dx, _, _, rfl, h1, T.s, T.sR, sf_rows _ _ _ _ _, _, rfl, rw_, _, _, _, rfl, rfl, SqL.of h2, atI_nat ha, ?_⟩
    refine ⟨_, rfl, p, CS, dx, _, _, rfl, h1, T.s, T.sR, sf_rows _ _ _ _ _, _, rfl, rw_, _, _, _, rfl, rfl, SqL.of h2, atI_nat hb, ?_⟩
    refine ⟨_, rfl, _, rfl, p, CS, dx, _, _, rfl, h1, T.s, T.sU, sf_unknowns _ _ _ _ _, a, _, _, _, rfl, rfl, SqL.of hHa, atI_nat (vZ_get (j := n) (by omega)), _, rfl, _, rfl, b, _, _, _, rfl, rfl, SqL.of hHb, atI_nat (vZ_get (j := c) (by omega)), _, _, rfl, rfl, ⟨fine i n hi (by omega), fine o c ho (by omega)⟩, ?_⟩
    refine ⟨_, rfl, _, rfl, p, CS, dx, _, _, rfl, h1, T.s, T.sU, sf_unknowns _ _ _ _ _, b, _, _, _, rfl, rfl, SqL.of hHb, atI_nat (vZ_get (j := n) (by omega)), _, rfl, _, rfl, a, _, _, _, rfl, rfl, SqL.of hHa, atI_nat (vZ_get (j := c) (by omega)), _, _, rfl, rfl, ⟨fine o n ho (by omega), fine i c hi (by omega)⟩, ?_⟩
    refine ⟨_, rfl, _, rfl, rfl, _, rfl, ?_⟩
    have e : decide (V.int (EQ.at2 rows i n * EQ.at2 rows o c) = V.int (EQ.at2 rows o n * EQ.at2 rows i c)) = decide (EQ.at2 rows i n * EQ.at2 rows o c = EQ.at2 rows o n * EQ.at2 rows i c) := by simp only [V.int.injEq]
    show if decide (V.int (EQ.at2 rows i n * EQ.at2 rows o c) = V.int (EQ.at2 rows o n * EQ.at2 rows i c)) = true then _ else _
    rw [e]
    unfold Tighter at k
    by_cases heq : EQ.at2 rows i n * EQ.at2 rows o c = EQ.at2 rows o n * EQ.at2 rows i c
    · rw [if_pos heq] at k
      rw [decide_eq_true heq]
      refine iteT ?_
      refine ⟨_, rfl, p, CS, dx, _, _, rfl, h1, T.s, T.sF, sf_filling _ _ _ _ _, _, rfl, fl, _, _, _, rfl, rfl, SqL.of h5, atI_nat (vN_get (by rw [dim.fl]; exact hi)), _, rfl, p, CS, dx, _, _, rfl, h1, T.s, T.sF, sf_filling _ _ _ _ _, _, rfl, fl, _, _, _, rfl, rfl, SqL.of h5, atI_nat (vN_get (by rw [dim.fl]; exact ho)), _, _, rfl, rfl, ?_⟩
      have e2 : decide (((fill.getD i 0 : Nat) : Int) < ((fill.getD o 0 : Nat) : Int)) = decide (fill.getD i 0 < fill.getD o 0) := by rw [decide_eq_decide]; exact Int.ofNat_lt
      show Q (.bl (decide (((fill.getD i 0 : Nat) : Int) < ((fill.getD o 0 : Nat) : Int)))) H
      rw [e2]
      exact k
    · rw [if_neg heq] at k
      rw [decide_eq_false heq]
      refine iteF ?_
      exact ⟨_, rfl, _, rfl, _, _, rfl, rfl, k⟩
end
end AT
end
section
namespace AT
open PySem PySem.Spec PyProof.Rows L2
def SameB (D : Addr) (H H' : Hp) : Prop := ∀ b o, H b = some o → b ≠ D → H' b = some o
section
variable {K : PySem.W.Frag} {g : TG} {tt : TT} {te : TE} {vs : List Nat} {σ : L2.St} {H1 : Hp} {D : Addr} {Qd : Hp → Prop}
theorem lc_inv {J : It} (n : Nat) (hn : n < sizeLine) (hD : H1 D = none) (Iv : Nat → List V → Hp → Prop) (mono : ∀ i acc H H', SameB D H H' → Iv i acc H → Iv i acc H') (h0 : Iv 0 [] H1)
    (hgo : ∀ i H, i < n → Same H1 H → J.go i H) (hstop : ∀ H, Same H1 H → J.stop n H)
    (hy : ∀ i H x H' acc, i < n → Same H1 H → J.yld i H x H' → H D = some (.lst acc) → Iv i acc H → Same H H' ∧ ∀ Y : V → Hp → Prop, (∀ y H4, Same H' H4 → Iv (i + 1) (acc ++ [y]) H4 → Y y H4) → ∀ N, TurnOk g tt te vs σ x H' Y N)
    (hd : ∀ acc H, Same H1 H → H D = some (.lst acc) → Iv n acc H → Qd H) : LcW J g tt te vs σ H1 D Qd := by
  refine ⟨fun i m H => m = n - i ∧ i ≤ n ∧ Same H1 H ∧ ∃ acc, H D = some (.lst acc) ∧ acc.length = i ∧ Iv i acc H, ⟨n, by simp, Nat.zero_le _, Same.upd hD, [], upd_same, rfl, mono _ _ _ _ (fun b o e hb => by rw [upd_ne hb]; exact e) h0⟩, ?_⟩
  rintro i m H ⟨rfl, hi, hS, acc, hacc, hl, hI⟩
  by_cases hlt : i < n
  · refine .inr ⟨hgo i H hlt hS, fun H' => Same H1 H' ∧ ∃ acc, H' D = some (.lst acc) ∧ acc.length = i + 1 ∧ Iv (i + 1) acc H', fun H' p' => ⟨n - (i + 1), by omega, rfl, hlt, p'⟩, fun x H' y => ?_⟩
    obtain ⟨s1, k⟩ := hy i H x H' acc hlt hS y hacc hI
    refine k _ (fun y H4 s4 i4 => ⟨acc, s4 _ _ (s1 _ _ hacc), by omega, fun b o e => ?_, acc ++ [y], upd_same, by simp [hl], mono _ _ _ _ (fun b o e hb => by rw [upd_ne hb]; exact e) i4⟩) _
    rw [upd_ne (ne_of_none e hD)]
    exact s4 _ _ (s1 _ _ (hS _ _ e))
  · have e : i = n := by omega
    subst e
    exact .inl ⟨hstop H hS, hd acc H hS hacc hI⟩
theorem lcE2 {i j : Nat} {a : Addr} {xs : List V} (hn : xs.length < sizeLine) (hD : H1 D = none) (hq : SqL K H1 a xs) (Iv : Nat → List V → Hp → Prop) (mono : ∀ i acc H H', SameB D H H' → Iv i acc H → Iv i acc H') (h0 : Iv 0 [] H1)
    (hs : ∀ n x H acc, xs[n]? = some x → Same H1 H → H D = some (.lst acc) → Iv n acc H → ∀ Y : V → Hp → Prop, (∀ y H4, Same H H4 → Iv (n + 1) (acc ++ [y]) H4 → Y y H4) → ∀ N, TurnOk2 i j tt te vs σ (.int (n : Nat)) x H Y N)
    (hd : ∀ acc H, Same H1 H → H D = some (.lst acc) → Iv xs.length acc H → Qd H) : LcW (Ite K a) (g2 K i j) tt te vs σ H1 D Qd := by
  refine lc_inv xs.length hn hD Iv mono h0 (fun n H hi hS => ⟨xs, xs[n], hS.seq hq, by simp [hi]⟩) (fun H hS => ⟨xs, hS.seq hq, Nat.le_refl _⟩) (fun n H x H' acc hi hS y hacc hI => ?_) hd
  obtain ⟨T, x, e2, e3, e4, e5⟩ := y
  subst e2 e4
  refine ⟨Same.upd e3, fun Y kY N => g2_at upd_same (hs n x _ acc (e5 xs (hS.seq hq)) (Same.upd2 hS e3) (Same.upd e3 _ _ hacc) (mono _ _ _ _ (fun b o e _ => Same.upd e3 _ _ e) hI) Y kY N)⟩
theorem lcI2 {i j : Nat} {d : Addr} {o : Obj} {kvs : List (Key × V)} (hn : kvs.length < sizeLine) (hD : H1 D = none) (hq : H1 d = some (.frz o (.dK kvs))) (Iv : Nat → List V → Hp → Prop) (mono : ∀ i acc H H', SameB D H H' → Iv i acc H → Iv i acc H') (h0 : Iv 0 [] H1)
    (hs : ∀ n k v H acc, kvs[n]? = some (k, v) → Same H1 H → H D = some (.lst acc) → Iv n acc H → ∀ Y : V → Hp → Prop, (∀ y H4, Same H H4 → Iv (n + 1) (acc ++ [y]) H4 → Y y H4) → ∀ N, TurnOk2 i j tt te vs σ (kV k) v H Y N)
    (hd : ∀ acc H, Same H1 H → H D = some (.lst acc) → Iv kvs.length acc H → Qd H) : LcW (Iti d o kvs) (g2 K i j) tt te vs σ H1 D Qd := by
  refine lc_inv kvs.length hn hD Iv mono h0 (fun n H hi hS => ⟨hS _ _ hq, hi⟩) (fun H hS => ⟨hS _ _ hq, Nat.le_refl _⟩) (fun n H x H' acc hi hS y hacc hI => ?_) hd
  obtain ⟨T, k, v, e1, e2, e3, e4⟩ := y
  subst e2 e4
  exact ⟨Same.upd e3, fun Y kY N => g2_at upd_same (hs n k v _ acc e1 (Same.upd2 hS e3) (Same.upd e3 _ _ hacc) (mono _ _ _ _ (fun b o e _ => Same.upd e3 _ _ e) hI) Y kY N)⟩
end
theorem lex_trans {n s : Nat} {rows : List (List Int)} {fill : List Nat} {p t i : Nat} (hp : 0 < EQ.at2 rows p s) (ht : 0 < EQ.at2 rows t s) (hi : 0 < EQ.at2 rows i s) (h1 : Lex n s rows fill p t) (h2 : Lex n s rows fill t i) : Lex n s rows fill p i := by
  unfold Lex at *
  generalize EQ.at2 rows p s = ap at *
  generalize EQ.at2 rows t s = at_ at *
  generalize EQ.at2 rows i s = ai at *
  generalize EQ.at2 rows p n = xp at *
  generalize EQ.at2 rows t n = xt at *
  generalize EQ.at2 rows i n = xi at *
  have c1 : xp * at_ * ai = xp * ai * at_ := by rw [Int.mul_assoc, Int.mul_comm at_ ai, ← Int.mul_assoc]
  have c2 : xt * ap * ai = xt * ai * ap := by rw [Int.mul_assoc, Int.mul_comm ap ai, ← Int.mul_assoc]
  have c3 : xi * at_ * ap = xi * ap * at_ := by rw [Int.mul_assoc, Int.mul_comm at_ ap, ← Int.mul_assoc]
  rcases h1 with h1 | ⟨h1, f1⟩
  · have d1 := Int.mul_lt_mul_of_pos_right h1 hi
    have d2 : xt * ai * ap ≤ xi * at_ * ap := by
      rcases h2 with h2 | ⟨h2, _⟩
      · exact Int.le_of_lt (Int.mul_lt_mul_of_pos_right h2 hp)
      · rw [h2]; exact Int.le_refl _
    left
    apply Int.lt_of_mul_lt_mul_right (a := at_) _ (Int.le_of_lt ht)
    rw [← c1, ← c3]
    rw [c2] at d1
    exact Int.lt_of_lt_of_le d1 d2
  · rcases h2 with h2 | ⟨h2, f2⟩
    · left
      have d2 := Int.mul_lt_mul_of_pos_right h2 hp
      apply Int.lt_of_mul_lt_mul_right (a := at_) _ (Int.le_of_lt ht)
      rw [← c1, ← c3, h1, c2]
      exact d2
    · right
      refine ⟨?_, Nat.le_trans f1 f2⟩
      apply Int.eq_of_mul_eq_mul_right (a := at_) (by omega)
      rw [← c1, ← c3, h1, c2, h2]
theorem lex_of {n s : Nat} {rows : List (List Int)} {fill : List Nat} {i t : Nat} (h : Tighter n s rows fill i t = true) : Lex n s rows fill i t := by
  unfold Tighter at h
  unfold Lex
  by_cases e : EQ.at2 rows i n * EQ.at2 rows t s = EQ.at2 rows t n * EQ.at2 rows i s
  · rw [if_pos e] at h
    exact .inr ⟨e, Nat.le_of_lt (of_decide_eq_true h)⟩
  · rw [if_neg e] at h
    exact .inl (of_decide_eq_true h)
theorem lex_not {n s : Nat} {rows : List (List Int)} {fill : List Nat} {i t : Nat} (h : Tighter n s rows fill i t = false) : Lex n s rows fill t i := by
  unfold Tighter at h
  unfold Lex
  by_cases e : EQ.at2 rows i n * EQ.at2 rows t s = EQ.at2 rows t n * EQ.at2 rows i s
  · rw [if_pos e] at h
    have := of_decide_eq_false h
    exact .inr ⟨e.symm, by omega⟩
  · rw [if_neg e] at h
    have := of_decide_eq_false h
    exact .inl (by omega)
theorem lex_refl {n s : Nat} {rows : List (List Int)} {fill : List Nat} {i : Nat} : Lex n s rows fill i i := .inr ⟨rfl, Nat.le_refl _⟩
section
variable {P : Program} {w : World} {K : PySem.W.Frag} {mg : Str → Option Value} {base : Heap} {CS CT CA : Addr}
theorem scTightest : FnScope ["self", "column", "tightest", "i", "row"] ["self", "column"] (defScope sTightest) := ⟨rfl, rfl, rfl, by decide +kernel, rfl, by decide +kernel, by decide +kernel⟩
theorem ok_tightest {f f1 : Addr} {fd fd1 : FuncData} (F : Fun K "tightest_row" "Search.tightest_row" sTightest f fd) (T : Txt K mg CS CT CA) (MT : MF P w K mg base 1 CS "is_tighter" f1 fd1 ["self", "i", "other", "column"] (spIsTighter CS)) : FnOk P w K mg base CX0 2 f fd ["self", "column"] (spTightest CS) := by
  refine F.ok scTightest (fun vs H Q E h => ?_) (fun cdv A outer s H vs Q E hr h => ?_)
  · obtain ⟨p, fl, n, m, rows, lack, fill, D, s, rfl, _⟩ := h
    rfl
  · obtain ⟨p, fl, n, m, rows, lack, fill, D, c, rfl, hSe, dim, fine, hc, hex, k⟩ := h
    obtain ⟨dx, rw_, lk, as, h1, h2, h3, h4, h5, h6⟩ := id hSe
    have nd := scTightest.nd
    refine ⟨_, pss_cons (ps_set (i := 2) nd rfl (Or.inl rfl) pe_non)
      (pss_cons (ps_for PassesOwn.never rfl (pi_enum rfl T.b.enumerate (pa_cons (pe_fld (pv 0) rfl) pa_nil)) (pg2 K (i := 3) (j := 4) rfl rfl nd rfl (Or.inl rfl) (Or.inl rfl) rfl (Or.inl rfl) (Or.inl rfl))
        (pss_one (ps_if (PW.pt (pw_and (pt_cmpR op_gt (pe_ix ix_list (pv 4) (pv 1) (fun _ _ => rfl)) pe_int (nomark _)) (pw_and1 (PW.pt (pw_or (pt_cmp (pc_isN (pv 2))) (pw_or1 (pt_val (pe_meth (pv 0) T.s MT.mt MT.ok hr MT.b .nil pass0 (pa_cons (pv 3) (pa_cons (pv 2) (pa_cons (pv 1) pa_nil)))))))))))
          (pss_one (ps_set (i := 2) nd rfl (Or.inl rfl) (pv 3))) pss_nil)))
      (pss_one (ps_ret (pv 2)))), ?_⟩
    refine ⟨_, rfl, p, CS, dx, _, _, rfl, h1, T.s, T.sR, sf_rows _ _ _ _ _, rw_, _, rfl, SqL.of h2, ?_⟩
    have hlen : (as.map V.ref).length = m := by rw [List.length_map, h3.len, dim.rm]
    refine forE (fun q σ H' => ∃ (tv : V) (v3 v4 : Option V), σ = [some (.ref p), some (.int (c : Nat)), some tv, v3, v4] ∧ Same H H' ∧ ((tv = .non ∧ ∀ i, i < q → ¬ 0 < EQ.at2 rows i c) ∨ ∃ r : Nat, tv = .int (r : Nat) ∧ r < m ∧ 0 < EQ.at2 rows r c ∧ ∀ i, i < q → 0 < EQ.at2 rows i c → Lex n c rows fill r i))
      ⟨.non, none, none, rfl, Same.refl _, .inl ⟨rfl, fun i hi => by omega⟩⟩ (fun q σ H' _ ⟨_, _, _, _, hS, _⟩ => SqL.of (hS _ _ h2)) (fun q x σ H' Tt hx hT ⟨tv, v3, v4, e, hS, hi⟩ => ?_) (fun σ H' ⟨tv, v3, v4, e, hS, hi⟩ => ?_)
    · subst e
      obtain ⟨a, ha, rfl⟩ := refs_get hx
      have hq : q < m := by rw [← hlen]; exact (List.getElem?_eq_some_iff.mp hx).1
      have hS' : Same H (upd H' Tt (.tup [.int (q : Nat), .ref a])) := Same.upd2 hS hT
      refine ⟨_, rfl, _, rfl, a, _, _, _, rfl, rfl, SqL.of (hS' _ _ (h3.at_ q a ha)), atI_nat (vZ_get (j := c) (by rw [dim.rl q hq]; omega)), _, _, rfl, rfl, _, rfl, ?_⟩
      have nxt : ∀ i, i < q + 1 → i = q ∨ i < q := fun i hi => by omega
      by_cases hpos : 0 < EQ.at2 rows q c
      · show if decide (0 < EQ.at2 rows q c) = true then _ else _
        rw [decide_eq_true hpos]
        refine iteT ?_
        rcases hi with ⟨rfl, hno⟩ | ⟨r, rfl, hr', hrp, hrl⟩
        · refine ⟨_, rfl, _, rfl, ?_⟩
          refine iteT (iteT ⟨_, rfl, _, _, _, rfl, hS', .inr ⟨q, rfl, hq, hpos, fun i hi hip => ?_⟩⟩)
          rcases nxt i hi with e | e
          · subst e
            exact lex_refl
          · exact absurd hip (hno i e)
        · refine ⟨_, rfl, _, rfl, ?_⟩
          refine iteF ⟨_, rfl, p, dx, _, rfl, hS' _ _ h1, sf_no _ _ _ _ _ (by decide +kernel) (by decide +kernel) (by decide +kernel) (by decide +kernel) (by decide +kernel), _, rfl, _, rfl, _, rfl, ?_⟩
          refine ⟨p, fl, n, m, rows, lack, fill, D, q, r, c, rfl, hSe.same hS', dim, fine, hq, hr', hc, _, rfl, ?_⟩
          cases ht : Tighter n c rows fill q r with
          | true =>
            refine iteT ⟨_, rfl, _, _, _, rfl, hS', .inr ⟨q, rfl, hq, hpos, fun i hi hip => ?_⟩⟩
            rcases nxt i hi with e | e
            · subst e
              exact lex_refl
            · exact lex_trans hpos hrp hip (lex_of ht) (hrl i e hip)
          | false =>
            refine iteF ⟨_, _, _, rfl, hS', .inr ⟨r, rfl, hr', hrp, fun i hi hip => ?_⟩⟩
            rcases nxt i hi with e | e
            · subst e
              exact lex_not ht
            · exact hrl i e hip
      · show if decide (0 < EQ.at2 rows q c) = true then _ else _
        rw [decide_eq_false hpos]
        refine iteF (iteF ⟨_, _, _, rfl, hS', ?_⟩)
        rcases hi with ⟨rfl, hno⟩ | ⟨r, rfl, hr', hrp, hrl⟩
        · refine .inl ⟨rfl, fun i hi => ?_⟩
          rcases nxt i hi with e | e
          · subst e
            exact hpos
          · exact hno i e
        · refine .inr ⟨r, rfl, hr', hrp, fun i hi hip => ?_⟩
          rcases nxt i hi with e | e
          · subst e
            exact absurd hip hpos
          · exact hrl i e hip
    · subst e
      rw [hlen] at hi
      rcases hi with ⟨rfl, hno⟩ | ⟨r, rfl, hr', hrp, hrl⟩
      · obtain ⟨i, hi, hp⟩ := hex
        exact absurd hp (hno i hi)
      · exact ⟨_, rfl, k _ r hS hr' hrp hrl⟩
theorem scCleared : FnScope ["self", "row", "by", "column", "a", "b"] ["self", "row", "by", "column"] (defScope sCleared) := ⟨rfl, rfl, rfl, by decide +kernel, rfl, by decide +kernel, by decide +kernel⟩
theorem vZ_take (l : List Int) {i : Nat} {z : Int} (h : l[i]? = some z) : vZ (l.take (i + 1)) = vZ (l.take i) ++ [.int z] := by
  unfold vZ
  exact map_take _ l h
theorem ok_cleared {f : Addr} {fd : FuncData} (F : Fun K "cleared" "Search.cleared" sCleared f fd) (T : Txt K mg CS CT CA) : FnOk P w K mg base CX0 1 f fd ["self", "row", "by", "column"] (spCleared CS) := by
  refine F.ok scCleared (fun vs H Q E h => ?_) (fun cdv A outer s H vs Q E hr h => ?_)
  · obtain ⟨p, fl, n, rows, lack, fill, D, a, b, row, by_, s, rfl, _⟩ := h
    rfl
  · obtain ⟨p, fl, n, rows, lack, fill, D, a, b, row, by_, c, rfl, ⟨dx, rw_, lk, as, h1, h2, h3, h4, h5, h6⟩, ha, hb, hD0, hDf, hl, hl1, hc, fr, fb, k⟩ := h
    have nd := scCleared.nd
    refine ⟨_, pss_one (ps_ret (pe_lc (own := [("a", 4), ("b", 5)]) rfl nd (pi_zip rfl T.b.zip (pa_cons (pv 1) (pa_cons (pv 2) pa_nil))) (blkOk_by rfl) (fun s H C cl fp => pg2 K (i := 4) (j := 5) rfl rfl nd rfl (Or.inl rfl) (Or.inr rfl) rfl (Or.inl rfl) (Or.inr rfl)) (fun s H C cl fp => pts_nil)
      (fun s H C cl fp => pe_op op_divF (pe_op op_sub (pe_op op_mulF (pe_ix (ixK K rfl) (pv 2) (pv 3) (fun _ _ => rfl)) (pv 4)) (pe_op op_mulF (pe_ix (ixK K rfl) (pv 1) (pv 3) (fun _ _ => rfl)) (pv 5))) (pe_fldK K rfl (pv 0) rfl)))), ?_⟩
    refine ⟨_, rfl, _, rfl, a, b, _, _, rfl, SqL.of ha, SqL.of hb, fun R hR => ?_⟩
    refine lcZ (xs := vZ row) (ys := vZ by_) (by rw [vZ_len]; exact small hl1) (by rw [vZ_len, vZ_len]; exact hl) (fun i => vZ ((EQ.clr row by_ c D).take i)) rfl (fun i _ => by rw [vZ_len, List.length_take]; omega) hR (SqL.of ha) (SqL.of hb) (fun i x y H2 hx hy hS2 Y N kY kN => ?_) (fun H2 hS2 hD2 => ?_)
    · obtain ⟨zx, ex, rfl⟩ := of_vZ_at hx
      obtain ⟨zy, ey, rfl⟩ := of_vZ_at hy
      have hi : i < row.length := (List.getElem?_eq_some_iff.mp ex).1
      have gx : row.getD i 0 = zx := by rw [List.getD_eq_getElem?_getD, ex]; rfl
      have gy : by_.getD i 0 = zy := by rw [List.getD_eq_getElem?_getD, ey]; rfl
      have fx : Fine zx := by rw [← gx]; exact fr i hi
      have fy : Fine zy := by rw [← gy]; exact fb i (by omega)
      refine ⟨rfl, tyes ⟨_, rfl, _, rfl, b, _, _, _, rfl, rfl, SqL.of (hS2 _ _ hb), atI_nat (vZ_get (j := c) (by omega)), _, rfl, _, _, rfl, rfl, ⟨fb c (by omega), fx⟩, _, rfl, _, rfl, a, _, _, _, rfl, rfl, SqL.of (hS2 _ _ ha), atI_nat (vZ_get (j := c) hc), _, rfl, _, _, rfl, rfl, ⟨fr c hc, fy⟩, _, _, rfl, rfl,
        _, rfl, p, CS, dx, _, _, rfl, hS2 _ _ h1, T.s, T.sD, sf_divisor _ _ _ _ _, _, _, rfl, rfl, ⟨hD0, hDf⟩, kY _ _ (Same.refl _) ?_⟩⟩
      dsimp only
      have e : (EQ.clr row by_ c D)[i]? = some ((by_.getD c 0 * zx - row.getD c 0 * zy) / D) := by
        have e1 := EQ.clr_at row by_ c D i hi (by omega)
        rw [gx, gy] at e1
        have hlt : i < (EQ.clr row by_ c D).length := by rw [EQ.clr_len _ _ _ _ hl]; exact hi
        rw [List.getElem?_eq_getElem hlt]
        rw [List.getD_eq_getElem?_getD, List.getElem?_eq_getElem hlt] at e1
        rw [← e1]
        rfl
      exact vZ_take _ e
    · rw [vZ_len, List.take_of_length_le (by rw [EQ.clr_len _ _ _ _ hl]; exact Nat.le_refl _)] at hD2
      exact k _ R hS2 hR hD2
end
end AT
end
section
namespace AT
open PySem PySem.Spec PyProof.Rows L2
section
variable {P : Program} {w : World} {K : PySem.W.Frag} {mg : Str → Option Value} {base : Heap} {CS CT CA : Addr}
theorem scFill : FnScope ["self", "chosen", "column", "by", "i", "row"] ["self", "chosen", "column"] (defScope sFill) := ⟨rfl, rfl, rfl, by decide +kernel, rfl, by decide +kernel, by decide +kernel⟩
theorem refs_snoc (as : List Addr) (a : Addr) : as.map V.ref ++ [V.ref a] = (as ++ [a]).map V.ref := by rw [List.map_append]; rfl
theorem ok_fill {f f1 : Addr} {fd fd1 : FuncData} (F : Fun K "fill" "Search.fill" sFill f fd) (T : Txt K mg CS CT CA) (MC : MF P w K mg base 1 CS "cleared" f1 fd1 ["self", "row", "by", "column"] (spCleared CS)) : FnOk P w K mg base CX0 2 f fd ["self", "chosen", "column"] (spFill CS) := by
  refine F.ok scFill (fun vs H Q E h => ?_) (fun cdv A outer s H vs Q E hr h => ?_)
  · obtain ⟨p, fl, n, m, rows, lack, fill, D, r, s, rfl, _⟩ := h
    rfl
  · obtain ⟨p, fl, n, m, rows, lack, fill, D, r, c, rfl, hSe, dim, fine, fineL, hD0, hDf, hr', hc, k⟩ := h
    obtain ⟨dx, rw_, lk, as, h1, h2, h3, h4, h5, h6, h7, h8⟩ := id hSe
    have nd := scFill.nd
    refine ⟨_, pss_cons (ps_set (i := 3) nd rfl (Or.inr rfl) (pe_ix ix_list (pe_fld (pv 0) rfl) (pv 1) (fun _ _ => rfl)))
      (pss_cons (ps_fld (pv 0) (pe_lc (own := [("i", 4), ("row", 5)]) rfl nd (pi_enum rfl T.b.enumerate (pa_cons (pe_fld (pv 0) rfl) pa_nil)) (blkOk_by rfl) (fun s H C cl fp => pg2 K (i := 4) (j := 5) rfl rfl nd rfl (Or.inl rfl) (Or.inr rfl) rfl (Or.inl rfl) (Or.inr rfl)) (fun s H C cl fp => pts_nil)
        (fun s H C cl fp => pe_ifExp (pt_cmpR op_eq (pv 4) (pv 1) (nomark _)) (pv 3) (pe_meth (pv 0) T.s MC.mt MC.ok hr MC.b .nil pass0 (pa_cons (pv 5) (pa_cons (pv 3) (pa_cons (pv 2) pa_nil)))))) rfl)
      (pss_cons (ps_fld (pv 0) (pe_meth (pv 0) T.s MC.mt MC.ok hr MC.b .nil pass0 (pa_cons (pe_fld (pv 0) rfl) (pa_cons (pv 3) (pa_cons (pv 2) pa_nil)))) rfl)
      (pss_cons (ps_asg (pv 2) (pg_sub (pe_fld (pv 0) rfl) (pv 1) set_list))
      (pss_one (ps_fld (pv 0) (pe_ix ix_list (pv 3) (pv 2) (fun _ _ => rfl)) rfl))))), ?_⟩
    -- by = self.rows[chosen]
    obtain ⟨b, hb, hbv, hHb⟩ := h3.get (i := r) (by rw [dim.rm]; exact hr')
    have lr : (rows.getD r []).length = n + 1 := dim.rl r hr'
    refine ⟨_, rfl, p, CS, dx, _, _, rfl, h1, T.s, T.sR, sf_rows _ _ _ _ _, _, rfl, rw_, _, _, _, rfl, rfl, SqL.of h2, atI_nat hbv, ?_⟩
    -- self.rows = [..]
    have hlen : (as.map V.ref).length = m := by rw [List.length_map, h3.len, dim.rm]
    have fineRow : ∀ i, i < m → ∀ j, j < (rows.getD i []).length → Fine ((rows.getD i []).getD j 0) := fun i hi j hj => fine i j hi (by rw [dim.rl i hi] at hj; exact hj)
    have hno : ∀ {rw' lk' : Addr} {D' : Int}, (sf n rw' lk' fl D').lookup ("cleared" : Str) = none := sf_no _ _ _ _ _ (by decide +kernel) (by decide +kernel) (by decide +kernel) (by decide +kernel) (by decide +kernel)
    refine ⟨_, rfl, p, CS, dx, _, _, rfl, h1, T.s, T.sR, sf_rows _ _ _ _ _, rw_, _, rfl, SqL.of h2, fun R hR => ?_⟩
    have nR : ∀ {x : Addr} {o : HO}, H x = some o → x ≠ R := fun e => ne_of_none e hR
    refine lcE2 (xs := as.map V.ref) (by rw [hlen]; exact small (by have := dim.m1000; omega)) hR (SqL.of h2)
      (fun i acc H' => ∃ bs : List Addr, acc = bs.map V.ref ∧ bs.length = i ∧ ∀ (j : Nat) (a : Addr), bs[j]? = some a → a ≠ R ∧ a ≠ fl ∧ H' a = some (.lst (vZ (if j = r then rows.getD r [] else EQ.clr (rows.getD j []) (rows.getD r []) c D))))
      (fun i acc Ha Hb hs ⟨bs, e1, e2, e3⟩ => ⟨bs, e1, e2, fun j a e => ⟨(e3 j a e).1, (e3 j a e).2.1, hs _ _ (e3 j a e).2.2 (e3 j a e).1⟩⟩) ⟨[], rfl, rfl, fun j a e => by simp at e⟩
      (fun i x H' acc hx hS hacc ⟨bs, e1, e2, e3⟩ Y kY N => ?_) (fun acc H' hS hacc ⟨bs, e1, e2, e3⟩ => ?_)
    · obtain ⟨a, ha, rfl⟩ := refs_get hx
      have hi : i < m := by rw [← hlen]; exact (List.getElem?_eq_some_iff.mp hx).1
      have haH : H' a = some (.lst (vZ (rows.getD i []))) := hS _ _ (h3.at_ i a ha)
      have nxt : ∀ (y : Addr) (H4 : Hp), Same H' H4 → y ≠ R → y ≠ fl → H4 y = some (.lst (vZ (if i = r then rows.getD r [] else EQ.clr (rows.getD i []) (rows.getD r []) c D))) →
          ∃ bs : List Addr, acc ++ [V.ref y] = bs.map V.ref ∧ bs.length = i + 1 ∧ ∀ (j : Nat) (a : Addr), bs[j]? = some a → a ≠ R ∧ a ≠ fl ∧ H4 a = some (.lst (vZ (if j = r then rows.getD r [] else EQ.clr (rows.getD j []) (rows.getD r []) c D))) := by
        intro y H4 s4 n1 n2 hy
        refine ⟨bs ++ [y], by rw [e1]; exact refs_snoc bs y, by simp [e2], fun j a' e => ?_⟩
        rw [List.getElem?_append] at e
        by_cases hj : j < bs.length
        · rw [if_pos hj] at e
          exact ⟨(e3 j a' e).1, (e3 j a' e).2.1, s4 _ _ (e3 j a' e).2.2⟩
        · rw [if_neg hj] at e
          have hj2 : j = bs.length := by
            apply Classical.byContradiction
            intro z
            rw [List.getElem?_eq_none (by simp; omega)] at e
            cases e
          subst hj2
          have : y = a' := by simpa using e
          subst this
          rw [e2]
          exact ⟨n1, n2, hy⟩
      refine ⟨rfl, tyes ⟨_, rfl, _, rfl, rfl, _, rfl, ?_⟩⟩
      have ed : decide (V.int (i : Nat) = V.int (r : Nat)) = decide (i = r) := by simp only [V.int.injEq, Int.ofNat_inj]
      rw [ed]
      by_cases hir : i = r
      · rw [decide_eq_true hir]
        refine iteT ⟨_, rfl, kY _ _ (Same.refl _) (nxt b H' (Same.refl _) (nR hHb) (h8 r b hb) ?_)⟩
        rw [if_pos hir]
        exact hS _ _ hHb
      · rw [decide_eq_false hir]
        refine iteF ⟨_, rfl, p, dx, _, rfl, hS _ _ h1, hno, _, rfl, _, rfl, _, rfl, ?_⟩
        refine ⟨p, fl, n, rows, lack, fill, D, a, b, rows.getD i [], rows.getD r [], c, rfl, hSe.same hS, haH, hS _ _ hHb, hD0, hDf, (by rw [dim.rl i hi, lr]), (by rw [dim.rl i hi]; have := dim.n1000; omega), (by rw [dim.rl i hi]; omega), fineRow i hi, fineRow r hr', fun H4 y s4 hy0 hy => ?_⟩
        refine kY _ _ s4 (nxt y H4 s4 ?_ ?_ ?_)
        · exact (ne_of_none hacc hy0).symm
        · exact (ne_of_none (hS _ _ h5) hy0).symm
        · rw [if_neg hir]
          exact hy
    · -- the object has the new rows
      rw [hlen] at e2 
      subst e1
      refine ⟨_, rfl, p, CS, dx, _, rfl, hS _ _ h1, T.s, T.sR, (by show 5 < 1000; decide), ?_⟩
      rw [sf_put_rows]
      generalize hH2 : upd H' p (.ins CS dx (sf n R lk fl D)) = H2
      have p2 : H2 p = some (.ins CS dx (sf n R lk fl D)) := by rw [← hH2]; exact upd_same
      have k2 : ∀ x o, H' x = some o → x ≠ p → H2 x = some o := fun x o e hx => by rw [← hH2, upd_ne hx]; exact e
      clear hH2
      have nlp : ∀ {Hx : Hp} {x : Addr} {l : List V}, H p = some (.ins CS dx (sf n rw_ lk fl D)) → H x = some (.lst l) → x ≠ p := fun e e' => ne_of e' e (by intro z; cases z)
      have nRp : R ≠ p := (nR h1).symm
      have lk2 := k2 _ _ (hS _ _ h4) (ne_of h4 h1 (by intro z; cases z))
      have fl2 := k2 _ _ (hS _ _ h5) (ne_of h5 h1 (by intro z; cases z))
      have nbp : b ≠ p := ne_of hHb h1 (by intro z; cases z)
      have b2 := k2 _ _ (hS _ _ hHb) nbp
      have R2 := k2 _ _ hacc nRp
      have bs2 : ∀ (j : Nat) (a : Addr), bs[j]? = some a → H2 a = some (.lst (vZ (if j = r then rows.getD r [] else EQ.clr (rows.getD j []) (rows.getD r []) c D))) := fun j a e => k2 _ _ (e3 j a e).2.2 (ne_of (e3 j a e).2.2 (hS _ _ h1) (by intro z; cases z))
      have flR : fl ≠ R := nR h5
      have rowsAt2 : RowsAt H2 bs (EQ.newRows rows r c D) := by
        refine ⟨by rw [e2, EQ.newRows_len, dim.rm], fun j a e => ?_⟩
        have hj : j < m := by rw [← e2]; exact (List.getElem?_eq_some_iff.mp e).1
        rw [EQ.newRows_at _ _ _ _ _ (by rw [dim.rm]; exact hj)]
        exact bs2 j a e
      have Se2 : SeAt CS H2 p fl n (EQ.newRows rows r c D) lack fill D := ⟨dx, R, lk, bs, p2, R2, rowsAt2, lk2, fl2, flR, h7, fun i a e => (e3 i a e).2.1⟩
      -- self.lacking = self.cleared(self.lacking, by, column)
      refine ⟨_, rfl, p, dx, _, rfl, p2, hno, _, rfl, p, CS, dx, _, _, rfl, p2, T.s, T.sL, sf_lacking _ _ _ _ _, _, rfl, _, rfl, ?_⟩
      refine ⟨p, fl, n, _, lack, fill, D, lk, b, lack, rows.getD r [], c, rfl, Se2, lk2, b2, hD0, hDf, (by rw [dim.ll, lr]), (by rw [dim.ll]; have := dim.n1000; omega), (by rw [dim.ll]; omega), (fun j hj => fineL j (by rw [dim.ll] at hj; exact hj)), fineRow r hr', fun H3 L3 s3 hL0 hL3 => ?_⟩
      refine ⟨_, rfl, p, CS, dx, _, rfl, s3 _ _ p2, T.s, T.sL, (by show 5 < 1000; decide), ?_⟩
      rw [sf_put_lacking]
      generalize hH4 : upd H3 p (.ins CS dx (sf n R L3 fl D)) = H4
      have p4 : H4 p = some (.ins CS dx (sf n R L3 fl D)) := by rw [← hH4]; exact upd_same
      have k4 : ∀ x o, H3 x = some o → x ≠ p → H4 x = some o := fun x o e hx => by rw [← hH4, upd_ne hx]; exact e
      clear hH4
      have nfp : fl ≠ p := ne_of h5 h1 (by intro z; cases z)
      have fl4 := k4 _ _ (s3 _ _ fl2) nfp
      -- self.filling[chosen] = column
      refine ⟨_, rfl, _, rfl, p, CS, dx, _, _, rfl, p4, T.s, T.sF, sf_filling _ _ _ _ _, _, rfl, fl, _, (r : Int), r, rfl, rfl, fl4, ?_, ?_⟩
      · rw [vN_len, dim.fl]
        unfold ixN
        rw [if_pos (by omega), if_pos (by omega), Int.toNat_natCast]
      · have efill : (vN fill).set r (.int (c : Nat)) = vN (fill.set r c) := by
          unfold vN
          rw [List.map_set]
        rw [efill]
        have p5 : (upd H4 fl (.lst (vN (fill.set r c)))) p = some (.ins CS dx (sf n R L3 fl D)) := by rw [upd_ne (Ne.symm nfp)]; exact p4
        have nbf : b ≠ fl := h8 r b hb
        have b5 : (upd H4 fl (.lst (vN (fill.set r c)))) b = some (.lst (vZ (rows.getD r []))) := by
          rw [upd_ne nbf]
          exact k4 _ _ (s3 _ _ b2) nbp
        -- self.divisor = by[column]
        refine ⟨_, rfl, _, rfl, b, _, _, _, rfl, rfl, SqL.of b5, atI_nat (vZ_get (j := c) (by omega)), _, rfl, p, CS, dx, _, rfl, p5, T.s, T.sD, (by show 5 < 1000; decide), ?_⟩
        rw [sf_put_divisor]
        have nL3p : L3 ≠ p := (ne_of_none p2 hL0).symm
        have nL3f : fl ≠ L3 := ne_of_none fl2 hL0
        refine k _ ⟨dx, R, L3, bs, upd_same, ?_, ⟨rowsAt2.len, fun j a e => ?_⟩, ?_, ?_, flR, nL3f, fun i a e => (e3 i a e).2.1⟩ fun x o e n1 n2 => ?_
        · rw [upd_ne nRp, upd_ne (Ne.symm flR)]
          exact k4 _ _ (s3 _ _ R2) nRp
        · have na : a ≠ p := ne_of (rowsAt2.at_ j a e) p2 (by intro z; cases z)
          rw [upd_ne na, upd_ne (e3 j a e).2.1]
          exact k4 _ _ (s3 _ _ (rowsAt2.at_ j a e)) na
        · rw [upd_ne nL3p, upd_ne (Ne.symm nL3f)]
          exact k4 _ _ hL3 nL3p
        · rw [upd_ne nfp]
          exact upd_same
        · rw [upd_ne n1, upd_ne n2]
          exact k4 _ _ (s3 _ _ (k2 _ _ (hS _ _ e) n1)) n1
end
end AT
end
section
namespace AT
open PySem PySem.Spec PyProof.Rows L2
theorem colSum_S (rows : List (List Int)) (j : Nat) : ((colSum rows j : Int) : Rat) = JM.S rows.length (fun i => (EQ.at2 rows i j : Rat)) := by
  unfold colSum
  induction rows using SP.snoc_ind with
  | h0 => rfl
  | hs l a ih =>
    rw [List.map_append, List.sum_append, Rat.intCast_add, ih, List.length_append]
    show _ = JM.S (l.length + 1) _
    show _ = JM.S l.length _ + _
    congr 1
    · apply JM.S_congr
      intro i hi
      unfold EQ.at2
      rw [List.getD_eq_getElem?_getD (l := l ++ [a]), List.getElem?_append_left hi, ← List.getD_eq_getElem?_getD]
    · unfold EQ.at2
      dsimp only
      rw [List.getD_eq_getElem?_getD (l := l ++ [a]), List.getElem?_append_right (Nat.le_refl _)]
      simp
structure EqOk (L : List (Nat × Nat)) : Prop where
  len : L.length ≤ 32
  most : ∀ a v, (a, v) ∈ L → v ≤ 32000
theorem eqs_len (L : List (Nat × Nat)) : (EQ.eqs L).length = L.length := List.length_map ..
theorem eqs_get (L : List (Nat × Nat)) {i : Nat} (hi : i < L.length) : (EQ.eqs L).getD i [] = EQ.eqRow (L[i]).1 (L[i]).2 := EQ.eqs_at L i _ (List.getElem?_eq_getElem hi)
theorem eqs_cell (L : List (Nat × Nat)) (h : EqOk L) {i j : Nat} (hi : i < L.length) (hj : j < 33) : 0 ≤ EQ.at2 (EQ.eqs L) i j ∧ EQ.at2 (EQ.eqs L) i j ≤ 32000 := by
  unfold EQ.at2
  rw [eqs_get L hi]
  by_cases h2 : j < 32
  · rw [EQ.eqRow_at _ _ _ h2]
    split <;> omega
  · have : j = 32 := by omega
    subst this
    rw [EQ.eqRow_last]
    have := h.most (L[i]).1 (L[i]).2 (List.getElem_mem hi)
    generalize (L[i]).2 = z at *
    omega
theorem eqs_whole (L : List (Nat × Nat)) (h : EqOk L) : DT.Whole L.length 32 32000 (fun i j => (EQ.at2 (EQ.eqs L) i j : Rat)) (fun i => (EQ.at2 (EQ.eqs L) i 32 : Rat)) := by
  have key : ∀ i j, i < L.length → j < 33 → DT.Le (EQ.at2 (EQ.eqs L) i j : Rat) ((32000 : Nat) : Rat) := by
    intro i j hi hj
    obtain ⟨h1, h2⟩ := eqs_cell L h hi hj
    have h1' : ((0 : Int) : Rat) ≤ (EQ.at2 (EQ.eqs L) i j : Rat) := Rat.intCast_le_intCast.mpr h1
    have h2' : (EQ.at2 (EQ.eqs L) i j : Rat) ≤ ((32000 : Int) : Rat) := Rat.intCast_le_intCast.mpr h2
    have e0 : ((0 : Int) : Rat) = 0 := rfl
    have e1 : ((32000 : Int) : Rat) = ((32000 : Nat) : Rat) := rfl
    rw [e0] at h1'
    rw [e1] at h2'
    constructor
    · grind
    · exact h2'
  exact ⟨by decide, fun k j hk hj => ⟨⟨_, rfl⟩, key k j hk (by omega)⟩, fun k hk => ⟨⟨_, rfl⟩, key k 32 hk (by omega)⟩⟩
theorem bnd_fine {m : Nat} (h : m ≤ 32) : 32 * DT.bnd 32000 m < 2 ^ 4000 := by
  have h1 := EQ.bnd_le 32000 32 m h
  have h2 : (32 * 32000) ^ m ≤ (32 * 32000) ^ 32 := Nat.pow_le_pow_right (by decide) h
  have h3 : 32 * (32 * 32000) ^ 32 < 2 ^ 4000 := by decide +kernel
  have h4 : 32 * DT.bnd 32000 m ≤ 32 * (32 * 32000) ^ 32 := Nat.mul_le_mul_left 32 (Nat.le_trans h1 h2)
  exact Nat.lt_of_le_of_lt h4 h3
theorem fine_of {m : Nat} (h : m ≤ 32) {z : Int} (hz : z.natAbs ≤ 32 * DT.bnd 32000 m) : Fine z := Nat.lt_of_le_of_lt hz (bnd_fine h)
abbrev SIof (L : List (Nat × Nat)) (rows : List (List Int)) (lack : List Int) (fill : List Nat) (D : Int) (c : Nat) : Prop :=
  EQ.SI L.length 32 (fun i j => (EQ.at2 (EQ.eqs L) i j : Rat)) (fun i => (EQ.at2 (EQ.eqs L) i 32 : Rat)) rows lack fill D c
theorem SIof.start (L : List (Nat × Nat)) (h : EqOk L) : SIof L (EQ.eqs L) ((List.range (32 + 1)).map (colSum (EQ.eqs L))) ((List.range (EQ.eqs L).length).map fun i => 32 + i) 1 0 := by
  refine EQ.SI.first _ _ _ (eqs_len L) (by rw [List.length_map, List.length_range, eqs_len]) (by simp) (fun i hi => by rw [eqs_get L hi, EQ.eqRow_len]) (fun i hi => ?_) (fun i hi => (eqs_cell L h hi (by omega)).1) (fun j hj => ?_)
  · rw [List.getD_eq_getElem?_getD, List.getElem?_map, List.getElem?_range (by rw [eqs_len]; exact hi)]
    rfl
  · rw [List.getD_eq_getElem?_getD, List.getElem?_map, List.getElem?_range hj]
    show ((colSum (EQ.eqs L) j : Int) : Rat) = _
    rw [colSum_S, eqs_len]
theorem SIof.dim {L : List (Nat × Nat)} {rows : List (List Int)} {lack : List Int} {fill : List Nat} {D : Int} {c : Nat} (I : SIof L rows lack fill D c) (h : EqOk L) : Dim 32 L.length rows lack fill := ⟨I.rm, I.fl, I.ll, I.rl, by decide, Nat.le_trans h.len (by decide)⟩
theorem SIof.fine {L : List (Nat × Nat)} {rows : List (List Int)} {lack : List Int} {fill : List Nat} {D : Int} {c : Nat} (I : SIof L rows lack fill D c) (h : EqOk L) : FineAll 32 L.length rows ∧ (∀ j, j < 32 + 1 → Fine (lack.getD j 0)) ∧ Fine D := by
  have W := eqs_whole L h
  refine ⟨fun i j hi hj => fine_of h.len ?_, fun j hj => fine_of h.len ?_, fine_of h.len ?_⟩
  · have := I.cell_le W i j hi hj
    omega
  · have := I.lack_le W j hj
    exact Nat.le_trans this (Nat.mul_le_mul_right _ h.len)
  · have := I.D_le W
    omega
def spCanBeMet : Sp := fun vs H Q _ => ∃ (a : Addr) (as : List Addr) (L : List (Nat × Nat)), vs = [.ref a] ∧ H a = some (.lst (as.map V.ref)) ∧ RowsAt H as (EQ.eqs L) ∧ EqOk L ∧ ∀ (H' : Hp) (b : Bool), Same H H' → (b = true ↔ EQ.Feas L.length 32 (EQ.eqs L)) → Q (.bl b) H'
section
variable {P : Program} {w : World} {K : PySem.W.Frag} {mg : Str → Option Value} {base : Heap} {CS CT CA : Addr}
theorem scCanBeMet : FnScope ["rows", "search", "column"] ["rows"] (defScope sCanBeMet) := ⟨rfl, rfl, rfl, by decide +kernel, rfl, by decide +kernel, by decide +kernel⟩
theorem ok_canBeMet {f f0 f1 f2 f3 f4 : Addr} {fd fd0 fd1 fd2 fd3 fd4 : FuncData} (F : Fun K "can_be_met" "can_be_met" sCanBeMet f fd) (T : Txt K mg CS CT CA) (C0 : CF P w K mg base 2 CS "Search" f0 fd0 ["self", "rows"] (spSInit CS))
    (M1 : MF P w K mg base 1 CS "is_done" f1 fd1 ["self"] (spIsDone CS)) (M2 : MF P w K mg base 1 CS "helpful_column" f2 fd2 ["self"] (spHelpful CS)) (M3 : MF P w K mg base 2 CS "tightest_row" f3 fd3 ["self", "column"] (spTightest CS)) (M4 : MF P w K mg base 2 CS "fill" f4 fd4 ["self", "chosen", "column"] (spFill CS)) :
    FnOk P w K mg base CX0 4 f fd ["rows"] spCanBeMet := by
  refine F.ok scCanBeMet (fun vs H Q E h => ?_) (fun cdv A outer s H vs Q E hr h => ?_)
  · obtain ⟨a, as, L, rfl, _⟩ := h
    rfl
  · obtain ⟨a, as, L, rfl, ha, hR, hL, k⟩ := h
    have nd := scCanBeMet.nd
    have hr1 : Room 1 _ := hr.mono (by decide)
    have hr2 : Room 2 _ := hr.mono (by decide)
    refine ⟨_, pss_cons (ps_if (pt_cmpR op_eq (pe_callB call_len_seq rfl T.b.len bt_len (pa_cons (pv 0) pa_nil)) pe_int (nomark _)) (pss_one (ps_ret pe_bl)) pss_nil)
      (pss_cons (ps_set (i := 1) nd rfl (Or.inl rfl) (pe_make C0.made C0.ok hr rfl C0.at_ C0.b .nil pass0 (pa_cons (pv 0) pa_nil)))
      (pss_cons (ps_while PassesOwn.never (pt_not (pt_val (pe_meth0 (pv 1) T.s M1.mt M1.ok hr1 M1.b .nil pass0)))
        (pss_cons (ps_set (i := 2) nd rfl (Or.inl rfl) (pe_meth0 (pv 1) T.s M2.mt M2.ok hr1 M2.b .nil pass0))
        (pss_cons (ps_if (pt_cmp (pc_isN (pv 2))) (pss_one (ps_ret pe_bl)) pss_nil)
        (pss_one (ps_expr (pe_meth (pv 1) T.s M4.mt M4.ok hr2 M4.b .nil pass0 (pa_cons (pe_meth (pv 1) T.s M3.mt M3.ok hr2 M3.b .nil pass0 (pa_cons (pv 2) pa_nil)) (pa_cons (pv 2) pa_nil))))))))
      (pss_one (ps_ret pe_bl)))), ?_⟩
    have elen : (as.map V.ref).length = L.length := by rw [List.length_map, hR.len, eqs_len]
    refine ⟨_, rfl, a, _, rfl, .inl (SqL.of ha), rfl, _, rfl, ?_⟩
    rw [elen]
    by_cases h0 : L.length = 0
    · rw [show decide (V.int (L.length : Nat) = V.int 0) = true from decide_eq_true (by rw [h0]; rfl)]
      refine iteT (k H true (Same.refl _) ⟨fun _ => ⟨fun _ => 0, fun _ => Rat.le_refl, fun i hi => by omega⟩, fun _ => rfl⟩)
    · rw [show decide (V.int (L.length : Nat) = V.int 0) = false from decide_eq_false (fun z => h0 (by have := V.int.inj z; omega))]
      refine iteF ?_
      refine ⟨_, rfl, fun x dx hx hdx ndx => ?_⟩
      have ha' : (upd (upd H dx (.own x)) x (.ins CS dx [])) a = some (.lst (as.map V.ref)) := by
        rw [upd_ne (ne_of_none ha hx), upd_ne (ne_of_none ha hdx)]
        exact ha
      have hR' : RowsAt (upd (upd H dx (.own x)) x (.ins CS dx [])) as (EQ.eqs L) := ⟨hR.len, fun i b e => by
        rw [upd_ne (ne_of_none (hR.at_ i b e) hx), upd_ne (ne_of_none (hR.at_ i b e) hdx)]
        exact hR.at_ i b e⟩
      refine ⟨x, dx, a, as, EQ.eqs L, 32, rfl, upd_same, ha', hR', (by rw [eqs_len]; omega), (by rw [eqs_len]; have := hL.len; omega), (by decide), (fun i hi => by rw [eqs_get L (by rw [eqs_len] at hi; exact hi), EQ.eqRow_len]), fun H1 fl hSe hfl0 hkp => ⟨rfl, ?_⟩⟩
      have hSame1 : Same H H1 := Same.made hx hdx hkp
      have flH : H fl = none := by
        cases e : H fl with
        | none => rfl
        | some o =>
          rw [upd_ne (ne_of_none e hx), upd_ne (ne_of_none e hdx), e] at hfl0
          cases hfl0
      -- the loop
      generalize hM : (L.length + 1) ^ 32 = M
      refine ⟨fun μ σ H' => ∃ (c : Nat) (rows : List (List Int)) (lack : List Int) (fill : List Nat) (D : Int) (v : Option V), σ = [some (.ref a), some (.ref x), v] ∧ SeAt CS H' x fl 32 rows lack fill D ∧ SIof L rows lack fill D c ∧ Same H H' ∧ μ + c = M,
        ⟨M, 0, _, _, _, 1, none, rfl, hSe, SIof.start L hL, hSame1, by omega⟩, ?_⟩
      rintro μ σ H' ⟨c, rows, lack, fill, D, v, rfl, Se, I, hS, hμ⟩
      have dim := I.dim hL
      obtain ⟨fine, fineL, fineD⟩ := SIof.fine I hL
      obtain ⟨dx', rw_, lk, bs, q1, q2, q3, q4, q5, q6⟩ := id Se
      have no : ∀ {m : Str}, ¬ m = "unknowns" → ¬ m = "rows" → ¬ m = "lacking" → ¬ m = "filling" → ¬ m = "divisor" → (sf 32 rw_ lk fl D).lookup m = none := fun a1 a2 a3 a4 a5 => sf_no _ _ _ _ _ a1 a2 a3 a4 a5
      refine ⟨_, rfl, x, dx', _, rfl, q1, no (by decide +kernel) (by decide +kernel) (by decide +kernel) (by decide +kernel) (by decide +kernel), x, fl, 32, L.length, rows, lack, fill, D, rfl, Se, dim, _, rfl, ?_⟩
      by_cases hz : lack.getD 32 0 = 0
      · rw [decide_eq_true hz]
        refine iteF ?_
        exact k H' true hS ⟨fun _ => I.done hz, fun _ => rfl⟩
      · rw [decide_eq_false hz]
        refine iteT ?_
        refine ⟨fun σ' H'' => ∃ (rows : List (List Int)) (lack : List Int) (fill : List Nat) (D : Int) (v : Option V), σ' = [some (.ref a), some (.ref x), v] ∧ SeAt CS H'' x fl 32 rows lack fill D ∧ SIof L rows lack fill D (c + 1) ∧ Same H H'', ?_, ?_⟩
        · rintro σ' H'' ⟨rows', lack', fill', D', v', e, Se', I', hS'⟩
          have := EQ.SI.few I'
          rw [hM] at this
          exact ⟨μ - 1, by omega, c + 1, rows', lack', fill', D', v', e, Se', I', hS', by omega⟩
        · refine ⟨_, rfl, x, dx', _, rfl, q1, no (by decide +kernel) (by decide +kernel) (by decide +kernel) (by decide +kernel) (by decide +kernel), x, fl, 32, L.length, rows, lack, fill, D, rfl, Se, dim, fun s hs hs1 hs2 => ?_, fun hno => ?_⟩
          · refine ⟨_, rfl, _, rfl, ?_⟩
            refine iteF ?_
            refine ⟨_, rfl, x, dx', _, rfl, q1, no (by decide +kernel) (by decide +kernel) (by decide +kernel) (by decide +kernel) (by decide +kernel), ?_⟩
            refine ⟨_, rfl, x, dx', _, rfl, q1, no (by decide +kernel) (by decide +kernel) (by decide +kernel) (by decide +kernel) (by decide +kernel), _, rfl, ?_⟩
            refine ⟨x, fl, 32, L.length, rows, lack, fill, D, s, rfl, Se, dim, fine, hs, I.some_row hs hs1, fun H2 r hS2 hr2 hrp hrl => ?_⟩
            refine ⟨_, rfl, x, fl, 32, L.length, rows, lack, fill, D, r, s, rfl, Se.same hS2, dim, fine, fineL, I.pos, fineD, hr2, hs, fun H3 Se3 hk3 => ?_⟩
            refine ⟨_, _, _, _, _, rfl, Se3, EQ.SI.step I (eqs_whole L hL) hs hr2 hs1 hs2 hrp hrl, fun b o e => ?_⟩
            exact hk3 b o (hS2 _ _ (hS _ _ e)) (ne_of_none e hx) (ne_of_none e flH)
          · refine ⟨_, rfl, _, rfl, ?_⟩
            refine iteT ?_
            refine k H' false hS ⟨fun z => (by cases z), fun hf => ?_⟩
            exact absurd hf (I.stuck hz hno)
end
end AT
end
section
namespace AT
open PySem PySem.Spec PyProof.Rows L2
def af (lk : Addr) : List (Str × V) := putF "kept" (.ref lk) []
theorem af_kept (lk : Addr) : (af lk).lookup ("kept" : Str) = some (.ref lk) := rfl
theorem af_put (lk lk' : Addr) : putF "kept" (.ref lk') (af lk) = af lk' := rfl
theorem af_no (lk : Addr) {x : Str} (h : ¬ x = "kept") : (af lk).lookup x = none := by
  unfold af
  rw [lookup_putF, if_neg h]
  all_goals rfl
structure AllAt (CA CT : Addr) (H : Hp) (p lk : Addr) (ts : List Rd07.Table) : Prop where
  ex : ∃ (dx : Addr) (ps : List Addr), H p = some (.ins CA dx (af lk)) ∧ H lk = some (.lst (ps.map V.ref)) ∧ ps.length = ts.length ∧ ∀ (i : Nat) (q : Addr), ps[i]? = some q → ∃ t, ts[i]? = some t ∧ TabAt CT H q t
  ok : ∀ t, t ∈ ts → SP.Ok t
  few : ts.length ≤ 8
theorem AllAt.same {CA CT : Addr} {H H' : Hp} {p lk : Addr} {ts : List Rd07.Table} (h : AllAt CA CT H p lk ts) (s : Same H H') : AllAt CA CT H' p lk ts := by
  obtain ⟨dx, ps, h1, h2, h3, h4⟩ := h.ex
  exact ⟨⟨dx, ps, s _ _ h1, s _ _ h2, h3, fun i q e => let ⟨t, e1, e2⟩ := h4 i q e; ⟨t, e1, e2.same s⟩⟩, h.ok, h.few⟩
theorem ok_at {ts : List Rd07.Table} (h : ∀ t, t ∈ ts → SP.Ok t) {i : Nat} {t : Rd07.Table} (e : ts[i]? = some t) : SP.Ok t := h t (List.mem_of_getElem? e)
abbrev sTables : Stmt := top 26
abbrev sAInit : Stmt := inClass sTables 0
abbrev sBegin : Stmt := inClass sTables 1
abbrev sAdd : Stmt := inClass sTables 2
abbrev sShare : Stmt := inClass sTables 3
abbrev sAgree : Stmt := inClass sTables 4
abbrev sShareEqs : Stmt := inClass sTables 5
abbrev sJoint : Stmt := inClass sTables 6
abbrev sIsPossible : Stmt := inClass sTables 7
abbrev sAllPossible : Stmt := inClass sTables 8
abbrev sPossible : Stmt := inClass sTables 9
abbrev sCovered : Stmt := inClass sTables 10
abbrev sTree : Stmt := inClass sTables 11
def spAInit (CA CT : Addr) : Sp := fun vs H Q _ => ∃ (p dx : Addr), vs = [.ref p] ∧ H p = some (.ins CA dx []) ∧ ∀ (H' : Hp) (lk : Addr), AllAt CA CT H' p lk [] → H lk = none → (∀ b o, H b = some o → b ≠ p → H' b = some o) → Q .non H'
def spBegin (CA CT : Addr) : Sp := fun vs H Q _ => ∃ (p lk : Addr) (ts : List Rd07.Table), vs = [.ref p] ∧ AllAt CA CT H p lk ts ∧ ∀ (H' : Hp) (lk' : Addr), AllAt CA CT H' p lk' [] → H lk' = none → (∀ b o, H b = some o → b ≠ p → H' b = some o) → Q (.int 0) H'
def spAdd (CA CT : Addr) : Sp := fun vs H Q _ => ∃ (p lk a : Addr) (ts : List Rd07.Table) (z : Int) (ws : List Nat), vs = [.ref p, .int z, .ref a] ∧ AllAt CA CT H p lk ts ∧ H a = some (.lst (vN ws)) ∧ ws.length ≤ 4000 ∧
  ∀ H' : Hp, AllAt CA CT H' p lk (Rd07.does ⟨ts⟩ (.add z ws (ws.length : Int))).1.tables → (∀ b o, H b = some o → b ≠ lk → H' b = some o) → Q (.int (Rd07.does ⟨ts⟩ (.add z ws (ws.length : Int))).2.value) H'
def spShare (CA CT : Addr) : Sp := fun vs H Q _ => ∃ (p lk : Addr) (ts : List Rd07.Table) (i m x : Int), vs = [.ref p, .int i, .int m, .int x] ∧ AllAt CA CT H p lk ts ∧
  ∀ H' : Hp, Same H H' → Q (.int (Rd07.does ⟨ts⟩ (.share i m x)).2.value) H'
def spAsk (CA CT : Addr) (f : List Rd07.Table → Int) : Sp := fun vs H Q _ => ∃ (p lk : Addr) (ts : List Rd07.Table), vs = [.ref p] ∧ AllAt CA CT H p lk ts ∧ ∀ H' : Hp, Same H H' → Q (.int (f ts)) H'
section
variable {P : Program} {w : World} {K : PySem.W.Frag} {mg : Str → Option Value} {base : Heap} {CS CT CA : Addr}
theorem scAInit : FnScope ["self"] ["self"] (defScope sAInit) := ⟨rfl, rfl, rfl, by decide +kernel, rfl, by decide +kernel, by decide +kernel⟩
theorem ok_aInit {f : Addr} {fd : FuncData} (F : Fun K "__init__" "Tables.__init__" sAInit f fd) (T : Txt K mg CS CT CA) : FnOk P w K mg base CX0 1 f fd ["self"] (spAInit CA CT) := by
  refine F.ok scAInit (fun vs H Q E h => ?_) (fun cdv A outer s H vs Q E hr h => ?_)
  · obtain ⟨p, dx, rfl, _⟩ := h
    rfl
  · obtain ⟨p, dx, rfl, hp, k⟩ := h
    refine ⟨_, pss_one (ps_fld (pv 0) (pe_lst pa_nil) rfl), ?_⟩
    refine ⟨Nat.zero_le _, fun lk hlk => ?_⟩
    have npl : p ≠ lk := ne_of_none hp hlk
    refine ⟨_, rfl, p, CA, dx, [], rfl, (by rw [upd_ne npl]; exact hp), T.a, T.aK, (by show 0 < 1000; decide), ?_⟩
    refine k _ lk ⟨⟨dx, [], upd_same, ?_, rfl, fun i q e => by simp at e⟩, fun t ht => by simp at ht, by simp⟩ hlk fun b o e hb => ?_
    · rw [upd_ne (Ne.symm npl)]
      exact upd_same
    · rw [upd_ne hb, upd_ne (ne_of_none e hlk)]
      exact e
theorem scBegin : FnScope ["self"] ["self"] (defScope sBegin) := ⟨rfl, rfl, rfl, by decide +kernel, rfl, by decide +kernel, by decide +kernel⟩
theorem ok_begin {f : Addr} {fd : FuncData} (F : Fun K "begin" "Tables.begin" sBegin f fd) (T : Txt K mg CS CT CA) : FnOk P w K mg base CX0 1 f fd ["self"] (spBegin CA CT) := by
  refine F.ok scBegin (fun vs H Q E h => ?_) (fun cdv A outer s H vs Q E hr h => ?_)
  · obtain ⟨p, lk, ts, rfl, _⟩ := h
    rfl
  · obtain ⟨p, lk0, ts, rfl, hA, k⟩ := h
    obtain ⟨dx, ps, hp, h2, h3, h4⟩ := hA.ex
    refine ⟨_, pss_cons (ps_fld (pv 0) (pe_lst pa_nil) rfl) (pss_one (ps_ret pe_int)), ?_⟩
    refine ⟨Nat.zero_le _, fun lk hlk => ?_⟩
    have npl : p ≠ lk := ne_of_none hp hlk
    refine ⟨_, rfl, p, CA, dx, _, rfl, (by rw [upd_ne npl]; exact hp), T.a, T.aK, (by show 1 < 1000; decide), ?_⟩
    rw [af_put]
    refine k _ lk ⟨⟨dx, [], upd_same, ?_, rfl, fun i q e => by simp at e⟩, fun t ht => by simp at ht, by simp⟩ hlk fun b o e hb => ?_
    · rw [upd_ne (Ne.symm npl)]
      exact upd_same
    · rw [upd_ne hb, upd_ne (ne_of_none e hlk)]
      exact e
theorem add_iff (z : Int) (ws : List Nat) : goodTable z (ws.map fun (x : Nat) => (x : Int)) ↔ (1 ≤ z ∧ z < 32 ∧ (ws.length : Int) = ((Rd07.long z.toNat : Nat) : Int) ∧ ws.length = Rd07.long z.toNat ∧ (ws.all fun x => decide (x ≤ Rd07.MOST)) = true) := by
  unfold goodTable
  rw [List.length_map, List.all_eq_true]
  have hM : Rd07.MOST = 1000 := rfl
  constructor
  · rintro ⟨h1, h2, h3, h4⟩
    have hl := SP.aw_len z.toNat (by omega)
    refine ⟨h1, by omega, by rw [h3, hl], by rw [h3, hl], fun x hx => ?_⟩
    have := h4 (x : Int) (List.mem_map.mpr ⟨x, hx, rfl⟩)
    exact decide_eq_true (by omega)
  · rintro ⟨h1, h2, _, h4, h5⟩
    have hl := SP.aw_len z.toNat (by omega)
    refine ⟨h1, by omega, by rw [h4, hl], fun x hx => ?_⟩
    obtain ⟨y, hy, rfl⟩ := List.mem_map.mp hx
    have := of_decide_eq_true (h5 y hy)
    omega
theorem scAdd : FnScope ["self", "mask", "weights"] ["self", "mask", "weights"] (defScope sAdd) := ⟨rfl, rfl, rfl, by decide +kernel, rfl, by decide +kernel, by decide +kernel⟩
theorem ok_add {f f1 f2 : Addr} {fd fd1 fd2 : FuncData} (F : Fun K "add" "Tables.add" sAdd f fd) (T : Txt K mg CS CT CA) (G1 : GF P w K mg base 2 "is_table" f1 fd1 ["mask", "weights"] spIsTable) (C2 : CF P w K mg base 2 CT "Table" f2 fd2 ["self", "mask", "weights"] (spTInit CT)) :
    FnOk P w K mg base CX0 4 f fd ["self", "mask", "weights"] (spAdd CA CT) := by
  refine F.ok scAdd (fun vs H Q E h => ?_) (fun cdv A outer s H vs Q E hr h => ?_)
  · obtain ⟨p, lk, a, ts, z, ws, rfl, _⟩ := h
    rfl
  · obtain ⟨p, lk, a, ts, z, ws, rfl, hA, ha, hwl, k⟩ := h
    obtain ⟨dx, ps, h1, h2, h3, h4⟩ := id hA.ex
    have hr2 : Room 2 _ := hr.mono (by decide)
    refine ⟨_, pss_cons (ps_if (pt_not (pt_val (pe_call G1.ok hr2 rfl G1.at_ G1.kp G1.b .nil pass0 (pa_cons (pv 1) (pa_cons (pv 2) pa_nil))))) (pss_one (ps_ret (pe_un un_neg pe_int))) pss_nil)
      (pss_cons (ps_if (pt_cmpR op_eq (pe_callB call_len_seq rfl T.b.len bt_len (pa_cons (pe_fld (pv 0) rfl) pa_nil)) (pe_ki T.mostT) (nomark _)) (pss_one (ps_ret (pe_un un_neg pe_int))) pss_nil)
      (pss_cons (ps_expr (pe_bm PySem.F.plainAttrs_list PySem.F.slot_list_append PySem.F.type_list_append mt_append (pe_fld (pv 0) rfl) (pa_cons (pe_make C2.made C2.ok hr rfl C2.at_ C2.b .nil pass0 (pa_cons (pv 1) (pa_cons (pv 2) pa_nil))) pa_nil)))
      (pss_one (ps_ret (pe_op op_sub (pe_callB call_len_seq rfl T.b.len bt_len (pa_cons (pe_fld (pv 0) rfl) pa_nil)) pe_int))))), ?_⟩
    refine ⟨_, rfl, _, rfl, z, a, ws.map (fun (x : Nat) => (x : Int)), rfl, (by rw [ha, vN_vZ]), (by rw [List.length_map]; exact hwl), fun H1 hS => ⟨_, rfl, ?_⟩⟩
    by_cases hg : goodTable z (ws.map fun (x : Nat) => (x : Int))
    · rw [decide_eq_true hg]
      have hg2 := (add_iff z ws).mp hg
      refine iteF ⟨_, rfl, p, CA, dx, _, _, rfl, hS _ _ h1, T.a, T.aK, af_kept _, lk, _, rfl, .inl (SqL.of (hS _ _ h2)), rfl, _, rfl, ?_⟩
      have el : (ps.map V.ref).length = ts.length := by rw [List.length_map, h3]
      rw [el]
      by_cases h8 : ts.length = 8
      · rw [show decide (V.int (ts.length : Nat) = V.int 8) = true from decide_eq_true (by rw [h8]; rfl)]
        refine iteT ⟨_, rfl, ?_⟩
        have e : Rd07.does ⟨ts⟩ (.add z ws (ws.length : Int)) = (⟨ts⟩, { value := -2 }) := by
          simp only [Rd07.does]
          rw [if_pos hg2, if_pos (by show 8 ≤ ts.length; omega)]
        rw [e] at k
        exact k H1 (hA.same hS) fun b o e _ => hS _ _ e
      · rw [show decide (V.int (ts.length : Nat) = V.int 8) = false from decide_eq_false (fun q => h8 (by have := V.int.inj q; omega))]
        refine iteF ?_
        have hfew := hA.few
        obtain ⟨m, rfl⟩ : ∃ m : Nat, z = (m : Int) := ⟨z.toNat, by have := hg2.1; omega⟩
        have e : Rd07.does ⟨ts⟩ (.add (m : Int) ws (ws.length : Int)) = (⟨ts ++ [⟨m, ws⟩]⟩, { value := (ts.length : Nat) }) := by
          simp only [Rd07.does]
          rw [if_pos hg2, if_neg (by show ¬ 8 ≤ ts.length; omega)]
          rfl
        rw [e] at k
        have okt : SP.Ok ⟨m, ws⟩ := by
          obtain ⟨g1, g2, g3, g4, g5⟩ := hg2
          refine ⟨by show 1 ≤ m; omega, by show m < 32; omega, by show ws.length = _; rw [g4, Int.toNat_natCast], fun x hx => ?_⟩
          exact of_decide_eq_true (List.all_eq_true.mp g5 x hx)
        refine ⟨_, rfl, p, CA, dx, _, _, rfl, hS _ _ h1, T.a, T.aK, af_kept _, .inl ⟨rfl, _, SqL.of (hS _ _ h2)⟩, _, rfl, _, rfl, fun x dx' hx hdx ndx => ?_⟩
        have ha1 : (upd (upd H1 dx' (.own x)) x (.ins CT dx' [])) a = some (.lst (vN ws)) := by
          rw [upd_ne (ne_of_none (hS _ _ ha) hx), upd_ne (ne_of_none (hS _ _ ha) hdx)]
          exact hS _ _ ha
        refine ⟨x, dx', a, ⟨m, ws⟩, rfl, upd_same, ha1, okt, fun H2 hT hk => ⟨rfl, ?_⟩⟩
        have hS2 : Same H1 H2 := Same.made hx hdx hk
        have hS02 : Same H H2 := hS.trans hS2
        have nxl : x ≠ lk := (ne_of_none (hS _ _ h2) hx).symm
        refine ⟨lk, _, _, rfl, rfl, hS02 _ _ h2, (by rw [List.length_map, h3]; exact small (by omega)), ?_⟩
        rw [refs_snoc]
        have npl : p ≠ lk := ne_of h1 h2 (by intro q; cases q)
        have sb : ∀ b o, H b = some o → b ≠ lk → (upd H2 lk (.lst ((ps ++ [x]).map V.ref))) b = some o := fun b o e hb => by
          rw [upd_ne hb]
          exact hS02 _ _ e
        refine ⟨_, rfl, p, CA, dx, _, _, rfl, sb _ _ h1 npl, T.a, T.aK, af_kept _, lk, _, rfl, .inl (SqL.of upd_same), _, _, rfl, rfl, ?_⟩
        have ev : (((ps ++ [x]).map V.ref).length : Int) - 1 = ((ts.length : Nat) : Int) := by
          rw [List.length_map, List.length_append, h3]
          simp
        show Q (.int ((((ps ++ [x]).map V.ref).length : Int) - 1)) _
        rw [ev]
        -- a table's two objects are not the list
        have keepT : ∀ {q : Addr} {t : Rd07.Table}, TabAt CT H2 q t → TabAt CT (upd H2 lk (.lst ((ps ++ [x]).map V.ref))) q t := by
          rintro q t ⟨dy, d, y1, y2⟩
          refine ⟨dy, d, ?_, ?_⟩
          · rw [upd_ne (ne_of y1 (hS02 _ _ h2) (by intro z; cases z))]
            exact y1
          · rw [upd_ne (ne_of y2 (hS02 _ _ h2) (by intro z; cases z))]
            exact y2
        refine k _ ⟨⟨dx, ps ++ [x], sb _ _ h1 npl, upd_same, by simp [h3], fun i q e => ?_⟩, fun t ht => ?_, by simp; omega⟩ sb
        · rw [List.getElem?_append] at e
          by_cases hi : i < ps.length
          · rw [if_pos hi] at e
            obtain ⟨t, e1, e2⟩ := h4 i q e
            exact ⟨t, by rw [List.getElem?_append_left (by omega)]; exact e1, keepT (e2.same hS02)⟩
          · rw [if_neg hi] at e
            have hi2 : i = ps.length := by
              apply Classical.byContradiction
              intro z
              rw [List.getElem?_eq_none (by simp; omega)] at e
              cases e
            subst hi2
            have : x = q := by simpa using e
            subst this
            refine ⟨⟨m, ws⟩, ?_, keepT hT⟩
            rw [h3, List.getElem?_append_right (Nat.le_refl _)]
            simp
        · rcases List.mem_append.mp ht with ht | ht
          · exact hA.ok t ht
          · have : t = ⟨m, ws⟩ := by simpa using ht
            rw [this]
            exact okt
    · rw [decide_eq_false hg]
      refine iteT ⟨_, rfl, ?_⟩
      have e : Rd07.does ⟨ts⟩ (.add z ws (ws.length : Int)) = (⟨ts⟩, Rd07.refused) := by
        simp only [Rd07.does]
        rw [if_neg (fun q => hg ((add_iff z ws).mpr q))]
      rw [e] at k
      exact k H1 (hA.same hS) fun b o e _ => hS _ _ e
end
end AT
end
section
namespace SP
open Rd07
theorem putN_mem {l : List (Nat × Nat)} {k v : Nat} (a u : Nat) : (a, u) ∈ putN l k v ↔ (a = k ∧ u = v) ∨ (a ≠ k ∧ (a, u) ∈ l) := by
  unfold putN
  by_cases h : (l.any fun p => decide (p.1 = k)) = true
  · rw [if_pos h]
    obtain ⟨v0, hv0⟩ := any_iff.mp h
    rw [List.mem_map]
    constructor
    · rintro ⟨p, hp, e⟩
      by_cases hc : p.1 = k
      · rw [if_pos hc] at e
        left
        exact ⟨by rw [← (Prod.mk.inj e).1]; exact hc, (Prod.mk.inj e).2.symm⟩
      · rw [if_neg hc] at e
        subst e
        exact .inr ⟨hc, hp⟩
    · rintro (⟨rfl, rfl⟩ | ⟨hne, hm⟩)
      · exact ⟨(a, v0), hv0, by simp⟩
      · exact ⟨(a, u), hm, by simp [hne]⟩
  · rw [if_neg h]
    have hno : ∀ v, ¬ (k, v) ∈ l := fun v hv => h (any_iff.mpr ⟨v, hv⟩)
    rw [List.mem_append]
    constructor
    · rintro (hm | hm)
      · right
        refine ⟨?_, hm⟩
        rintro rfl
        exact hno u hm
      · left
        have : (a, u) = (k, v) := by simpa using hm
        exact Prod.mk.inj this
    · rintro (⟨rfl, rfl⟩ | ⟨_, hm⟩)
      · right; simp
      · exact .inl hm
theorem putN_nd {l : List (Nat × Nat)} {k v : Nat} (nd : (l.map (·.1)).Nodup) : ((putN l k v).map (·.1)).Nodup := by
  unfold putN
  by_cases h : (l.any fun p => decide (p.1 = k)) = true
  · rw [if_pos h]
    have hkeys : (l.map (fun p => if p.1 = k then (p.1, v) else p)).map (·.1) = l.map (·.1) := by
      rw [List.map_map]
      apply List.map_congr_left
      intro p _
      dsimp only [Function.comp]
      split <;> rfl
    rw [hkeys]
    exact nd
  · rw [if_neg h]
    have hno : ∀ v, ¬ (k, v) ∈ l := fun v hv => h (any_iff.mpr ⟨v, hv⟩)
    rw [List.map_append, List.nodup_append]
    refine ⟨nd, by simp, ?_⟩
    intro a ha' b hb
    simp only [List.map_cons, List.map_nil, List.mem_singleton] at hb
    subst hb
    rintro rfl
    obtain ⟨p, hp, e⟩ := List.mem_map.mp ha'
    exact hno p.2 (by rw [← e]; exact hp)
theorem sumAt_le (ps : List (Nat × Nat)) (h : ∀ q, q ∈ ps → q.2 ≤ 1000) (s k : Nat) : sumAt ps s k ≤ 1000 * ps.length := by
  unfold sumAt
  induction ps with
  | nil => simp
  | cons a r ih =>
    have h1 := ih fun q hq => h q (List.mem_cons_of_mem _ hq)
    have h2 := h a List.mem_cons_self
    rw [List.map_cons, List.sum_cons, List.length_cons]
    split <;> omega
theorem share_le (t : Table) (ht : Ok t) (s k : Nat) : sumAt (prs t) s k ≤ 32000 := by
  have h1 := sumAt_le (prs t) (fun q hq => ht.most _ (List.of_mem_zip hq).2) s k
  have h2 := prs_len t ht
  have h3 := long_le32 t.mask ht.hi
  have : 1000 * (prs t).length ≤ 1000 * 32 := Nat.mul_le_mul_left _ (by omega)
  omega
end SP
namespace AT
open PySem PySem.Spec PyProof.Rows L2
section
variable {P : Program} {w : World} {K : PySem.W.Frag} {mg : Str → Option Value} {base : Heap} {CS CT CA : Addr}
theorem scShare : FnScope ["self", "i", "mask", "told", "table"] ["self", "i", "mask", "told"] (defScope sShare) := ⟨rfl, rfl, rfl, by decide +kernel, rfl, by decide +kernel, by decide +kernel⟩
theorem share_no (ts : List Rd07.Table) (i m x : Int) (h : ¬ (0 ≤ i ∧ i < ts.length) ∨ ¬ (0 ≤ m ∧ m ≤ 31) ∨ ¬ (0 ≤ x ∧ x ≤ 31) ∨ (∀ t, ts[i.toNat]? = some t → ¬ m.toNat &&& t.mask = m.toNat)) : (Rd07.does ⟨ts⟩ (.share i m x)).2.value = -1 := by
  simp only [Rd07.does]
  by_cases h1 : Rd07.below i ts.length = true
  · rw [if_pos h1]
    cases e : ts[i.toNat]? with
    | none => rfl
    | some t =>
      dsimp only
      rw [if_neg]
      · rfl
      · rintro ⟨a1, a2, a3⟩
        unfold Rd07.below at h1 a1 a3
        unfold Rd07.within at a2
        rw [Bool.and_eq_true, decide_eq_true_iff, decide_eq_true_iff] at h1 a1 a3
        rcases h with h | h | h | h
        · exact h h1
        · exact h ⟨a1.1, by omega⟩
        · exact h ⟨a3.1, by omega⟩
        · exact h t e (eq_of_beq a2)
  · rw [if_neg h1]
    rfl
theorem share_yes (ts : List Rd07.Table) (i m x : Nat) (t : Rd07.Table) (e : ts[i]? = some t) (hm : m < 32) (hx : x < 32) (hs : m &&& t.mask = m) : (Rd07.does ⟨ts⟩ (.share (i : Int) (m : Int) (x : Int))).2.value = ((Rd07.share t m x : Nat) : Int) := by
  simp only [Rd07.does]
  have hi : i < ts.length := (List.getElem?_eq_some_iff.mp e).1
  rw [if_pos (by unfold Rd07.below; rw [Bool.and_eq_true, decide_eq_true_iff, decide_eq_true_iff]; omega), Int.toNat_natCast, e]
  dsimp only
  rw [if_pos]
  · rw [Int.toNat_natCast, Int.toNat_natCast]
  · refine ⟨?_, ?_, ?_⟩
    · unfold Rd07.below; rw [Bool.and_eq_true, decide_eq_true_iff, decide_eq_true_iff]; omega
    · rw [Int.toNat_natCast]; unfold Rd07.within; exact beq_of_eq hs
    · unfold Rd07.below; rw [Bool.and_eq_true, decide_eq_true_iff, decide_eq_true_iff]; omega
theorem ok_share {f f1 f2 : Addr} {fd fd1 fd2 : FuncData} (F : Fun K "share" "Tables.share" sShare f fd) (T : Txt K mg CS CT CA) (G1 : GF P w K mg base 1 "is_mask" f1 fd1 ["number"] spIsMask) (MS : MF P w K mg base 1 CT "shares" f2 fd2 ["self", "mask"] (spShares CT)) :
    FnOk P w K mg base CX0 2 f fd ["self", "i", "mask", "told"] (spShare CA CT) := by
  refine F.ok scShare (fun vs H Q E h => ?_) (fun cdv A outer s H vs Q E hr h => ?_)
  · obtain ⟨p, lk, ts, i, m, x, rfl, _⟩ := h
    rfl
  · obtain ⟨p, lk, ts, i, m, x, rfl, hA, k⟩ := h
    obtain ⟨dx, ps, h1, h2, h3, h4⟩ := id hA.ex
    have hu := hu_of hr
    have nd := scShare.nd
    refine ⟨_, pss_cons (ps_if (PW.pt (pw_or (pt_cmpR op_lt (pv 1) pe_int (nomark _)) (pw_or1 (pt_cmpR op_ge (pv 1) (pe_callB call_len_seq rfl T.b.len bt_len (pa_cons (pe_fld (pv 0) rfl) pa_nil)) (nomark _))))) (pss_one (ps_ret (pe_un un_neg pe_int))) pss_nil)
      (pss_cons (ps_if (PW.pt (pw_or (pt_not (pt_val (pe_call G1.ok hr rfl G1.at_ G1.kp G1.b .nil pass0 (pa_cons (pv 2) pa_nil)))) (pw_or1 (pt_not (pt_val (pe_call G1.ok hr rfl G1.at_ G1.kp G1.b .nil pass0 (pa_cons (pv 3) pa_nil))))))) (pss_one (ps_ret (pe_un un_neg pe_int))) pss_nil)
      (pss_cons (ps_set (i := 4) nd rfl (Or.inl rfl) (pe_ix ix_list (pe_fld (pv 0) rfl) (pv 1) (fun _ _ => rfl)))
      (pss_cons (ps_if (pt_cmpR op_ne (pe_op op_and (pv 2) (pe_fld (pv 4) rfl)) (pv 2) (nomark _)) (pss_one (ps_ret (pe_un un_neg pe_int))) pss_nil)
      (pss_one (ps_ret (pe_dget hu (pe_meth (pv 4) T.t MS.mt MS.ok hr MS.b .nil pass0 (pa_cons (pv 2) pa_nil)) (pe_op op_and (pv 3) (pv 2)) (fun _ _ => rfl))))))), ?_⟩
    have el : (ps.map V.ref).length = ts.length := by rw [List.length_map, h3]
    have refuse : (¬ (0 ≤ i ∧ i < ts.length) ∨ ¬ (0 ≤ m ∧ m ≤ 31) ∨ ¬ (0 ≤ x ∧ x ≤ 31) ∨ (∀ t, ts[i.toNat]? = some t → ¬ m.toNat &&& t.mask = m.toNat)) → Q (.int (-1)) H := fun z => by
      have := k H (Same.refl _)
      rw [share_no ts i m x z] at this
      exact this
    refine ⟨_, rfl, _, _, rfl, rfl, _, rfl, ?_⟩
    by_cases hi0 : i < 0
    · rw [decide_eq_true hi0]
      exact iteT (iteT ⟨_, rfl, refuse (.inl (by omega))⟩)
    · rw [decide_eq_false hi0]
      refine iteF ⟨_, rfl, _, rfl, p, CA, dx, _, _, rfl, h1, T.a, T.aK, af_kept _, lk, _, rfl, .inl (SqL.of h2), _, _, rfl, rfl, _, rfl, ?_⟩
      rw [el]
      by_cases hi1 : (ts.length : Int) ≤ i
      · rw [decide_eq_true hi1]
        exact iteT ⟨_, rfl, refuse (.inl (by omega))⟩
      · rw [decide_eq_false hi1]
        refine iteF ⟨_, rfl, m, rfl, _, rfl, ?_⟩
        by_cases hm : 0 ≤ m ∧ m ≤ 31
        · rw [decide_eq_true hm]
          refine iteF ⟨_, rfl, x, rfl, _, rfl, ?_⟩
          by_cases hx : 0 ≤ x ∧ x ≤ 31
          · rw [decide_eq_true hx]
            refine iteF ?_
            obtain ⟨i, rfl⟩ : ∃ n : Nat, i = (n : Int) := ⟨i.toNat, by omega⟩
            obtain ⟨m, rfl⟩ : ∃ n : Nat, m = (n : Int) := ⟨m.toNat, by omega⟩
            obtain ⟨x, rfl⟩ : ∃ n : Nat, x = (n : Int) := ⟨x.toNat, by omega⟩
            have hil : i < ps.length := by omega
            obtain ⟨t, et, hT⟩ := h4 i ps[i] (List.getElem?_eq_getElem hil)
            have okt := ok_at hA.ok et
            have hg : (ps.map V.ref)[i]? = some (.ref ps[i]) := by
              rw [List.getElem?_map, List.getElem?_eq_getElem hil]
              all_goals rfl
            obtain ⟨dt, d, t1, t2⟩ := id hT
            refine ⟨_, rfl, p, CA, dx, _, _, rfl, h1, T.a, T.aK, af_kept _, _, rfl, lk, _, _, _, rfl, rfl, SqL.of h2, atI_nat hg, ?_⟩
            refine ⟨_, rfl, _, rfl, ps[i], CT, dt, _, _, rfl, t1, T.t, T.tM, tf_mask _ _, _, _, rfl, rfl, _, rfl, rfl, _, rfl, ?_⟩
            rw [show (!decide ((fun i j : Int => V.int (Builtin.bitAnd i j)) (m : Int) (t.mask : Int) = V.int (m : Nat))) = !decide (m &&& t.mask = m) from congrArg not (dband m t.mask m)]
            by_cases hs : m &&& t.mask = m
            · rw [decide_eq_true hs]
              refine iteF ?_
              refine ⟨_, rfl, ps[i], dt, _, rfl, t1, tf_no _ _ (by decide +kernel) (by decide +kernel), _, rfl, ps[i], t, m, rfl, hT, okt, fun H1 r l hS hr0 hr1 hl => ?_⟩
              have hk := SP.key_sub t okt m hs x (by omega)
              have hmem : (x &&& m, SP.sumAt (SP.prs t) m (x &&& m)) ∈ l := (hl.mem _ _).mpr ⟨hk, rfl⟩
              have hlk : SP.lkN l (x &&& m) = some (SP.sumAt (SP.prs t) m (x &&& m)) := by
                cases e : SP.lkN l (x &&& m) with
                | none => exact absurd hmem (SP.lkN_none e _)
                | some v => rw [SP.nd_val hl.nd (SP.lkN_some e) hmem]
              have hget := DGet.k (k := Sum.inl ((x &&& m : Nat) : Int)) hr1
              rw [valV_dn, hlk] at hget
              refine ⟨_, rfl, _, rfl, _, _, rfl, rfl, r, _, rfl, hget, ?_⟩
              have := k H1 hS
              rw [share_yes ts i m x t et (by omega) (by omega) hs, SP.share_sumAt t okt] at this
              exact this
            · rw [decide_eq_false hs]
              refine iteT ⟨_, rfl, refuse (.inr (.inr (.inr fun t' e' => ?_)))⟩
              rw [Int.toNat_natCast] at e' ⊢
              rw [et] at e'
              cases e'
              exact hs
          · rw [decide_eq_false hx]
            exact iteT ⟨_, rfl, refuse (.inr (.inr (.inl hx)))⟩
        · rw [decide_eq_false hm]
          exact iteT (iteT ⟨_, rfl, refuse (.inr (.inl hm))⟩)
theorem scAgree : FnScope ["self", "i", "second", "first"] ["self"] (defScope sAgree) := ⟨rfl, rfl, rfl, by decide +kernel, rfl, by decide +kernel, by decide +kernel⟩
def agreeV (ts : List Rd07.Table) : Int := Rd07.bit (Rd07.agree 5 ts)
theorem cut_take (ps : List Addr) (n : Nat) : cutV (ps.map V.ref) none (some (n : Int)) = (ps.take n).map V.ref := by
  unfold cutV
  rw [HT.sIx_none, HT.sIx_nat, List.drop_zero, Nat.sub_zero, List.length_map, List.map_take]
  by_cases h : n ≤ ps.length
  · rw [Nat.min_eq_left h]
  · rw [Nat.min_eq_right (by omega), List.take_of_length_le (by simp), List.take_of_length_le (by simp; omega)]
theorem ok_agree {f f1 : Addr} {fd fd1 : FuncData} (F : Fun K "agree" "Tables.agree" sAgree f fd) (T : Txt K mg CS CT CA) (G1 : GF P w K mg base 2 "two_agree" f1 fd1 ["first", "second"] (spTwoAgree CT)) :
    FnOk P w K mg base CX0 3 f fd ["self"] (spAsk CA CT agreeV) := by
  refine F.ok scAgree (fun vs H Q E h => ?_) (fun cdv A outer s H vs Q E hr h => ?_)
  · obtain ⟨p, lk, ts, rfl, _⟩ := h
    rfl
  · obtain ⟨p, lk, ts, rfl, hA, k⟩ := h
    obtain ⟨dx, ps, h1, h2, h3, h4⟩ := id hA.ex
    have nd := scAgree.nd
    refine ⟨_, pss_cons (ps_for PassesOwn.never rfl (pi_enum rfl T.b.enumerate (pa_cons (pe_fld (pv 0) rfl) pa_nil)) (pg2 K (i := 1) (j := 2) rfl rfl nd rfl (Or.inl rfl) (Or.inl rfl) rfl (Or.inl rfl) (Or.inl rfl))
        (pss_one (ps_for PassesOwn.never rfl (pi_list (pe_slice sl_list (pe_fld (pv 0) rfl) po_none (po_some (pv 1)))) (pg_name (i := 3) nd rfl (Or.inl rfl))
          (pss_one (ps_if (pt_not (pt_val (pe_call G1.ok hr rfl G1.at_ G1.kp G1.b .nil pass0 (pa_cons (pv 3) (pa_cons (pv 2) pa_nil))))) (pss_one (ps_ret pe_int)) pss_nil)))))
      (pss_one (ps_ret pe_int)), ?_⟩
    refine ⟨_, rfl, p, CA, dx, _, _, rfl, h1, T.a, T.aK, af_kept _, lk, _, rfl, SqL.of h2, ?_⟩
    have el : (ps.map V.ref).length = ts.length := by rw [List.length_map, h3]
    refine forE (fun n σ H' => ∃ v1 v2 v3 : Option V, σ = [some (.ref p), v1, v2, v3] ∧ Same H H' ∧ ∀ (i j : Nat) (t u : Rd07.Table), i < n → j < i → ts[j]? = some t → ts[i]? = some u → Rd07.agreeTwo 5 t u = true)
      ⟨none, none, none, rfl, Same.refl _, fun i j t u h => by omega⟩ (fun n σ H' _ ⟨_, _, _, _, hS, _⟩ => SqL.of (hS _ _ h2)) (fun n x σ H' Tt hx hT ⟨v1, v2, v3, e, hS, hag⟩ => ?_) (fun σ H' ⟨v1, v2, v3, e, hS, hag⟩ => ?_)
    · subst e
      obtain ⟨q, hq, rfl⟩ := refs_get hx
      have hn : n < ps.length := (List.getElem?_eq_some_iff.mp hq).1
      obtain ⟨u, eu, hTu⟩ := h4 n q hq
      have hS1 : Same H (upd H' Tt (.tup [.int (n : Nat), .ref q])) := Same.upd2 hS hT
      refine ⟨_, rfl, p, CA, dx, _, _, rfl, hS1 _ _ h1, T.a, T.aK, af_kept _, _, rfl, _, rfl, lk, _, rfl, SqL.of (hS1 _ _ h2), fun c hc => ?_⟩
      rw [cut_take]
      have hS2 : Same H (upd (upd H' Tt (.tup [.int (n : Nat), .ref q])) c (.lst ((ps.take n).map V.ref))) := Same.upd2 hS1 hc
      refine ⟨c, rfl, ⟨_, SqL.of upd_same⟩, ?_⟩
      have elc : ((ps.take n).map V.ref).length = n := by rw [List.length_map, List.length_take]; omega
      refine for_list (K := K) (a := c) (xs := (ps.take n).map V.ref) (fun j σ H'' => ∃ v3 : Option V, σ = [some (.ref p), some (.int (n : Nat)), some (.ref q), v3] ∧ Same (upd (upd H' Tt (.tup [.int (n : Nat), .ref q])) c (.lst ((ps.take n).map V.ref))) H'' ∧ ∀ (j' : Nat) (t : Rd07.Table), j' < j → ts[j']? = some t → Rd07.agreeTwo 5 t u = true)
        ⟨_, rfl, Same.refl _, fun j' t h => by omega⟩ (fun j σ H'' _ ⟨_, _, hs, _⟩ => SqL.of (hs _ _ upd_same)) (fun j y σ H'' hy ⟨w3, e, hs, haj⟩ => ?_) (fun σ H'' ⟨w3, e, hs, haj⟩ => ?_)
      · subst e
        obtain ⟨q', hq', rfl⟩ := refs_get hy
        have hjn : j < n := by rw [← elc]; exact (List.getElem?_eq_some_iff.mp hy).1
        rw [List.getElem?_take_of_lt hjn] at hq'
        obtain ⟨t, et, hTt⟩ := h4 j q' hq'
        have hS3 := hS2.trans hs
        refine ⟨_, rfl, _, rfl, q', q, t, u, rfl, hTt.same hS3, ok_at hA.ok et, hTu.same hS3, ok_at hA.ok eu, fun H3 hs3 => ⟨_, rfl, ?_⟩⟩
        cases hc2 : Rd07.agreeTwo 5 t u with
        | true =>
          refine iteF ⟨_, rfl, hs.trans hs3, fun j' t' hj' et' => ?_⟩
          by_cases e : j' = j
          · subst e
            rw [et] at et'
            cases et'
            exact hc2
          · exact haj j' t' (by omega) et'
        | false =>
          refine iteT ?_
          have hf : Rd07.agree 5 ts = false := by
            cases ha : Rd07.agree 5 ts with
            | false => rfl
            | true =>
              have := (SP.agree_iff ts).mp ha n j t u hjn et eu
              rw [hc2] at this
              cases this
          have := k H3 (hS3.trans hs3)
          unfold agreeV at this
          rw [hf] at this
          exact this
      · subst e
        rw [elc] at haj
        refine ⟨_, _, _, rfl, hS2.trans hs, fun i j t u' hi hj et eu' => ?_⟩
        by_cases e : i = n
        · subst e
          rw [eu] at eu'
          cases eu'
          exact haj j t hj et
        · exact hag i j t u' (by omega) hj et eu'
    · subst e
      rw [el] at hag
      have ht : Rd07.agree 5 ts = true := (SP.agree_iff ts).mpr fun i j t u hj et eu => hag i j t u (List.getElem?_eq_some_iff.mp eu).1 hj et eu
      have := k H' hS
      unfold agreeV at this
      rw [ht] at this
      exact this
end
end AT
end
section
namespace AT
open PySem PySem.Spec PyProof.Rows L2
def spShareEqs (CA CT : Addr) : Sp := fun vs H Q _ => ∃ (p lk : Addr) (ts : List Rd07.Table), vs = [.ref p] ∧ AllAt CA CT H p lk ts ∧
  ∀ (H' : Hp) (a : Addr) (as : List Addr) (L : List (Nat × Nat)), Same H H' → H' a = some (.lst (as.map V.ref)) → RowsAt H' as (EQ.eqs L) → EQ.TotOk ts L → Q (.ref a) H'
structure Tot (ts : List Rd07.Table) (n j : Nat) (L : List (Nat × Nat)) : Prop where
  nd : (L.map (·.1)).Nodup
  of : ∀ a v, (a, v) ∈ L → ∃ t, t ∈ ts ∧ a &&& t.mask = a ∧ a < 32 ∧ v = SP.sumAt (SP.prs t) a a
  has : ∀ (i : Nat) (t : Rd07.Table), i < n → ts[i]? = some t → ∀ a, a < 32 → a &&& t.mask = a → ∃ v, (a, v) ∈ L
  now : ∀ (t : Rd07.Table), ts[n]? = some t → ∀ i, i < j → ∀ a, (SP.aw t.mask)[i]? = some a → ∃ v, (a, v) ∈ L
theorem Tot.first (ts : List Rd07.Table) : Tot ts 0 0 [] := ⟨by simp, fun a v h => by simp at h, fun i t h => by omega, fun t _ i h => by omega⟩
theorem Tot.put {ts : List Rd07.Table} {n j : Nat} {L : List (Nat × Nat)} (h : Tot ts n j L) {t : Rd07.Table} (et : ts[n]? = some t) {a : Nat} (ea : (SP.aw t.mask)[j]? = some a) : Tot ts n (j + 1) (SP.putN L a (SP.sumAt (SP.prs t) a a)) := by
  have keep : ∀ b, (∃ v, (b, v) ∈ L) → ∃ v, (b, v) ∈ SP.putN L a (SP.sumAt (SP.prs t) a a) := by
    rintro b ⟨v, hv⟩
    by_cases e : b = a
    · exact ⟨_, (SP.putN_mem b _).mpr (.inl ⟨e, rfl⟩)⟩
    · exact ⟨v, (SP.putN_mem b v).mpr (.inr ⟨e, hv⟩)⟩
  have ha := (SP.aw_mem t.mask a).mp (List.mem_of_getElem? ea)
  refine ⟨SP.putN_nd h.nd, fun b v hb => ?_, fun i t' hi et' b hb hm => keep b (h.has i t' hi et' b hb hm), fun t' et' i hi b eb => ?_⟩
  · rcases (SP.putN_mem b v).mp hb with ⟨rfl, rfl⟩ | ⟨_, hb⟩
    · exact ⟨t, List.mem_of_getElem? et, ha.2, ha.1, rfl⟩
    · exact h.of b v hb
  · by_cases e : i = j
    · subst e
      rw [et] at et'
      cases et'
      rw [ea] at eb
      cases eb
      exact ⟨_, (SP.putN_mem _ _).mpr (.inl ⟨rfl, rfl⟩)⟩
    · exact keep b (h.now t' et' i (by omega) b eb)
theorem Tot.next {ts : List Rd07.Table} {n : Nat} {L : List (Nat × Nat)} {t : Rd07.Table} (et : ts[n]? = some t) (h : Tot ts n (SP.aw t.mask).length L) : Tot ts (n + 1) 0 L := by
  refine ⟨h.nd, h.of, fun i t' hi et' a ha hm => ?_, fun t' _ i hi => by omega⟩
  by_cases e : i = n
  · subst e
    rw [et] at et'
    cases et'
    obtain ⟨j, hj⟩ := List.getElem?_of_mem ((SP.aw_mem t.mask a).mpr ⟨ha, hm⟩)
    exact h.now t et j (List.getElem?_eq_some_iff.mp hj).1 a hj
  · exact h.has i t' (by omega) et' a ha hm
theorem Tot.done {ts : List Rd07.Table} {L : List (Nat × Nat)} (h : Tot ts ts.length 0 L) : EQ.TotOk ts L :=
  ⟨h.nd, h.of, fun t ht a ha hm => let ⟨i, hi⟩ := List.getElem?_of_mem ht; h.has i t (List.getElem?_eq_some_iff.mp hi).1 hi a ha hm⟩
theorem Tot.len {ts : List Rd07.Table} {n j : Nat} {L : List (Nat × Nat)} (h : Tot ts n j L) : L.length ≤ 32 := by
  have := SP.nd_sub (L.map (·.1)) (List.range 32) h.nd (by
    intro a ha
    obtain ⟨p, hp, rfl⟩ := List.mem_map.mp ha
    obtain ⟨t, _, _, hlt, _⟩ := h.of p.1 p.2 hp
    exact List.mem_range.mpr hlt)
  simpa using this
section
variable {P : Program} {w : World} {K : PySem.W.Frag} {mg : Str → Option Value} {base : Heap} {CS CT CA : Addr}
theorem scShareEqs : FnScope ["self", "totals", "table", "asked", "total"] ["self"] (defScope sShareEqs) := ⟨rfl, rfl, rfl, by decide +kernel, rfl, by decide +kernel, by decide +kernel⟩
theorem ok_shareEqs {f f1 f2 f3 : Addr} {fd fd1 fd2 fd3 : FuncData} (F : Fun K "share_equations" "Tables.share_equations" sShareEqs f fd) (T : Txt K mg CS CT CA) (GW : GF P w K mg base 1 "answers_within" f1 fd1 ["mask"] spWithin) (MS : MF P w K mg base 1 CT "shares" f2 fd2 ["self", "mask"] (spShares CT)) (GE : GF P w K mg base 1 "equation" f3 fd3 ["asked", "total"] spEquation) :
    FnOk P w K mg base CX0 2 f fd ["self"] (spShareEqs CA CT) := by
  refine F.ok scShareEqs (fun vs H Q E h => ?_) (fun cdv A outer s H vs Q E hr h => ?_)
  · obtain ⟨p, lk, ts, rfl, _⟩ := h
    rfl
  · obtain ⟨p, lk, ts, rfl, hA, k⟩ := h
    obtain ⟨dx, ps, h1, h2, h3, h4⟩ := id hA.ex
    have hu := hu_of hr
    have nd := scShareEqs.nd
    refine ⟨_, pss_cons (ps_set (i := 1) nd rfl (Or.inl rfl) pe_dnewK)
      (pss_cons (ps_for PassesOwn.never rfl (pi_list (pe_fld (pv 0) rfl)) (pg_name (i := 2) nd rfl (Or.inl rfl))
        (pss_one (ps_for PassesOwn.never rfl (pi_list (pe_call GW.ok hr rfl GW.at_ GW.kp GW.b .nil pass0 (pa_cons (pe_fld (pv 2) rfl) pa_nil))) (pg_name (i := 3) nd rfl (Or.inl rfl))
          (pss_one (ps_dput hu (pv 1) (pv 3) (pe_dget hu (pe_meth (pv 2) T.t MS.mt MS.ok hr MS.b .nil pass0 (pa_cons (pv 3) pa_nil)) (pv 3) (fun _ _ => rfl)) rfl)))))
      (pss_one (ps_ret (pe_lock (pe_lc (own := [("asked", 3), ("total", 4)]) rfl nd (pi_items (pv 1)) (blkOk_by rfl) (fun s H C cl fp => pg2 K (i := 3) (j := 4) rfl rfl nd rfl (Or.inl rfl) (Or.inr rfl) rfl (Or.inl rfl) (Or.inr rfl)) (fun s H C cl fp => pts_nil)
        (fun s H C cl fp => pe_call GE.ok hr rfl GE.at_ GE.kp GE.b .nil pass0 (pa_cons (pv 3) (pa_cons (pv 4) pa_nil)))))))), ?_⟩
    intro r hr0
    have el : (ps.map V.ref).length = ts.length := by rw [List.length_map, h3]
    refine ⟨_, rfl, p, CA, dx, _, _, rfl, (by rw [upd_ne (ne_of_none h1 hr0)]; exact h1), T.a, T.aK, af_kept _, lk, rfl, ⟨_, SqL.of (by rw [upd_ne (ne_of_none h2 hr0)]; exact h2)⟩, ?_⟩
    refine for_list (K := K) (a := lk) (xs := ps.map V.ref) (fun n σ H' => ∃ (v2 v3 : Option V) (L : List (Nat × Nat)), σ = [some (.ref p), some (.ref r), v2, v3, none] ∧ Same H H' ∧ H' r = some (.dK (dz (dn L))) ∧ Tot ts n 0 L)
      ⟨none, none, [], rfl, Same.upd hr0, upd_same, Tot.first ts⟩ (fun n σ H' _ ⟨_, _, _, _, hS, _⟩ => SqL.of (hS _ _ h2)) (fun n x σ H' hx ⟨v2, v3, L, e, hS, hr1, hL⟩ => ?_) (fun σ H' ⟨v2, v3, L, e, hS, hr1, hL⟩ => ?_)
    · subst e
      obtain ⟨q, hq, rfl⟩ := refs_get hx
      obtain ⟨t, et, hT⟩ := h4 n q hq
      have okt := ok_at hA.ok et
      obtain ⟨dt, d, t1, t2⟩ := id hT
      refine ⟨_, rfl, q, CT, dt, _, _, rfl, hS _ _ t1, T.t, T.tM, tf_mask _ _, t.mask, rfl, fun H1 aw hS1 haw0 haw1 => ?_⟩
      refine ⟨aw, rfl, ⟨_, SqL.of haw1⟩, ?_⟩
      refine for_list (K := K) (a := aw) (xs := vN (SP.aw t.mask)) (fun j σ H'' => ∃ (v3 : Option V) (L : List (Nat × Nat)), σ = [some (.ref p), some (.ref r), some (.ref q), v3, none] ∧ Same H H'' ∧ H'' aw = some (.lst (vN (SP.aw t.mask))) ∧ H'' r = some (.dK (dz (dn L))) ∧ Tot ts n j L)
        ⟨_, L, rfl, hS.trans hS1, haw1, hS1 _ _ hr1, hL⟩ (fun j σ H'' _ ⟨_, _, _, _, e, _⟩ => SqL.of e) (fun j y σ H'' hy ⟨v3, L, e, hS2, haw2, hr2, hL2⟩ => ?_) (fun σ H'' ⟨v3, L, e, hS2, haw2, hr2, hL2⟩ => ?_)
      · subst e
        obtain ⟨a, ea, rfl⟩ := of_vN_at hy
        have ha := (SP.aw_mem t.mask a).mp (List.mem_of_getElem? ea)
        refine ⟨_, rfl, q, dt, _, rfl, hS2 _ _ t1, tf_no _ _ (by decide +kernel) (by decide +kernel), _, rfl, q, t, a, rfl, hT.same hS2, okt, fun H3 s' l hS3 hs0 hs1 hl => ?_⟩
        have hk := SP.key_sub t okt a ha.2 a ha.1
        rw [Nat.and_self] at hk
        have hmem : (a, SP.sumAt (SP.prs t) a a) ∈ l := (hl.mem _ _).mpr ⟨hk, rfl⟩
        have hlk : SP.lkN l a = some (SP.sumAt (SP.prs t) a a) := by
          cases e : SP.lkN l a with
          | none => exact absurd hmem (SP.lkN_none e _)
          | some v => rw [SP.nd_val hl.nd (SP.lkN_some e) hmem]
        have hget := DGet.k (k := Sum.inl (a : Int)) hs1
        rw [valV_dn, hlk] at hget
        have hr3 := hS3 _ _ hr2
        refine ⟨_, rfl, s', _, rfl, hget, _, rfl, _, rfl, r, _, rfl, DPut.k (k := Sum.inl (a : Int)) hr3 (by rw [dzdn_len]; have := hL2.len; exact small (by omega)), ?_⟩
        refine ⟨_, SP.putN L a (SP.sumAt (SP.prs t) a a), rfl, fun b o e => ?_, ?_, ?_, hL2.put et ea⟩
        · rw [upd_ne (ne_of_none e hr0)]
          exact hS3 _ _ (hS2 _ _ e)
        · rw [upd_ne (ne_of haw2 hr2 (by intro z; cases z))]
          exact hS3 _ _ haw2
        · rw [upd_same, ← putK_dn]
      · subst e
        rw [vN_len] at hL2
        exact ⟨_, _, L, rfl, hS2, hr2, hL2.next et⟩
    · subst e
      rw [el] at hL
      have hLd := hL.done
      have hL32 := hL.len
      refine ⟨r, _, hr1, trivial, fun od => ?_⟩
      refine ⟨_, rfl, r, od, _, rfl, upd_same, fun R hR => ?_⟩
      have nrR : r ≠ R := by
        intro z
        subst z
        rw [upd_same] at hR
        cases hR
      refine lcI2 (kvs := dz (dn L)) (by rw [dzdn_len]; exact small (by omega)) hR upd_same
        (fun i acc H' => ∃ bs : List Addr, acc = bs.map V.ref ∧ bs.length = i ∧ ∀ (j : Nat) (a : Addr), bs[j]? = some a → a ≠ R ∧ H' a = some (.lst (vZ ((EQ.eqs L).getD j []))))
        (fun i acc Ha Hb hs ⟨bs, e1, e2, e3⟩ => ⟨bs, e1, e2, fun j a e => ⟨(e3 j a e).1, hs _ _ (e3 j a e).2 (e3 j a e).1⟩⟩) ⟨[], rfl, rfl, fun j a e => by simp at e⟩
        (fun n ky v H1 acc hn hS1 hacc ⟨bs, e1, e2, e3⟩ Y kY N => ?_) (fun acc H1 hS1 hacc ⟨bs, e1, e2, e3⟩ => ?_)
      · obtain ⟨q, hq, rfl, rfl⟩ := dzdn_at hn
        refine ⟨rfl, tyes ⟨_, rfl, _, rfl, q.1, q.2, rfl, fun H2 y s2 hy0 hy1 => kY _ _ s2 ?_⟩⟩
        refine ⟨bs ++ [y], by rw [e1]; exact refs_snoc bs y, by simp [e2], fun j a' e => ?_⟩
        rw [List.getElem?_append] at e
        by_cases hj : j < bs.length
        · rw [if_pos hj] at e
          exact ⟨(e3 j a' e).1, s2 _ _ (e3 j a' e).2⟩
        · rw [if_neg hj] at e
          have hj2 : j = bs.length := by
            apply Classical.byContradiction
            intro z
            rw [List.getElem?_eq_none (by simp; omega)] at e
            cases e
          subst hj2
          have : y = a' := by simpa using e
          subst this
          refine ⟨(ne_of_none hacc hy0).symm, ?_⟩
          rw [e2, EQ.eqs_at L n q hq]
          exact hy1
      · subst e1
        rw [dzdn_len] at e2
        refine ⟨hS1 _ _ upd_same, ?_⟩
        have hf : H1 r = some (.frz od (.dK (dz (dn L)))) := hS1 _ _ upd_same
        refine k _ R bs L (hS.trans (Same.unlock hr1 hS1)) ?_ ⟨by rw [e2, eqs_len], fun i a e => ?_⟩ hLd
        · rw [upd_ne (Ne.symm nrR)]
          exact hacc
        · rw [upd_ne (ne_of (e3 i a e).2 hf (by intro z; cases z))]
          exact (e3 i a e).2
def jointV (ts : List Rd07.Table) : Int := Rd07.bit (Rd07.solvable 5 ts)
theorem scJoint : FnScope ["self"] ["self"] (defScope sJoint) := ⟨rfl, rfl, rfl, by decide +kernel, rfl, by decide +kernel, by decide +kernel⟩
theorem ok_joint {f f1 f2 f3 : Addr} {fd fd1 fd2 fd3 : FuncData} (F : Fun K "joint" "Tables.joint" sJoint f fd) (T : Txt K mg CS CT CA) (M1 : MF P w K mg base 3 CA "agree" f1 fd1 ["self"] (spAsk CA CT agreeV)) (M2 : MF P w K mg base 2 CA "share_equations" f2 fd2 ["self"] (spShareEqs CA CT)) (G3 : GF P w K mg base 4 "can_be_met" f3 fd3 ["rows"] spCanBeMet) :
    FnOk P w K mg base CX0 5 f fd ["self"] (spAsk CA CT jointV) := by
  refine F.ok scJoint (fun vs H Q E h => ?_) (fun cdv A outer s H vs Q E hr h => ?_)
  · obtain ⟨p, lk, ts, rfl, _⟩ := h
    rfl
  · obtain ⟨p, lk, ts, rfl, hA, k⟩ := h
    obtain ⟨dx, ps, h1, h2, h3, h4⟩ := id hA.ex
    have hr3 : Room 3 _ := hr.mono (by decide)
    have hr2 : Room 2 _ := hr.mono (by decide)
    refine ⟨_, pss_cons (ps_if (pt_cmpR op_eq (pe_meth0 (pv 0) T.a M1.mt M1.ok hr3 M1.b .nil pass0) pe_int (nomark _)) (pss_one (ps_ret pe_int)) pss_nil)
      (pss_one (ps_ret (pe_ifExp (pt_val (pe_call G3.ok hr rfl G3.at_ G3.kp G3.b .nil pass0 (pa_cons (pe_meth0 (pv 0) T.a M2.mt M2.ok hr2 M2.b .nil pass0) pa_nil))) pe_int pe_int))), ?_⟩
    refine ⟨_, rfl, p, dx, _, rfl, h1, af_no _ (by decide +kernel), p, lk, ts, rfl, hA, fun H1 hS => ⟨rfl, _, rfl, ?_⟩⟩
    cases ha : Rd07.agree 5 ts with
    | false =>
      rw [show decide (V.int (agreeV ts) = V.int 0) = true by unfold agreeV; rw [ha]; rfl]
      refine iteT ?_
      have := k H1 hS
      unfold jointV at this
      rw [EQ.joint_no ts hA.few hA.ok ha] at this
      exact this
    | true =>
      rw [show decide (V.int (agreeV ts) = V.int 0) = false by unfold agreeV; rw [ha]; rfl]
      refine iteF ?_
      refine ⟨_, rfl, p, dx, _, rfl, hS _ _ h1, af_no _ (by decide +kernel), p, lk, ts, rfl, hA.same hS, fun H2 a as L hS2 ha2 hR hL => ?_⟩
      have hE : EqOk L := ⟨hL.len, fun a v hav => by
        obtain ⟨t, ht, _, _, e⟩ := hL.of a v hav
        rw [e]
        exact SP.share_le t (hA.ok t ht) a a⟩
      refine ⟨a, as, L, rfl, ha2, hR, hE, fun H3 b hS3 hb => ⟨_, rfl, ?_⟩⟩
      have hj : (b = true) ↔ Rd07.solvable 5 ts = true := hb.trans (EQ.joint_yes ts hA.few hA.ok ha L hL).symm
      have := k H3 ((hS.trans hS2).trans hS3)
      unfold jointV at this
      cases b with
      | true =>
        rw [hj.mp rfl] at this
        exact iteT this
      | false =>
        have hf : Rd07.solvable 5 ts = false := by
          cases e : Rd07.solvable 5 ts with
          | false => rfl
          | true => exact absurd (hj.mpr e) (by simp)
        rw [hf] at this
        exact iteF this
end
end AT
end
section
namespace AT
open PySem PySem.Spec PyProof.Rows L2
def spIsPossible (CA CT : Addr) : Sp := fun vs H Q _ => ∃ (p lk : Addr) (ts : List Rd07.Table) (x : Nat), vs = [.ref p, .int (x : Nat)] ∧ AllAt CA CT H p lk ts ∧ x < 32 ∧ ∀ H' : Hp, Same H H' → Q (.bl (ts.all fun t => t.w.getD (Rd07.place t.mask x) 0 != 0)) H'
def spAllPossible (CA CT : Addr) : Sp := fun vs H Q _ => ∃ (p lk : Addr) (ts : List Rd07.Table), vs = [.ref p] ∧ AllAt CA CT H p lk ts ∧ ∀ (H' : Hp) (a : Addr), Same H H' → H a = none → H' a = some (.lst (vN (Rd07.possible 5 ts))) → Q (.ref a) H'
def possibleV (ts : List Rd07.Table) : Int := ((Rd07.possible 5 ts).length : Nat)
def coveredV (ts : List Rd07.Table) : Int := Rd07.bit (Rd07.covered 5 ts)
def treeV (ts : List Rd07.Table) : Int := Rd07.bit (Rd07.tree (ts.map fun t => t.mask))
theorem all_take {α : Type} (l : List α) (f : α → Bool) : (l.map f).all id = l.all f := by rw [List.all_map]; rfl
theorem possible_lt (ts : List Rd07.Table) : ∀ x ∈ Rd07.possible 5 ts, x < 32 := fun x hx => by
  unfold Rd07.possible at hx
  exact List.mem_range.mp (List.mem_filter.mp hx).1
theorem possible_len (ts : List Rd07.Table) : (Rd07.possible 5 ts).length ≤ 32 := by
  unfold Rd07.possible
  exact Nat.le_trans (List.length_filter_le _ _) (by simp)
theorem covered_eq (t : Rd07.Table) (ht : SP.Ok t) (l : List Nat) (hl : ∀ x ∈ l, x < 32) : ((SP.prs t).all fun q => q.2 == 0 || l.any fun x => x &&& t.mask == q.1) = ((List.range (Rd07.long t.mask)).all fun j => t.w.getD j 0 == 0 || l.any fun x => Rd07.place t.mask x == j) := by
  have key : ∀ j, j < Rd07.long t.mask → (l.any fun x => x &&& t.mask == Rd07.spread t.mask j) = l.any fun x => Rd07.place t.mask x == j := by
    intro j hj
    rw [Bool.eq_iff_iff, List.any_eq_true, List.any_eq_true]
    constructor
    · rintro ⟨x, hx, e⟩
      refine ⟨x, hx, beq_of_eq ?_⟩
      have e := eq_of_beq e
      have := congrArg (Rd07.place t.mask) ((SP.spread_place t.mask ht.hi x (hl x hx)).trans e)
      rw [SP.place_spread t.mask _ ht.hi (SP.place_lt t.mask ht.hi x (hl x hx)), SP.place_spread t.mask j ht.hi hj] at this
      exact this
    · rintro ⟨x, hx, e⟩
      refine ⟨x, hx, beq_of_eq ?_⟩
      rw [← SP.spread_place t.mask ht.hi x (hl x hx), eq_of_beq e]
  rw [Bool.eq_iff_iff, List.all_eq_true, List.all_eq_true]
  constructor
  · intro h j hj
    have hj := List.mem_range.mp hj
    have := h (Rd07.spread t.mask j, t.w.getD j 0) ((SP.prs_mem t ht _).mpr ⟨j, hj, rfl⟩)
    dsimp only at this
    rw [key j hj] at this
    exact this
  · intro h q hq
    obtain ⟨j, hj, rfl⟩ := (SP.prs_mem t ht q).mp hq
    dsimp only
    rw [key j hj]
    exact h j (List.mem_range.mpr hj)
section
variable {P : Program} {w : World} {K : PySem.W.Frag} {mg : Str → Option Value} {base : Heap} {CS CT CA : Addr}
theorem scIsPossible : FnScope ["self", "told", "table"] ["self", "told"] (defScope sIsPossible) := ⟨rfl, rfl, rfl, by decide +kernel, rfl, by decide +kernel, by decide +kernel⟩
theorem ok_isPossible {f f1 : Addr} {fd fd1 : FuncData} (F : Fun K "is_possible" "Tables.is_possible" sIsPossible f fd) (T : Txt K mg CS CT CA) (M1 : MF P w K mg base 1 CT "allows" f1 fd1 ["self", "told"] (spAllows CT)) :
    FnOk P w K mg base CX0 2 f fd ["self", "told"] (spIsPossible CA CT) := by
  refine F.ok scIsPossible (fun vs H Q E h => ?_) (fun cdv A outer s H vs Q E hr h => ?_)
  · obtain ⟨p, lk, ts, x, rfl, _⟩ := h
    rfl
  · obtain ⟨p, lk, ts, x, rfl, hA, hx, k⟩ := h
    obtain ⟨dx, ps, h1, h2, h3, h4⟩ := id hA.ex
    have nd := scIsPossible.nd
    refine ⟨_, pss_one (ps_ret (pe_callB (cr_all rfl) rfl T.b.all bt_all (pa_cons (pe_lc (own := [("table", 2)]) rfl nd (pi_list (pe_fld (pv 0) rfl)) (blkOk_by rfl) (fun s H C cl fp => pg_name (i := 2) nd rfl (Or.inl rfl)) (fun s H C cl fp => pts_nil)
      (fun s H C cl fp => pe_meth (pv 2) T.t M1.mt M1.ok hr M1.b .nil pass0 (pa_cons (pv 1) pa_nil))) pa_nil))), ?_⟩
    refine ⟨_, rfl, p, CA, dx, _, _, rfl, h1, T.a, T.aK, af_kept _, lk, rfl, ⟨_, SqL.of h2⟩, fun D hD => ?_⟩
    have el : (ps.map V.ref).length = ts.length := by rw [List.length_map, h3]
    refine lcL (xs := ps.map V.ref) (by rw [el]; have := hA.few; exact small (by omega)) (fun i => (ts.take i).map fun t => V.bl (t.w.getD (Rd07.place t.mask x) 0 != 0)) rfl (fun i _ => by rw [List.length_map, List.length_take]; omega) hD (SqL.of h2) (fun i y H2 hy hS2 Y N kY kN => ?_) (fun H2 hS2 hD2 => ?_)
    · obtain ⟨q, hq, rfl⟩ := refs_get hy
      obtain ⟨t, et, hT⟩ := h4 i q hq
      obtain ⟨dt, d, t1, t2⟩ := id hT
      refine ⟨rfl, tyes ⟨_, rfl, q, dt, _, rfl, hS2 _ _ t1, tf_no _ _ (by decide +kernel) (by decide +kernel), _, rfl, q, t, x, rfl, hT.same hS2, ok_at hA.ok et, hx, kY _ _ (Same.refl _) ?_⟩⟩
      dsimp only
      rw [map_take _ ts et]
    · rw [el, List.take_length] at hD2
      refine ⟨D, ts.map fun t => t.w.getD (Rd07.place t.mask x) 0 != 0, rfl, SqL.of (by rw [hD2, List.map_map]; rfl), ?_⟩
      rw [all_take]
      exact k _ hS2
theorem scAllPossible : FnScope ["self", "told"] ["self"] (defScope sAllPossible) := ⟨rfl, rfl, rfl, by decide +kernel, rfl, by decide +kernel, by decide +kernel⟩
theorem ok_allPossible {f f1 : Addr} {fd fd1 : FuncData} (F : Fun K "all_possible" "Tables.all_possible" sAllPossible f fd) (T : Txt K mg CS CT CA) (M1 : MF P w K mg base 2 CA "is_possible" f1 fd1 ["self", "told"] (spIsPossible CA CT)) :
    FnOk P w K mg base CX0 3 f fd ["self"] (spAllPossible CA CT) := by
  refine F.ok scAllPossible (fun vs H Q E h => ?_) (fun cdv A outer s H vs Q E hr h => ?_)
  · obtain ⟨p, lk, ts, rfl, _⟩ := h
    rfl
  · obtain ⟨p, lk, ts, rfl, hA, k⟩ := h
    obtain ⟨dx, ps, h1, h2, h3, h4⟩ := id hA.ex
    have nd := scAllPossible.nd
    refine ⟨_, pss_one (ps_ret (pe_lc (own := [("told", 1)]) rfl nd (pi_range1 rfl T.b.range (pa_cons (pe_op op_add (pe_ki T.full) pe_int) pa_nil)) (blkOk_by rfl) (fun s H C cl fp => pg_name (i := 1) nd rfl (Or.inl rfl))
      (fun s H C cl fp => pts_one (pt_val (pe_meth (pv 0) T.a M1.mt M1.ok hr M1.b .nil pass0 (pa_cons (pv 1) pa_nil)))) (fun s H C cl fp => pv 1))), ?_⟩
    refine ⟨_, _, rfl, rfl, 32, rfl, by decide, by decide, fun D hD => ?_⟩
    refine lcR (n := 32) (by decide) (fun i => vN ((List.range i).filter fun x => ts.all fun t => t.w.getD (Rd07.place t.mask x) 0 != 0)) rfl (fun i _ => ?_) hD (fun i H1 hi hS Y N kY kN => ?_) (fun H1 hS hD1 => k H1 D hS hD hD1)
    · rw [vN_len]
      exact Nat.le_trans (List.length_filter_le _ _) (by simp)
    · refine ⟨rfl, _, rfl, p, dx, _, rfl, hS _ _ h1, af_no _ (by decide +kernel), _, rfl, p, lk, ts, i, rfl, hA.same hS, hi, fun H2 hS2 => ⟨_, rfl, ?_⟩⟩
      have est : ((List.range (i + 1)).filter fun x => ts.all fun t => t.w.getD (Rd07.place t.mask x) 0 != 0) = ((List.range i).filter fun x => ts.all fun t => t.w.getD (Rd07.place t.mask x) 0 != 0) ++ if (ts.all fun t => t.w.getD (Rd07.place t.mask i) 0 != 0) = true then [i] else [] := by
        rw [List.range_succ, List.filter_append, List.filter_cons]
        rfl
      cases hc : (ts.all fun t => t.w.getD (Rd07.place t.mask i) 0 != 0) with
      | true =>
        refine iteT ⟨_, rfl, kY _ _ hS2 ?_⟩
        dsimp only
        rw [est, hc, if_pos rfl]
        unfold vN
        rw [List.map_append]
        rfl
      | false =>
        refine iteF (kN _ hS2 ?_)
        dsimp only
        rw [est, hc, if_neg Bool.false_ne_true, List.append_nil]
theorem scPossible : FnScope ["self"] ["self"] (defScope sPossible) := ⟨rfl, rfl, rfl, by decide +kernel, rfl, by decide +kernel, by decide +kernel⟩
theorem ok_possible {f f1 : Addr} {fd fd1 : FuncData} (F : Fun K "possible" "Tables.possible" sPossible f fd) (T : Txt K mg CS CT CA) (M1 : MF P w K mg base 3 CA "all_possible" f1 fd1 ["self"] (spAllPossible CA CT)) :
    FnOk P w K mg base CX0 4 f fd ["self"] (spAsk CA CT possibleV) := by
  refine F.ok scPossible (fun vs H Q E h => ?_) (fun cdv A outer s H vs Q E hr h => ?_)
  · obtain ⟨p, lk, ts, rfl, _⟩ := h
    rfl
  · obtain ⟨p, lk, ts, rfl, hA, k⟩ := h
    obtain ⟨dx, ps, h1, h2, h3, h4⟩ := id hA.ex
    refine ⟨_, pss_one (ps_ret (pe_callB call_len_seq rfl T.b.len bt_len (pa_cons (pe_meth0 (pv 0) T.a M1.mt M1.ok hr M1.b .nil pass0) pa_nil))), ?_⟩
    refine ⟨_, rfl, p, dx, _, rfl, h1, af_no _ (by decide +kernel), p, lk, ts, rfl, hA, fun H1 a hS ha0 ha1 => ?_⟩
    refine ⟨a, _, rfl, .inl (SqL.of ha1), ?_⟩
    rw [vN_len]
    exact k _ hS
theorem scCovered : FnScope ["self", "possible_answers", "table"] ["self"] (defScope sCovered) := ⟨rfl, rfl, rfl, by decide +kernel, rfl, by decide +kernel, by decide +kernel⟩
theorem ok_covered {f f1 f2 : Addr} {fd fd1 fd2 : FuncData} (F : Fun K "covered" "Tables.covered" sCovered f fd) (T : Txt K mg CS CT CA) (M1 : MF P w K mg base 3 CA "all_possible" f1 fd1 ["self"] (spAllPossible CA CT)) (M2 : MF P w K mg base 1 CT "is_covered" f2 fd2 ["self", "possible_answers"] (spIsCovered CT)) :
    FnOk P w K mg base CX0 4 f fd ["self"] (spAsk CA CT coveredV) := by
  refine F.ok scCovered (fun vs H Q E h => ?_) (fun cdv A outer s H vs Q E hr h => ?_)
  · obtain ⟨p, lk, ts, rfl, _⟩ := h
    rfl
  · obtain ⟨p, lk, ts, rfl, hA, k⟩ := h
    obtain ⟨dx, ps, h1, h2, h3, h4⟩ := id hA.ex
    have nd := scCovered.nd
    have hr1 : Room 1 _ := hr.mono (by decide)
    refine ⟨_, pss_cons (ps_set (i := 1) nd rfl (Or.inr rfl) (pe_meth0 (pv 0) T.a M1.mt M1.ok hr M1.b .nil pass0))
      (pss_one (ps_ret (pe_ifExp (pt_val (pe_callB (cr_all rfl) rfl T.b.all bt_all (pa_cons (pe_lc (own := [("table", 2)]) rfl nd (pi_list (pe_fld (pv 0) rfl)) (blkOk_by rfl) (fun s H C cl fp => pg_name (i := 2) nd rfl (Or.inl rfl)) (fun s H C cl fp => pts_nil)
        (fun s H C cl fp => pe_meth (pv 2) T.t M2.mt M2.ok hr1 M2.b .nil pass0 (pa_cons (pv 1) pa_nil))) pa_nil))) pe_int pe_int))), ?_⟩
    refine ⟨_, rfl, p, dx, _, rfl, h1, af_no _ (by decide +kernel), p, lk, ts, rfl, hA, fun H1 a hS ha0 ha1 => ?_⟩
    refine ⟨_, rfl, p, CA, dx, _, _, rfl, hS _ _ h1, T.a, T.aK, af_kept _, lk, rfl, ⟨_, SqL.of (hS _ _ h2)⟩, fun D hD => ?_⟩
    have el : (ps.map V.ref).length = ts.length := by rw [List.length_map, h3]
    have f : Rd07.Table → Bool := fun t => (SP.prs t).all fun q => q.2 == 0 || (Rd07.possible 5 ts).any fun x => x &&& t.mask == q.1
    refine lcL (xs := ps.map V.ref) (by rw [el]; have := hA.few; exact small (by omega)) (fun i => (ts.take i).map fun t => V.bl ((SP.prs t).all fun q => q.2 == 0 || (Rd07.possible 5 ts).any fun x => x &&& t.mask == q.1)) rfl (fun i _ => by rw [List.length_map, List.length_take]; omega) hD (SqL.of (hS _ _ h2)) (fun i y H2 hy hS2 Y N kY kN => ?_) (fun H2 hS2 hD2 => ?_)
    · obtain ⟨q, hq, rfl⟩ := refs_get hy
      obtain ⟨t, et, hT⟩ := h4 i q hq
      obtain ⟨dt, d, t1, t2⟩ := id hT
      have hS3 := hS.trans hS2
      refine ⟨rfl, tyes ⟨_, rfl, q, dt, _, rfl, hS3 _ _ t1, tf_no _ _ (by decide +kernel) (by decide +kernel), _, rfl, q, a, t, Rd07.possible 5 ts, rfl, hT.same hS3, ok_at hA.ok et, hS2 _ _ ha1, possible_len ts, fun H4 hS4 => kY _ _ hS4 ?_⟩⟩
      dsimp only
      rw [map_take _ ts et]
    · rw [el, List.take_length] at hD2
      refine ⟨D, ts.map fun t => (SP.prs t).all fun q => q.2 == 0 || (Rd07.possible 5 ts).any fun x => x &&& t.mask == q.1, rfl, SqL.of (by rw [hD2, List.map_map]; rfl), _, rfl, ?_⟩
      rw [all_take]
      have e : (ts.all fun t => (SP.prs t).all fun q => q.2 == 0 || (Rd07.possible 5 ts).any fun x => x &&& t.mask == q.1) = Rd07.covered 5 ts := by
        unfold Rd07.covered
        rw [Bool.eq_iff_iff, List.all_eq_true, List.all_eq_true]
        constructor
        · intro h t ht
          rw [← covered_eq t (hA.ok t ht) _ (possible_lt ts)]
          exact h t ht
        · intro h t ht
          rw [covered_eq t (hA.ok t ht) _ (possible_lt ts)]
          exact h t ht
      rw [e]
      have := k H2 (hS.trans hS2)
      unfold coveredV at this
      cases hc : Rd07.covered 5 ts with
      | true =>
        rw [hc] at this
        exact iteT this
      | false =>
        rw [hc] at this
        exact iteF this
theorem scTree : FnScope ["self", "table"] ["self"] (defScope sTree) := ⟨rfl, rfl, rfl, by decide +kernel, rfl, by decide +kernel, by decide +kernel⟩
theorem ok_tree {f f1 : Addr} {fd fd1 : FuncData} (F : Fun K "tree" "Tables.tree" sTree f fd) (T : Txt K mg CS CT CA) (G1 : GF P w K mg base 2 "hang_together" f1 fd1 ["masks"] spHang) :
    FnOk P w K mg base CX0 3 f fd ["self"] (spAsk CA CT treeV) := by
  refine F.ok scTree (fun vs H Q E h => ?_) (fun cdv A outer s H vs Q E hr h => ?_)
  · obtain ⟨p, lk, ts, rfl, _⟩ := h
    rfl
  · obtain ⟨p, lk, ts, rfl, hA, k⟩ := h
    obtain ⟨dx, ps, h1, h2, h3, h4⟩ := id hA.ex
    have nd := scTree.nd
    refine ⟨_, pss_one (ps_ret (pe_ifExp (pt_val (pe_call G1.ok hr rfl G1.at_ G1.kp G1.b .nil pass0 (pa_cons (pe_lc (own := [("table", 1)]) rfl nd (pi_list (pe_fld (pv 0) rfl)) (blkOk_by rfl) (fun s H C cl fp => pg_name (i := 1) nd rfl (Or.inl rfl)) (fun s H C cl fp => pts_nil)
      (fun s H C cl fp => pe_fldK K rfl (pv 1) rfl)) pa_nil))) pe_int pe_int)), ?_⟩
    refine ⟨_, rfl, p, CA, dx, _, _, rfl, h1, T.a, T.aK, af_kept _, lk, rfl, ⟨_, SqL.of h2⟩, fun D hD => ?_⟩
    have el : (ps.map V.ref).length = ts.length := by rw [List.length_map, h3]
    refine lcL (xs := ps.map V.ref) (by rw [el]; have := hA.few; exact small (by omega)) (fun i => vN ((ts.take i).map fun t => t.mask)) rfl (fun i _ => by rw [vN_len, List.length_map, List.length_take]; omega) hD (SqL.of h2) (fun i y H2 hy hS2 Y N kY kN => ?_) (fun H2 hS2 hD2 => ?_)
    · obtain ⟨q, hq, rfl⟩ := refs_get hy
      obtain ⟨t, et, dt, d, t1, t2⟩ := h4 i q hq
      refine ⟨rfl, tyes ⟨_, rfl, q, CT, dt, _, _, rfl, hS2 _ _ t1, T.t, T.tM, tf_mask _ _, kY _ _ (Same.refl _) ?_⟩⟩
      dsimp only
      rw [map_take _ ts et]
      unfold vN
      rw [List.map_append]
      rfl
    · rw [el, List.take_length] at hD2
      refine ⟨D, ts.map (fun t => t.mask), rfl, hD2, (by rw [List.length_map]; exact hA.few), (fun x hx => by obtain ⟨t, ht, rfl⟩ := List.mem_map.mp hx; exact (hA.ok t ht).hi), fun H3 hS3 => ⟨_, rfl, ?_⟩⟩
      have := k H3 (hS2.trans hS3)
      unfold treeV at this
      cases hc : Rd07.tree (ts.map fun t => t.mask) with
      | true =>
        rw [hc] at this
        exact iteT this
      | false =>
        rw [hc] at this
        exact iteF this
end
end AT
end
section
namespace AT
open PySem PySem.Spec PyProof.Rows L2
abbrev sEnd : Stmt := top 27
abbrev sAnswer : Stmt := top 28
abbrev sAnswers : Stmt := top 29
inductive CallIs : List Int → Rd07.Call → Prop
  | begin : CallIs [0] .init
  | add (m : Int) (ws : List Nat) : ws.length ≤ 4000 → CallIs (1 :: m :: (ws.length : Int) :: ws.map fun (x : Nat) => (x : Int)) (.add m ws (ws.length : Int))
  | share (i m x : Int) : CallIs [2, i, m, x] (.share i m x)
  | agree : CallIs [3] .agree
  | joint : CallIs [4] .joint
  | possible : CallIs [5] .possible
  | covered : CallIs [6] .covered
  | tree : CallIs [7] .tree
def spEnd (K : PySem.W.Frag) : Sp := fun vs H Q _ => ∃ (a : Addr) (ns : List Int) (k m : Nat) (c : List (List Int)), vs = [.ref a, .int (k : Nat)] ∧ SqL K H a (vZ ns) ∧ SP.One (ns.drop k) c m ∧ Q (.int ((k + m : Nat) : Int)) H
def spAnswer (CA CT : Addr) : Sp := fun vs H Q _ => ∃ (p lk c : Addr) (ts : List Rd07.Table) (l : List Int) (x : Rd07.Call), vs = [.ref p, .ref c] ∧ AllAt CA CT H p lk ts ∧ H c = some (.lst (vZ l)) ∧ CallIs l x ∧
  ∀ (H' : Hp) (lk' : Addr), AllAt CA CT H' p lk' (Rd07.does ⟨ts⟩ x).1.tables → (lk' = lk ∨ H lk' = none) → (∀ b o, H b = some o → b ≠ p → b ≠ lk → H' b = some o) → Q (.int (Rd07.does ⟨ts⟩ x).2.value) H'
theorem drop_get {ns : List Int} {k i : Nat} {z : Int} (h : (ns.drop k)[i]? = some z) : ns[k + i]? = some z := by
  rw [List.getElem?_drop] at h
  exact h
section
variable {P : Program} {w : World} {K : PySem.W.Frag} {mg : Str → Option Value} {base : Heap} {CS CT CA : Addr}
theorem scEnd : FnScope ["calls", "start"] ["calls", "start"] (defScope sEnd) := ⟨rfl, rfl, rfl, by decide +kernel, rfl, by decide +kernel, by decide +kernel⟩
theorem ok_end {f : Addr} {fd : FuncData} (F : Fun K "end_of_call" "end_of_call" sEnd f fd) (T : Txt K mg CS CT CA) : FnOk P w K mg base CX0 1 f fd ["calls", "start"] (spEnd K) := by
  refine F.ok scEnd (fun vs H Q E h => ?_) (fun cdv A outer s H vs Q E hr h => ?_)
  · obtain ⟨a, ns, k, m, c, rfl, _⟩ := h
    rfl
  · obtain ⟨a, ns, n, m, c, rfl, hS, hO, k⟩ := h
    refine ⟨_, pss_cons (ps_if (pt_cmpR op_eq (pe_ix ix_list (pv 0) (pv 1) (fun _ _ => rfl)) (pe_ki T.cA) (nomark _)) (pss_one (ps_ret (pe_op op_add (pe_op op_add (pv 1) pe_int) (pe_ix ix_list (pv 0) (pe_op op_add (pv 1) pe_int) (fun _ _ => rfl))))) pss_nil)
      (pss_cons (ps_if (pt_cmpR op_eq (pe_ix ix_list (pv 0) (pv 1) (fun _ _ => rfl)) (pe_ki T.cS) (nomark _)) (pss_one (ps_ret (pe_op op_add (pv 1) pe_int))) pss_nil)
      (pss_one (ps_ret (pe_op op_add (pv 1) pe_int)))), ?_⟩
    generalize hns : ns.drop n = l at hO
    have get : ∀ {i : Nat} {z : Int}, l[i]? = some z → atI (vZ ns) ((n + i : Nat) : Int) = some (.int z) := fun {i z} e => atI_nat (vZ_at (drop_get (by rw [hns]; exact e)))
    have plain : ∀ (z : Int) (r : List Int), l = z :: r → decide (V.int z = V.int 1) = false → decide (V.int z = V.int 2) = false → Q (.int ((n + 1 : Nat) : Int)) H →
        (tSeq (tIfS (tTest (tOp rEq (tOp (rIxL K) (tVar 0) (tVar 1)) (tC (.int 1)))) (tRet (tOp (rI0 fun i j => .int (i + j)) (tOp (rI0 fun i j => .int (i + j)) (tVar 1) (tC (.int 3))) (tOp (rIxL K) (tVar 0) (tOp (rI0 fun i j => .int (i + j)) (tVar 1) (tC (.int 2)))))) tNext)
          (tSeq (tIfS (tTest (tOp rEq (tOp (rIxL K) (tVar 0) (tVar 1)) (tC (.int 2)))) (tRet (tOp (rI0 fun i j => .int (i + j)) (tVar 1) (tC (.int 4)))) tNext) (tRet (tOp (rI0 fun i j => .int (i + j)) (tVar 1) (tC (.int 1)))))) { nx := fun _ H' => Q .non H', rt := Q } [some (.ref a), some (.int (n : Nat))] H := by
      intro z r e d1 d2 q
      have g0 : atI (vZ ns) ((n : Nat) : Int) = some (.int z) := get (i := 0) (by rw [e]; rfl)
      refine ⟨_, rfl, _, rfl, a, _, _, _, rfl, rfl, hS, g0, rfl, _, rfl, ?_⟩
      rw [d1]
      refine iteF ⟨_, rfl, _, rfl, a, _, _, _, rfl, rfl, hS, g0, rfl, _, rfl, ?_⟩
      rw [d2]
      refine iteF ⟨_, rfl, _, _, rfl, rfl, ?_⟩
      exact q
    cases hO with
    | begin r => exact plain _ _ rfl rfl rfl k
    | add z ws r =>
      have g0 : atI (vZ ns) ((n : Nat) : Int) = some (.int 1) := get (i := 0) rfl
      have g2 : atI (vZ ns) ((n + 2 : Nat) : Int) = some (.int (ws.length : Int)) := get (i := 2) rfl
      refine ⟨_, rfl, _, rfl, a, _, _, _, rfl, rfl, hS, g0, rfl, _, rfl, ?_⟩
      refine iteT ⟨_, rfl, _, _, rfl, rfl, _, rfl, _, rfl, _, _, rfl, rfl, a, _, _, _, rfl, rfl, hS, g2, _, _, rfl, rfl, ?_⟩
      have e : ((n : Int) + 3) + (ws.length : Int) = ((n + (3 + ws.length) : Nat) : Int) := by omega
      show Q (.int (((n : Int) + 3) + (ws.length : Int))) H
      rw [e]
      exact k
    | share i z x r =>
      have g0 : atI (vZ ns) ((n : Nat) : Int) = some (.int 2) := get (i := 0) rfl
      refine ⟨_, rfl, _, rfl, a, _, _, _, rfl, rfl, hS, g0, rfl, _, rfl, ?_⟩
      refine iteF ⟨_, rfl, _, rfl, a, _, _, _, rfl, rfl, hS, g0, rfl, _, rfl, ?_⟩
      refine iteT ⟨_, rfl, _, _, rfl, rfl, ?_⟩
      exact k
    | agree r => exact plain _ _ rfl rfl rfl k
    | joint r => exact plain _ _ rfl rfl rfl k
    | possible r => exact plain _ _ rfl rfl rfl k
    | covered r => exact plain _ _ rfl rfl rfl k
    | tree r => exact plain _ _ rfl rfl rfl k
end
end AT
end
section
namespace AT
open PySem PySem.Spec PyProof.Rows L2
section
variable {P : Program} {w : World} {K : PySem.W.Frag} {mg : Str → Option Value} {base : Heap} {CS CT CA : Addr}
theorem scAnswer : FnScope ["tables", "call", "number"] ["tables", "call"] (defScope sAnswer) := ⟨rfl, rfl, rfl, by decide +kernel, rfl, by decide +kernel, by decide +kernel⟩
theorem cut_drop3 (a b c : Int) (r : List Int) : cutV (vZ (a :: b :: c :: r)) (some 3) none = vZ r := by
  have e : HT.sIx (vZ (a :: b :: c :: r)).length 0 (some 3) = 3 := by
    have := HT.sIx_nat (vZ (a :: b :: c :: r)).length 0 3
    rw [vZ_len] at this ⊢
    rw [show ((3 : Nat) : Int) = 3 from rfl] at this
    rw [this, List.length_cons, List.length_cons, List.length_cons]
    omega
  unfold cutV
  rw [e, HT.sIx_none]
  show (List.take _ (vZ r)) = vZ r
  rw [List.take_of_length_le (by rw [vZ_len, vZ_len]; simp)]
structure Meths (P : Program) (w : World) (K : PySem.W.Frag) (mg : Str → Option Value) (base : Heap) (CA CT : Addr) (f0 f1 f2 f3 f4 f5 f6 f7 : Addr) (fd0 fd1 fd2 fd3 fd4 fd5 fd6 fd7 : FuncData) : Prop where
  m0 : MF P w K mg base 1 CA "begin" f0 fd0 ["self"] (spBegin CA CT)
  m1 : MF P w K mg base 4 CA "add" f1 fd1 ["self", "mask", "weights"] (spAdd CA CT)
  m2 : MF P w K mg base 2 CA "share" f2 fd2 ["self", "i", "mask", "told"] (spShare CA CT)
  m3 : MF P w K mg base 3 CA "agree" f3 fd3 ["self"] (spAsk CA CT agreeV)
  m4 : MF P w K mg base 5 CA "joint" f4 fd4 ["self"] (spAsk CA CT jointV)
  m5 : MF P w K mg base 4 CA "possible" f5 fd5 ["self"] (spAsk CA CT possibleV)
  m6 : MF P w K mg base 4 CA "covered" f6 fd6 ["self"] (spAsk CA CT coveredV)
  m7 : MF P w K mg base 3 CA "tree" f7 fd7 ["self"] (spAsk CA CT treeV)
theorem ok_answer {f f0 f1 f2 f3 f4 f5 f6 f7 : Addr} {fd fd0 fd1 fd2 fd3 fd4 fd5 fd6 fd7 : FuncData} (F : Fun K "answer" "answer" sAnswer f fd) (T : Txt K mg CS CT CA) (M : Meths P w K mg base CA CT f0 f1 f2 f3 f4 f5 f6 f7 fd0 fd1 fd2 fd3 fd4 fd5 fd6 fd7) :
    FnOk P w K mg base CX0 6 f fd ["tables", "call"] (spAnswer CA CT) := by
  refine F.ok scAnswer (fun vs H Q E h => ?_) (fun cdv A outer s H vs Q E hr h => ?_)
  · obtain ⟨p, lk, c, ts, l, x, rfl, _⟩ := h
    rfl
  · obtain ⟨p, lk, c, ts, l, x, rfl, hA, hc, hx, k⟩ := h
    obtain ⟨dx, ps, h1, h2, h3, h4⟩ := id hA.ex
    have nd := scAnswer.nd
    have r1 : Room 1 _ := hr.mono (by decide)
    have r2 : Room 2 _ := hr.mono (by decide)
    have r3 : Room 3 _ := hr.mono (by decide)
    have r4 : Room 4 _ := hr.mono (by decide)
    refine ⟨_, pss_cons (ps_set (i := 2) nd rfl (Or.inl rfl) (pe_ix ix_list (pv 1) pe_int (fun _ _ => rfl)))
      (pss_cons (ps_if (pt_cmpR op_eq (pv 2) (pe_ki T.cB) (nomark _)) (pss_one (ps_ret (pe_meth0 (pv 0) T.a M.m0.mt M.m0.ok r1 M.m0.b .nil pass0))) pss_nil)
      (pss_cons (ps_if (pt_cmpR op_eq (pv 2) (pe_ki T.cA) (nomark _)) (pss_one (ps_ret (pe_meth (pv 0) T.a M.m1.mt M.m1.ok r4 M.m1.b .nil pass0 (pa_cons (pe_ix ix_list (pv 1) pe_int (fun _ _ => rfl)) (pa_cons (pe_slice sl_list (pv 1) (po_some pe_int) po_none) pa_nil))))) pss_nil)
      (pss_cons (ps_if (pt_cmpR op_eq (pv 2) (pe_ki T.cS) (nomark _)) (pss_one (ps_ret (pe_meth (pv 0) T.a M.m2.mt M.m2.ok r2 M.m2.b .nil pass0 (pa_cons (pe_ix ix_list (pv 1) pe_int (fun _ _ => rfl)) (pa_cons (pe_ix ix_list (pv 1) pe_int (fun _ _ => rfl)) (pa_cons (pe_ix ix_list (pv 1) pe_int (fun _ _ => rfl)) pa_nil)))))) pss_nil)
      (pss_cons (ps_if (pt_cmpR op_eq (pv 2) (pe_ki T.cG) (nomark _)) (pss_one (ps_ret (pe_meth0 (pv 0) T.a M.m3.mt M.m3.ok r3 M.m3.b .nil pass0))) pss_nil)
      (pss_cons (ps_if (pt_cmpR op_eq (pv 2) (pe_ki T.cJ) (nomark _)) (pss_one (ps_ret (pe_meth0 (pv 0) T.a M.m4.mt M.m4.ok hr M.m4.b .nil pass0))) pss_nil)
      (pss_cons (ps_if (pt_cmpR op_eq (pv 2) (pe_ki T.cP) (nomark _)) (pss_one (ps_ret (pe_meth0 (pv 0) T.a M.m5.mt M.m5.ok r4 M.m5.b .nil pass0))) pss_nil)
      (pss_cons (ps_if (pt_cmpR op_eq (pv 2) (pe_ki T.cC) (nomark _)) (pss_one (ps_ret (pe_meth0 (pv 0) T.a M.m6.mt M.m6.ok r4 M.m6.b .nil pass0))) pss_nil)
      (pss_cons (ps_if (pt_cmpR op_eq (pv 2) (pe_ki T.cT) (nomark _)) (pss_one (ps_ret (pe_meth0 (pv 0) T.a M.m7.mt M.m7.ok r3 M.m7.b .nil pass0))) pss_nil)
      (pss_one ps_never))))))))), ?_⟩
    have no : ∀ {m : Str}, ¬ m = "kept" → (af lk).lookup m = none := fun h => af_no _ h
    have quiet : ∀ (H' : Hp), Same H H' → ∀ v : Int, (Rd07.does ⟨ts⟩ x).1.tables = ts → (Rd07.does ⟨ts⟩ x).2.value = v → Q (.int v) H' := fun H' hS v e1 e2 => by
      have := k H' lk (by rw [e1]; exact hA.same hS) (.inl rfl) fun b o e _ _ => hS _ _ e
      rw [e2] at this
      exact this
    cases hx with
    | begin =>
      refine ⟨_, rfl, c, _, _, _, rfl, rfl, SqL.of hc, atI_nat (j := 0) rfl, ?_⟩
      refine ⟨_, rfl, rfl, _, rfl, iteT ?_⟩
      refine ⟨_, rfl, p, dx, _, rfl, h1, no (by decide +kernel), p, lk, ts, rfl, hA, fun H1 lk' hA1 hl0 hk => ?_⟩
      exact k H1 lk' hA1 (.inr hl0) fun b o e n1 _ => hk b o e n1
    | add m ws hw =>
      refine ⟨_, rfl, c, _, _, _, rfl, rfl, SqL.of hc, atI_nat (j := 0) rfl, ?_⟩
      refine ⟨_, rfl, rfl, _, rfl, iteF ?_⟩
      refine ⟨_, rfl, rfl, _, rfl, iteT ?_⟩
      refine ⟨_, rfl, p, dx, _, rfl, h1, no (by decide +kernel), _, rfl, c, _, _, _, rfl, rfl, SqL.of hc, atI_nat (j := 1) rfl, _, rfl, _, rfl, c, _, rfl, SqL.of hc, fun q hq => ?_⟩
      rw [cut_drop3, ← vN_vZ]
      have hS : Same H (upd H q (.lst (vN ws))) := Same.upd hq
      refine ⟨p, lk, q, ts, m, ws, rfl, hA.same hS, upd_same, hw, fun H1 hA1 hk => ?_⟩
      exact k H1 lk hA1 (.inl rfl) fun b o e _ n2 => hk b o (hS _ _ e) n2
    | share i m y =>
      refine ⟨_, rfl, c, _, _, _, rfl, rfl, SqL.of hc, atI_nat (j := 0) rfl, ?_⟩
      refine ⟨_, rfl, rfl, _, rfl, iteF ?_⟩
      refine ⟨_, rfl, rfl, _, rfl, iteF ?_⟩
      refine ⟨_, rfl, rfl, _, rfl, iteT ?_⟩
      refine ⟨_, rfl, p, dx, _, rfl, h1, no (by decide +kernel), _, rfl, c, _, _, _, rfl, rfl, SqL.of hc, atI_nat (j := 1) rfl, _, rfl, c, _, _, _, rfl, rfl, SqL.of hc, atI_nat (j := 2) rfl, _, rfl, c, _, _, _, rfl, rfl, SqL.of hc, atI_nat (j := 3) rfl, ?_⟩
      refine ⟨p, lk, ts, i, m, y, rfl, hA, fun H1 hS => quiet H1 hS _ ?_ rfl⟩
      simp only [Rd07.does]
      split
      · split
        · split <;> rfl
        · rfl
      · rfl
    | agree =>
      refine ⟨_, rfl, c, _, _, _, rfl, rfl, SqL.of hc, atI_nat (j := 0) rfl, ?_⟩
      refine ⟨_, rfl, rfl, _, rfl, iteF ⟨_, rfl, rfl, _, rfl, iteF ⟨_, rfl, rfl, _, rfl, iteF ⟨_, rfl, rfl, _, rfl, iteT ?_⟩⟩⟩⟩
      exact ⟨_, rfl, p, dx, _, rfl, h1, no (by decide +kernel), p, lk, ts, rfl, hA, fun H1 hS => quiet H1 hS _ rfl rfl⟩
    | joint =>
      refine ⟨_, rfl, c, _, _, _, rfl, rfl, SqL.of hc, atI_nat (j := 0) rfl, ?_⟩
      refine ⟨_, rfl, rfl, _, rfl, iteF ⟨_, rfl, rfl, _, rfl, iteF ⟨_, rfl, rfl, _, rfl, iteF ⟨_, rfl, rfl, _, rfl, iteF ⟨_, rfl, rfl, _, rfl, iteT ?_⟩⟩⟩⟩⟩
      exact ⟨_, rfl, p, dx, _, rfl, h1, no (by decide +kernel), p, lk, ts, rfl, hA, fun H1 hS => quiet H1 hS _ rfl rfl⟩
    | possible =>
      refine ⟨_, rfl, c, _, _, _, rfl, rfl, SqL.of hc, atI_nat (j := 0) rfl, ?_⟩
      refine ⟨_, rfl, rfl, _, rfl, iteF ⟨_, rfl, rfl, _, rfl, iteF ⟨_, rfl, rfl, _, rfl, iteF ⟨_, rfl, rfl, _, rfl, iteF ⟨_, rfl, rfl, _, rfl, iteF ⟨_, rfl, rfl, _, rfl, iteT ?_⟩⟩⟩⟩⟩⟩
      exact ⟨_, rfl, p, dx, _, rfl, h1, no (by decide +kernel), p, lk, ts, rfl, hA, fun H1 hS => quiet H1 hS _ rfl rfl⟩
    | covered =>
      refine ⟨_, rfl, c, _, _, _, rfl, rfl, SqL.of hc, atI_nat (j := 0) rfl, ?_⟩
      refine ⟨_, rfl, rfl, _, rfl, iteF ⟨_, rfl, rfl, _, rfl, iteF ⟨_, rfl, rfl, _, rfl, iteF ⟨_, rfl, rfl, _, rfl, iteF ⟨_, rfl, rfl, _, rfl, iteF ⟨_, rfl, rfl, _, rfl, iteF ⟨_, rfl, rfl, _, rfl, iteT ?_⟩⟩⟩⟩⟩⟩⟩
      exact ⟨_, rfl, p, dx, _, rfl, h1, no (by decide +kernel), p, lk, ts, rfl, hA, fun H1 hS => quiet H1 hS _ rfl rfl⟩
    | tree =>
      refine ⟨_, rfl, c, _, _, _, rfl, rfl, SqL.of hc, atI_nat (j := 0) rfl, ?_⟩
      refine ⟨_, rfl, rfl, _, rfl, iteF ⟨_, rfl, rfl, _, rfl, iteF ⟨_, rfl, rfl, _, rfl, iteF ⟨_, rfl, rfl, _, rfl, iteF ⟨_, rfl, rfl, _, rfl, iteF ⟨_, rfl, rfl, _, rfl, iteF ⟨_, rfl, rfl, _, rfl, iteF ⟨_, rfl, rfl, _, rfl, iteT ?_⟩⟩⟩⟩⟩⟩⟩⟩
      exact ⟨_, rfl, p, dx, _, rfl, h1, no (by decide +kernel), p, lk, ts, rfl, hA, fun H1 hS => quiet H1 hS _ rfl rfl⟩
theorem scAnswers : FnScope ["calls", "tables", "given", "start", "end"] ["calls"] (defScope sAnswers) := ⟨rfl, rfl, rfl, by decide +kernel, rfl, by decide +kernel, by decide +kernel⟩
end
def spAnswers (K : PySem.W.Frag) : Sp := fun vs H Q _ => ∃ (a : Addr) (ns : List Int), vs = [.ref a] ∧ SqL K H a (vZ ns) ∧ ns.length ≤ 3500 ∧ PyRd07.answers_asked ns = true ∧ ∀ (H' : Hp) (r : Addr), H' r = some (.lst (vZ (PyRd07.answers ns))) → Q (.ref r) H'
theorem call_is {l : List Int} {c : List (List Int)} {m : Nat} (h : SP.One l c m) (ha : Rd07Neutral.asked1 (PyRd07.whole c) = true) : ∃ x, Rd07Neutral.callOf (PyRd07.whole c) = some x ∧ CallIs (l.take m) x := by
  cases h with
  | begin r => exact ⟨_, rfl, .begin⟩
  | agree r => exact ⟨_, rfl, .agree⟩
  | joint r => exact ⟨_, rfl, .joint⟩
  | possible r => exact ⟨_, rfl, .possible⟩
  | covered r => exact ⟨_, rfl, .covered⟩
  | tree r => exact ⟨_, rfl, .tree⟩
  | share i z x r => exact ⟨_, rfl, .share i z x⟩
  | add z ws r =>
    have ha : (Rd07Neutral.whole32 z && ((decide ((ws.length : Int) = Rd07Neutral.upTo (ws.length : Int) 1 32) && ws.all fun (z : Int) => Rd07Neutral.natural z 16) && (Rd07Neutral.whole32 (ws.length : Int)))) = true := ha
    rw [Bool.and_eq_true, Bool.and_eq_true, Bool.and_eq_true] at ha
    obtain ⟨_, ⟨h1, h2⟩, _⟩ := ha
    have hlen : ws.length ≤ 32 := by
      have := of_decide_eq_true h1
      unfold Rd07Neutral.upTo at this
      split at this
      · omega
      · omega
    have hnn : ∀ x ∈ ws, 0 ≤ x := fun x hx => by
      have := List.all_eq_true.mp h2 x hx
      unfold Rd07Neutral.natural at this
      rw [Bool.and_eq_true] at this
      exact of_decide_eq_true this.1
    have ew : (ws.map Int.toNat).map (fun (x : Nat) => (x : Int)) = ws := by
      rw [List.map_map]
      conv => rhs; rw [← List.map_id ws]
      apply List.map_congr_left
      intro x hx
      have := hnn x hx
      show ((x.toNat : Nat) : Int) = x
      omega
    refine ⟨.add z (ws.map Int.toNat) (ws.length : Int), rfl, ?_⟩
    have e : (1 :: z :: (ws.length : Int) :: (ws ++ r)).take (3 + ws.length) = 1 :: z :: ((ws.map Int.toNat).length : Int) :: (ws.map Int.toNat).map (fun (x : Nat) => (x : Int)) := by
      rw [ew, List.length_map, Nat.add_comm]
      show 1 :: z :: (ws.length : Int) :: (ws ++ r).take ws.length = _
      rw [List.take_left']
      rfl
    rw [e]
    have h := CallIs.add z (ws.map Int.toNat) (by rw [List.length_map]; omega)
    rw [List.length_map] at h ⊢
    exact h
theorem cut_mid (ns : List Int) (k m : Nat) (h : k + m ≤ ns.length) : cutV (vZ ns) (some (k : Int)) (some ((k + m : Nat) : Int)) = vZ ((ns.drop k).take m) := by
  unfold cutV
  rw [HT.sIx_nat, HT.sIx_nat, vZ_len, Nat.min_eq_left h, Nat.min_eq_left (show k ≤ ns.length by omega), Nat.add_sub_cancel_left]
  unfold vZ
  rw [← List.map_drop, ← List.map_take]
section
variable {P : Program} {w : World} {K : PySem.W.Frag} {mg : Str → Option Value} {base : Heap} {CS CT CA : Addr}
theorem ok_answers {f f0 f1 f2 : Addr} {fd fd0 fd1 fd2 : FuncData} (F : Fun K "answers" "answers" sAnswers f fd) (T : Txt K mg CS CT CA) (C0 : CF P w K mg base 1 CA "Tables" f0 fd0 ["self"] (spAInit CA CT)) (G1 : GF P w K mg base 1 "end_of_call" f1 fd1 ["calls", "start"] (spEnd K)) (G2 : GF P w K mg base 6 "answer" f2 fd2 ["tables", "call"] (spAnswer CA CT)) :
    FnOk P w K mg base CX0 7 f fd ["calls"] (spAnswers K) := by
  refine F.ok scAnswers (fun vs H Q E h => ?_) (fun cdv A outer s H vs Q E hr h => ?_)
  · obtain ⟨a, ns, rfl, _⟩ := h
    rfl
  · obtain ⟨a, ns, rfl, hS, hlen, hasked, k⟩ := h
    have nd := scAnswers.nd
    have r1 : Room 1 _ := hr.mono (by decide)
    have r2 : Room 2 _ := hr.mono (by decide)
    refine ⟨_, pss_cons (ps_set (i := 1) nd rfl (Or.inl rfl) (pe_make0 C0.made C0.ok r2 rfl C0.at_ C0.b .nil pass0))
      (pss_cons (ps_set (i := 2) nd rfl (Or.inl rfl) (pe_lst pa_nil))
      (pss_cons (ps_set (i := 3) nd rfl (Or.inl rfl) pe_int)
      (pss_cons (ps_while PassesOwn.never (pt_cmpR op_lt (pv 3) (pe_callB call_len_seq rfl T.b.len bt_len (pa_cons (pv 0) pa_nil)) (nomark _))
        (pss_cons (ps_set (i := 4) nd rfl (Or.inl rfl) (pe_call G1.ok r1 rfl G1.at_ G1.kp G1.b .nil pass0 (pa_cons (pv 0) (pa_cons (pv 3) pa_nil))))
        (pss_cons (ps_expr (pe_bm PySem.F.plainAttrs_list PySem.F.slot_list_append PySem.F.type_list_append mt_append (pv 2) (pa_cons pe_int pa_nil)))
        (pss_cons (ps_expr (pe_bm PySem.F.plainAttrs_list PySem.F.slot_list_append PySem.F.type_list_append mt_append (pv 2) (pa_cons (pe_call G2.ok hr rfl G2.at_ G2.kp G2.b .nil pass0 (pa_cons (pv 1) (pa_cons (pe_slice sl_list (pv 0) (po_some (pv 3)) (po_some (pv 4))) pa_nil))) pa_nil)))
        (pss_one (ps_set (i := 3) nd rfl (Or.inl rfl) (pv 4)))))))
      (pss_one (ps_ret (pv 2)))))), ?_⟩
    obtain ⟨cs, hleft, hans, hcs, hall⟩ := SP.asked_left ns hasked
    -- tables = Tables()
    intro p dx hp0 hdx0 ndx
    refine ⟨p, dx, rfl, upd_same, fun H1 lk hA hlk0 hk1 => ⟨rfl, ?_⟩⟩
    have hS1 : Same H H1 := Same.made hp0 hdx0 hk1
    -- given = []
    refine ⟨Nat.zero_le _, fun g hg => ?_⟩
    have hS2 : Same H (upd H1 g (.lst [])) := Same.upd2 hS1 hg
    obtain ⟨dx1, ps1, p1, l1, _, _⟩ := hA.ex
    have hA2 : AllAt CA CT (upd H1 g (.lst [])) p lk [] := hA.same (Same.upd hg)
    have ngl : g ≠ lk := (ne_of_none l1 hg).symm
    have hg0 : H g = none := hS1.free hg
    have hlkH : H lk = none := by
      cases e : H lk with
      | none => rfl
      | some o =>
        rw [upd_ne (ne_of_none e hp0), upd_ne (ne_of_none e hdx0), e] at hlk0
        cases hlk0
    -- the calls, one by one
    refine ⟨fun μ σ H' => ∃ (k : Nat) (cs : List (List (List Int))) (st : Rd07.Abs) (lk : Addr) (out : List Int) (v4 : Option V), σ = [some (.ref a), some (.ref p), some (.ref g), some (.int (k : Nat)), v4] ∧ μ = ns.length - k ∧ k ≤ ns.length ∧ SP.Left (ns.drop k) cs ∧ (∀ c, c ∈ cs → Rd07Neutral.asked1 (PyRd07.whole c) = true) ∧
        AllAt CA CT H' p lk st.tables ∧ H lk = none ∧ Same H H' ∧ H' g = some (.lst (vZ out)) ∧ g ≠ lk ∧ out ++ SP.due st cs = PyRd07.answers ns ∧ out.length + 2 * cs.length ≤ 200,
      ⟨ns.length, 0, cs, {}, lk, [], none, rfl, rfl, Nat.zero_le _, by rw [List.drop_zero]; exact hleft, hall, hA2, hlkH, hS2, upd_same, ngl, by rw [List.nil_append, hans], by simp; omega⟩, ?_⟩
    rintro μ σ H' ⟨n, cs, st, lk, out, v4, rfl, rfl, hn, hleft, hall, hA, hlk, hS', hg', ngl, hdue, hlen2⟩
    refine ⟨_, rfl, _, rfl, a, _, rfl, .inl (hS'.seq hS), _, _, rfl, rfl, _, rfl, ?_⟩
    rw [vZ_len]
    by_cases hlt : n < ns.length
    · rw [show decide ((n : Int) < (ns.length : Int)) = true from decide_eq_true (by omega)]
      refine iteT ?_
      cases hd : ns.drop n with
      | nil =>
        have := List.drop_eq_nil_iff.mp hd
        omega
      | cons z r =>
        rw [hd] at hleft
        obtain ⟨c, cs', m, e, hO, hm, hm1, hleft'⟩ := hleft.cons_of
        subst e
        obtain ⟨x, hx, hcall⟩ := call_is hO (hall c List.mem_cons_self)
        have hnm : n + m ≤ ns.length := by
          rw [← hd, List.length_drop] at hm
          omega
        refine ⟨fun σ' H'' => ∃ (st' : Rd07.Abs) (lk : Addr) (out : List Int) (v4 : Option V), σ' = [some (.ref a), some (.ref p), some (.ref g), some (.int ((n + m : Nat) : Int)), v4] ∧ AllAt CA CT H'' p lk st'.tables ∧ H lk = none ∧ Same H H'' ∧ H'' g = some (.lst (vZ out)) ∧ g ≠ lk ∧ out ++ SP.due st' cs' = PyRd07.answers ns ∧ out.length + 2 * cs'.length ≤ 200, ?_, ?_⟩
        · rintro σ' H'' ⟨st', lk', out', v4', e, b1, b2, b3, b4, b5, b6, b7⟩
          exact ⟨ns.length - (n + m), by omega, n + m, cs', st', lk', out', v4', e, rfl, hnm, by rw [← List.drop_drop, hd]; exact hleft', fun c' hc' => hall c' (List.mem_cons_of_mem _ hc'), b1, b2, b3, b4, b5, b6, b7⟩
        · -- end = end_of_call(calls, start)
          refine ⟨_, rfl, _, rfl, a, ns, n, m, c, rfl, hS'.seq hS, (by rw [hd]; exact hO), ?_⟩
          -- given.append(1)
          have hol : out.length < sizeLine := small (by omega)
          refine ⟨_, rfl, .inl ⟨rfl, _, SqL.of hg'⟩, g, _, _, rfl, rfl, hg', (by rw [vZ_len]; exact hol), ?_⟩
          have e1 : vZ out ++ [V.int 1] = vZ (out ++ [1]) := by
            unfold vZ
            rw [List.map_append]
            rfl
          rw [e1]
          obtain ⟨dxa, psa, pa, la, la3, la4⟩ := hA.ex
          have ngp : g ≠ p := ne_of hg' pa (by intro z; cases z)
          have keepA : ∀ {Hx : Hp} {q : Addr} {o : HO}, Hx q = some o → q ≠ g → (upd Hx g (.lst (vZ (out ++ [1])))) q = some o := fun e n => by rw [upd_ne n]; exact e
          have hA3 : AllAt CA CT (upd H' g (.lst (vZ (out ++ [1])))) p lk st.tables := by
            refine ⟨⟨dxa, psa, keepA pa (Ne.symm ngp), keepA la (Ne.symm ngl), la3, fun i q e => ?_⟩, hA.ok, hA.few⟩
            obtain ⟨t, e1, dy, d, y1, y2⟩ := la4 i q e
            exact ⟨t, e1, dy, d, keepA y1 (ne_of y1 hg' (by intro z; cases z)), keepA y2 (ne_of y2 hg' (by intro z; cases z))⟩
          have hS3 : Same H (upd H' g (.lst (vZ (out ++ [1])))) := fun b o e => by
            rw [upd_ne (ne_of_none e hg0)]
            exact hS' _ _ e
          -- given.append(answer(tables, calls[start:end]))
          refine ⟨_, rfl, .inl ⟨rfl, _, SqL.of upd_same⟩, _, rfl, _, rfl, _, rfl, _, rfl, _, rfl, _, rfl, a, _, rfl, hS3.seq hS, fun q hq => ?_⟩
          rw [cut_mid ns n m hnm, hd]
          have hSq : Same (upd H' g (.lst (vZ (out ++ [1])))) (upd (upd H' g (.lst (vZ (out ++ [1])))) q (.lst (vZ ((z :: r).take m)))) := Same.upd hq
          refine ⟨p, lk, q, st.tables, (z :: r).take m, x, rfl, hA3.same hSq, upd_same, hcall, fun H4 lk' hA4 hlk' hk4 => ?_⟩
          have g4 : H4 g = some (.lst (vZ (out ++ [1]))) := hk4 _ _ (hSq _ _ upd_same) ngp ngl
          have ngl' : g ≠ lk' := by
            rcases hlk' with rfl | e
            · exact ngl
            · exact ne_of_none (hSq _ _ upd_same) e
          have lkH' : H lk' = none := by
            rcases hlk' with rfl | e
            · exact hlk
            · exact (hS3.trans hSq).free e
          have hS4 : Same H H4 := fun b o e => hk4 _ _ (hSq _ _ (hS3 _ _ e)) (ne_of_none e hp0) (ne_of_none e hlk)
          refine ⟨g, _, _, rfl, rfl, g4, (by rw [vZ_len, List.length_append]; exact small (by simp; omega)), ?_⟩
          have e2 : vZ (out ++ [1]) ++ [V.int (Rd07.does st x).2.value] = vZ (out ++ [1, (Rd07.does st x).2.value]) := by
            unfold vZ
            rw [List.map_append, List.map_append, List.append_assoc]
            rfl
          rw [show (⟨st.tables⟩ : Rd07.Abs) = st from rfl] at hA4 ⊢
          rw [e2]
          refine ⟨_, rfl, (Rd07.does st x).1, lk', out ++ [1, (Rd07.does st x).2.value], _, rfl, ?_, lkH', fun b o e => ?_, upd_same, ngl', ?_, ?_⟩
          · obtain ⟨dxb, psb, pb, lb, lb3, lb4⟩ := hA4.ex
            have kp : ∀ {q : Addr} {o : HO}, H4 q = some o → q ≠ g → (upd H4 g (.lst (vZ (out ++ [1, (Rd07.does st x).2.value])))) q = some o := fun e n => by rw [upd_ne n]; exact e
            refine ⟨⟨dxb, psb, kp pb (Ne.symm ngp), kp lb (Ne.symm ngl'), lb3, fun i q e => ?_⟩, hA4.ok, hA4.few⟩
            obtain ⟨t, e1, dy, d, y1, y2⟩ := lb4 i q e
            exact ⟨t, e1, dy, d, kp y1 (ne_of y1 g4 (by intro z; cases z)), kp y2 (ne_of y2 g4 (by intro z; cases z))⟩
          · rw [upd_ne (ne_of_none e hg0)]
            exact hS4 _ _ e
          · rw [List.append_assoc, ← SP.due_cons st c cs' x hx (SP.numbers_nil st x)]
            exact hdue
          · rw [List.length_append]
            rw [List.length_cons] at hlen2
            simp
            omega
    · rw [show decide ((n : Int) < (ns.length : Int)) = false from decide_eq_false (by omega)]
      refine iteF ?_
      have hd : ns.drop n = [] := List.drop_eq_nil_iff.mpr (by omega)
      rw [hd] at hleft
      have := hleft.nil_of
      subst this
      rw [SP.due_nil, List.append_nil] at hdue
      subst hdue
      exact ⟨_, rfl, k H' g hg'⟩
end
end AT
end
section
namespace AT
open PySem PySem.Spec PyProof.Rows L2
open PySem.W (Codec)
def FnK (K : PySem.W.Frag) (x qual : Str) (st : Stmt) : Prop := ∃ f fd, PySem.W.nsIn K mainGlobals x = some (some (.ref f)) ∧ Fun K x qual st f fd
theorem fnk_mk {K : PySem.W.Frag} {x qual : Str} {st : Stmt} {f : Addr} {oc : Value} {od an : Option Addr} {osl : Array (Option Value)} {kV doc pm cdv ct : Value} (a : PySem.W.nsIn K mainGlobals x = some (some (.ref f)))
    (l : K.lookup f = some ⟨oc, od, .func (PySem.W.fnOf x qual (defArgs st) (defBody st) (defScope st) .none kV doc pm an cdv ct), osl⟩) (c : PySem.W.codeIn K cdv qual = true) (k : PySem.W.keepIn K (.ref f) = true) : FnK K x qual st := ⟨f, _, a, fun_mk l c k⟩
def MtK (K : PySem.W.Frag) (C : Addr) (x qual : Str) (st : Stmt) : Prop := ∃ f fd, Meth K C x f ∧ Fun K x qual st f fd
theorem mtk_mk {K : PySem.W.Frag} {C : Addr} {x qual : Str} {st : Stmt} {f : Addr} {oc : Value} {od an : Option Addr} {osl : Array (Option Value)} {kV doc pm cdv ct : Value} (a : PySem.W.findIn K (.ref C) x = some (some (.ref f))) (i : PySem.W.isFn K (.ref f) = true)
    (l : K.lookup f = some ⟨oc, od, .func (PySem.W.fnOf x qual (defArgs st) (defBody st) (defScope st) .none kV doc pm an cdv ct), osl⟩) (c : PySem.W.codeIn K cdv qual = true) (k : PySem.W.keepIn K (.ref f) = true) : MtK K C x qual st := ⟨f, _, ⟨a, i, k⟩, fun_mk l c k⟩
def ClK (K : PySem.W.Frag) (C : Addr) (qual : Str) (st : Stmt) : Prop := Cls K C ∧ ∃ f fd, Mk K C f ∧ Fun K "__init__" qual st f fd
theorem clk_mk {K : PySem.W.Frag} {C : Addr} {qual : Str} {st : Stmt} {f : Addr} {oc : Value} {od an : Option Addr} {osl : Array (Option Value)} {kV doc pm cdv ct : Value} (pg : PySem.W.plainGet K C Str.empty = true) (hd : PySem.W.hasDictIn K C = true) (po : PySem.W.plainOver K C = true) (sa : PySem.W.findIn K (.ref C) "__setattr__" = some (some (.builtin "object.__setattr__")))
    (mk : PySem.W.makesIn K C = true) (kc : PySem.W.keepIn K (.ref C) = true) (a : PySem.W.findIn K (.ref C) "__init__" = some (some (.ref f))) (i : PySem.W.isFn K (.ref f) = true)
    (l : K.lookup f = some ⟨oc, od, .func (PySem.W.fnOf "__init__" qual (defArgs st) (defBody st) (defScope st) .none kV doc pm an cdv ct), osl⟩) (c : PySem.W.codeIn K cdv qual = true) (k : PySem.W.keepIn K (.ref f) = true) : ClK K C qual st := ⟨⟨pg, hd, po, sa⟩, f, _, ⟨mk, a, i, kc⟩, fun_mk l c k⟩
def KcK (K : PySem.W.Frag) (x : Str) (z : Int) : Prop := ∃ t, PySem.W.nsIn K mainGlobals x = some (some (.int z t))
theorem kck_mk {K : PySem.W.Frag} {x : Str} {z : Int} {t : Tok} (a : PySem.W.nsIn K mainGlobals x = some (some (.int z t))) : KcK K x z := ⟨t, a⟩
set_option maxHeartbeats 0 in
theorem all_mk {P : Program} {w : World} {K : PySem.W.Frag} {h : Heap} {mg : Str → Option Value} {fa CS CT CA : Addr} (X : K.In h) (G : h.Ns mainGlobals mg) (hfa : mg "answers" = some (.ref fa))
    (c_CS : PySem.W.nsIn K mainGlobals "Search" = some (some (.ref CS)))
    (k_CS : ClK K CS "Search.__init__" sSInit)
    (n_CS_unknowns : PySem.W.findIn K (.ref CS) "unknowns" = some none)
    (n_CS_rows : PySem.W.findIn K (.ref CS) "rows" = some none)
    (n_CS_lacking : PySem.W.findIn K (.ref CS) "lacking" = some none)
    (n_CS_filling : PySem.W.findIn K (.ref CS) "filling" = some none)
    (n_CS_divisor : PySem.W.findIn K (.ref CS) "divisor" = some none)
    (m_CS_is_done : MtK K CS "is_done" "Search.is_done" sIsDone)
    (m_CS_helpful_column : MtK K CS "helpful_column" "Search.helpful_column" sHelpful)
    (m_CS_is_tighter : MtK K CS "is_tighter" "Search.is_tighter" sIsTighter)
    (m_CS_tightest_row : MtK K CS "tightest_row" "Search.tightest_row" sTightest)
    (m_CS_cleared : MtK K CS "cleared" "Search.cleared" sCleared)
    (m_CS_fill : MtK K CS "fill" "Search.fill" sFill)
    (c_CT : PySem.W.nsIn K mainGlobals "Table" = some (some (.ref CT)))
    (k_CT : ClK K CT "Table.__init__" sTInit)
    (n_CT_mask : PySem.W.findIn K (.ref CT) "mask" = some none)
    (n_CT_weights : PySem.W.findIn K (.ref CT) "weights" = some none)
    (m_CT_shares : MtK K CT "shares" "Table.shares" sShares)
    (m_CT_allows : MtK K CT "allows" "Table.allows" sAllows)
    (m_CT_is_covered : MtK K CT "is_covered" "Table.is_covered" sIsCovered)
    (c_CA : PySem.W.nsIn K mainGlobals "Tables" = some (some (.ref CA)))
    (k_CA : ClK K CA "Tables.__init__" sAInit)
    (n_CA_kept : PySem.W.findIn K (.ref CA) "kept" = some none)
    (m_CA_begin : MtK K CA "begin" "Tables.begin" sBegin)
    (m_CA_add : MtK K CA "add" "Tables.add" sAdd)
    (m_CA_share : MtK K CA "share" "Tables.share" sShare)
    (m_CA_agree : MtK K CA "agree" "Tables.agree" sAgree)
    (m_CA_share_equations : MtK K CA "share_equations" "Tables.share_equations" sShareEqs)
    (m_CA_joint : MtK K CA "joint" "Tables.joint" sJoint)
    (m_CA_is_possible : MtK K CA "is_possible" "Tables.is_possible" sIsPossible)
    (m_CA_all_possible : MtK K CA "all_possible" "Tables.all_possible" sAllPossible)
    (m_CA_possible : MtK K CA "possible" "Tables.possible" sPossible)
    (m_CA_covered : MtK K CA "covered" "Tables.covered" sCovered)
    (m_CA_tree : MtK K CA "tree" "Tables.tree" sTree)
    (f_column_sum : FnK K "column_sum" "column_sum" sColSum)
    (f_can_be_met : FnK K "can_be_met" "can_be_met" sCanBeMet)
    (f_is_mask : FnK K "is_mask" "is_mask" sIsMask)
    (f_answers_within : FnK K "answers_within" "answers_within" sWithin)
    (f_is_table : FnK K "is_table" "is_table" sIsTable)
    (f_two_agree : FnK K "two_agree" "two_agree" sTwoAgree)
    (f_equation : FnK K "equation" "equation" sEquation)
    (f_without_lone_questions : FnK K "without_lone_questions" "without_lone_questions" sLone)
    (f_without_inner_masks : FnK K "without_inner_masks" "without_inner_masks" sInner)
    (f_hang_together : FnK K "hang_together" "hang_together" sHang)
    (f_end_of_call : FnK K "end_of_call" "end_of_call" sEnd)
    (f_answer : FnK K "answer" "answer" sAnswer)
    (f_answers : FnK K "answers" "answers" sAnswers)
    (i_FULL_MASK : KcK K "FULL_MASK" 31)
    (i_MOST_TABLES : KcK K "MOST_TABLES" 8)
    (i_MOST_WEIGHT : KcK K "MOST_WEIGHT" 1000)
    (i_BEGIN : KcK K "BEGIN" 0)
    (i_ADD : KcK K "ADD" 1)
    (i_SHARE : KcK K "SHARE" 2)
    (i_AGREE : KcK K "AGREE" 3)
    (i_JOINT : KcK K "JOINT" 4)
    (i_POSSIBLE : KcK K "POSSIBLE" 5)
    (i_COVERED : KcK K "COVERED" 6)
    (i_TREE : KcK K "TREE" 7)
    (z_sum : PySem.W.nsIn K mainGlobals "sum" = some none)
    (z_len : PySem.W.nsIn K mainGlobals "len" = some none)
    (z_range : PySem.W.nsIn K mainGlobals "range" = some none)
    (z_list : PySem.W.nsIn K mainGlobals "list" = some none)
    (z_enumerate : PySem.W.nsIn K mainGlobals "enumerate" = some none)
    (z_zip : PySem.W.nsIn K mainGlobals "zip" = some none)
    (z_dict : PySem.W.nsIn K mainGlobals "dict" = some none)
    (z_all : PySem.W.nsIn K mainGlobals "all" = some none)
    (z_any : PySem.W.nsIn K mainGlobals "any" = some none)
    (z_sorted : PySem.W.nsIn K mainGlobals "sorted" = some none)
    : ∃ fd : FuncData, (∀ (s : Shared) (us : List Value), us.length = (["calls"] : List Str).length → BindsTo s fd ⟨us, []⟩ ((["calls"] : List Str).zip us)) ∧ ∀ base : Heap, K.In base → base.Ns mainGlobals mg → FnOk P w K mg base CX0 7 fa fd ["calls"] (spAnswers K) := by
  obtain ⟨cl_CS, fi_CS, di_CS, mk_CS, F_CS⟩ := k_CS
  obtain ⟨a_is_done, d_is_done, mt_is_done, F_is_done⟩ := m_CS_is_done
  obtain ⟨a_helpful_column, d_helpful_column, mt_helpful_column, F_helpful_column⟩ := m_CS_helpful_column
  obtain ⟨a_is_tighter, d_is_tighter, mt_is_tighter, F_is_tighter⟩ := m_CS_is_tighter
  obtain ⟨a_tightest_row, d_tightest_row, mt_tightest_row, F_tightest_row⟩ := m_CS_tightest_row
  obtain ⟨a_cleared, d_cleared, mt_cleared, F_cleared⟩ := m_CS_cleared
  obtain ⟨a_fill, d_fill, mt_fill, F_fill⟩ := m_CS_fill
  obtain ⟨cl_CT, fi_CT, di_CT, mk_CT, F_CT⟩ := k_CT
  obtain ⟨a_shares, d_shares, mt_shares, F_shares⟩ := m_CT_shares
  obtain ⟨a_allows, d_allows, mt_allows, F_allows⟩ := m_CT_allows
  obtain ⟨a_is_covered, d_is_covered, mt_is_covered, F_is_covered⟩ := m_CT_is_covered
  obtain ⟨cl_CA, fi_CA, di_CA, mk_CA, F_CA⟩ := k_CA
  obtain ⟨a_begin, d_begin, mt_begin, F_begin⟩ := m_CA_begin
  obtain ⟨a_add, d_add, mt_add, F_add⟩ := m_CA_add
  obtain ⟨a_share, d_share, mt_share, F_share⟩ := m_CA_share
  obtain ⟨a_agree, d_agree, mt_agree, F_agree⟩ := m_CA_agree
  obtain ⟨a_share_equations, d_share_equations, mt_share_equations, F_share_equations⟩ := m_CA_share_equations
  obtain ⟨a_joint, d_joint, mt_joint, F_joint⟩ := m_CA_joint
  obtain ⟨a_is_possible, d_is_possible, mt_is_possible, F_is_possible⟩ := m_CA_is_possible
  obtain ⟨a_all_possible, d_all_possible, mt_all_possible, F_all_possible⟩ := m_CA_all_possible
  obtain ⟨a_possible, d_possible, mt_possible, F_possible⟩ := m_CA_possible
  obtain ⟨a_covered, d_covered, mt_covered, F_covered⟩ := m_CA_covered
  obtain ⟨a_tree, d_tree, mt_tree, F_tree⟩ := m_CA_tree
  obtain ⟨a_column_sum, d_column_sum, e_column_sum, F_column_sum⟩ := f_column_sum
  obtain ⟨a_can_be_met, d_can_be_met, e_can_be_met, F_can_be_met⟩ := f_can_be_met
  obtain ⟨a_is_mask, d_is_mask, e_is_mask, F_is_mask⟩ := f_is_mask
  obtain ⟨a_answers_within, d_answers_within, e_answers_within, F_answers_within⟩ := f_answers_within
  obtain ⟨a_is_table, d_is_table, e_is_table, F_is_table⟩ := f_is_table
  obtain ⟨a_two_agree, d_two_agree, e_two_agree, F_two_agree⟩ := f_two_agree
  obtain ⟨a_equation, d_equation, e_equation, F_equation⟩ := f_equation
  obtain ⟨a_without_lone_questions, d_without_lone_questions, e_without_lone_questions, F_without_lone_questions⟩ := f_without_lone_questions
  obtain ⟨a_without_inner_masks, d_without_inner_masks, e_without_inner_masks, F_without_inner_masks⟩ := f_without_inner_masks
  obtain ⟨a_hang_together, d_hang_together, e_hang_together, F_hang_together⟩ := f_hang_together
  obtain ⟨a_end_of_call, d_end_of_call, e_end_of_call, F_end_of_call⟩ := f_end_of_call
  obtain ⟨a_answer, d_answer, e_answer, F_answer⟩ := f_answer
  obtain ⟨a_answers, d_answers, e_answers, F_answers⟩ := f_answers
  obtain ⟨t_FULL_MASK, e_FULL_MASK⟩ := i_FULL_MASK
  obtain ⟨t_MOST_TABLES, e_MOST_TABLES⟩ := i_MOST_TABLES
  obtain ⟨t_MOST_WEIGHT, e_MOST_WEIGHT⟩ := i_MOST_WEIGHT
  obtain ⟨t_BEGIN, e_BEGIN⟩ := i_BEGIN
  obtain ⟨t_ADD, e_ADD⟩ := i_ADD
  obtain ⟨t_SHARE, e_SHARE⟩ := i_SHARE
  obtain ⟨t_AGREE, e_AGREE⟩ := i_AGREE
  obtain ⟨t_JOINT, e_JOINT⟩ := i_JOINT
  obtain ⟨t_POSSIBLE, e_POSSIBLE⟩ := i_POSSIBLE
  obtain ⟨t_COVERED, e_COVERED⟩ := i_COVERED
  obtain ⟨t_TREE, e_TREE⟩ := i_TREE
  have g := fun {n : Str} {v : Value} (e : PySem.W.nsIn K mainGlobals n = some (some v)) => PySem.W.mg_of X G e
  have gz := fun {n : Str} (e : PySem.W.nsIn K mainGlobals n = some none) => PySem.W.mg_none_of X G e
  have T : Txt K mg CS CT CA := ⟨cl_CS, n_CS_unknowns, n_CS_rows, n_CS_lacking, n_CS_filling, n_CS_divisor, cl_CT, n_CT_mask, n_CT_weights, cl_CA, n_CA_kept, ⟨gz z_sum, gz z_len, gz z_range, gz z_list, gz z_enumerate, gz z_zip, gz z_dict, gz z_all, gz z_any, gz z_sorted⟩, ⟨t_FULL_MASK, g e_FULL_MASK⟩, ⟨t_MOST_TABLES, g e_MOST_TABLES⟩, ⟨t_MOST_WEIGHT, g e_MOST_WEIGHT⟩, ⟨t_BEGIN, g e_BEGIN⟩, ⟨t_ADD, g e_ADD⟩, ⟨t_SHARE, g e_SHARE⟩, ⟨t_AGREE, g e_AGREE⟩, ⟨t_JOINT, g e_JOINT⟩, ⟨t_POSSIBLE, g e_POSSIBLE⟩, ⟨t_COVERED, g e_COVERED⟩, ⟨t_TREE, g e_TREE⟩⟩
  have b_is_done := F_is_done.binds (ps := ["self"]) fun _ _ _ _ _ _ us hl => match us, hl with | [_], _ => rfl
  have b_helpful_column := F_helpful_column.binds (ps := ["self"]) fun _ _ _ _ _ _ us hl => match us, hl with | [_], _ => rfl
  have b_is_tighter := F_is_tighter.binds (ps := ["self", "i", "other", "column"]) fun _ _ _ _ _ _ us hl => match us, hl with | [_, _, _, _], _ => rfl
  have b_tightest_row := F_tightest_row.binds (ps := ["self", "column"]) fun _ _ _ _ _ _ us hl => match us, hl with | [_, _], _ => rfl
  have b_cleared := F_cleared.binds (ps := ["self", "row", "by", "column"]) fun _ _ _ _ _ _ us hl => match us, hl with | [_, _, _, _], _ => rfl
  have b_fill := F_fill.binds (ps := ["self", "chosen", "column"]) fun _ _ _ _ _ _ us hl => match us, hl with | [_, _, _], _ => rfl
  have b_shares := F_shares.binds (ps := ["self", "mask"]) fun _ _ _ _ _ _ us hl => match us, hl with | [_, _], _ => rfl
  have b_allows := F_allows.binds (ps := ["self", "told"]) fun _ _ _ _ _ _ us hl => match us, hl with | [_, _], _ => rfl
  have b_is_covered := F_is_covered.binds (ps := ["self", "possible_answers"]) fun _ _ _ _ _ _ us hl => match us, hl with | [_, _], _ => rfl
  have b_begin := F_begin.binds (ps := ["self"]) fun _ _ _ _ _ _ us hl => match us, hl with | [_], _ => rfl
  have b_add := F_add.binds (ps := ["self", "mask", "weights"]) fun _ _ _ _ _ _ us hl => match us, hl with | [_, _, _], _ => rfl
  have b_share := F_share.binds (ps := ["self", "i", "mask", "told"]) fun _ _ _ _ _ _ us hl => match us, hl with | [_, _, _, _], _ => rfl
  have b_agree := F_agree.binds (ps := ["self"]) fun _ _ _ _ _ _ us hl => match us, hl with | [_], _ => rfl
  have b_share_equations := F_share_equations.binds (ps := ["self"]) fun _ _ _ _ _ _ us hl => match us, hl with | [_], _ => rfl
  have b_joint := F_joint.binds (ps := ["self"]) fun _ _ _ _ _ _ us hl => match us, hl with | [_], _ => rfl
  have b_is_possible := F_is_possible.binds (ps := ["self", "told"]) fun _ _ _ _ _ _ us hl => match us, hl with | [_, _], _ => rfl
  have b_all_possible := F_all_possible.binds (ps := ["self"]) fun _ _ _ _ _ _ us hl => match us, hl with | [_], _ => rfl
  have b_possible := F_possible.binds (ps := ["self"]) fun _ _ _ _ _ _ us hl => match us, hl with | [_], _ => rfl
  have b_covered := F_covered.binds (ps := ["self"]) fun _ _ _ _ _ _ us hl => match us, hl with | [_], _ => rfl
  have b_tree := F_tree.binds (ps := ["self"]) fun _ _ _ _ _ _ us hl => match us, hl with | [_], _ => rfl
  have b_column_sum := F_column_sum.binds (ps := ["rows", "column"]) fun _ _ _ _ _ _ us hl => match us, hl with | [_, _], _ => rfl
  have b_can_be_met := F_can_be_met.binds (ps := ["rows"]) fun _ _ _ _ _ _ us hl => match us, hl with | [_], _ => rfl
  have b_is_mask := F_is_mask.binds (ps := ["number"]) fun _ _ _ _ _ _ us hl => match us, hl with | [_], _ => rfl
  have b_answers_within := F_answers_within.binds (ps := ["mask"]) fun _ _ _ _ _ _ us hl => match us, hl with | [_], _ => rfl
  have b_is_table := F_is_table.binds (ps := ["mask", "weights"]) fun _ _ _ _ _ _ us hl => match us, hl with | [_, _], _ => rfl
  have b_two_agree := F_two_agree.binds (ps := ["first", "second"]) fun _ _ _ _ _ _ us hl => match us, hl with | [_, _], _ => rfl
  have b_equation := F_equation.binds (ps := ["asked", "total"]) fun _ _ _ _ _ _ us hl => match us, hl with | [_, _], _ => rfl
  have b_without_lone_questions := F_without_lone_questions.binds (ps := ["masks"]) fun _ _ _ _ _ _ us hl => match us, hl with | [_], _ => rfl
  have b_without_inner_masks := F_without_inner_masks.binds (ps := ["masks"]) fun _ _ _ _ _ _ us hl => match us, hl with | [_], _ => rfl
  have b_hang_together := F_hang_together.binds (ps := ["masks"]) fun _ _ _ _ _ _ us hl => match us, hl with | [_], _ => rfl
  have b_end_of_call := F_end_of_call.binds (ps := ["calls", "start"]) fun _ _ _ _ _ _ us hl => match us, hl with | [_, _], _ => rfl
  have b_answer := F_answer.binds (ps := ["tables", "call"]) fun _ _ _ _ _ _ us hl => match us, hl with | [_, _], _ => rfl
  have b_answers := F_answers.binds (ps := ["calls"]) fun _ _ _ _ _ _ us hl => match us, hl with | [_], _ => rfl
  have b_CS := F_CS.binds (ps := ["self", "rows"]) fun _ _ _ _ _ _ us hl => match us, hl with | [_, _], _ => rfl
  have b_CT := F_CT.binds (ps := ["self", "mask", "weights"]) fun _ _ _ _ _ _ us hl => match us, hl with | [_, _, _], _ => rfl
  have b_CA := F_CA.binds (ps := ["self"]) fun _ _ _ _ _ _ us hl => match us, hl with | [_], _ => rfl
  have efa := hfa.symm.trans (g e_answers)
  cases efa
  refine ⟨d_answers, fun s us hu => ?_, fun base _ _ => ?_⟩
  · obtain ⟨oc, od, kV, doc, pm, an, cdv, ct, osl, rfl, lk, hcd⟩ := F_answers.ex
    match us, hu with
    | [_], _ => exact .of_eq rfl
  · have GF1 := fun {k : Nat} {x : Str} {f : Addr} {fd : FuncData} {ps : List Str} {sp : Sp} (ok : FnOk P w K mg base CX0 k f fd ps sp) (b : Binds K fd ps []) (e : PySem.W.nsIn K mainGlobals x = some (some (.ref f))) (kp : PySem.W.keepIn K (.ref f) = true) => (GF.mk ok b (g e) kp : GF P w K mg base k x f fd ps sp)
    have MF1 := fun {k : Nat} {C : Addr} {m : Str} {f : Addr} {fd : FuncData} {ps : List Str} {sp : Sp} (ok : FnOk P w K mg base CX0 k f fd ps sp) (b : Binds K fd ps []) (mt : Meth K C m f) => (MF.mk ok b mt : MF P w K mg base k C m f fd ps sp)
    have CF1 := fun {k : Nat} {C : Addr} {x : Str} {f : Addr} {fd : FuncData} {ps : List Str} {sp : Sp} (ok : FnOk P w K mg base CX0 k f fd ps sp) (b : Binds K fd ps []) (mk : Mk K C f) (e : mg x = some (.ref C)) => (CF.mk ok b mk e : CF P w K mg base k C x f fd ps sp)
    have G_is_mask := GF1 (ok_isMask F_is_mask T) b_is_mask e_is_mask F_is_mask.kp
    have G_answers_within := GF1 (ok_within F_answers_within T) b_answers_within e_answers_within F_answers_within.kp
    have G_is_table := GF1 (ok_isTable F_is_table T G_is_mask G_answers_within) b_is_table e_is_table F_is_table.kp
    have C_CT := CF1 (ok_tInit F_CT T G_answers_within) b_CT mk_CT (g c_CT)
    have M_shares := MF1 (ok_shares F_shares T) b_shares mt_shares
    have M_allows := MF1 (ok_allows F_allows T) b_allows mt_allows
    have M_is_covered := MF1 (ok_isCovered F_is_covered T) b_is_covered mt_is_covered
    have G_two_agree := GF1 (ok_twoAgree F_two_agree T M_shares) b_two_agree e_two_agree F_two_agree.kp
    have G_equation := GF1 (ok_equation F_equation T) b_equation e_equation F_equation.kp
    have G_without_lone_questions := GF1 (ok_lone F_without_lone_questions T) b_without_lone_questions e_without_lone_questions F_without_lone_questions.kp
    have G_without_inner_masks := GF1 (ok_inner F_without_inner_masks T) b_without_inner_masks e_without_inner_masks F_without_inner_masks.kp
    have G_hang_together := GF1 (ok_hang F_hang_together T G_without_lone_questions G_without_inner_masks) b_hang_together e_hang_together F_hang_together.kp
    have G_column_sum := GF1 (ok_colSum F_column_sum T) b_column_sum e_column_sum F_column_sum.kp
    have C_CS := CF1 (ok_sInit F_CS T G_column_sum) b_CS mk_CS (g c_CS)
    have M_is_done := MF1 (ok_isDone F_is_done T) b_is_done mt_is_done
    have M_helpful_column := MF1 (ok_helpful F_helpful_column T) b_helpful_column mt_helpful_column
    have M_is_tighter := MF1 (ok_isTighter F_is_tighter T) b_is_tighter mt_is_tighter
    have M_tightest_row := MF1 (ok_tightest F_tightest_row T M_is_tighter) b_tightest_row mt_tightest_row
    have M_cleared := MF1 (ok_cleared F_cleared T) b_cleared mt_cleared
    have M_fill := MF1 (ok_fill F_fill T M_cleared) b_fill mt_fill
    have G_can_be_met := GF1 (ok_canBeMet F_can_be_met T C_CS M_is_done M_helpful_column M_tightest_row M_fill) b_can_be_met e_can_be_met F_can_be_met.kp
    have C_CA := CF1 (ok_aInit F_CA T) b_CA mk_CA (g c_CA)
    have M_begin := MF1 (ok_begin F_begin T) b_begin mt_begin
    have M_add := MF1 (ok_add F_add T G_is_table C_CT) b_add mt_add
    have M_share := MF1 (ok_share F_share T G_is_mask M_shares) b_share mt_share
    have M_agree := MF1 (ok_agree F_agree T G_two_agree) b_agree mt_agree
    have M_share_equations := MF1 (ok_shareEqs F_share_equations T G_answers_within M_shares G_equation) b_share_equations mt_share_equations
    have M_joint := MF1 (ok_joint F_joint T M_agree M_share_equations G_can_be_met) b_joint mt_joint
    have M_is_possible := MF1 (ok_isPossible F_is_possible T M_allows) b_is_possible mt_is_possible
    have M_all_possible := MF1 (ok_allPossible F_all_possible T M_is_possible) b_all_possible mt_all_possible
    have M_possible := MF1 (ok_possible F_possible T M_all_possible) b_possible mt_possible
    have M_covered := MF1 (ok_covered F_covered T M_all_possible M_is_covered) b_covered mt_covered
    have M_tree := MF1 (ok_tree F_tree T G_hang_together) b_tree mt_tree
    have G_end_of_call := GF1 (ok_end F_end_of_call T) b_end_of_call e_end_of_call F_end_of_call.kp
    have G_answer := GF1 (ok_answer F_answer T ⟨M_begin, M_add, M_share, M_agree, M_joint, M_possible, M_covered, M_tree⟩) b_answer e_answer F_answer.kp
    exact ok_answers F_answers T C_CA G_end_of_call G_answer
end AT
end
open PySem PySem.W PyProof.Rows
set_option maxRecDepth 100000 in
set_option maxHeartbeats 0 in
theorem PySem.Challenge.cw_agreeingtables_s01_answers_holds : PySem.Challenge.rw_agreeingtables_s01_answers.Holds := by
  w_on; k_headS; (case hw => exact ⟨[.list [.int 0]], by decide +kernel, by decide +kernel⟩)
  k_fillS
  refine L2.walk_specK (r := PySem.Challenge.rw_agreeingtables_s01_answers) (k := 7) (CX := L2.CX0) (ps := ["calls"]) (sp := AT.spAnswers) (by decide +kernel) rfl rfl ⟨rfl, by decide, by decide⟩ (fun w h Y => PySem.W.kIn_of Y) ?F ?S (fun _ _ _ _ z => z)
  case F =>
    intro w mg fa h Y KX G hmg
    refine' AT.all_mk KX G hmg ?c_CS ?k_CS ?n_CS_unknowns ?n_CS_rows ?n_CS_lacking ?n_CS_filling ?n_CS_divisor ?m_CS_is_done ?m_CS_helpful_column ?m_CS_is_tighter ?m_CS_tightest_row ?m_CS_cleared ?m_CS_fill ?c_CT ?k_CT ?n_CT_mask ?n_CT_weights ?m_CT_shares ?m_CT_allows ?m_CT_is_covered ?c_CA ?k_CA ?n_CA_kept ?m_CA_begin ?m_CA_add ?m_CA_share ?m_CA_agree ?m_CA_share_equations ?m_CA_joint ?m_CA_is_possible ?m_CA_all_possible ?m_CA_possible ?m_CA_covered ?m_CA_tree ?f_column_sum ?f_can_be_met ?f_is_mask ?f_answers_within ?f_is_table ?f_two_agree ?f_equation ?f_without_lone_questions ?f_without_inner_masks ?f_hang_together ?f_end_of_call ?f_answer ?f_answers ?i_FULL_MASK ?i_MOST_TABLES ?i_MOST_WEIGHT ?i_BEGIN ?i_ADD ?i_SHARE ?i_AGREE ?i_JOINT ?i_POSSIBLE ?i_COVERED ?i_TREE ?z_sum ?z_len ?z_range ?z_list ?z_enumerate ?z_zip ?z_dict ?z_all ?z_any ?z_sorted
    (case c_CS => k_is)
    (case k_CS => (refine' AT.clk_mk ?pg ?hd ?po ?sa ?mk ?kc ?a ?i ?l ?c ?k; (case pg => k_is); (case hd => k_is); (case po => k_is); (case sa => k_is); (case mk => k_is); (case kc => k_is); (case a => k_is); (case i => k_is); (case l => k_is); (case c => k_is); (case k => k_is)))
    (case n_CS_unknowns => k_is)
    (case n_CS_rows => k_is)
    (case n_CS_lacking => k_is)
    (case n_CS_filling => k_is)
    (case n_CS_divisor => k_is)
    (case m_CS_is_done => (refine' AT.mtk_mk ?a ?i ?l ?c ?k; (case a => k_is); (case i => k_is); (case l => k_is); (case c => k_is); (case k => k_is)))
    (case m_CS_helpful_column => (refine' AT.mtk_mk ?a ?i ?l ?c ?k; (case a => k_is); (case i => k_is); (case l => k_is); (case c => k_is); (case k => k_is)))
    (case m_CS_is_tighter => (refine' AT.mtk_mk ?a ?i ?l ?c ?k; (case a => k_is); (case i => k_is); (case l => k_is); (case c => k_is); (case k => k_is)))
    (case m_CS_tightest_row => (refine' AT.mtk_mk ?a ?i ?l ?c ?k; (case a => k_is); (case i => k_is); (case l => k_is); (case c => k_is); (case k => k_is)))
    (case m_CS_cleared => (refine' AT.mtk_mk ?a ?i ?l ?c ?k; (case a => k_is); (case i => k_is); (case l => k_is); (case c => k_is); (case k => k_is)))
    (case m_CS_fill => (refine' AT.mtk_mk ?a ?i ?l ?c ?k; (case a => k_is); (case i => k_is); (case l => k_is); (case c => k_is); (case k => k_is)))
    (case c_CT => k_is)
    (case k_CT => (refine' AT.clk_mk ?pg ?hd ?po ?sa ?mk ?kc ?a ?i ?l ?c ?k; (case pg => k_is); (case hd => k_is); (case po => k_is); (case sa => k_is); (case mk => k_is); (case kc => k_is); (case a => k_is); (case i => k_is); (case l => k_is); (case c => k_is); (case k => k_is)))
    (case n_CT_mask => k_is)
    (case n_CT_weights => k_is)
    (case m_CT_shares => (refine' AT.mtk_mk ?a ?i ?l ?c ?k; (case a => k_is); (case i => k_is); (case l => k_is); (case c => k_is); (case k => k_is)))
    (case m_CT_allows => (refine' AT.mtk_mk ?a ?i ?l ?c ?k; (case a => k_is); (case i => k_is); (case l => k_is); (case c => k_is); (case k => k_is)))
    (case m_CT_is_covered => (refine' AT.mtk_mk ?a ?i ?l ?c ?k; (case a => k_is); (case i => k_is); (case l => k_is); (case c => k_is); (case k => k_is)))
    (case c_CA => k_is)
    (case k_CA => (refine' AT.clk_mk ?pg ?hd ?po ?sa ?mk ?kc ?a ?i ?l ?c ?k; (case pg => k_is); (case hd => k_is); (case po => k_is); (case sa => k_is); (case mk => k_is); (case kc => k_is); (case a => k_is); (case i => k_is); (case l => k_is); (case c => k_is); (case k => k_is)))
    (case n_CA_kept => k_is)
    (case m_CA_begin => (refine' AT.mtk_mk ?a ?i ?l ?c ?k; (case a => k_is); (case i => k_is); (case l => k_is); (case c => k_is); (case k => k_is)))
    (case m_CA_add => (refine' AT.mtk_mk ?a ?i ?l ?c ?k; (case a => k_is); (case i => k_is); (case l => k_is); (case c => k_is); (case k => k_is)))
    (case m_CA_share => (refine' AT.mtk_mk ?a ?i ?l ?c ?k; (case a => k_is); (case i => k_is); (case l => k_is); (case c => k_is); (case k => k_is)))
    (case m_CA_agree => (refine' AT.mtk_mk ?a ?i ?l ?c ?k; (case a => k_is); (case i => k_is); (case l => k_is); (case c => k_is); (case k => k_is)))
    (case m_CA_share_equations => (refine' AT.mtk_mk ?a ?i ?l ?c ?k; (case a => k_is); (case i => k_is); (case l => k_is); (case c => k_is); (case k => k_is)))
    (case m_CA_joint => (refine' AT.mtk_mk ?a ?i ?l ?c ?k; (case a => k_is); (case i => k_is); (case l => k_is); (case c => k_is); (case k => k_is)))
    (case m_CA_is_possible => (refine' AT.mtk_mk ?a ?i ?l ?c ?k; (case a => k_is); (case i => k_is); (case l => k_is); (case c => k_is); (case k => k_is)))
    (case m_CA_all_possible => (refine' AT.mtk_mk ?a ?i ?l ?c ?k; (case a => k_is); (case i => k_is); (case l => k_is); (case c => k_is); (case k => k_is)))
    (case m_CA_possible => (refine' AT.mtk_mk ?a ?i ?l ?c ?k; (case a => k_is); (case i => k_is); (case l => k_is); (case c => k_is); (case k => k_is)))
    (case m_CA_covered => (refine' AT.mtk_mk ?a ?i ?l ?c ?k; (case a => k_is); (case i => k_is); (case l => k_is); (case c => k_is); (case k => k_is)))
    (case m_CA_tree => (refine' AT.mtk_mk ?a ?i ?l ?c ?k; (case a => k_is); (case i => k_is); (case l => k_is); (case c => k_is); (case k => k_is)))
    (case f_column_sum => (refine' AT.fnk_mk ?a ?l ?c ?k; (case a => k_is); (case l => k_is); (case c => k_is); (case k => k_is)))
    (case f_can_be_met => (refine' AT.fnk_mk ?a ?l ?c ?k; (case a => k_is); (case l => k_is); (case c => k_is); (case k => k_is)))
    (case f_is_mask => (refine' AT.fnk_mk ?a ?l ?c ?k; (case a => k_is); (case l => k_is); (case c => k_is); (case k => k_is)))
    (case f_answers_within => (refine' AT.fnk_mk ?a ?l ?c ?k; (case a => k_is); (case l => k_is); (case c => k_is); (case k => k_is)))
    (case f_is_table => (refine' AT.fnk_mk ?a ?l ?c ?k; (case a => k_is); (case l => k_is); (case c => k_is); (case k => k_is)))
    (case f_two_agree => (refine' AT.fnk_mk ?a ?l ?c ?k; (case a => k_is); (case l => k_is); (case c => k_is); (case k => k_is)))
    (case f_equation => (refine' AT.fnk_mk ?a ?l ?c ?k; (case a => k_is); (case l => k_is); (case c => k_is); (case k => k_is)))
    (case f_without_lone_questions => (refine' AT.fnk_mk ?a ?l ?c ?k; (case a => k_is); (case l => k_is); (case c => k_is); (case k => k_is)))
    (case f_without_inner_masks => (refine' AT.fnk_mk ?a ?l ?c ?k; (case a => k_is); (case l => k_is); (case c => k_is); (case k => k_is)))
    (case f_hang_together => (refine' AT.fnk_mk ?a ?l ?c ?k; (case a => k_is); (case l => k_is); (case c => k_is); (case k => k_is)))
    (case f_end_of_call => (refine' AT.fnk_mk ?a ?l ?c ?k; (case a => k_is); (case l => k_is); (case c => k_is); (case k => k_is)))
    (case f_answer => (refine' AT.fnk_mk ?a ?l ?c ?k; (case a => k_is); (case l => k_is); (case c => k_is); (case k => k_is)))
    (case f_answers => (refine' AT.fnk_mk ?a ?l ?c ?k; (case a => k_is); (case l => k_is); (case c => k_is); (case k => k_is)))
    (case i_FULL_MASK => (refine' AT.kck_mk ?a; (case a => k_is)))
    (case i_MOST_TABLES => (refine' AT.kck_mk ?a; (case a => k_is)))
    (case i_MOST_WEIGHT => (refine' AT.kck_mk ?a; (case a => k_is)))
    (case i_BEGIN => (refine' AT.kck_mk ?a; (case a => k_is)))
    (case i_ADD => (refine' AT.kck_mk ?a; (case a => k_is)))
    (case i_SHARE => (refine' AT.kck_mk ?a; (case a => k_is)))
    (case i_AGREE => (refine' AT.kck_mk ?a; (case a => k_is)))
    (case i_JOINT => (refine' AT.kck_mk ?a; (case a => k_is)))
    (case i_POSSIBLE => (refine' AT.kck_mk ?a; (case a => k_is)))
    (case i_COVERED => (refine' AT.kck_mk ?a; (case a => k_is)))
    (case i_TREE => (refine' AT.kck_mk ?a; (case a => k_is)))
    (case z_sum => k_is)
    (case z_len => k_is)
    (case z_range => k_is)
    (case z_list => k_is)
    (case z_enumerate => k_is)
    (case z_zip => k_is)
    (case z_dict => k_is)
    (case z_all => k_is)
    (case z_any => k_is)
    (case z_sorted => k_is)
  case S =>
    intro K H xs a hO hwi hask hx
    cases hx with
    | cons h1 h2 =>
      cases h2
      cases h1 with
      | lst hs ha =>
        have e := L2.ints_dw a.1 _ ha
        subst e
        have q : ((Codec.inLen 0 3500 a.1 && a.1.all (Codec.inInt (-2147483648) 2147483647)) && true) = true := hwi
        rw [Bool.and_eq_true, Bool.and_eq_true] at q
        exact ⟨_, a.1, rfl, hs, (Codec.inNat_iff.mp q.1.1).2, hask, fun H' p hp => .lst (L2.SqL.of hp) (L2.dw_ints _)⟩
#print axioms PySem.Challenge.cw_agreeingtables_s01_answers_holds
