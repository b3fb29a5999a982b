import PyProof.Rows.All
import Wide.All
import OpenK.AllK
import Wide.FinOn
import PyProof.EqAt
import PyProof.EqKinds
import PyProof.TupleCall
import KE.BitLaws
import Open.SpecLaws
import KE.OsHead
import KE.OsGo
import PyProof.StationsW
import PyProof.ExcInit
import PyProof.RulesAs
import PyProof.InstStoreFacts
import PyProof.InstLoad
import PyProof.ExcAttrAll.Exception
import PyProof.EnumMake
import PyProof.Rows.CallKwBuiltin
import PyProof.ZipIter
import PyProof.TupleIter
import PyProof.WalksMore
import KE.KDictList
import PyProof.Rows.SortShellAny
import KE.KMinKey
import KE.KLam
import KE.KSortKeyAny
import KE.KNestM
import PyProof.DictUpdate
import PySem.Challenge.RW_kinfolk_s03_kinship
set_option Elab.async false
set_option linter.all false
set_option maxRecDepth 100000
set_option maxHeartbeats 2000000
namespace L2
open PySem PySem.Spec PyProof.Rows
abbrev Key := Sum Int Str
def keyIs : Key → Value → Bool
  | .inl k, v => Value.isInt k v
  | .inr x, v => Value.isStrOf x v
def keyH (w : World) : Key → Int
  | .inl k => hashInt k
  | .inr x => hashStr w x
theorem keyIs_shape : ∀ {k : Key} {v : Value}, keyIs k v = true → (∃ i t, k = Sum.inl i ∧ v = Value.int i t) ∨ (∃ x t, k = Sum.inr x ∧ v = Value.str x t)
  | .inl i, v, h => by
    obtain ⟨t, e⟩ := Value.isInt_shape (k := i) (v := v) h
    exact .inl ⟨i, t, rfl, e⟩
  | .inr x, v, h => by
    obtain ⟨t, e⟩ := Value.isStrOf_shape (x := x) (v := v) h
    exact .inr ⟨x, t, rfl, e⟩
theorem keyIs_int (i : Int) (t : Tok) : keyIs (.inl i) (.int i t) = true := by simp [keyIs, Value.isInt]
theorem keyIs_str (x : Str) (t : Tok) : keyIs (.inr x) (.str x t) = true := by simp [keyIs, Value.isStrOf]
theorem key_ll (a b : Int) : decide ((Sum.inl a : Key) = Sum.inl b) = (a == b) := by
  by_cases e : a = b
  · subst e; simp
  · have h : ¬ (Sum.inl a : Key) = Sum.inl b := fun q => e (Sum.inl.inj q)
    rw [decide_eq_false h]
    exact (beq_eq_false_iff_ne.mpr e).symm
theorem key_rr (a b : Str) : decide ((Sum.inr a : Key) = Sum.inr b) = decide (a = b) := by
  by_cases e : a = b
  · subst e; simp
  · have h : ¬ (Sum.inr a : Key) = Sum.inr b := fun q => e (Sum.inr.inj q)
    rw [decide_eq_false h, decide_eq_false e]
theorem key_lr (a : Int) (b : Str) : decide ((Sum.inl a : Key) = Sum.inr b) = false := decide_eq_false (fun q => nomatch q)
theorem key_rl (a : Str) (b : Int) : decide ((Sum.inr a : Key) = Sum.inl b) = false := decide_eq_false (fun q => nomatch q)
def mixKind (prog : Program) (w : World) : PySem.KeyKind prog w Key where
  is := keyIs
  hash := keyH w
  inj := fun v a b ha hb => by
    rcases keyIs_shape ha with ⟨i, t, rfl, rfl⟩ | ⟨x, t, rfl, rfl⟩
    · rcases keyIs_shape hb with ⟨j, u, rfl, e⟩ | ⟨y, u, rfl, e⟩
      · injection e with e1 _; rw [e1]
      · exact nomatch e
    · rcases keyIs_shape hb with ⟨j, u, rfl, e⟩ | ⟨y, u, rfl, e⟩
      · exact nomatch e
      · injection e with e1 _; rw [e1]
  byValue := fun k v h => by
    rcases keyIs_shape h with ⟨i, t, rfl, rfl⟩ | ⟨x, t, rfl, rfl⟩ <;> rfl
  pyHash := fun hv h => by
    rcases keyIs_shape hv with ⟨i, t, rfl, rfl⟩ | ⟨x, t, rfl, rfl⟩
    · exact wpAny_pyHash_int h
    · exact wpAny_pyHash_str h
  eqBool := fun hu hv h => by
    rcases keyIs_shape hu with ⟨i, t, rfl, rfl⟩ | ⟨x, t, rfl, rfl⟩
    · rcases keyIs_shape hv with ⟨j, u, rfl, rfl⟩ | ⟨y, u, rfl, rfl⟩
      · rw [key_ll] at h; exact wpAny_eqBool_int h
      · rw [key_lr] at h; exact SeqAt.EqAt.int_str i t y u _ _ _ _ h
    · rcases keyIs_shape hv with ⟨j, u, rfl, rfl⟩ | ⟨y, u, rfl, rfl⟩
      · rw [key_rl] at h; exact SeqAt.EqAt.str_int x t j u _ _ _ _ h
      · rw [key_rr] at h; exact wpAny_eqBool_str h
  «strs» := fun k x t v h => by
    rcases keyIs_shape h with ⟨i, u, rfl, e⟩ | ⟨y, u, rfl, e⟩
    · exact nomatch e
    · injection e with e1 _
      subst e1
      cases v <;> rfl
theorem mixKind_int (prog : Program) (w : World) (i : Int) (t : Tok) : (mixKind prog w).is (.inl i) (.int i t) = true := keyIs_int i t
theorem mixKind_str (prog : Program) (w : World) (x : Str) (t : Tok) : (mixKind prog w).is (.inr x) (.str x t) = true := keyIs_str x t
end L2
namespace L2
open PySem PySem.Spec PyProof.Rows
inductive V where
  | non | bl (b : Bool) | int (i : Int) | str (x : Str) | byt (b : Array UInt8) | flt (b : UInt64) | ref (a : Addr) | ty (n : String)
  deriving DecidableEq
def RelV : V → Value → Prop
  | .non, u => u = Value.none
  | .bl b, u => u = Value.bool b
  | .int i, u => ∃ t, u = Value.int i t
  | .str x, u => ∃ t, u = Value.str x t
  | .byt b, u => ∃ t, u = Value.bytes b t
  | .flt b, u => ∃ t, u = Value.float b t
  | .ref a, u => u = Value.ref a
  | .ty n, u => u = Value.type n
abbrev Vals : List V → List Value → Prop := Paired RelV
theorem Vals.length {xs : List V} {us : List Value} (r : Vals xs us) : xs.length = us.length := Paired.length r
theorem Vals.get : ∀ {xs : List V} {us : List Value} {i : Nat} {x : V}, Vals xs us → xs[i]? = some x → ∃ u, us[i]? = some u ∧ RelV x u
  | _, _, _, _, .nil, e => by simp at e
  | _, _, 0, _, .cons r _, e => by simp at e; subst e; exact ⟨_, rfl, r⟩
  | _, _, i + 1, x, .cons _ t, e => by
    obtain ⟨u, h1, h2⟩ := Vals.get (i := i) (x := x) t (by simpa using e)
    exact ⟨u, by simpa using h1, h2⟩
theorem Vals.append : ∀ {xs ys : List V} {us ws : List Value}, Vals xs us → Vals ys ws → Vals (xs ++ ys) (us ++ ws)
  | _, _, _, _, .nil, s => s
  | _, _, _, _, .cons r t, s => .cons r (Vals.append t s)
theorem Vals.take : ∀ {xs : List V} {us : List Value} (n : Nat), Vals xs us → Vals (xs.take n) (us.take n)
  | _, _, 0, _ => .nil
  | _, _, _ + 1, .nil => .nil
  | _, _, n + 1, .cons r t => .cons r (Vals.take n t)
theorem Vals.drop : ∀ {xs : List V} {us : List Value} (n : Nat), Vals xs us → Vals (xs.drop n) (us.drop n)
  | _, _, 0, r => r
  | _, _, _ + 1, .nil => .nil
  | _, _, n + 1, .cons _ t => Vals.drop n t
def RelO : Option V → Option Value → Prop
  | some v, some u => RelV v u
  | none, none => True
  | _, _ => False
def KV {κ : Type} : List (κ × V) → List (κ × Value) → Prop := Paired fun (p : κ × V) (q : κ × Value) => p.1 = q.1 ∧ RelV p.2 q.2
def kV : Key → V
  | .inl i => .int i
  | .inr x => .str x
inductive HO where
  /-- a list -/
  | lst (xs : List V)
  /-- a tuple (never changes) -/
  | tup (xs : List V)
  /-- a dict whose keys are ints and texts; one whose keys are tuples of ints and texts (the empty one is both) -/
  | dK (kvs : List (Key × V)) | dT (kvs : List (List Key × V))
  /-- a set of ints: its members, its size -/
  | set (S : Int → Bool) (n : Nat)
  /-- an instance of the class at C, its dict at dx, its attributes -/
  | ins (C dx : Addr) (fs : List (Str × V))
  /-- the dict of the instance at x -/
  | own (x : Addr)
  /-- the dict of an exception -/
  | xd (fs : List (Str × V))
  /-- a bound method, f of x -/
  | met (f x : Addr)
  /-- a range object lo, lo + 1, .. below hi -/
  | rng (lo hi : Int)
  /-- a thing that is known to the object (the script; a dict while a loop walks it): read, never written while it is so -/
  | frz (o : Obj) (u : HO)
  /-- a code object's table -/
  | tbl (ps : Array Value)
  /-- any other thing, by what is true of its one object (a def of one's own: SetO a S n := HO.ext fun h => ..) -/
  | ext (φ : Heap → Prop)
abbrev Hp := Addr → Option HO
def upd (H : Hp) (a : Addr) (o : HO) : Hp := fun b => if b = a then some o else H b
theorem upd_same {H : Hp} {a : Addr} {o : HO} : upd H a o a = some o := by unfold upd; rw [if_pos rfl]
theorem upd_ne {H : Hp} {a b : Addr} {o : HO} (h : b ≠ a) : upd H a o b = H b := by unfold upd; rw [if_neg h]
theorem ne_of {H : Hp} {a b : Addr} {o u : HO} (h : H a = some o) (h' : H b = some u) (d : o ≠ u) : a ≠ b := by
  intro e; subst e; rw [h] at h'; exact d (Option.some.inj h')
theorem ne_of_none {H : Hp} {a b : Addr} {o : HO} (h : H a = some o) (h' : H b = none) : a ≠ b := by
  intro e; subst e; rw [h] at h'; cases h'
section
variable (P : Program) (w : World)
def ObjOk (H : Hp) (h : Heap) (a : Addr) : HO → Prop
  | .lst xs => xs.length ≤ sizeLine ∧ ∃ (its : List Value) (n : Nat), Vals xs its ∧ h.get? a = some { cls := .type "list", data := .seq its.toArray n }
  | .tup xs => xs.length ≤ sizeLine ∧ ∃ its : List Value, Vals xs its ∧ IsTup h a its.toArray
  | .dK kvs => kvs.length ≤ sizeLine ∧ (a == sysModules) = false ∧ ∃ vs, KV kvs vs ∧ h.DictOf (mixKind P w) a vs
  | .dT kvs => kvs.length ≤ sizeLine ∧ (a == sysModules) = false ∧ ∃ xs : List (List Key × Addr × Value),
      Paired (fun (p : List Key × V) (q : List Key × Addr × Value) => p.1 = q.1 ∧ H q.2.1 = some (.tup (p.1.map kV)) ∧ RelV p.2 q.2.2) kvs xs ∧
      ∃ o es ep, h.get? a = some o ∧ o.ExactDict ∧ o.data = .dict es ep ∧ es.toList = xs.map (entryOfKey (tupleKind (mixKind P w))) ∧ (xs.map (·.1)).Nodup
  | .set S n => h.SetOf (intKind P w) a S n
  | .ins C dx fs => H dx = some (.own a) ∧ fs.length ≤ 1000 ∧ dx ≠ a ∧ h.get? a = some (PySem.W.instObj C dx) ∧
      ∃ mA, h.Ns1 dx mA ∧ (∀ f, RelO (fs.lookup f) (mA f)) ∧ PySem.Within mA (fs.map (·.1))
  | .own _ => ∃ o, h.get? a = some o
  | .xd fs => ∃ mA, h.Ns1 a mA ∧ ∀ f, RelO (fs.lookup f) (mA f)
  | .rng lo hi => ∃ t u v, h.get? a = some { cls := .type "range", data := .fields #[.int lo t, .int hi u, .int 1 v] }
  | .frz o u => h.get? a = some o ∧ ObjOk H h a u
  | .tbl ps => h.get? a = some { cls := .none, data := .fields ps }
  | .met f x => h.get? a = some (PySem.W.methodObj (.ref f) (.ref x))
  | .ext φ => φ h ∧ (∃ o, h.get? a = some o) ∧ ∀ h1 h2 : Heap, φ h1 → (∀ o, h1.get? a = some o → h2.get? a = some o) → φ h2
def HOk (H : Hp) (h : Heap) : Prop := ∀ a o, H a = some o → ObjOk P w H h a o
end
section
variable {P : Program} {w : World} {H H' : Hp} {h h' : Heap} {a : Addr} {o : HO}
theorem ObjOk.lt (x : ObjOk P w H h a o) : a < h.objs.size := by
  cases o with
  | lst xs => obtain ⟨_, _, _, _, e⟩ := x; exact Heap.lt_size e
  | tup xs => obtain ⟨_, _, _, p⟩ := x; exact p.lt
  | dK kvs => obtain ⟨_, _, _, _, o, _, _, e, _⟩ := x; exact Heap.lt_size e
  | dT kvs => obtain ⟨_, _, _, _, o, _, _, e, _⟩ := x; exact Heap.lt_size e
  | set S n => obtain ⟨o, _, _, _, e, _⟩ := x; exact Heap.lt_size e
  | ins C dx fs => obtain ⟨_, _, _, e, _⟩ := x; exact Heap.lt_size e
  | own y => obtain ⟨_, e⟩ := x; exact Heap.lt_size e
  | xd fs => obtain ⟨_, ⟨_, _, _, e, _⟩, _⟩ := x; exact Heap.lt_size e
  | rng lo hi => obtain ⟨_, _, _, e⟩ := x; exact Heap.lt_size e
  | frz ob u => obtain ⟨e, _⟩ := x; exact Heap.lt_size e
  | tbl ps => exact Heap.lt_size (show h.get? a = some _ from x)
  | met f y => exact Heap.lt_size (show h.get? a = some _ from x)
  | ext φ => obtain ⟨_, ⟨_, e⟩, _⟩ := x; exact Heap.lt_size e
theorem Paired.mapP {α β : Type} {F G : α → β → Prop} : ∀ {l₁ : List α} {l₂ : List β}, Paired F l₁ l₂ → (∀ a b, F a b → G a b) → Paired G l₁ l₂
  | _, _, .nil, _ => .nil
  | _, _, .cons r t, f => .cons (f _ _ r) (Paired.mapP t f)
theorem ObjOk.stay (x : ObjOk P w H h a o) (k : ∀ b u, (b = a ∨ H b = some (.own a)) → h.get? b = some u → h'.get? b = some u)
    (ho : ∀ b, H b = some (.own a) → H' b = some (.own a)) (ht : ∀ b xs, H b = some (.tup xs) → H' b = some (.tup xs)) : ObjOk P w H' h' a o := by
  induction o with
  | lst xs => obtain ⟨z, its, n, r, e⟩ := x; exact ⟨z, its, n, r, k _ _ (.inl rfl) e⟩
  | tup xs => obtain ⟨z, its, r, ob, e, c⟩ := x; exact ⟨z, its, r, ob, k _ _ (.inl rfl) e, c⟩
  | dK kvs => obtain ⟨z, y, vs, r, ob, es, ep, e, c⟩ := x; exact ⟨z, y, vs, r, ob, es, ep, k _ _ (.inl rfl) e, c⟩
  | dT kvs =>
    obtain ⟨z, y, xs, r, ob, es, ep, e, c⟩ := x
    exact ⟨z, y, xs, Paired.mapP r fun p q z => ⟨z.1, ht _ _ z.2.1, z.2.2⟩, ob, es, ep, k _ _ (.inl rfl) e, c⟩
  | set S n => obtain ⟨ob, es, ep, t, e, c⟩ := x; exact ⟨ob, es, ep, t, k _ _ (.inl rfl) e, c⟩
  | ins C dx fs =>
    obtain ⟨d, z, ne, e, mA, ⟨od, es, ep, e2, c⟩, r⟩ := x
    exact ⟨ho _ d, z, ne, k _ _ (.inl rfl) e, mA, ⟨od, es, ep, k _ _ (.inr d) e2, c⟩, r⟩
  | own y => obtain ⟨ob, e⟩ := x; exact ⟨ob, k _ _ (.inl rfl) e⟩
  | xd fs => obtain ⟨mA, ⟨od, es, ep, e, c⟩, r⟩ := x; exact ⟨mA, ⟨od, es, ep, k _ _ (.inl rfl) e, c⟩, r⟩
  | rng lo hi => obtain ⟨t, u, v, e⟩ := x; exact ⟨t, u, v, k _ _ (.inl rfl) e⟩
  | frz ob u ih => obtain ⟨e, q⟩ := x; exact ⟨k _ _ (.inl rfl) e, ih q⟩
  | tbl ps =>
    have e : h.get? a = some { cls := .none, data := .fields ps } := x
    show h'.get? a = some { cls := .none, data := .fields ps }
    exact k a _ (.inl rfl) e
  | met f y =>
    have e : h.get? a = some (PySem.W.methodObj (.ref f) (.ref y)) := x
    show h'.get? a = some (PySem.W.methodObj (.ref f) (.ref y))
    exact k a _ (.inl rfl) e
  | ext φ => obtain ⟨p, ⟨o, e⟩, st⟩ := x; exact ⟨st _ _ p fun o q => k _ _ (.inl rfl) q, ⟨o, k _ _ (.inl rfl) e⟩, st⟩
theorem HOk.lt (x : HOk P w H h) (e : H a = some o) : a < h.objs.size := (x a o e).lt
theorem HOk.fresh (x : HOk P w H h) (e : h.objs.size ≤ a) : H a = none := by
  cases q : H a with
  | none => rfl
  | some u => exact absurd (Nat.lt_of_lt_of_le (x.lt q) e) (Nat.lt_irrefl _)
theorem HOk.kept (x : HOk P w H h) (k : ∀ b u, h.get? b = some u → h'.get? b = some u) : HOk P w H h' := fun a o e =>
  (x a o e).stay (fun b u _ q => k b u q) (fun _ q => q) fun _ _ q => q
theorem HOk.laid (x : HOk P w H h) (k : ∀ b u, h.get? b = some u → h'.get? b = some u) (hp : h.objs.size ≤ a) (new : ObjOk P w (upd H a o) h' a o) : HOk P w (upd H a o) h' := fun b u e => by
  have hn := x.fresh hp
  by_cases hb : b = a
  · subst hb; rw [upd_same] at e; cases e; exact new
  · rw [upd_ne hb] at e
    exact (x b u e).stay (fun c v _ q => k c v q) (fun c q => by rw [upd_ne (ne_of_none q hn)]; exact q) fun c xs q => by rw [upd_ne (ne_of_none q hn)]; exact q
end
def Rd (H : Hp) (a : Addr) (u : HO) : Prop := H a = some u ∨ ∃ o, H a = some (.frz o u)
theorem Rd.ok {P : Program} {w : World} {H : Hp} {h : Heap} {a : Addr} {u : HO} (r : Rd H a u) (x : HOk P w H h) : ObjOk P w H h a u := by
  rcases r with r | ⟨o, r⟩
  · exact x a u r
  · obtain ⟨_, q⟩ := x a _ r
    exact q
def Mut : Option HO → Prop
  | some (.lst _) => True
  | some (.dK _) => True
  | some (.dT _) => True
  | some (.set _ _) => True
  | some (.ins _ _ _) => True
  | some (.ext _) => True
  | _ => False
section
variable {P : Program} {w : World} {H : Hp} {h h' : Heap} {x e : Addr} {o' : HO}
theorem HOk.write (ok : HOk P w H h) (mu : Mut (H x)) (he : e = x ∨ H e = some (.own x)) (k : ∀ b u, b ≠ e → h.get? b = some u → h'.get? b = some u) (heo : ∃ u, h'.get? e = some u)
    (new : ObjOk P w (upd H x o') h' x o') : HOk P w (upd H x o') h' := fun b u q => by
  have nown : ∀ c y, H c = some (.own y) → c ≠ x := fun c y r z => by subst z; rw [r] at mu; exact mu
  have ntup : ∀ c xs, H c = some (.tup xs) → c ≠ x := fun c xs r z => by subst z; rw [r] at mu; exact mu
  by_cases hb : b = x
  · subst hb; rw [upd_same] at q; cases q; exact new
  · rw [upd_ne hb] at q
    by_cases hbe : b = e
    · have q' : H b = some (.own x) := by
        rcases he with z | z
        · exact absurd (hbe.trans z) hb
        · rw [hbe]; exact z
      rw [q] at q'; cases q'
      obtain ⟨v, hv⟩ := heo
      exact ⟨v, by rw [hbe]; exact hv⟩
    · refine (ok b u q).stay (fun c v hc r => k c v ?_ r) (fun c r => by rw [upd_ne (nown c b r)]; exact r) fun c xs r => by rw [upd_ne (ntup c xs r)]; exact r
      rcases hc with rfl | hc
      · exact hbe
      · rintro rfl
        rcases he with z | z
        · exact nown c b hc z
        · rw [hc] at z; cases z; exact hb rfl
end
structure Un (fs ex : List Addr) (H H' : Hp) (h h' : Heap) : Prop where
  keep : ∀ b o, h.get? b = some o → H b = none → b ∉ fs → b ∉ ex → h'.get? b = some o
  slot : ∀ b o, h.get? b = some o → H b = none → b ∈ fs → b ∉ ex → ∃ sl, h'.get? b = some { o with slots := sl }
  free : ∀ b o, h.get? b = some o → H b = none → b ∉ ex → H' b = none
  there : ∀ b o, h.get? b = some o → b ∉ ex → ∃ o', h'.get? b = some o'
  tups : ∀ b xs, H b = some (.tup xs) → H' b = some (.tup xs)
  frzs : ∀ b o u, H b = some (.frz o u) → H' b = some (.frz o u)
  tbls : ∀ b ps, H b = some (.tbl ps) → ∃ more, H' b = some (.tbl (ps ++ more))
section
variable {fs fs' ex ex' : List Addr} {H H1 H2 : Hp} {h h1 h2 h' : Heap} {a x e : Addr} {o : HO}
theorem Un.any (u : Un fs ex H H1 h h1) {b : Addr} {ob : Obj} (q : h.get? b = some ob) (n : H b = none) (hx : b ∉ ex) : ∃ sl, h1.get? b = some { ob with slots := sl } := by
  by_cases hb : b ∈ fs
  · exact u.slot b ob q n hb hx
  · exact ⟨ob.slots, u.keep b ob q n hb hx⟩
theorem Un.kept (k : ∀ b u, h.get? b = some u → h'.get? b = some u) : Un fs ex H H h h' :=
  ⟨fun b ob q _ _ _ => k b ob q, fun b ob q _ _ _ => ⟨ob.slots, k b ob q⟩, fun _ _ _ n _ => n, fun b ob q _ => ⟨ob, k b ob q⟩, fun _ _ q => q, fun _ _ _ q => q, fun _ ps q => ⟨#[], by rw [q]; simp⟩⟩
theorem Un.refl : Un fs ex H H h h := Un.kept fun _ _ q => q
theorem Un.laid (k : ∀ b u, h.get? b = some u → h'.get? b = some u) (hp : h.objs.size ≤ a) (hn : H a = none) : Un fs ex H (upd H a o) h h' where
  keep := fun b u q _ _ _ => k b u q
  slot := fun b u q _ _ _ => ⟨u.slots, k b u q⟩
  free := fun b u q n _ => by rw [upd_ne (Nat.ne_of_lt (Nat.lt_of_lt_of_le (Heap.lt_size q) hp))]; exact n
  there := fun b u q _ => ⟨u, k b u q⟩
  tups := fun b xs q => by rw [upd_ne (ne_of_none q hn)]; exact q
  frzs := fun b u xs q => by rw [upd_ne (ne_of_none q hn)]; exact q
  tbls := fun b ps q => ⟨#[], by rw [upd_ne (ne_of_none q hn), q]; simp⟩
theorem Un.write (mu : Mut (H x)) (he : e = x ∨ H e = some (.own x)) (k : ∀ b u, b ≠ e → h.get? b = some u → h'.get? b = some u) (heo : ∃ u, h'.get? e = some u) : Un fs ex H (upd H x o) h h' := by
  have hx : ∀ b, H b = none → b ≠ x := fun b n z => by subst z; rw [n] at mu; exact mu
  have hb : ∀ b, H b = none → b ≠ e := fun b n z => by
    subst z
    rcases he with r | r
    · exact hx b n r
    · rw [n] at r; cases r
  have hm : ∀ b u, H b = some u → ¬ Mut (some u) → b ≠ x := fun b u q nm z => by subst z; rw [q] at mu; exact nm mu
  refine ⟨fun b u q n _ _ => k b u (hb b n) q, fun b u q n _ _ => ⟨u.slots, k b u (hb b n) q⟩, fun b u q n _ => by rw [upd_ne (hx b n)]; exact n, fun b u q _ => ?_,
    fun b xs q => by rw [upd_ne (hm b _ q fun z => z)]; exact q, fun b u xs q => by rw [upd_ne (hm b _ q fun z => z)]; exact q, fun b ps q => ⟨#[], by rw [upd_ne (hm b _ q fun z => z), q]; simp⟩⟩
  by_cases hbe : b = e
  · subst hbe; exact heo
  · exact ⟨u, k b u hbe q⟩
end
def trk (h : Heap) (H : Hp) : List Addr := (List.range h.objs.size).filter fun a => (H a).isSome
def hidT (h : Heap) (H : Hp) : Heap := PySem.W.hideAll h (trk h H)
theorem hidT_size (h : Heap) (H : Hp) : (hidT h H).objs.size = h.objs.size := PySem.W.hideAll_size _ _
theorem hidT_get {h : Heap} {H : Hp} {b : Addr} {o : Obj} (e : h.get? b = some o) (n : H b = none) : (hidT h H).get? b = some o :=
  PySem.W.hideAll_get _ e fun hm => by
    have q : (H b).isSome = true := (List.mem_filter.mp hm).2
    rw [n] at q; simp at q
theorem of_hidT {h : Heap} {H : Hp} {b : Addr} {o : Obj} (e : (hidT h H).get? b = some o) : h.get? b = some o ∧ H b = none := by
  have e' : h.get? b = some o := PySem.W.of_hideAll (trk h H) e
  refine ⟨e', ?_⟩
  cases q : H b with
  | none => rfl
  | some x =>
    have hm : b ∈ trk h H := List.mem_filter.mpr ⟨List.mem_range.mpr (Heap.lt_size e'), by simp [q]⟩
    have z : (hidT h H).get? b = none := PySem.W.hideAll_none (trk h H) hm
    rw [z] at e; cases e
end L2
namespace L2
open PySem PySem.Spec PyProof.Rows
structure Mod (K : PySem.W.Frag) (mg : Str → Option Value) (base : Heap) : Prop where
  kin : K.In base
  glob : base.Ns mainGlobals mg
  blt : ∃ mb, base.Ns builtinsNs mb ∧ ∀ x : Str, x ≠ "__name__" → mb x = bootBuiltins x
  nolimit : base.NoLimit
structure Cx where
  prog : Program
  w : World
  K : PySem.W.Frag
  mg : Str → Option Value
  base : Heap
  A : Around
  N : List Str
  s_0 : Shared
  H_0 : Hp
  env : Env
  outer : List Env
  stack : List Env
  ex : List Addr
  fn : Str → Bool
  calm : Bool
  pn : List (Addr × Obj)
  xe : Value → Shared → Prop
def frs (l : List Env) : List Addr := l.filterMap (·.frame)
abbrev Cx.fs (X : Cx) : List Addr := frs X.outer
def Vis (sc : Scope) (x : Str) : Prop := sc.names.lookup x = some .local ∨ sc.names.lookup x = some .cell ∨ sc.names.lookup x = some .free
def Loc (sc : Scope) (x : Str) : Prop := sc.names.lookup x = some .local ∨ sc.names.lookup x = some .cell
def Look (env : Env) (h : Heap) (m : Str → Option Value) (x : Str) (u : Value) : Prop :=
  (env.kindOf x = some .local ∧ m x = some u) ∨ ((env.kindOf x = some .cell ∨ env.kindOf x = some .free) ∧ ∃ c, env.cells.lookup x = some c ∧ h.IsCell c (some u))
structure Cx.Ok (X : Cx) : Prop where
  mod : Mod X.K X.mg X.base
  kind : X.env.scope.kind = .function
  glob : X.env.globals = mainGlobals
  blt : X.env.builtins = builtinsNs
  above : X.s_0.heap.objs.size ≤ X.env.locals
  inj : ∀ x y c, X.env.cells.lookup x = some c → X.env.cells.lookup y = some c → x = y
  has : ∀ x, (X.env.kindOf x = some .cell ∨ X.env.kindOf x = some .free) → ∃ c, X.env.cells.lookup x = some c
  cab : ∀ x c, X.fn x = true → X.env.cells.lookup x = some c → X.s_0.heap.objs.size ≤ c
  hd : X.calm = true → X.A.handled = none
  frames : X.A.frames = some X.stack
  stk : X.stack = X.outer ∨ (X.stack = X.env :: X.outer ∧ X.env.frame = some X.env.locals)
  exf : ∀ b ∈ X.ex, b ≠ X.env.locals ∧ ∀ x c, X.env.cells.lookup x = some c → c ≠ b
  bs : ∀ b o, X.base.get? b = some o → X.s_0.heap.get? b = some o ∧ X.H_0 b = none
  bsz : X.base.objs.size ≤ X.s_0.heap.objs.size
  noex : ∀ b o, X.base.get? b = some o → b ∉ X.ex
  exfs : ∀ b ∈ X.ex, b ∉ X.fs
  funs : X.s_0.heap.FunFrames X.base X.outer
  frf : ∀ b ∈ X.fs, X.H_0 b = none
structure Inv (X : Cx) (pins : List (Addr × Obj)) (σ : List (Option V)) (H : Hp) (s : Shared) : Prop where
  ok : X.Ok
  os : s.os = X.s_0.os
  bare : AllBare s.gens
  base : Un X.fs X.ex X.H_0 H X.s_0.heap s.heap
  loc : ∃ m, s.heap.Ns X.env.locals m ∧ ∀ (i : Nat) (x : Str) (v : V), X.N[i]? = some x → σ[i]? = some (some v) → Vis X.env.scope x → ∃ u, RelV v u ∧ Look X.env s.heap m x u
  cell : ∀ x c, X.env.cells.lookup x = some c → ∃ v, s.heap.IsCell c v
  free : H X.env.locals = none
  freeC : ∀ x c, X.env.cells.lookup x = some c → H c = none
  pin : ∀ p ∈ X.pn ++ pins, s.heap.get? p.1 = some p.2 ∧ H p.1 = none ∧ p.1 ≠ X.env.locals ∧ p.1 ∉ X.fs ∧ ∀ v, p.2.data ≠ .cell v
  hok : HOk X.prog X.w H s.heap
  len : σ.length = X.N.length
section
variable {X : Cx} {pins : List (Addr × Obj)} {σ : List (Option V)} {H H' : Hp} {s : Shared} {h' : Heap}
theorem Cx.Ok.nofr (ok : X.Ok) {b : Addr} {o : Obj} (e : X.base.get? b = some o) : b ∉ X.fs := fun hb => by
  have := (ok.funs.mem hb).1
  rw [e] at this; cases this
theorem Inv.bs (I : Inv X pins σ H s) : ∀ b o, X.base.get? b = some o → s.heap.get? b = some o ∧ H b = none := fun b o e =>
  ⟨I.base.keep b o (I.ok.bs b o e).1 (I.ok.bs b o e).2 (I.ok.nofr e) (I.ok.noex b o e), I.base.free b o (I.ok.bs b o e).1 (I.ok.bs b o e).2 (I.ok.noex b o e)⟩
theorem Inv.bk (I : Inv X pins σ H s) : ∀ b o, X.base.get? b = some o → s.heap.get? b = some o := fun b o e => (I.bs b o e).1
theorem Inv.mod (I : Inv X pins σ H s) : Mod X.K X.mg X.base := I.ok.mod
theorem Inv.kIn (I : Inv X pins σ H s) : X.K.In s.heap := I.ok.mod.kin.keeps I.bk
theorem Inv.nolimit (I : Inv X pins σ H s) : s.heap.NoLimit := I.ok.mod.nolimit.keeps I.bk
theorem Inv.fr (I : Inv X pins σ H s) : ∃ m, Fr X.base X.env.locals s.heap m :=
  let ⟨m, hn, _⟩ := I.loc
  ⟨m, hn, I.bk, Nat.le_trans I.ok.bsz I.ok.above⟩
theorem Inv.lt (I : Inv X pins σ H s) : X.env.locals < s.heap.objs.size := let ⟨_, hn, _⟩ := I.loc; hn.lt
theorem Inv.sz (I : Inv X pins σ H s) : X.s_0.heap.objs.size ≤ s.heap.objs.size := Nat.le_trans I.ok.above (Nat.le_of_lt I.lt)
theorem Inv.nofs (I : Inv X pins σ H s) {a : Addr} (h : s.heap.objs.size ≤ a) : a ∉ X.fs := fun hb => by
  obtain ⟨_, o, ho, _⟩ := I.ok.funs.mem hb
  exact absurd (Nat.lt_of_lt_of_le (Heap.lt_size ho) (Nat.le_trans I.sz h)) (Nat.lt_irrefl _)
theorem Inv.cne (I : Inv X pins σ H s) : ∀ x c, X.env.cells.lookup x = some c → c ≠ X.env.locals := fun x c e z => by
  obtain ⟨v, o, ho, hd⟩ := I.cell x c e
  obtain ⟨m, ⟨o', es, ep, ho', hd', _⟩, _⟩ := I.loc
  rw [z, ho'] at ho; cases ho; rw [hd'] at hd; cases hd
theorem Inv.funs (I : Inv X pins σ H s) : s.heap.FunFrames X.base X.outer := by
  have all : ∀ (l : List Env), (∀ b ∈ frs l, b ∈ X.fs) → X.s_0.heap.FunFrames X.base l → s.heap.FunFrames X.base l := by
    intro l
    induction l with
    | nil => intro _ _; trivial
    | cons env r ih =>
      intro hs hl
      obtain ⟨hk, ⟨L, o, hf, hn, ho, hd⟩, hr⟩ := hl
      have hL : L ∈ X.fs := hs L (by unfold frs; rw [List.filterMap_cons, hf]; exact List.mem_cons_self)
      obtain ⟨sl, e⟩ := I.base.slot L o ho (I.ok.frf L hL) hL fun z => I.ok.exfs L z hL
      exact ⟨hk, ⟨L, _, hf, hn, e, hd⟩, ih (fun b hb => hs b (by unfold frs; rw [List.filterMap_cons, hf]; exact List.mem_cons_of_mem _ hb)) hr⟩
  exact all X.outer (fun _ hb => hb) I.ok.funs
theorem Inv.stack (I : Inv X pins σ H s) : s.heap.FunFrames X.base X.stack := by
  rcases I.ok.stk with e | ⟨e, hf⟩
  · rw [e]; exact I.funs
  · rw [e]
    obtain ⟨m, hn, _⟩ := I.loc
    refine .cons (by rw [I.ok.kind]; decide) hf hn ?_ I.funs
    exact Heap.get?_none_of_le (Nat.le_trans I.ok.bsz I.ok.above)
theorem Inv.stkSub (I : Inv X pins σ H s) : ∀ b ∈ frs X.stack, b ∈ X.env.locals :: X.fs := fun b hb => by
  rcases I.ok.stk with e | ⟨e, hf⟩
  · rw [e] at hb; exact List.mem_cons_of_mem _ hb
  · rw [e] at hb
    unfold frs at hb
    rw [List.filterMap_cons, hf] at hb
    exact hb
theorem Inv.stkFree (I : Inv X pins σ H s) : ∀ b ∈ frs X.stack, H b = none := fun b hb => by
  rcases List.mem_cons.mp (I.stkSub b hb) with e | hb
  · rw [e]; exact I.free
  · obtain ⟨_, o, ho, _⟩ := I.ok.funs.mem hb
    exact I.base.free b o ho (I.ok.frf b hb) fun z => I.ok.exfs b z hb
theorem Inv.step {g' : Array GenState} {t' : Nat} {d' : Drawn} {ch : List Addr} (I : Inv X pins σ H s)
    (hch : ∀ b ∈ ch, (b ∈ X.ex ∨ X.s_0.heap.objs.size ≤ b) ∧ b ≠ X.env.locals ∧ (∀ x c, X.env.cells.lookup x = some c → c ≠ b) ∧ ∀ p ∈ X.pn ++ pins, p.1 ≠ b)
    (keep : ∀ b o, b ≠ X.env.locals → b ∉ X.fs → b ∉ ch → s.heap.get? b = some o → H b = none → h'.get? b = some o)
    (slot : ∀ b o, b ≠ X.env.locals → b ∈ X.fs → b ∉ ch → s.heap.get? b = some o → H b = none → ∃ sl, h'.get? b = some { o with slots := sl }) (free : ∀ b o, b ∉ ch → s.heap.get? b = some o → H b = none → H' b = none)
    (there : ∀ b o, b ∉ ch → s.heap.get? b = some o → ∃ o', h'.get? b = some o')
    (tups : ∀ b xs, H b = some (.tup xs) → H' b = some (.tup xs)) (frzs : ∀ b o u, H b = some (.frz o u) → H' b = some (.frz o u)) (tbls : ∀ b ps, H b = some (.tbl ps) → ∃ more, H' b = some (.tbl (ps ++ more)))
    (ns : ∀ m, s.heap.Ns X.env.locals m → h'.Ns X.env.locals m) (hok : HOk X.prog X.w H' h') (hg : AllBare g') :
    Inv X pins σ H' { s with heap := h', gens := g', drawn := d', toks := t' } := by
  have neL : ∀ b o, X.s_0.heap.get? b = some o → b ≠ X.env.locals := fun b o e => Nat.ne_of_lt (Nat.lt_of_lt_of_le (Heap.lt_size e) I.ok.above)
  have neC : ∀ b o, X.s_0.heap.get? b = some o → b ∉ X.ex → b ∉ ch := fun b o e hx hb => by
    rcases (hch b hb).1 with z | z
    · exact hx z
    · exact absurd (Nat.lt_of_lt_of_le (Heap.lt_size e) z) (Nat.lt_irrefl _)
  have cellK : ∀ x c, X.env.cells.lookup x = some c → ∀ v, s.heap.IsCell c v → h'.IsCell c v := fun x c e v ⟨o, ho, hd⟩ => by
    have nch : c ∉ ch := fun z => (hch c z).2.2.1 x c e rfl
    by_cases hc : c ∈ X.fs
    · obtain ⟨sl, q⟩ := slot c o (I.cne x c e) hc nch ho (I.freeC x c e)
      exact ⟨_, q, hd⟩
    · exact ⟨o, keep c o (I.cne x c e) hc nch ho (I.freeC x c e), hd⟩
  refine ⟨I.ok, I.os, hg, ⟨fun b o e n hb hx => ?_, fun b o e n hb hx => ?_, fun b o e n hx => ?_, fun b o e hx => ?_, fun b xs e => tups b xs (I.base.tups b xs e), fun b o xs e => frzs b o xs (I.base.frzs b o xs e), fun b ps e => ?_⟩, ?_, fun x c e => ?_, ?_, fun x c e => ?_, fun p hp => ?_, hok, I.len⟩
  · exact keep b o (neL b o e) hb (neC b o e hx) (I.base.keep b o e n hb hx) (I.base.free b o e n hx)
  · obtain ⟨sl, e1⟩ := I.base.slot b o e n hb hx
    obtain ⟨sl', e2⟩ := slot b _ (neL b o e) hb (neC b o e hx) e1 (I.base.free b o e n hx)
    exact ⟨sl', e2⟩
  · obtain ⟨o', e1⟩ := I.base.there b o e hx
    exact free b o' (neC b o e hx) e1 (I.base.free b o e n hx)
  · obtain ⟨o', e1⟩ := I.base.there b o e hx
    exact there b o' (neC b o e hx) e1
  · obtain ⟨m1, e1⟩ := I.base.tbls b ps e
    obtain ⟨m2, e2⟩ := tbls b _ e1
    exact ⟨m1 ++ m2, by rw [e2, Array.append_assoc]⟩
  · obtain ⟨m, hn, hl⟩ := I.loc
    refine ⟨m, ns m hn, fun i x v e1 e2 e3 => ?_⟩
    obtain ⟨u, r, l⟩ := hl i x v e1 e2 e3
    refine ⟨u, r, ?_⟩
    rcases l with l | ⟨k, c, e, z⟩
    · exact .inl l
    · exact .inr ⟨k, c, e, cellK x c e _ z⟩
  · obtain ⟨v, z⟩ := I.cell x c e
    exact ⟨v, cellK x c e v z⟩
  · obtain ⟨m, ⟨o, _, _, ho, _⟩, _⟩ := I.loc
    exact free _ o (fun z => (hch _ z).2.1 rfl) ho I.free
  · obtain ⟨v, o, ho, hd⟩ := I.cell x c e
    exact free c o (fun z => (hch c z).2.2.1 x c e rfl) ho (I.freeC x c e)
  · obtain ⟨e, n, ne, nf, d⟩ := I.pin p hp
    have nch : p.1 ∉ ch := fun z => (hch p.1 z).2.2.2 p hp rfl
    exact ⟨keep p.1 p.2 ne nf nch e n, free p.1 p.2 nch e n, ne, nf, d⟩
theorem Inv.un {t' : Nat} (I : Inv X pins σ H s) (u : Un X.fs [] H H' s.heap h') (hok : HOk X.prog X.w H' h') : Inv X pins σ H' { s with heap := h', toks := t' } := by
  obtain ⟨m, ⟨o, es, ep, ho, r⟩, _⟩ := id I.loc
  obtain ⟨sl, hL⟩ := u.any ho I.free (by simp)
  exact I.step (g' := s.gens) (d' := s.drawn) (ch := []) (fun _ z => nomatch z) (fun b o _ hb _ e n => u.keep b o e n hb (by simp)) (fun b o _ hb _ e n => u.slot b o e n hb (by simp)) (fun b o _ e n => u.free b o e n (by simp)) (fun b o _ e => u.there b o e (by simp)) u.tups u.frzs u.tbls (fun m' hm => by
    obtain ⟨o', es', ep', ho', r'⟩ := hm
    rw [ho] at ho'; cases ho'
    exact ⟨_, es', ep', hL, r'⟩) hok I.bare
theorem Inv.call {g' : Array GenState} {t' : Nat} {d' : Drawn} {ch : List Addr} (I : Inv X pins σ H s) (u : Un (frs X.stack) ch H H' s.heap h') (hok : HOk X.prog X.w H' h') (hg : AllBare g')
    (hch : ∀ b ∈ ch, (b ∈ X.ex ∨ X.s_0.heap.objs.size ≤ b) ∧ b ≠ X.env.locals ∧ (∀ x c, X.env.cells.lookup x = some c → c ≠ b) ∧ ∀ p ∈ X.pn ++ pins, p.1 ≠ b) :
    Inv X pins σ H' { s with heap := h', gens := g', drawn := d', toks := t' } := by
  obtain ⟨m, ⟨o, es, ep, ho, r⟩, _⟩ := id I.loc
  obtain ⟨sl, hL⟩ := u.any ho I.free fun z => (hch _ z).2.1 rfl
  exact I.step (ch := ch) hch (fun b o hL hb hc e n => u.keep b o e n (fun z => (List.mem_cons.mp (I.stkSub b z)).elim hL hb) hc) (fun b o _ _ hc e n => u.any e n hc) (fun b o hc e n => u.free b o e n hc) (fun b o hc e => u.there b o e hc) u.tups u.frzs u.tbls (fun m' hm => by
    obtain ⟨o', es', ep', ho', r'⟩ := hm
    rw [ho] at ho'; cases ho'
    exact ⟨_, es', ep', hL, r'⟩) hok hg
theorem Inv.turned {t' : Nat} {it : Addr} (I : Inv X pins σ H s) (k : ∀ b o, b ≠ it → s.heap.get? b = some o → h'.get? b = some o) (hn : H it = none) (hL : it ≠ X.env.locals)
    (h1 : it ∈ X.ex ∨ X.s_0.heap.objs.size ≤ it) (h2 : ∀ x c, X.env.cells.lookup x = some c → c ≠ it) (h3 : ∀ p ∈ X.pn ++ pins, p.1 ≠ it) : Inv X pins σ H { s with heap := h', toks := t' } := by
  have nit : ∀ b u, H b = some u → b ≠ it := fun b u e z => by rw [z, hn] at e; cases e
  refine I.step (g' := s.gens) (d' := s.drawn) (ch := [it]) (fun b hb => ?_) (fun b o _ _ hc e _ => k b o (fun z => hc (by simp [z])) e) (fun b o _ _ hc e _ => ⟨o.slots, k b o (fun z => hc (by simp [z])) e⟩) (fun _ _ _ _ n => n)
    (fun b o hc e => ⟨o, k b o (fun z => hc (by simp [z])) e⟩) (fun _ _ e => e) (fun _ _ _ e => e) (fun b ps e => ⟨#[], by rw [e]; simp⟩) (fun m hm => ?_) (fun b u e => ?_) I.bare
  · have e : b = it := by simpa using hb
    subst e
    exact ⟨h1, hL, h2, h3⟩
  · obtain ⟨o, es, ep, ho, r⟩ := hm
    exact ⟨o, es, ep, k _ o (Ne.symm hL) ho, r⟩
  · refine (I.hok b u e).stay (fun c v hc q => k c v ?_ q) (fun _ q => q) fun _ _ q => q
    rcases hc with z | z
    · rw [z]; exact nit b u e
    · exact nit c _ z
theorem Inv.tok (I : Inv X pins σ H s) (t : Nat) : Inv X pins σ H { s with toks := t } := I.un (h' := s.heap) (t' := t) Un.refl I.hok
theorem Inv.kept {t' : Nat} (I : Inv X pins σ H s) (k : ∀ b u, s.heap.get? b = some u → h'.get? b = some u) : Inv X pins σ H { s with heap := h', toks := t' } := I.un (Un.kept k) (I.hok.kept k)
theorem Inv.laid {a : Addr} {o : HO} {t' : Nat} (I : Inv X pins σ H s) (k : ∀ b u, s.heap.get? b = some u → h'.get? b = some u) (hp : s.heap.objs.size ≤ a) (new : ObjOk X.prog X.w (upd H a o) h' a o) :
    Inv X pins σ (upd H a o) { s with heap := h', toks := t' } := I.un (Un.laid k hp (I.hok.fresh hp)) (I.hok.laid k hp new)
theorem Inv.write {x e : Addr} {o : HO} {t' : Nat} (I : Inv X pins σ H s) (mu : Mut (H x)) (he : e = x ∨ H e = some (.own x)) (k : ∀ b u, b ≠ e → s.heap.get? b = some u → h'.get? b = some u) (heo : ∃ u, h'.get? e = some u)
    (new : ObjOk X.prog X.w (upd H x o) h' x o) : Inv X pins σ (upd H x o) { s with heap := h', toks := t' } := I.un (Un.write mu he k heo) (I.hok.write mu he k heo new)
theorem Inv.weak {σ' : List (Option V)} (I : Inv X pins σ H s) (hl : σ'.length = σ.length) (w : ∀ (i : Nat) v, σ'[i]? = some (some v) → σ[i]? = some (some v)) : Inv X pins σ' H s :=
  ⟨I.ok, I.os, I.bare, I.base, let ⟨m, hn, hl'⟩ := I.loc; ⟨m, hn, fun i x v e1 e2 e3 => hl' i x v e1 (w i v e2) e3⟩, I.cell, I.free, I.freeC, I.pin, I.hok, hl.trans I.len⟩
theorem Inv.pins_of {pins' : List (Addr × Obj)} (I : Inv X pins σ H s) (h : ∀ p ∈ pins', s.heap.get? p.1 = some p.2 ∧ H p.1 = none ∧ p.1 ≠ X.env.locals ∧ p.1 ∉ X.fs ∧ ∀ v, p.2.data ≠ .cell v) : Inv X pins' σ H s :=
  ⟨I.ok, I.os, I.bare, I.base, I.loc, I.cell, I.free, I.freeC, fun p hp => (List.mem_append.mp hp).elim (fun z => I.pin p (List.mem_append_left _ z)) (h p), I.hok, I.len⟩
theorem nodup_ix {N : List Str} (hN : N.Nodup) {i j : Nat} {x : Str} (a : N[i]? = some x) (b : N[j]? = some x) : i = j := by
  obtain ⟨h1, e1⟩ := List.getElem?_eq_some_iff.mp a
  obtain ⟨h2, e2⟩ := List.getElem?_eq_some_iff.mp b
  exact (List.getElem_inj hN).mp (e1.trans e2.symm)
theorem store_ok2 {M : Model} {A : Around} {E : Value → Shared → Prop} {i : Nat} {x : Str} {v : V} {u : Value} {Q : Unit → Shared → Prop} (I : Inv X pins σ H s) (hN : X.N.Nodup) (hi : X.N[i]? = some x) (hx : Loc X.env.scope x) (r : RelV v u)
    (h : ∀ s', Inv X pins (σ.set i (some v)) H s' → (∃ a, Heap.SameBut a s.heap s'.heap ∧ (a = X.env.locals ∨ X.env.cells.lookup x = some a)) → Q () s') (hf : X.fn x = true ∨ X.env.scope.names.lookup x = some .local := by first | exact .inl rfl | exact .inr rfl | assumption) : wpAny M A (storeName X.env x u) Q E s := by
  obtain ⟨m, hn, hl⟩ := id I.loc
  have hcls : (X.env.scope.kind == .class || (X.env.scope.kind == .module && X.env.locals != X.env.globals)) = false := by rw [I.ok.kind]; rfl
  have hiσ : i < σ.length := by rw [I.len]; exact (List.getElem?_eq_some_iff.mp hi).1
  have cne := I.cne
  have tracked : ∀ {a : Addr} {h' : Heap}, (∃ o, s.heap.get? a = some o ∧ H a = none) → Heap.SameBut a s.heap h' → HOk X.prog X.w H h' := fun {a h'} ha hs b ob e => by
    obtain ⟨_, _, hfree⟩ := ha
    refine (I.hok b ob e).stay (fun c w' hc q => (hs.2 c ?_).trans q) (fun _ q => q) fun _ _ q => q
    rintro rfl
    rcases hc with rfl | hc
    · rw [hfree] at e; cases e
    · rw [hfree] at hc; cases hc
  rcases hx with hk | hk
  · refine wpAny_storeName_local hk hn (fun h' hn' hs => ?_) hcls
    obtain ⟨oL, _, _, hoL, _⟩ := id hn
    refine h _ ⟨I.ok, I.os, I.bare, ⟨fun b o e n hb hx => ?_, fun b o e n hb hx => ?_, I.base.free, fun b o e hx => ?_, I.base.tups, I.base.frzs, I.base.tbls⟩, ⟨_, hn', fun j y v' e1 e2 e3 => ?_⟩, fun y c e => ?_, I.free, I.freeC, fun p hp => ?_, tracked ⟨oL, hoL, I.free⟩ hs, by simpa using I.len⟩ ⟨_, hs, .inl rfl⟩
    · exact (hs.2 b (Nat.ne_of_lt (Nat.lt_of_lt_of_le (Heap.lt_size e) I.ok.above))).trans (I.base.keep b o e n hb hx)
    · obtain ⟨sl, e1⟩ := I.base.slot b o e n hb hx
      exact ⟨sl, (hs.2 b (Nat.ne_of_lt (Nat.lt_of_lt_of_le (Heap.lt_size e) I.ok.above))).trans e1⟩
    · obtain ⟨o', e1⟩ := I.base.there b o e hx
      exact ⟨o', (hs.2 b (Nat.ne_of_lt (Nat.lt_of_lt_of_le (Heap.lt_size e) I.ok.above))).trans e1⟩
    · by_cases hj : j = i
      · subst hj
        rw [hi] at e1; cases e1
        rw [List.getElem?_set_self hiσ] at e2
        cases e2
        exact ⟨u, r, .inl ⟨hk, by simp⟩⟩
      · rw [List.getElem?_set_ne (Ne.symm hj)] at e2
        obtain ⟨u', r', q⟩ := hl j y v' e1 e2 e3
        refine ⟨u', r', ?_⟩
        rcases q with ⟨k, e⟩ | ⟨k, c, e, z⟩
        · refine .inl ⟨k, ?_⟩
          have : y ≠ x := fun e => hj (nodup_ix hN e1 (e ▸ hi))
          simp [this, e]
        · exact .inr ⟨k, c, e, z.sameBut hs (cne y c e)⟩
    · obtain ⟨w', z⟩ := I.cell y c e
      exact ⟨w', z.sameBut hs (cne y c e)⟩
    · obtain ⟨e, n, ne, nf, d⟩ := I.pin p hp
      exact ⟨(hs.2 p.1 ne).trans e, n, ne, nf, d⟩
  · have hfn : X.fn x = true := by
      rcases hf with z | z
      · exact z
      · rw [z] at hk; cases hk
    obtain ⟨c, hc⟩ := I.ok.has x (.inl hk)
    obtain ⟨w', z⟩ := I.cell x c hc
    refine wpAny_storeName_cell I.ok.kind hk hc z (fun h' hc' hs => ?_)
    obtain ⟨oc, hoc, hocd⟩ := id z
    refine h { s with heap := h' } ⟨I.ok, I.os, I.bare, ⟨fun b o e n hb hx => ?_, fun b o e n hb hx => ?_, I.base.free, fun b o e hx => ?_, I.base.tups, I.base.frzs, I.base.tbls⟩, ⟨m, hn.sameBut hs (Ne.symm (cne x c hc)), fun j y v' e1 e2 e3 => ?_⟩, fun y c' e => ?_, I.free, I.freeC, fun p hp => ?_, tracked ⟨oc, hoc, I.freeC x c hc⟩ hs, by simpa using I.len⟩ ⟨c, hs, .inr hc⟩
    · exact (hs.2 b (Nat.ne_of_lt (Nat.lt_of_lt_of_le (Heap.lt_size e) (I.ok.cab x c hfn hc)))).trans (I.base.keep b o e n hb hx)
    · obtain ⟨sl, e1⟩ := I.base.slot b o e n hb hx
      exact ⟨sl, (hs.2 b (Nat.ne_of_lt (Nat.lt_of_lt_of_le (Heap.lt_size e) (I.ok.cab x c hfn hc)))).trans e1⟩
    · obtain ⟨o', e1⟩ := I.base.there b o e hx
      exact ⟨o', (hs.2 b (Nat.ne_of_lt (Nat.lt_of_lt_of_le (Heap.lt_size e) (I.ok.cab x c hfn hc)))).trans e1⟩
    · by_cases hj : j = i
      · subst hj
        rw [hi] at e1; cases e1
        rw [List.getElem?_set_self hiσ] at e2
        cases e2
        exact ⟨u, r, .inr ⟨.inl hk, c, hc, hc'⟩⟩
      · rw [List.getElem?_set_ne (Ne.symm hj)] at e2
        obtain ⟨u', r', q⟩ := hl j y v' e1 e2 e3
        refine ⟨u', r', ?_⟩
        rcases q with q | ⟨k, c', e, z'⟩
        · exact .inl q
        · refine .inr ⟨k, c', e, z'.sameBut hs ?_⟩
          rintro rfl
          exact hj (nodup_ix hN e1 (I.ok.inj _ _ _ e hc ▸ hi))
    · by_cases hcc : c' = c
      · subst hcc; exact ⟨_, hc'⟩
      · obtain ⟨w2, z2⟩ := I.cell y c' e
        exact ⟨w2, z2.sameBut hs hcc⟩
    · obtain ⟨e, n, ne, nf, d⟩ := I.pin p hp
      refine ⟨(hs.2 p.1 ?_).trans e, n, ne, nf, d⟩
      intro q
      rw [q, hoc] at e
      have q' : oc = p.2 := Option.some.inj e
      exact d w' (by rw [← q']; exact hocd)
theorem store_ok {M : Model} {A : Around} {E : Value → Shared → Prop} {i : Nat} {x : Str} {v : V} {u : Value} {Q : Unit → Shared → Prop} (I : Inv X pins σ H s) (hN : X.N.Nodup) (hi : X.N[i]? = some x) (hx : Loc X.env.scope x) (r : RelV v u)
    (h : ∀ s', Inv X pins (σ.set i (some v)) H s' → Q () s') (hf : X.fn x = true ∨ X.env.scope.names.lookup x = some .local := by first | exact .inl rfl | exact .inr rfl | assumption) : wpAny M A (storeName X.env x u) Q E s :=
  store_ok2 I hN hi hx r (fun s' I' _ => h s' I') hf
theorem Inv.call' {s' : Shared} {ch : List Addr} (I : Inv X pins σ H s) (ho : s'.os = s.os) (u : Un (frs X.stack) ch H H' s.heap s'.heap) (hok : HOk X.prog X.w H' s'.heap) (hg : AllBare s'.gens)
    (hch : ∀ b ∈ ch, (b ∈ X.ex ∨ X.s_0.heap.objs.size ≤ b) ∧ b ≠ X.env.locals ∧ (∀ x c, X.env.cells.lookup x = some c → c ≠ b) ∧ ∀ p ∈ X.pn ++ pins, p.1 ≠ b) : Inv X pins σ H' s' := by
  obtain ⟨h', g', d', t', o'⟩ := s'
  have e : o' = s.os := ho
  subst e
  exact I.call (g' := g') (t' := t') (d' := d') u hok hg hch
end
abbrev XK := Value → Option Addr → Hp → Prop
abbrev St := List (Option V)
abbrev VK := V → Hp → Prop
abbrev TE := St → Hp → VK → Prop
abbrev TT := St → Hp → (Bool → Hp → Prop) → Prop
abbrev TA := St → Hp → (List V → Hp → Prop) → Prop
structure Ends where
  nx : St → Hp → Prop
  rt : VK
  bk : St → Hp → Prop := fun _ _ => False
  ct : St → Hp → Prop := fun _ _ => False
abbrev TS := Ends → St → Hp → Prop
def EP (X : Cx) (pins : List (Addr × Obj)) (σ : St) (Q : VK) (u : Value) (s' : Shared) : Prop := ∃ v H', Inv X pins σ H' s' ∧ RelV v u ∧ Q v H'
def TP (X : Cx) (pins : List (Addr × Obj)) (σ : St) (Q : Bool → Hp → Prop) (b : Bool) (s' : Shared) : Prop := ∃ H', Inv X pins σ H' s' ∧ Q b H'
def AP (X : Cx) (pins : List (Addr × Obj)) (σ : St) (Q : List V → Hp → Prop) (us : List Value) (s' : Shared) : Prop := ∃ vs H', Inv X pins σ H' s' ∧ Vals vs us ∧ Q vs H'
def SP (X : Cx) (pins : List (Addr × Obj)) (D : Ends) (f : Flow) (s' : Shared) : Prop :=
  match f with
  | .next => ∃ σ' H', Inv X pins σ' H' s' ∧ D.nx σ' H'
  | .brk => ∃ σ' H', Inv X pins σ' H' s' ∧ D.bk σ' H'
  | .cont => ∃ σ' H', Inv X pins σ' H' s' ∧ D.ct σ' H'
  | .ret u => ∃ v σ' H', Inv X pins σ' H' s' ∧ RelV v u ∧ D.rt v H'
def PE (X : Cx) (e : Expr) (t : TE) : Prop :=
  ∀ (pins : List (Addr × Obj)) (s : Shared) (σ : St) (H : Hp) (Q : VK), Inv X pins σ H s → t σ H Q → wpAny (model X.prog X.w) X.A (eval e X.env) (EP X pins σ Q) X.xe s
def PT (X : Cx) (e : Expr) (t : TT) : Prop :=
  ∀ (pins : List (Addr × Obj)) (s : Shared) (σ : St) (H : Hp) (Q : Bool → Hp → Prop), Inv X pins σ H s → t σ H Q → wpAny (model X.prog X.w) X.A (isTrue e X.env (eval e X.env)) (TP X pins σ Q) X.xe s
def PW (X : Cx) (e : Expr) (t : TT) : Prop :=
  ∀ (whole : Sem Value) (pins : List (Addr × Obj)) (s : Shared) (σ : St) (H : Hp) (Q : Bool → Hp → Prop), Inv X pins σ H s → t σ H Q → wpAny (model X.prog X.w) X.A (isTrue e X.env whole) (TP X pins σ Q) X.xe s
theorem PW.pt {X : Cx} {e : Expr} {t : TT} (h : PW X e t) : PT X e t := h _
def PA (X : Cx) (es : List Expr) (t : TA) : Prop :=
  ∀ (pos : Pos) (pins : List (Addr × Obj)) (s : Shared) (σ : St) (H : Hp) (Q : List V → Hp → Prop), Inv X pins σ H s → t σ H Q → wpAny (model X.prog X.w) X.A (spliced (backTo pos (starEach es X.env))) (AP X pins σ Q) X.xe s
def PS (X : Cx) (st : Stmt) (t : TS) : Prop :=
  ∀ (pins : List (Addr × Obj)) (s : Shared) (σ : St) (H : Hp) (D : Ends), Inv X pins σ H s → t D σ H → wpAny (model X.prog X.w) X.A (exec st X.env) (SP X pins D) X.xe s
def PSs (X : Cx) (st : List Stmt) (t : TS) : Prop :=
  ∀ (pins : List (Addr × Obj)) (s : Shared) (σ : St) (H : Hp) (D : Ends), Inv X pins σ H s → t D σ H → wpAny (model X.prog X.w) X.A (execs st X.env) (SP X pins D) X.xe s
theorem thn {α : Type} {t : Sem α} {Q Q' : α → Shared → Prop} {M : Model} {A : Around} {E : Value → Shared → Prop} {s : Shared} (h : wpAny M A t Q E s) (hQ : ∀ a s, Q a s → Q' a s) : wpAny M A t Q' E s := wpAny_mono h hQ fun _ _ x => x
end L2
namespace L2
open PySem PySem.Spec PyProof.Rows
section
variable {X : Cx}
theorem bin {a b : Expr} {ta tb : TE} (ha : PE X a ta) (hb : PE X b tb) {pins : List (Addr × Obj)} {s : Shared} {σ : St} {H : Hp} {R : V → V → Hp → Prop} (I : Inv X pins σ H s) (h : ta σ H fun x H1 => tb σ H1 fun y H2 => R x y H2)
    {α : Type} {Q : α → Shared → Prop} {f : Value → Value → Sem α}
    (hf : ∀ v u s2 x y H2, Inv X pins σ H2 s2 → RelV x v → RelV y u → R x y H2 → wpAny (model X.prog X.w) X.A (f v u) Q X.xe s2) :
    wpAny (model X.prog X.w) X.A (eval a X.env) (fun v s₁ => wpAny (model X.prog X.w) X.A (eval b X.env) (fun u s₂ => wpAny (model X.prog X.w) X.A (f v u) Q X.xe s₂) X.xe s₁) X.xe s := by
  refine thn (ha pins s σ H _ I h) fun v s1 ⟨x, H1, I1, r1, q1⟩ => ?_
  refine thn (hb pins s1 σ H1 _ I1 q1) fun u s2 ⟨y, H2, I2, r2, q2⟩ => ?_
  exact hf v u s2 x y H2 I2 r1 r2 q2
def tVar (i : Nat) : TE := fun σ H Q => ∃ v, σ[i]? = some (some v) ∧ Q v H
def tC (v : V) : TE := fun _ H Q => Q v H
theorem pe_var {i : Nat} {x : Str} {pos : Pos} (hN : X.N[i]? = some x) (hv : Vis X.env.scope x) (hd : (x == ("__debug__" : Str)) = false := by decide) (hcd : (x == ("__classdict__" : Str)) = false := by decide) : PE X (.Name x pos) (tVar i) := by
  intro pins s σ H Q I h
  obtain ⟨v, e, h⟩ := h
  obtain ⟨m, hn, hl⟩ := I.loc
  obtain ⟨u, r, l⟩ := hl i x v hN e hv
  have fin : EP X pins σ Q u s := ⟨v, H, I, r, h⟩
  rcases l with ⟨hk, hm⟩ | ⟨hk, c, hc, hcell⟩
  · exact wpAny_Name (wpAny_loadName_local I.ok.kind hk hn hm fin) hd
  · rcases hk with hk | hk
    · exact wpAny_Name (wpAny_loadName_cell I.ok.kind hk hc hcell fin) hd
    · exact wpAny_Name (wpAny_loadName_free I.ok.kind hk hc hcell fin hcd) hd
theorem pe_int {i j pos} : PE X (.Constant (.int i) j pos) (tC (.int i)) := fun _ _ _ H _ I h => wpAny_Constant_int ⟨.int i, H, I.tok _, ⟨_, rfl⟩, h⟩
theorem pe_bl {b j pos} : PE X (.Constant (.bool b) j pos) (tC (.bl b)) := fun _ _ _ H _ I h => Constant_bool ⟨.bl b, H, I, rfl, h⟩
def Gl (X : Cx) (x : Str) : Prop := X.env.kindOf x = some .globalImplicit
theorem ld_glob {E : Value → Shared → Prop} {pins : List (Addr × Obj)} {s : Shared} {σ : St} {H : Hp} {x : Str} {u : Value} {pos : Pos} {Q : Value → Shared → Prop} (I : Inv X pins σ H s) (hg : Gl X x) (hm : X.mg x = some u) (h : Q u s)
    (hd : (x == ("__debug__" : Str)) = false := by decide) : wpAny (model X.prog X.w) X.A (eval (.Name x pos) X.env) Q E s :=
  Calls.Name_function_global I.ok.kind hg (Calls.loadGlobal_global (by rw [I.ok.glob]; exact I.mod.glob.keeps I.bk) hm h) hd
theorem ld_blt {E : Value → Shared → Prop} {pins : List (Addr × Obj)} {s : Shared} {σ : St} {H : Hp} {x : Str} {u : Value} {pos : Pos} {Q : Value → Shared → Prop} (I : Inv X pins σ H s) (hg : Gl X x) (hm : X.mg x = none) (hv : bootBuiltins x = some u) (h : Q u s)
    (hn : x ≠ "__name__" := by decide) (hd : (x == ("__debug__" : Str)) = false := by decide) : wpAny (model X.prog X.w) X.A (eval (.Name x pos) X.env) Q E s := by
  obtain ⟨mb, h1, h2⟩ := I.mod.blt
  exact Calls.Name_function_global I.ok.kind hg (Calls.loadGlobal_builtin (by rw [I.ok.glob]; exact I.mod.glob.keeps I.bk) hm (by rw [I.ok.blt]; exact h1.keeps I.bk) ((h2 x hn).trans hv) h) hd
theorem pe_glob {x : Str} {v : V} {u : Value} {pos : Pos} (hg : Gl X x) (hm : X.mg x = some u) (r : RelV v u) (hd : (x == ("__debug__" : Str)) = false := by decide) : PE X (.Name x pos) (tC v) :=
  fun _ _ _ H _ I h => ld_glob I hg hm ⟨v, H, I, r, h⟩ hd
variable {a b : Expr} {ta tb : TE} {pos : Pos}
def PC (X : Cx) (op : CmpOp) (a b : Expr) (t : TE) : Prop :=
  ∀ (pins : List (Addr × Obj)) (s : Shared) (σ : St) (H : Hp) (Q : VK), Inv X pins σ H s → t σ H Q →
    wpAny (model X.prog X.w) X.A (eval a X.env) (fun v s₁ => wpAny (model X.prog X.w) X.A (eval b X.env) (fun u s₂ => wpAny (model X.prog X.w) X.A (compareOp op v u) (EP X pins σ Q) X.xe s₂) X.xe s₁) X.xe s
def tB (t : TE) : TT := fun σ H Q => t σ H fun x H1 => ∃ c, x = .bl c ∧ Q c H1
theorem pe_cmp {op : CmpOp} {t : TE} (h : PC X op a b t) (h1 : behindInMarks op b = false := by first | exact nobehind _ (by decide) (by decide) | rfl) : PE X (.Compare a [op] [b] pos) t := fun pins s σ H Q I hw => wpAny_Compare1 (h pins s σ H Q I hw) h1
theorem pt_cmp {op : CmpOp} {t : TE} (h : PC X op a b t) (h1 : behindInMarks op b = false := by first | exact nobehind _ (by decide) (by decide) | rfl) : PT X (.Compare a [op] [b] pos) (tB t) := by
  intro pins s σ H Q I hw
  refine wpAny_isTrue_Compare1 (thn (h pins s σ H _ I hw) fun v s1 h1 => thn h1 fun u s2 h2 => thn h2 fun c s3 ⟨x, H1, I1, r1, q1⟩ => ?_) h1
  obtain ⟨d, rfl, q⟩ := q1
  cases r1
  exact wpAny_truthy_bool ⟨H1, I1, q⟩
theorem pt_val {e : Expr} {t : TE} (h : PE X e t) (he : ∀ whole, isTrue e X.env whole = (do let v ← whole; standAt e.pos; holding [v] (truthy v)) := by intro _; rfl) : PT X e (tB t) := by
  intro pins s σ H Q I hw
  refine isTrue_plain (thn (h pins s σ H _ I hw) fun v s1 ⟨x, H1, I1, r1, q1⟩ => ?_) (he _)
  obtain ⟨d, rfl, q⟩ := q1
  cases r1
  exact wpAny_truthy_bool ⟨H1, I1, q⟩
variable {tA tB' : TT} {rest : List Expr}
def tAnd (t u : TT) : TT := fun σ H Q => t σ H fun c H1 => if c = true then u σ H1 Q else Q false H1
def tOr (t u : TT) : TT := fun σ H Q => t σ H fun c H1 => if c = true then Q true H1 else u σ H1 Q
def tNot (t : TT) : TT := fun σ H Q => t σ H fun c H1 => Q (!c) H1
theorem pw_and1 (ha : PT X a tA) : PW X (.BoolOp .And [a] pos) tA := by
  intro wh pins s σ H Q I h
  refine isTrue_and (thn (ha pins s σ H Q I h) fun c s1 e => ?_)
  cases c with
  | true => exact isTrue_and_nil e
  | false => exact e
theorem pw_or1 (ha : PT X a tA) : PW X (.BoolOp .Or [a] pos) tA := by
  intro wh pins s σ H Q I h
  refine isTrue_or (thn (ha pins s σ H Q I h) fun c s1 e => ?_)
  cases c with
  | false => exact isTrue_or_nil e
  | true => exact e
theorem pw_and (ha : PT X a tA) (hb : PW X (.BoolOp .And (b :: rest) pos) tB') : PW X (.BoolOp .And (a :: b :: rest) pos) (tAnd tA tB') := by
  intro wh pins s σ H Q I h
  refine isTrue_and (thn (ha pins s σ H _ I h) fun c s1 ⟨H1, I1, q1⟩ => ?_)
  cases c with
  | true => exact hb wh pins s1 σ H1 Q I1 q1
  | false => exact ⟨H1, I1, q1⟩
theorem pw_or (ha : PT X a tA) (hb : PW X (.BoolOp .Or (b :: rest) pos) tB') : PW X (.BoolOp .Or (a :: b :: rest) pos) (tOr tA tB') := by
  intro wh pins s σ H Q I h
  refine isTrue_or (thn (ha pins s σ H _ I h) fun c s1 ⟨H1, I1, q1⟩ => ?_)
  cases c with
  | true => exact ⟨H1, I1, q1⟩
  | false => exact hb wh pins s1 σ H1 Q I1 q1
theorem pt_not (ha : PT X a tA) : PT X (.UnaryOp .Not a pos) (tNot tA) := by
  intro pins s σ H Q I h
  exact isTrue_not (ha pins s σ H (fun c H1 => Q (!c) H1) I h)
def tAndV (ta tb : TE) : TE := fun σ H Q => ta σ H fun x H1 => ∃ c, x = .bl c ∧ if c = true then tb σ H1 Q else Q (.bl false) H1
def tOrV (ta tb : TE) : TE := fun σ H Q => ta σ H fun x H1 => ∃ c, x = .bl c ∧ if c = true then Q (.bl true) H1 else tb σ H1 Q
theorem pe_one {op} {t : TE} (h : PE X a t) : PE X (.BoolOp op [a] pos) t := fun pins s σ H Q I hw => BoolOp_one (h pins s σ H Q I hw)
theorem pe_and (ha : PE X a ta) (hb : PE X (.BoolOp .And (b :: rest) pos) tb) : PE X (.BoolOp .And (a :: b :: rest) pos) (tAndV ta tb) := by
  intro pins s σ H Q I h
  refine BoolOp_and (thn (ha pins s σ H _ I h) fun v s1 ⟨x, H1, I1, r1, q1⟩ => ?_)
  obtain ⟨c, rfl, q1⟩ := q1
  cases r1
  refine wpAny_truthy_bool ?_
  cases c with
  | true => exact hb pins s1 σ H1 Q I1 q1
  | false => exact ⟨.bl false, H1, I1, rfl, q1⟩
theorem pe_or (ha : PE X a ta) (hb : PE X (.BoolOp .Or (b :: rest) pos) tb) : PE X (.BoolOp .Or (a :: b :: rest) pos) (tOrV ta tb) := by
  intro pins s σ H Q I h
  refine BoolOp_or (thn (ha pins s σ H _ I h) fun v s1 ⟨x, H1, I1, r1, q1⟩ => ?_)
  obtain ⟨c, rfl, q1⟩ := q1
  cases r1
  refine wpAny_truthy_bool ?_
  cases c with
  | false => exact hb pins s1 σ H1 Q I1 q1
  | true => exact ⟨.bl true, H1, I1, rfl, q1⟩
end
end L2
namespace L2
open PySem PySem.Spec PyProof.Rows
def SqL (K : PySem.W.Frag) (H : Hp) (a : Addr) (xs : List V) : Prop :=
  Rd H a (.lst xs) ∨
    ∃ (o : Obj) (its : Array Value) (n : Nat), K.lookup a = some o ∧ o.cls = .type "list" ∧ o.dict = none ∧ o.data = .seq its n ∧ its.size ≤ sizeLine ∧ Vals xs its.toList
def SqT (K : PySem.W.Frag) (H : Hp) (a : Addr) (xs : List V) : Prop :=
  Rd H a (.tup xs) ∨
    ∃ (o : Obj) (its : Array Value) (n : Nat), K.lookup a = some o ∧ o.cls = .type "tuple" ∧ o.data = .seq its n ∧ its.size ≤ sizeLine ∧ Vals xs its.toList
def absV : Value → Option V
  | .none => some .non
  | .bool b => some (.bl b)
  | .int i _ => some (.int i)
  | .str x _ => some (.str x)
  | .bytes b _ => some (.byt b)
  | .float b _ => some (.flt b)
  | .ref a => some (.ref a)
  | .type n => some (.ty n)
  | _ => none
theorem RelV.abs {x : V} {u : Value} (r : RelV x u) : absV u = some x := by
  cases x with
  | non => cases r; rfl
  | bl _ => cases r; rfl
  | int _ => obtain ⟨t, rfl⟩ := r; rfl
  | str _ => obtain ⟨t, rfl⟩ := r; rfl
  | byt _ => obtain ⟨t, rfl⟩ := r; rfl
  | flt _ => obtain ⟨t, rfl⟩ := r; rfl
  | ref _ => cases r; rfl
  | ty _ => cases r; rfl
theorem RelV.inj {x y : V} {u : Value} (r : RelV x u) (q : RelV y u) : x = y := Option.some.inj (r.abs.symm.trans q.abs)
theorem Vals.inj : ∀ {xs ys : List V} {us : List Value}, Vals xs us → Vals ys us → xs = ys
  | _, _, _, .nil, .nil => rfl
  | _, _, _, .cons r t, .cons r' t' => by rw [r.inj r', Vals.inj t t']
section
variable {X : Cx} {pins : List (Addr × Obj)} {σ : St} {H : Hp} {s : Shared} {a : Addr} {xs ys : List V}
theorem SqL.of {K : PySem.W.Frag} (h : H a = some (.lst xs)) : SqL K H a xs := .inl (.inl h)
theorem SqT.of {K : PySem.W.Frag} (h : H a = some (.tup xs)) : SqT K H a xs := .inl (.inl h)
theorem Inv.list (I : Inv X pins σ H s) (h : SqL X.K H a xs) : ∃ its : List Value, Vals xs its ∧ PlainL s.heap a its.toArray ∧ xs.length ≤ sizeLine := by
  rcases h with h | ⟨o, its, n, hk, hc, hd, hs, hz, r⟩
  · obtain ⟨z, its, n, r, e⟩ := h.ok I.hok
    exact ⟨its, r, ⟨_, n, e, rfl, rfl, rfl⟩, z⟩
  · refine ⟨its.toList, r, ⟨o, n, I.kIn a o hk, hc, hd, by simpa using hs⟩, ?_⟩
    have e := r.length
    simp only [Array.length_toList] at e
    omega
theorem Inv.tuple (I : Inv X pins σ H s) (h : SqT X.K H a xs) : ∃ its : List Value, Vals xs its ∧ IsTup s.heap a its.toArray ∧ xs.length ≤ sizeLine := by
  rcases h with h | ⟨o, its, n, hk, hc, hs, hz, r⟩
  · obtain ⟨z, its, r, p⟩ := h.ok I.hok
    exact ⟨its, r, p, z⟩
  · refine ⟨its.toList, r, ⟨o, I.kIn a o hk, hc, n, by simpa using hs⟩, ?_⟩
    have e := r.length
    simp only [Array.length_toList] at e
    omega
theorem Inv.list_inj (I : Inv X pins σ H s) (h : SqL X.K H a xs) (h' : SqL X.K H a ys) : xs = ys := by
  obtain ⟨its, r, ⟨o, n, e, _, _, d⟩, _⟩ := I.list h
  obtain ⟨its', r', ⟨o', n', e', _, _, d'⟩, _⟩ := I.list h'
  rw [e] at e'; cases e'
  rw [d] at d'
  injection d' with d1 _
  have : its = its' := by simpa using congrArg Array.toList d1
  subst this
  exact r.inj r'
theorem Inv.tuple_inj (I : Inv X pins σ H s) (h : SqT X.K H a xs) (h' : SqT X.K H a ys) : xs = ys := by
  obtain ⟨its, r, ⟨o, e, _, n, d⟩, _⟩ := I.tuple h
  obtain ⟨its', r', ⟨o', e', _, n', d'⟩, _⟩ := I.tuple h'
  rw [e] at e'; cases e'
  rw [d] at d'
  injection d' with d1 _
  have : its = its' := by simpa using congrArg Array.toList d1
  subst this
  exact r.inj r'
end
abbrev Cx.wish (X : Cx) (E : Value → Shared → Prop) : Cx := { X with xe := E }
abbrev Cx.nox (X : Cx) : Cx := X.wish fun _ _ => False
theorem Cx.Ok.wish {X : Cx} (ok : X.Ok) (E : Value → Shared → Prop) : (X.wish E).Ok :=
  ⟨ok.mod, ok.kind, ok.glob, ok.blt, ok.above, ok.inj, ok.has, ok.cab, ok.hd, ok.frames, ok.stk, ok.exf, ok.bs, ok.bsz, ok.noex, ok.exfs, ok.funs, ok.frf⟩
theorem Cx.Ok.unwish {X : Cx} {E : Value → Shared → Prop} (ok : (X.wish E).Ok) : X.Ok :=
  ⟨ok.mod, ok.kind, ok.glob, ok.blt, ok.above, ok.inj, ok.has, ok.cab, ok.hd, ok.frames, ok.stk, ok.exf, ok.bs, ok.bsz, ok.noex, ok.exfs, ok.funs, ok.frf⟩
section
variable {X : Cx} {pins : List (Addr × Obj)} {σ : St} {H : Hp} {s : Shared} {E : Value → Shared → Prop}
theorem Inv.wish (I : Inv X pins σ H s) (E : Value → Shared → Prop) : Inv (X.wish E) pins σ H s := ⟨I.ok.wish E, I.os, I.bare, I.base, I.loc, I.cell, I.free, I.freeC, I.pin, I.hok, I.len⟩
theorem Inv.unwish (I : Inv (X.wish E) pins σ H s) : Inv X pins σ H s := ⟨I.ok.unwish, I.os, I.bare, I.base, I.loc, I.cell, I.free, I.freeC, I.pin, I.hok, I.len⟩
theorem SP.unwish {D : Ends} {f : Flow} {s' : Shared} (h : SP (X.wish E) pins D f s') : SP X pins D f s' := by
  cases f with
  | next => obtain ⟨σ', H', I, q⟩ := h; exact ⟨σ', H', I.unwish, q⟩
  | brk => obtain ⟨σ', H', I, q⟩ := h; exact ⟨σ', H', I.unwish, q⟩
  | cont => obtain ⟨σ', H', I, q⟩ := h; exact ⟨σ', H', I.unwish, q⟩
  | ret u => obtain ⟨v, σ', H', I, r, q⟩ := h; exact ⟨v, σ', H', I.unwish, r, q⟩
theorem PSs.nox {st : List Stmt} {t : TS} (h : PSs X.nox st t) : PSs X st t := fun pins s σ H D I hw =>
  wpAny_mono (h pins s σ H D (I.wish _) hw) (fun _ _ q => q.unwish) fun _ _ z => False.elim z
end
section
variable {X : Cx} {st : Stmt} {rest : List Stmt} {t u : TS} {e : Expr} {te : TE} {pos : Pos}
def tNext : TS := fun D σ H => D.nx σ H
def tSeq (t u : TS) : TS := fun D σ H => t { D with nx := u D } σ H
theorem pss_nil : PSs X [] tNext := fun _ _ σ H _ I h => wpAny_execs_nil ⟨σ, H, I, h⟩
theorem pss_cons (h1 : PS X st t) (h2 : PSs X rest u) : PSs X (st :: rest) (tSeq t u) := by
  intro pins s σ H D I h
  refine wpAny_execs_cons (thn (h1 pins s σ H { D with nx := u D } I h) fun f s1 q => ?_)
  cases f with
  | next =>
    obtain ⟨σ', H', I', q⟩ := q
    exact h2 pins s1 σ' H' D I' q
  | ret v => exact q
  | brk => exact q
  | cont => exact q
theorem pss_one (h1 : PS X st t) : PSs X [st] t := by
  intro pins s σ H D I h
  refine wpAny_execs_cons (thn (h1 pins s σ H D I h) fun f s1 q => ?_)
  cases f with
  | next => exact wpAny_execs_nil q
  | ret v => exact q
  | brk => exact q
  | cont => exact q
theorem Inv.quiet {pins : List (Addr × Obj)} {σ : St} {H : Hp} {s : Shared} (I : Inv X pins σ H s) : interactive X.env = false := by simp [interactive, I.ok.kind]
def tDrop (te : TE) : TS := fun D σ H => te σ H fun _ H1 => D.nx σ H1
theorem ps_expr (he : PE X e te) (hs : swapsWith e none pos.line X.env = pure false := by rfl) : PS X (.Expr e pos) (tDrop te) := by
  intro pins s σ H D I h
  exact wpAny_Expr_any (thn (he pins s σ H _ I h) fun v s1 ⟨x, H1, I1, r1, q1⟩ => ⟨σ, H1, I1, q1⟩) I.quiet hs
def tRet (te : TE) : TS := fun D σ H => te σ H D.rt
theorem ps_ret (he : PE X e te) : PS X (.Return (some e) pos) (tRet te) := by
  intro pins s σ H D I h
  exact wpAny_Return_some (thn (he pins s σ H _ I h) fun v s1 ⟨x, H1, I1, r1, q1⟩ => ⟨x, σ, H1, I1, r1, q1⟩)
def tRetN : TS := fun D _ H => D.rt .non H
theorem ps_retN : PS X (.Return none pos) tRetN := fun _ _ σ H _ I h => wpAny_Return_none ⟨.non, σ, H, I, rfl, h⟩
def tIfS (c : TT) (t u : TS) : TS := fun D σ H => c σ H fun b H1 => if b = true then t D σ H1 else u D σ H1
theorem ps_if {c : Expr} {a b : List Stmt} {tc : TT} (hc : PT X c tc) (ha : PSs X a t) (hb : PSs X b u) : PS X (.If c a b pos) (tIfS tc t u) := by
  intro pins s σ H D I h
  refine wpAny_If (thn (hc pins s σ H _ I h) fun d s1 ⟨H1, I1, q1⟩ => ?_)
  cases d with
  | true => exact ha pins s1 σ H1 D I1 q1
  | false => exact hb pins s1 σ H1 D I1 q1
end
abbrev TG := V → St → Hp → (St → Hp → Prop) → Prop
abbrev TGs := List V → St → Hp → (St → Hp → Prop) → Prop
def PG (X : Cx) (target : Expr) (t : TG) : Prop :=
  ∀ (pins : List (Addr × Obj)) (s : Shared) (σ : St) (H : Hp) (v : V) (u : Value) (Q : St → Hp → Prop), Inv X pins σ H s → RelV v u → t v σ H Q →
    wpAny (model X.prog X.w) X.A (assign target X.env u) (fun _ s' => ∃ σ' H', Inv X pins σ' H' s' ∧ Q σ' H') X.xe s
def PGs (X : Cx) (ts : List Expr) (t : TGs) : Prop :=
  ∀ (pins : List (Addr × Obj)) (s : Shared) (σ : St) (H : Hp) (vs : List V) (us : List Value) (Q : St → Hp → Prop), Inv X pins σ H s → Vals vs us → t vs σ H Q →
    wpAny (model X.prog X.w) X.A (assignInOrder ((assignEach ts X.env).map (·.2)) us) (fun _ s' => ∃ σ' H', Inv X pins σ' H' s' ∧ Q σ' H') X.xe s
section
variable {X : Cx} {pos : Pos}
def gName (i : Nat) : TG := fun v σ H Q => Q (σ.set i (some v)) H
theorem pg_name {i : Nat} {x : Str} (hN : X.N.Nodup) (hi : X.N[i]? = some x) (hx : Loc X.env.scope x) (hf : X.fn x = true ∨ X.env.scope.names.lookup x = some .local := by first | exact .inl rfl | exact .inr rfl | assumption) : PG X (.Name x pos) (gName i) := by
  intro pins s σ H v u Q I r h
  exact wpAny_assign_Name (store_ok I hN hi hx r (fun s' I' => ⟨_, H, I', h⟩) hf)
def gNil : TGs := fun vs σ H Q => vs = [] ∧ Q σ H
def gCons (t : TG) (u : TGs) : TGs := fun vs σ H Q => ∃ v r, vs = v :: r ∧ t v σ H fun σ' H' => u r σ' H' Q
theorem pgs_nil : PGs X [] gNil := by
  intro pins s σ H vs us Q I r h
  obtain ⟨e, h⟩ := h
  subst e
  cases r
  exact assignInOrder_nil ⟨σ, H, I, h⟩
theorem pgs_cons {e : Expr} {es : List Expr} {t : TG} {u : TGs} (h1 : PG X e t) (h2 : PGs X es u)
    (hs : (assignEach (e :: es) X.env).map (·.2) = assign e X.env :: (assignEach es X.env).map (·.2) := by rfl) : PGs X (e :: es) (gCons t u) := by
  intro pins s σ H vs us Q I r h
  obtain ⟨v, vr, e1, h⟩ := h
  subst e1
  cases r with
  | cons r rr =>
    rw [hs]
    refine assignInOrder_cons (thn (h1 pins s σ H _ _ _ I r h) fun _ s1 ⟨σ1, H1, I1, q1⟩ => ?_)
    exact h2 pins s1 σ1 H1 _ _ Q I1 rr q1
def gTup (K : PySem.W.Frag) (n : Nat) (t : TGs) : TG := fun v σ H Q => ∃ a xs, v = .ref a ∧ SqT K H a xs ∧ xs.length = n ∧ t xs σ H Q
theorem pg_tup {es : List Expr} {k : Nat} {t : TGs} {n : Nat} (hc : X.calm = true) (h : PGs X es t)
    (hn : (assignEach es X.env).length = n := by rfl) (hst : (assignEach es X.env).findIdx? (·.1) = none := by rfl) : PG X (.Tuple es k pos) (gTup X.K n t) := by
  intro pins s σ H v u Q I r hw
  obtain ⟨a, xs, e1, hq, hl, hw⟩ := hw
  subst e1
  cases r
  obtain ⟨its, rv, ht, hz⟩ := I.tuple hq
  refine assign_Tuple_tuple (I.ok.hd hc) ht (by simp [hn, ← hl, rv.length]) hst fun h' hx => ?_
  have I1 : Inv X pins σ H { s with heap := h' } := I.kept (t' := s.toks) fun b o e => hx b o (Nat.ne_of_lt (Heap.lt_size e)) e
  exact h pins _ σ H xs _ Q I1 (by simpa using rv) hw
def tAsg (te : TE) (g : TG) : TS := fun D σ H => te σ H fun x H1 => g x σ H1 D.nx
theorem ps_set {i : Nat} {x : Str} {e : Expr} {te : TE} {pos' : Pos} (hN : X.N.Nodup) (hi : X.N[i]? = some x) (hx : Loc X.env.scope x) (he : PE X e te) (hs : swapsWith e (some (.Name x pos')) pos.line X.env = pure false := by rfl) (hf : X.fn x = true ∨ X.env.scope.names.lookup x = some .local := by first | exact .inl rfl | exact .inr rfl | assumption) :
    PS X (.Assign [.Name x pos'] e pos) (tAsg te (gName i)) := by
  intro pins s σ H D I h
  refine wpAny_Assign_Name (thn (he pins s σ H _ I h) fun v s1 ⟨y, H1, I1, r1, q1⟩ => ?_) hs
  exact store_ok I1 hN hi hx r1 (fun s2 I2 => ⟨_, H1, I2, q1⟩) hf
end
section
variable {X : Cx} {pos : Pos}
def tWhile (c : TT) (tb : TS) : TS := fun D σ H => ∃ W : Nat → St → Hp → Prop, (∃ m, W m σ H) ∧ ∀ m σ H, W m σ H →
  c σ H fun b H1 => if b = true then ∃ N : St → Hp → Prop, (∀ σ' H', N σ' H' → ∃ m', m' < m ∧ W m' σ' H') ∧ tb { D with nx := N, ct := N, bk := D.nx } σ H1 else D.nx σ H1
theorem ps_while {c : Expr} {body : List Stmt} {tc : TT} {tb : TS} (hp : PassesOwn (model X.prog X.w) X.A X.env X.xe) (hc : PT X c tc) (hb : PSs X body tb) : PS X (.While c body [] pos) (tWhile tc tb) := by
  intro pins s σ H D I h
  obtain ⟨W, ⟨m0, w0⟩, turn⟩ := h
  refine wpAny_While (codeAny_whileLoop (fun n s' => ∃ σ' H', Inv X pins σ' H' s' ∧ W n σ' H') ?_ m0 ⟨σ, H, I, w0⟩)
  rintro n s1 ⟨σ1, H1, I1, w1⟩
  refine wpAny_passesOwn hp (thn (hc pins s1 σ1 H1 _ I1 (turn n σ1 H1 w1)) fun b s2 ⟨H2, I2, q2⟩ => ?_)
  cases b with
  | true =>
    obtain ⟨N, hN, q2⟩ := q2
    rw [if_pos rfl]
    refine wpAny_passesOwn hp (thn (hb pins s2 σ1 H2 _ I2 q2) fun f s3 q3 => ?_)
    cases f with
    | next =>
      obtain ⟨σ3, H3, I3, n3⟩ := q3
      obtain ⟨m', hm, w3⟩ := hN σ3 H3 n3
      exact ⟨m', hm, σ3, H3, I3, w3⟩
    | cont =>
      obtain ⟨σ3, H3, I3, n3⟩ := q3
      obtain ⟨m', hm, w3⟩ := hN σ3 H3 n3
      exact ⟨m', hm, σ3, H3, I3, w3⟩
    | brk => exact q3
    | ret v => exact q3
  | false =>
    rw [if_neg Bool.false_ne_true]
    exact wpAny_execs_nil ⟨σ1, H2, I2, q2⟩
end
structure It where
  go : Nat → Hp → Prop
  yld : Nat → Hp → V → Hp → Prop
  stop : Nat → Hp → Prop
def FpOk (X : Cx) (pins : List (Addr × Obj)) (H : Hp) (b : Addr) : Prop :=
  H b = none ∧ b ≠ X.env.locals ∧ b ∉ X.fs ∧ (b ∈ X.ex ∨ X.s_0.heap.objs.size ≤ b) ∧ (∀ x c, X.env.cells.lookup x = some c → c ≠ b) ∧ ∀ p ∈ X.pn ++ pins, p.1 ≠ b
theorem Inv.fpOk {X : Cx} {pins : List (Addr × Obj)} {σ : St} {H H' : Hp} {s : Shared} {b : Addr} (I : Inv X pins σ H s) (hb : s.heap.objs.size ≤ b) (hn : H' b = none) : FpOk X pins H' b := by
  refine ⟨hn, Nat.ne_of_gt (Nat.lt_of_lt_of_le I.lt hb), I.nofs hb, .inr (Nat.le_trans I.sz hb), fun x c e z => ?_, fun p hp z => ?_⟩
  · obtain ⟨v, q⟩ := I.cell x c e
    exact absurd (Nat.lt_of_lt_of_le q.lt (by rw [z]; exact hb)) (Nat.lt_irrefl _)
  · exact absurd (Nat.lt_of_lt_of_le (Heap.lt_size (I.pin p hp).1) (by rw [z]; exact hb)) (Nat.lt_irrefl _)
structure Turn (P : Program) (w : World) (K : PySem.W.Frag) (tg : Expr) (J : It) (fp : List Addr) (it : Addr) (tn : Nat → Heap → Prop) : Prop where
  mem : it ∈ fp
  obj : ∀ i h, tn i h → ∀ b ∈ fp, ∃ o, h.get? b = some o ∧ ∀ v, o.data ≠ .cell v
  keep : ∀ i h h', tn i h → (∀ b ∈ fp, ∀ o, h.get? b = some o → h'.get? b = some o) → tn i h'
  item : ∀ (X : Cx), X.prog = P → X.w = w → X.K = K → X.calm = true → ∀ (i : Nat) (pins : List (Addr × Obj)) (s : Shared) (σ : St) (H : Hp) (E : Value → Shared → Prop), Inv X pins σ H s → (∀ b ∈ fp, FpOk X pins H b) → tn i s.heap → J.go i H →
    wpAny (model P w) X.A (pyNext (.ref it)) (fun r s1 => ∃ u, r = some u ∧
      wpAny (model P w) X.A (letOwnedTupleGo tg (.ref it) u) (fun _ s2 => ∃ x H', Inv X pins σ H' s2 ∧ RelV x u ∧ J.yld i H x H' ∧ tn (i + 1) s2.heap ∧ ∀ b ∈ fp, H' b = none) E s1) E s
  done : ∀ (X : Cx), X.prog = P → X.w = w → X.K = K → X.calm = true → ∀ (i : Nat) (pins : List (Addr × Obj)) (s : Shared) (σ : St) (H : Hp) (E : Value → Shared → Prop), Inv X pins σ H s → (∀ b ∈ fp, FpOk X pins H b) → tn i s.heap → J.stop i H →
    wpAny (model P w) X.A (pyNext (.ref it)) (fun r s1 => r = none ∧ Inv X pins σ H s1) E s
  self : ∀ (A : Around) (i : Nat) (s : Shared) (Q : Value → Shared → Prop) (E : Value → Shared → Prop), tn i s.heap → Q (.ref it) s → wpAny (model P w) A (pyIter (.ref it)) Q E s
abbrev TI := St → Hp → (It → Hp → Prop) → Prop
def PIE (X : Cx) (pins : List (Addr × Obj)) (σ : St) (tg : Expr) (R : It → Hp → Prop) (itv : Value) (s2 : Shared) : Prop :=
  ∃ (it : Addr) (fp : List Addr) (tn : Nat → Heap → Prop) (J : It) (H' : Hp), itv = .ref it ∧ Inv X pins σ H' s2 ∧ Turn X.prog X.w X.K tg J fp it tn ∧ tn 0 s2.heap ∧ (∀ b ∈ fp, FpOk X pins H' b) ∧ R J H'
def PI (X : Cx) (tg iter : Expr) (wi : TI) : Prop :=
  ∀ (pins : List (Addr × Obj)) (s : Shared) (σ : St) (H : Hp) (R : It → Hp → Prop), Inv X pins σ H s → wi σ H R →
    wpAny (model X.prog X.w) X.A (eval iter X.env) (fun v s1 => wpAny (model X.prog X.w) X.A (pyIter v) (PIE X pins σ tg R) X.xe s1) X.xe s
theorem go_of {M : Model} {A : Around} {E : Value → Shared → Prop} {s : Shared} {tg : Expr} {it : Addr} {u : Value} {o : Obj} {n : String} {vs : Array Value} {Q : Unit → Shared → Prop} (ho : s.heap.get? it = some o) (hc : o.cls = .type n) (hd : o.data = .fields vs)
    (hn : ["enumerate", "zip", "dict_itemiterator", "dict_reverseitemiterator", "odict_iterator", "itertools.zip_longest", "itertools.pairwise"].contains n = false) (hQ : Q () s) : wpAny M A (letOwnedTupleGo tg (.ref it) u) Q E s := by
  unfold letOwnedTupleGo
  cases tg <;> first
    | exact wpAny_pure hQ
    | (cases u <;> first
        | exact wpAny_pure hQ
        | (refine wpAny_bind (wpAny_load ho ?_)
           rw [hc, hd]
           show wpAny M A (if (["enumerate", "zip", "dict_itemiterator", "dict_reverseitemiterator", "odict_iterator", "itertools.zip_longest", "itertools.pairwise"].contains n && vs[0]? == some (rawInt _)) = true then _ else _) Q E s
           rw [if_neg (by intro h; rw [hn, Bool.false_and] at h; cases h)]
           exact wpAny_pure hQ))
def Itl (K : PySem.W.Frag) (a : Addr) : It :=
  ⟨fun i H => ∃ xs x, SqL K H a xs ∧ xs[i]? = some x, fun i H x H' => H' = H ∧ ∀ xs, SqL K H a xs → xs[i]? = some x, fun i H => ∃ xs, SqL K H a xs ∧ xs.length ≤ i⟩
def Itt (K : PySem.W.Frag) (a : Addr) : It :=
  ⟨fun i H => ∃ xs x, SqT K H a xs ∧ xs[i]? = some x, fun i H x H' => H' = H ∧ ∀ xs, SqT K H a xs → xs[i]? = some x, fun i H => ∃ xs, SqT K H a xs ∧ xs.length ≤ i⟩
def Itr (lo : Int) (n : Nat) : It := ⟨fun i _ => i < n, fun i H x H' => H' = H ∧ x = .int (lo + i), fun i _ => n ≤ i⟩
theorem turn_list {P : Program} {w : World} {K : PySem.W.Frag} {tg : Expr} (a it : Addr) : Turn P w K tg (Itl K a) [it] it (fun i h => h.IsListIter it a i) where
  mem := by simp
  obj := fun i h st b hb => by
    have e : b = it := by simpa using hb
    subst e
    obtain ⟨o, e, c, d⟩ := st
    exact ⟨o, e, fun v z => by rw [d] at z; cases z⟩
  keep := fun i h h' st k => st.at fun o e => k it (by simp) o e
  item := by
    intro X hP hw hK hc i pins s σ H E I hf st hg
    subst hP hw hK
    obtain ⟨xs, x, hq, hx⟩ := hg
    obtain ⟨its, rv, p, hz⟩ := I.list hq
    obtain ⟨u, hu, ru⟩ := rv.get hx
    obtain ⟨f0, f1, f2, f3, f4, f5⟩ := hf it (by simp)
    refine wpAny_pyNext_list_item st p.isList (x := u) (by simpa using hu) fun h' st' sb => ?_
    have I1 : Inv X pins σ H { s with heap := h' } := I.turned (t' := s.toks) (fun b o hb e => (sb.2 b hb).trans e) f0 f1 f3 f4 f5
    obtain ⟨o, e, c, d⟩ := id st'
    exact ⟨u, rfl, go_of (s := { s with heap := h' }) e c d (by decide) ⟨x, H, I1, ru, ⟨rfl, fun ys hy => by rw [I.list_inj hy hq]; exact hx⟩, st', fun b hb => (hf b hb).1⟩⟩
  done := by
    intro X hP hw hK hc i pins s σ H E I hf st hg
    subst hP hw hK
    obtain ⟨xs, hq, hx⟩ := hg
    obtain ⟨its, rv, p, hz⟩ := I.list hq
    obtain ⟨f0, f1, f2, f3, f4, f5⟩ := hf it (by simp)
    have hl := rv.length
    exact wpAny_pyNext_list_end (I.ok.hd hc) st p.isList (by simp; omega) fun h' eb => ⟨rfl, I.turned (t' := s.toks) (fun b o hb e => eb b o hb e) f0 f1 f3 f4 f5⟩
  self := fun _ _ _ _ _ st h => wpAny_pyIter_listiter st h
theorem turn_tuple {P : Program} {w : World} {K : PySem.W.Frag} {tg : Expr} (a it : Addr) : Turn P w K tg (Itt K a) [it] it (fun i h => h.IsTupleIter it a i) where
  mem := by simp
  obj := fun i h st b hb => by
    have e : b = it := by simpa using hb
    subst e
    obtain ⟨o, e, c, d⟩ := st
    exact ⟨o, e, fun v z => by rw [d] at z; cases z⟩
  keep := fun i h h' st k => st.at fun o e => k it (by simp) o e
  item := by
    intro X hP hw hK hc i pins s σ H E I hf st hg
    subst hP hw hK
    obtain ⟨xs, x, hq, hx⟩ := hg
    obtain ⟨its, rv, p, hz⟩ := I.tuple hq
    obtain ⟨u, hu, ru⟩ := rv.get hx
    obtain ⟨f0, f1, f2, f3, f4, f5⟩ := hf it (by simp)
    refine wpAny_pyNext_tuple_item st (show s.heap.IsTuple a its.toArray from p) (x := u) (by simpa using hu) fun h' st' sb => ?_
    have I1 : Inv X pins σ H { s with heap := h' } := I.turned (t' := s.toks) (fun b o hb e => (sb.2 b hb).trans e) f0 f1 f3 f4 f5
    obtain ⟨o, e, c, d⟩ := id st'
    exact ⟨u, rfl, go_of (s := { s with heap := h' }) e c d (by decide) ⟨x, H, I1, ru, ⟨rfl, fun ys hy => by rw [I.tuple_inj hy hq]; exact hx⟩, st', fun b hb => (hf b hb).1⟩⟩
  done := by
    intro X hP hw hK hc i pins s σ H E I hf st hg
    subst hP hw hK
    obtain ⟨xs, hq, hx⟩ := hg
    obtain ⟨its, rv, p, hz⟩ := I.tuple hq
    obtain ⟨f0, f1, f2, f3, f4, f5⟩ := hf it (by simp)
    have hl := rv.length
    exact wpAny_pyNext_tuple_end (I.ok.hd hc) st (show s.heap.IsTuple a its.toArray from p) (by simp; omega) fun h' eb => ⟨rfl, I.turned (t' := s.toks) (fun b o hb e => eb b o hb e) f0 f1 f3 f4 f5⟩
  self := fun _ _ _ _ _ st h => wpAny_pyIter_tupleiter st h
theorem turn_range {P : Program} {w : World} {K : PySem.W.Frag} {tg : Expr} (it : Addr) (lo : Int) (n : Nat) : Turn P w K tg (Itr lo n) [it] it (fun i h => IsRangeIter h it (lo + (i : Nat) * 1) ((n : Int) - (i : Nat)) 1) where
  mem := by simp
  obj := fun i h st b hb => by
    have e : b = it := by simpa using hb
    subst e
    exact ⟨_, st, fun v z => by
      have z' : Data.fields _ = Data.cell v := z
      cases z'⟩
  keep := fun i h h' st k => k it (by simp) _ st
  item := by
    intro X hP hw hK hc i pins s σ H E I hf st hg
    subst hP hw hK
    obtain ⟨f0, f1, f2, f3, f4, f5⟩ := hf it (by simp)
    have W := Walks.range (prog := X.prog) (w := X.w) (I.ok.hd hc) it lo 1 n
    refine W.item i s _ _ hg st fun v h' tk hv st' kk => ?_
    obtain ⟨t, rfl⟩ := hv
    have I1 : Inv X pins σ H { s with heap := h', toks := tk } := I.turned (fun b o hb e => kk b o (by simpa using hb) e) f0 f1 f3 f4 f5
    refine ⟨_, rfl, go_of (s := { s with heap := h', toks := tk }) (n := "range_iterator") st' rfl rfl (by decide) ⟨.int (lo + i), H, I1, ⟨t, ?_⟩, ⟨rfl, rfl⟩, st', fun b hb => (hf b hb).1⟩⟩
    rw [Int.mul_one]
  done := by
    intro X hP hw hK hc i pins s σ H E I hf st hg
    subst hP hw hK
    obtain ⟨f0, f1, f2, f3, f4, f5⟩ := hf it (by simp)
    exact wpAny_pyNext_range_end (I.ok.hd hc) st (by have : n ≤ i := hg; omega) fun h' eb => ⟨rfl, I.turned (t' := s.toks) (fun b o hb e => eb b o hb e) f0 f1 f3 f4 f5⟩
  self := fun _ _ _ _ _ st h => wpAny_pyIter_rangeiter st h
end L2
namespace L2
open PySem PySem.Spec PyProof.Rows
section
variable {X : Cx} {tg : Expr}
def iList (K : PySem.W.Frag) (tl : TE) : TI := fun σ H R => tl σ H fun x H1 => ∃ a, x = .ref a ∧ (∃ xs, SqL K H1 a xs) ∧ R (Itl K a) H1
def iTup (K : PySem.W.Frag) (tl : TE) : TI := fun σ H R => tl σ H fun x H1 => ∃ a, x = .ref a ∧ (∃ xs, SqT K H1 a xs) ∧ R (Itt K a) H1
theorem pi_list {l : Expr} {tl : TE} (hl : PE X l tl) : PI X tg l (iList X.K tl) := by
  intro pins s σ H R I h
  refine thn (hl pins s σ H _ I h) fun v s1 ⟨x, H1, I1, r1, q1⟩ => ?_
  obtain ⟨a, e, ⟨xs, hq⟩, q⟩ := q1
  subst e
  cases r1
  obtain ⟨its, rv, p, hz⟩ := I1.list hq
  refine wpAny_pyIter_list p.isList ?_
  refine ⟨s1.heap.objs.size, [s1.heap.objs.size], _, _, H1, rfl, I1.kept (t' := s1.toks) fun b o e => Heap.get?_push_of_some _ e, turn_list a _, ⟨_, Heap.get?_push_size _ rfl, rfl, rfl⟩, fun b hb => ?_, q⟩
  have e : b = s1.heap.objs.size := by simpa using hb
  subst e
  exact I1.fpOk (Nat.le_refl _) (I1.hok.fresh (Nat.le_refl _))
theorem pi_tup {l : Expr} {tl : TE} (hl : PE X l tl) : PI X tg l (iTup X.K tl) := by
  intro pins s σ H R I h
  refine thn (hl pins s σ H _ I h) fun v s1 ⟨x, H1, I1, r1, q1⟩ => ?_
  obtain ⟨a, e, ⟨xs, hq⟩, q⟩ := q1
  subst e
  cases r1
  obtain ⟨its, rv, p, hz⟩ := I1.tuple hq
  refine wpAny_pyIter_tuple (show s1.heap.IsTuple a its.toArray from p) ?_
  refine ⟨s1.heap.objs.size, [s1.heap.objs.size], _, _, H1, rfl, I1.kept (t' := s1.toks) fun b o e => Heap.get?_push_of_some _ e, turn_tuple a _, ⟨_, Heap.get?_push_size _ rfl, rfl, rfl⟩, fun b hb => ?_, q⟩
  have e : b = s1.heap.objs.size := by simpa using hb
  subst e
  exact I1.fpOk (Nat.le_refl _) (I1.hok.fresh (Nat.le_refl _))
theorem range_it {pins : List (Addr × Obj)} {σ : St} {H : Hp} {s : Shared} {R : It → Hp → Prop} {E : Value → Shared → Prop} {lo hi : Int} {t u v : Tok} {tk : Nat} (I : Inv X pins σ H s) (h1 : -(2 ^ 62) ≤ lo) (h2 : lo < 2 ^ 62) (h3 : -(2 ^ 62) ≤ hi) (h4 : hi < 2 ^ 62)
    (q : R (Itr lo (hi - lo).toNat) H) : wpAny (model X.prog X.w) X.A (pyIter (.ref s.heap.objs.size)) (PIE X pins σ tg R) E { s with heap := s.heap.push { cls := .type "range", data := .fields #[.int lo t, .int hi u, .int 1 v] }, toks := tk } := by
  refine wpAny_pyIter_range (IsRange.new ..) (small_one h1 h2 h3 h4) ?_
  have I1 : Inv X pins σ H { s with heap := s.heap.push { cls := .type "range", data := .fields #[.int lo t, .int hi u, .int 1 v] }, toks := tk } := I.kept fun b o e => Heap.get?_push_of_some _ e
  refine ⟨(s.heap.push { cls := .type "range", data := .fields #[.int lo t, .int hi u, .int 1 v] }).objs.size, [(s.heap.push { cls := .type "range", data := .fields #[.int lo t, .int hi u, .int 1 v] }).objs.size], _, _, H, rfl,
    I1.kept (t' := tk) fun b o e => Heap.get?_push_of_some _ e, turn_range _ lo (hi - lo).toNat, ?_, fun b hb => ?_, q⟩
  · have e1 : lo + ((0 : Nat) : Int) * 1 = lo := by simp
    have e2 : (((hi - lo).toNat : Nat) : Int) - ((0 : Nat) : Int) = Builtin.Range.rangeSize lo hi 1 := by rw [rangeSize_one]; split <;> omega
    show IsRangeIter _ _ (lo + ((0 : Nat) : Int) * 1) ((((hi - lo).toNat : Nat) : Int) - ((0 : Nat) : Int)) 1
    rw [e1, e2]
    exact Heap.get?_push_size _ rfl
  · have e : b = (s.heap.push { cls := .type "range", data := .fields #[.int lo t, .int hi u, .int 1 v] }).objs.size := by simpa using hb
    subst e
    exact I1.fpOk (Nat.le_refl _) (I1.hok.fresh (Nat.le_refl _))
def iRng1 (ta : TA) : TI := fun σ H R => ta σ H fun vs H1 => ∃ j : Int, vs = [.int j] ∧ -(2 ^ 62) ≤ j ∧ j < 2 ^ 62 ∧ R (Itr 0 j.toNat) H1
theorem pi_range1 {a : Expr} {ta : TA} {p pos : Pos} (hg : Gl X "range") (hm : X.mg "range" = none) (ha : PA X [a] ta) (hs : starEach [a] X.env = [(false, eval a X.env)] := by rfl) : PI X tg (.Call (.Name "range" p) [a] [] pos) (iRng1 ta) := by
  intro pins s σ H R I h
  refine Call_ (ld_blt I hg hm boot_range (PyProof.Rows.callWith_type1 (thn (ha pos pins s σ H _ I h) fun us s1 ⟨vs, H1, I1, r1, q1⟩ => ?_) hs rfl))
  obtain ⟨j, e, q1, q2, q⟩ := q1
  subst e
  cases r1 with
  | cons r rr =>
    cases rr
    obtain ⟨t, rfl⟩ := r
    exact call_range_1 (range_it I1 (by omega) (by omega) q1 q2 (by simpa using q))
def tFor (wi : TI) (g : TG) (tb : TS) : TS := fun D σ H => wi σ H fun J H1 => ∃ W : Nat → Nat → St → Hp → Prop, (∃ m, W 0 m σ H1) ∧ ∀ i m σ H, W i m σ H →
  (J.stop i H ∧ D.nx σ H) ∨ (J.go i H ∧ ∃ N : St → Hp → Prop, (∀ σ' H', N σ' H' → ∃ m', m' < m ∧ W (i + 1) m' σ' H') ∧ ∀ x H', J.yld i H x H' → g x σ H' fun σ2 H2 => tb { D with nx := N, ct := N, bk := D.nx } σ2 H2)
def pinsAt (fp : List Addr) (h : Heap) : List (Addr × Obj) := fp.filterMap fun b => (h.get? b).map fun o => (b, o)
theorem mem_pinsAt {fp : List Addr} {h : Heap} {b : Addr} {o : Obj} (hb : b ∈ fp) (e : h.get? b = some o) : (b, o) ∈ pinsAt fp h := List.mem_filterMap.mpr ⟨b, hb, by rw [e]; rfl⟩
theorem of_pinsAt {fp : List Addr} {h : Heap} {p : Addr × Obj} (hp : p ∈ pinsAt fp h) : p.1 ∈ fp ∧ h.get? p.1 = some p.2 := by
  obtain ⟨b, hb, e⟩ := List.mem_filterMap.mp hp
  cases q : h.get? b with
  | none => rw [q] at e; cases e
  | some o =>
    rw [q] at e
    have e' : (b, o) = p := Option.some.inj e
    subst e'
    exact ⟨hb, q⟩
theorem Inv.pinned {pins : List (Addr × Obj)} {σ : St} {H : Hp} {s : Shared} {fp : List Addr} (I : Inv X pins σ H s) (hf : ∀ b ∈ fp, FpOk X pins H b) (ho : ∀ b ∈ fp, ∃ o, s.heap.get? b = some o ∧ ∀ v, o.data ≠ .cell v) : Inv X (pins ++ pinsAt fp s.heap) σ H s :=
  I.pins_of fun p hp => (List.mem_append.mp hp).elim (fun z => I.pin p (List.mem_append_right _ z)) fun z => by
    obtain ⟨hb, e⟩ := of_pinsAt z
    obtain ⟨f0, f1, f2, _⟩ := hf p.1 hb
    obtain ⟨o, e', d⟩ := ho p.1 hb
    rw [e] at e'; cases e'
    exact ⟨e, f0, f1, f2, d⟩
theorem Inv.unpinned {pins pl : List (Addr × Obj)} {σ : St} {H : Hp} {s : Shared} (I : Inv X (pins ++ pl) σ H s) : Inv X pins σ H s := I.pins_of fun p hp => I.pin p (List.mem_append_right _ (List.mem_append_left _ hp))
theorem ps_for {iter : Expr} {body : List Stmt} {wi : TI} {g : TG} {tb : TS} {pos : Pos} (hp : PassesOwn (model X.prog X.w) X.A X.env X.xe) (hc : X.calm = true) (hi : PI X tg iter wi) (hg : PG X tg g) (hb : PSs X body tb)
    (hs : ∀ x, foldedSetIterable iter X.env x = pure x := by intro _; rfl) : PS X (.For tg iter body [] pos) (tFor wi g tb) := by
  intro pins s σ H D I h
  refine wpAny_For (thn (hi pins s σ H _ I h) fun v s1 h1 => thn h1 fun itv s2 h2 => ?_) hs
  obtain ⟨it, fp, tn, J, H2, e, I2, T, st2, f2, W, ⟨m0, w0⟩, turn⟩ := h2
  subst e
  -- what stays true of the iterator's objects through the loop
  have stat : ∀ {H' : Hp}, (∀ b ∈ fp, H' b = none) → ∀ b ∈ fp, FpOk X pins H' b := fun hn b hb => ⟨hn b hb, (f2 b hb).2⟩
  refine codeAny_forLoop_any (fun n s' => ∃ i σ' H', Inv X pins σ' H' s' ∧ tn i s'.heap ∧ (∀ b ∈ fp, H' b = none) ∧ W i n σ' H') ?_ m0 ⟨0, σ, H2, I2, st2, fun b hb => (f2 b hb).1, w0⟩
  rintro n s3 ⟨i, σ3, H3, I3, st3, fr3, w3⟩
  rcases turn i n σ3 H3 w3 with ⟨stop, qn⟩ | ⟨go, N, hN, step⟩
  · refine wpAny_passesOwn hp (thn (T.done X rfl rfl rfl hc i pins s3 σ3 H3 X.xe I3 (stat fr3) st3 stop) fun r s4 ⟨hr, I4⟩ => ?_)
    subst hr
    exact wpAny_execs_nil ⟨σ3, H3, I4, qn⟩
  · refine wpAny_passesOwn hp (thn (T.item X rfl rfl rfl hc i pins s3 σ3 H3 X.xe I3 (stat fr3) st3 go) fun r s4 ⟨u, hr, h4⟩ => ?_)
    subst hr
    refine wpAny_passesOwn hp (thn h4 fun _ s5 ⟨x, H5, I5, r5, y5, st5, fr5⟩ => ?_)
    have I5' := I5.pinned (stat fr5) (T.obj _ _ st5)
    refine wpAny_passesOwn hp (thn (hg _ s5 σ3 H5 x u _ I5' r5 (step x H5 y5)) fun _ s6 ⟨σ6, H6, I6, q6⟩ => ?_)
    refine wpAny_passesOwn hp (thn (hb _ s6 σ6 H6 _ I6 q6) fun f s7 q7 => ?_)
    have again : ∀ {σ7 : St} {H7 : Hp}, Inv X (pins ++ pinsAt fp s5.heap) σ7 H7 s7 → N σ7 H7 → ∃ m, m < n ∧ ∃ i σ' H', Inv X pins σ' H' s7 ∧ tn i s7.heap ∧ (∀ b ∈ fp, H' b = none) ∧ W i m σ' H' := fun {σ7 H7} I7 n7 => by
      obtain ⟨m', hm, w7⟩ := hN σ7 H7 n7
      refine ⟨m', hm, i + 1, σ7, H7, I7.unpinned, T.keep _ _ _ st5 fun b hb o e => (I7.pin (b, o) (List.mem_append_right _ (List.mem_append_right _ (mem_pinsAt hb e)))).1, fun b hb => ?_, w7⟩
      obtain ⟨o, e, d⟩ := T.obj _ _ st5 b hb
      exact (I7.pin (b, o) (List.mem_append_right _ (List.mem_append_right _ (mem_pinsAt hb e)))).2.1
    cases f with
    | next => obtain ⟨σ7, H7, I7, n7⟩ := q7; exact again I7 n7
    | cont => obtain ⟨σ7, H7, I7, n7⟩ := q7; exact again I7 n7
    | brk => obtain ⟨σ7, H7, I7, q7⟩ := q7; exact ⟨σ7, H7, I7.unpinned, q7⟩
    | ret v => obtain ⟨x7, σ7, H7, I7, r7, q7⟩ := q7; exact ⟨x7, σ7, H7, I7.unpinned, r7, q7⟩
end
theorem for_list {K : PySem.W.Frag} {a : Addr} {xs : List V} {g : TG} {tb : TS} {D : Ends} {σ : St} {H : Hp} (Pv : Nat → St → Hp → Prop) (h0 : Pv 0 σ H) (hl : ∀ i σ H, i ≤ xs.length → Pv i σ H → SqL K H a xs)
    (hs : ∀ i x σ H, xs[i]? = some x → Pv i σ H → g x σ H fun σ2 H2 => tb { D with nx := Pv (i + 1), ct := Pv (i + 1), bk := D.nx } σ2 H2) (hd : ∀ σ H, Pv xs.length σ H → D.nx σ H) :
    ∃ W : Nat → Nat → St → Hp → Prop, (∃ m, W 0 m σ H) ∧ ∀ i m σ H, W i m σ H →
      ((Itl K a).stop i H ∧ D.nx σ H) ∨ ((Itl K a).go i H ∧ ∃ N : St → Hp → Prop, (∀ σ' H', N σ' H' → ∃ m', m' < m ∧ W (i + 1) m' σ' H') ∧ ∀ x H', (Itl K a).yld i H x H' → g x σ H' fun σ2 H2 => tb { D with nx := N, ct := N, bk := D.nx } σ2 H2) := by
  refine ⟨fun i m σ H => m = xs.length - i ∧ i ≤ xs.length ∧ Pv i σ H, ⟨xs.length, by simp, Nat.zero_le _, h0⟩, ?_⟩
  rintro i m σ H ⟨rfl, hi, p⟩
  have q := hl i σ H hi p
  by_cases hlt : i < xs.length
  · refine .inr ⟨⟨xs, xs[i], q, by simp [hlt]⟩, Pv (i + 1), fun σ' H' p' => ⟨xs.length - (i + 1), by omega, rfl, hlt, p'⟩, fun x H' y => ?_⟩
    obtain ⟨e, y⟩ := y
    subst e
    exact hs i x σ _ (y xs q) p
  · have e : i = xs.length := by omega
    subst e
    exact .inl ⟨⟨xs, q, Nat.le_refl _⟩, hd σ H p⟩
theorem for_range {lo : Int} {n : Nat} {g : TG} {tb : TS} {D : Ends} {σ : St} {H : Hp} (Pv : Nat → St → Hp → Prop) (h0 : Pv 0 σ H)
    (hs : ∀ i σ H, i < n → Pv i σ H → g (.int (lo + i)) σ H fun σ2 H2 => tb { D with nx := Pv (i + 1), ct := Pv (i + 1), bk := D.nx } σ2 H2) (hd : ∀ σ H, Pv n σ H → D.nx σ H) :
    ∃ W : Nat → Nat → St → Hp → Prop, (∃ m, W 0 m σ H) ∧ ∀ i m σ H, W i m σ H →
      ((Itr lo n).stop i H ∧ D.nx σ H) ∨ ((Itr lo n).go i H ∧ ∃ N : St → Hp → Prop, (∀ σ' H', N σ' H' → ∃ m', m' < m ∧ W (i + 1) m' σ' H') ∧ ∀ x H', (Itr lo n).yld i H x H' → g x σ H' fun σ2 H2 => tb { D with nx := N, ct := N, bk := D.nx } σ2 H2) := by
  refine ⟨fun i m σ H => m = n - i ∧ i ≤ n ∧ Pv i σ H, ⟨n, by simp, Nat.zero_le _, h0⟩, ?_⟩
  rintro i m σ H ⟨rfl, hi, p⟩
  by_cases hlt : i < n
  · refine .inr ⟨hlt, Pv (i + 1), fun σ' H' p' => ⟨n - (i + 1), by omega, rfl, hlt, p'⟩, fun x H' y => ?_⟩
    obtain ⟨e, y⟩ := y
    subst e y
    exact hs i σ _ hlt p
  · have e : i = n := by omega
    subst e
    exact .inl ⟨Nat.le_refl _, hd σ H p⟩
end L2
namespace L2
open PySem PySem.Spec PyProof.Rows
abbrev R2 := V → V → Hp → VK → Prop
def OpR (X : Cx) (f : Value → Value → Sem Value) (r : R2) : Prop :=
  ∀ (pins : List (Addr × Obj)) (s : Shared) (σ : St) (H : Hp) (x y : V) (v u : Value) (Q : VK), Inv X pins σ H s → RelV x v → RelV y u → r x y H Q →
    wpAny (model X.prog X.w) X.A (f v u) (EP X pins σ Q) X.xe s
def UnR (X : Cx) (f : Value → Sem Value) (r : V → Hp → VK → Prop) : Prop :=
  ∀ (pins : List (Addr × Obj)) (s : Shared) (σ : St) (H : Hp) (x : V) (v : Value) (Q : VK), Inv X pins σ H s → RelV x v → r x H Q →
    wpAny (model X.prog X.w) X.A (f v) (EP X pins σ Q) X.xe s
def CallR (X : Cx) (f : Value) (r : List V → Hp → VK → Prop) : Prop :=
  ∀ (pins : List (Addr × Obj)) (s : Shared) (σ : St) (H : Hp) (xs : List V) (us : List Value) (Q : VK), Inv X pins σ H s → Vals xs us → r xs H Q →
    wpAny (model X.prog X.w) X.A (call f us) (EP X pins σ Q) X.xe s
def tOp (r : R2) (ta tb : TE) : TE := fun σ H Q => ta σ H fun x H1 => tb σ H1 fun y H2 => r x y H2 Q
def tUn (r : V → Hp → VK → Prop) (ta : TE) : TE := fun σ H Q => ta σ H fun x H1 => r x H1 Q
def rI (C : Int → Int → Prop) (g : Int → Int → V) : R2 := fun x y H Q => ∃ i j, x = .int i ∧ y = .int j ∧ C i j ∧ Q (g i j) H
def rI0 (g : Int → Int → V) : R2 := fun x y H Q => ∃ i j, x = .int i ∧ y = .int j ∧ Q (g i j) H
def rU (g : Int → V) : V → Hp → VK → Prop := fun x H Q => ∃ i, x = .int i ∧ Q (g i) H
section
variable {X : Cx} {a b c : Expr} {ta tb tc : TE} {pos : Pos}
theorem binT (ha : PE X a ta) (hb : PE X b tb) {pins : List (Addr × Obj)} {s : Shared} {σ : St} {H : Hp} {R : V → V → Hp → Prop} (I : Inv X pins σ H s)
    (h : ta σ H fun x H1 => tb σ H1 fun y H2 => R x y H2) {Q : Value → Shared → Prop} {f : Value → Value → Sem Value}
    (hf : ∀ v u s2 x y H2, Inv X pins σ H2 s2 → RelV x v → RelV y u → R x y H2 → wpAny (model X.prog X.w) X.A (f v u) Q X.xe s2) :
    wpAny (model X.prog X.w) X.A (eval a X.env) (fun v s₁ => wpAny (model X.prog X.w) X.A (eval b X.env) (fun u s₂ => wpAny (model X.prog X.w) X.A (f v u) Q X.xe s₂) X.xe s₁) X.xe s := by
  refine thn (ha pins s σ H _ I h) fun v s1 ⟨x, H1, I1, r1, q1⟩ => ?_
  refine thn (hb pins s1 σ H1 _ I1 q1) fun u s2 ⟨y, H2, I2, r2, q2⟩ => ?_
  exact hf v u s2 x y H2 I2 r1 r2 q2
theorem pe_op {op : Operator} {r : R2} (ho : OpR X (binaryOp op) r) (ha : PE X a ta) (hb : PE X b tb) : PE X (.BinOp a op b pos) (tOp r ta tb) := by
  intro pins s σ H Q I h
  exact wpAny_BinOp (binT ha hb I h fun v u s2 x y H2 I2 rx ry q => ho pins s2 σ H2 x y v u Q I2 rx ry q)
theorem pe_un {op : UnaryOp} {r : V → Hp → VK → Prop} (ho : UnR X (unaryOp op) r) (ha : PE X a ta) : PE X (.UnaryOp op a pos) (tUn r ta) := by
  intro pins s σ H Q I h
  exact UnaryOp_ (thn (ha pins s σ H _ I h) fun v s1 ⟨x, H1, I1, r1, q1⟩ => ho pins s1 σ H1 x v Q I1 r1 q1)
theorem opI {f : Value → Value → Sem Value} {C : Int → Int → Prop} {g : Int → Int → Int}
    (rule : ∀ (i j : Int) (t u : Tok) (s : Shared) (Q : Value → Shared → Prop) (E : Value → Shared → Prop), C i j → Q (.int (g i j) s.toks) { s with toks := s.toks + 1 } → wpAny (model X.prog X.w) X.A (f (.int i t) (.int j u)) Q E s) :
    OpR X f (rI C fun i j => .int (g i j)) := by
  intro pins s σ H x y v u Q I rx ry h
  obtain ⟨i, j, rfl, rfl, hc, q⟩ := h
  obtain ⟨t, rfl⟩ := rx
  obtain ⟨t', rfl⟩ := ry
  exact rule i j t t' s _ _ hc ⟨.int (g i j), H, I.tok _, ⟨_, rfl⟩, q⟩
theorem opI0 {f : Value → Value → Sem Value} {g : Int → Int → Int}
    (rule : ∀ (i j : Int) (t u : Tok) (s : Shared) (Q : Value → Shared → Prop) (E : Value → Shared → Prop), Q (.int (g i j) s.toks) { s with toks := s.toks + 1 } → wpAny (model X.prog X.w) X.A (f (.int i t) (.int j u)) Q E s) :
    OpR X f (rI0 fun i j => .int (g i j)) := by
  intro pins s σ H x y v u Q I rx ry h
  obtain ⟨i, j, rfl, rfl, q⟩ := h
  obtain ⟨t, rfl⟩ := rx
  obtain ⟨t', rfl⟩ := ry
  exact rule i j t t' s _ _ ⟨.int (g i j), H, I.tok _, ⟨_, rfl⟩, q⟩
theorem opB0 {f : Value → Value → Sem Value} {g : Int → Int → Bool}
    (rule : ∀ (i j : Int) (t u : Tok) (s : Shared) (Q : Value → Shared → Prop) (E : Value → Shared → Prop), Q (.bool (g i j)) s → wpAny (model X.prog X.w) X.A (f (.int i t) (.int j u)) Q E s) :
    OpR X f (rI0 fun i j => .bl (g i j)) := by
  intro pins s σ H x y v u Q I rx ry h
  obtain ⟨i, j, rfl, rfl, q⟩ := h
  obtain ⟨t, rfl⟩ := rx
  obtain ⟨t', rfl⟩ := ry
  exact rule i j t t' s _ _ ⟨.bl (g i j), H, I, rfl, q⟩
def CDiv (i j : Int) : Prop := 0 < j ∧ j < 1073741824
def CMul (i j : Int) : Prop := (-(2 ^ 64) < i ∧ i < 2 ^ 64) ∨ (-(2 ^ 64) < j ∧ j < 2 ^ 64)
theorem CMul.ok {i j : Int} (h : CMul i j) : IntMulOk i j := by
  rcases h with ⟨h1, h2⟩ | ⟨h1, h2⟩
  · exact .of_left (intBits_le_64 h1 h2)
  · exact .of_right (intBits_le_64 h1 h2)
theorem op_add : OpR X (binaryOp .Add) (rI0 fun i j => .int (i + j)) := opI0 fun _ _ _ _ _ _ _ q => add_int q
theorem op_sub : OpR X (binaryOp .Sub) (rI0 fun i j => .int (i - j)) := opI0 fun _ _ _ _ _ _ _ q => sub_int q
theorem op_mul : OpR X (binaryOp .Mult) (rI CMul fun i j => .int (i * j)) := opI fun _ _ _ _ _ _ _ hc q => mul_int q hc.ok
theorem op_fdiv : OpR X (binaryOp .FloorDiv) (rI CDiv fun i j => .int (i / j)) := opI fun i j _ _ _ _ _ hc q => by
  have h1 : (0 : Int) < j := hc.1
  have h2 : j < 1073741824 := hc.2
  exact floordiv_int (by omega) (by rw [Int.fdiv_eq_ediv_of_nonneg i (by omega)]; exact q) (.inl (PyProof.noPylong_small (by omega)))
theorem op_mod : OpR X (binaryOp .Mod) (rI (fun _ j => 0 < j) fun i j => .int (i % j)) := opI fun i j _ _ _ _ _ hc q => by
  have h1 : (0 : Int) < j := hc
  exact mod_int' (by omega) (by rw [Int.fmod_eq_emod_of_nonneg i (by omega)]; exact q)
theorem unI {f : Value → Sem Value} {g : Int → Int}
    (rule : ∀ (i : Int) (t : Tok) (s : Shared) (Q : Value → Shared → Prop) (E : Value → Shared → Prop), Q (.int (g i) s.toks) { s with toks := s.toks + 1 } → wpAny (model X.prog X.w) X.A (f (.int i t)) Q E s) :
    UnR X f (rU fun i => .int (g i)) := by
  intro pins s σ H x v Q I rx h
  obtain ⟨i, rfl, q⟩ := h
  obtain ⟨t, rfl⟩ := rx
  exact rule i t s _ _ ⟨.int (g i), H, I.tok _, ⟨_, rfl⟩, q⟩
theorem un_neg : UnR X (unaryOp .USub) (rU fun i => .int (-i)) := unI fun _ _ _ _ _ q => neg_int q
end
def scal : V → V → Bool
  | .non, .non => true | .non, .int _ => true | .int _, .non => true | .non, .bl _ => true | .bl _, .non => true | .non, .str _ => true | .str _, .non => true
  | .int _, .int _ => true | .bl _, .bl _ => true | .str _, .str _ => true | .byt _, .byt _ => true
  | .int _, .str _ => true | .str _, .int _ => true | .bl _, .str _ => true | .str _, .bl _ => true
  | _, _ => false
def rEq : R2 := fun x y H Q => scal x y = true ∧ Q (.bl (decide (x = y))) H
def rNe : R2 := fun x y H Q => scal x y = true ∧ Q (.bl (!decide (x = y))) H
theorem dec_int {i j : Int} : decide (V.int i = V.int j) = (i == j) := by
  rw [Bool.eq_iff_iff]
  simp
theorem dec_bl {i j : Bool} : decide (V.bl i = V.bl j) = (i == j) := by
  rw [Bool.eq_iff_iff]
  simp
theorem dec_str {i j : Str} : decide (V.str i = V.str j) = (i == j) := by
  rw [Bool.eq_iff_iff]
  simp
theorem dec_byt {i j : Array UInt8} : decide (V.byt i = V.byt j) = (i.toList == j.toList) := by
  rw [Bool.eq_iff_iff]
  cases i
  cases j
  simp
section
variable {X : Cx} {a b c : Expr} {ta tb tc : TE} {pos : Pos}
theorem fin_bl {pins : List (Addr × Obj)} {σ : St} {H : Hp} {s : Shared} {Q : VK} {k k' : Bool} (I : Inv X pins σ H s) (q : Q (.bl k) H) (e : k = k') : EP X pins σ Q (.bool k') s := by
  subst e
  exact ⟨.bl k, H, I, rfl, q⟩
theorem op_eq : OpR X (compareOp .Eq) rEq := by
  intro pins s σ H x y v u Q I rx ry h
  obtain ⟨hs, q⟩ := h
  cases x with
  | non =>
    cases rx
    cases y with
    | non => cases ry; exact PySem.EqNone.eq_none_none (fin_bl I q (by simp))
    | bl j => cases ry; exact PySem.EqNone.eq_none_bool (fin_bl I q (by simp))
    | int j => obtain ⟨t', rfl⟩ := ry; exact PySem.EqNone.eq_none_int (fin_bl I q (by simp))
    | str j => obtain ⟨t', rfl⟩ := ry; exact PySem.EqNone.eq_none_str (fin_bl I q (by simp))
    | _ => exact absurd (show false = true from hs) Bool.false_ne_true
  | bl i =>
    cases rx
    cases y with
    | non => cases ry; exact PySem.EqNone.eq_bool_none (fin_bl I q (by simp))
    | bl j => cases ry; exact eq_bool (fin_bl I q dec_bl)
    | str j => obtain ⟨t', rfl⟩ := ry; exact PySem.EqMixed.eq_bool_str (fin_bl I q (by simp))
    | _ => exact absurd (show false = true from hs) Bool.false_ne_true
  | int i =>
    obtain ⟨t, rfl⟩ := rx
    cases y with
    | non => cases ry; exact PySem.EqNone.eq_int_none (fin_bl I q (by simp))
    | int j => obtain ⟨t', rfl⟩ := ry; exact eq_int (fin_bl I q dec_int)
    | str j => obtain ⟨t', rfl⟩ := ry; exact PySem.EqMixed.eq_int_str (fin_bl I q (by simp))
    | _ => exact absurd (show false = true from hs) Bool.false_ne_true
  | str i =>
    obtain ⟨t, rfl⟩ := rx
    cases y with
    | non => cases ry; exact PySem.EqNone.eq_str_none (fin_bl I q (by simp))
    | bl j => cases ry; exact PySem.EqMixed.eq_str_bool (fin_bl I q (by simp))
    | int j => obtain ⟨t', rfl⟩ := ry; exact PySem.EqMixed.eq_str_int (fin_bl I q (by simp))
    | str j => obtain ⟨t', rfl⟩ := ry; exact eq_str (fin_bl I q dec_str)
    | _ => exact absurd (show false = true from hs) Bool.false_ne_true
  | byt i =>
    obtain ⟨t, rfl⟩ := rx
    cases y with
    | byt j => obtain ⟨t', rfl⟩ := ry; exact PySem.W.eq_bytes (fin_bl I q dec_byt)
    | _ => exact absurd (show false = true from hs) Bool.false_ne_true
  | _ => cases y <;> exact absurd (show false = true from hs) Bool.false_ne_true
theorem op_ne : OpR X (compareOp .NotEq) rNe := by
  intro pins s σ H x y v u Q I rx ry h
  obtain ⟨hs, q⟩ := h
  cases x with
  | non =>
    cases rx
    cases y with
    | non => cases ry; exact PySem.EqNone.ne_none_none (fin_bl I q (by simp))
    | bl j => cases ry; exact PySem.EqNone.ne_none_bool (fin_bl I q (by simp))
    | int j => obtain ⟨t', rfl⟩ := ry; exact PySem.EqNone.ne_none_int (fin_bl I q (by simp))
    | str j => obtain ⟨t', rfl⟩ := ry; exact PySem.EqNone.ne_none_str (fin_bl I q (by simp))
    | _ => exact absurd (show false = true from hs) Bool.false_ne_true
  | bl i =>
    cases rx
    cases y with
    | non => cases ry; exact PySem.EqNone.ne_bool_none (fin_bl I q (by simp))
    | bl j => cases ry; exact ne_bool (fin_bl I q (congrArg not dec_bl))
    | str j => obtain ⟨t', rfl⟩ := ry; exact PySem.EqMixed.ne_bool_str (fin_bl I q (by simp))
    | _ => exact absurd (show false = true from hs) Bool.false_ne_true
  | int i =>
    obtain ⟨t, rfl⟩ := rx
    cases y with
    | non => cases ry; exact PySem.EqNone.ne_int_none (fin_bl I q (by simp))
    | int j => obtain ⟨t', rfl⟩ := ry; exact ne_int (fin_bl I q (congrArg not dec_int))
    | str j => obtain ⟨t', rfl⟩ := ry; exact PySem.EqMixed.ne_int_str (fin_bl I q (by simp))
    | _ => exact absurd (show false = true from hs) Bool.false_ne_true
  | str i =>
    obtain ⟨t, rfl⟩ := rx
    cases y with
    | non => cases ry; exact PySem.EqNone.ne_str_none (fin_bl I q (by simp))
    | bl j => cases ry; exact PySem.EqMixed.ne_str_bool (fin_bl I q (by simp))
    | int j => obtain ⟨t', rfl⟩ := ry; exact PySem.EqMixed.ne_str_int (fin_bl I q (by simp))
    | str j => obtain ⟨t', rfl⟩ := ry; exact ne_str (fin_bl I q (congrArg not dec_str))
    | _ => exact absurd (show false = true from hs) Bool.false_ne_true
  | byt i =>
    obtain ⟨t, rfl⟩ := rx
    cases y with
    | byt j => obtain ⟨t', rfl⟩ := ry; exact PySem.W.ne_bytes (fin_bl I q (congrArg not dec_byt))
    | _ => exact absurd (show false = true from hs) Bool.false_ne_true
  | _ => cases y <;> exact absurd (show false = true from hs) Bool.false_ne_true
theorem op_lt : OpR X (compareOp .Lt) (rI0 fun i j => .bl (decide (i < j))) := opB0 fun _ _ _ _ _ _ _ q => lt_int q
theorem op_gt : OpR X (compareOp .Gt) (rI0 fun i j => .bl (decide (j < i))) := opB0 fun _ _ _ _ _ _ _ q => gt_int q
theorem op_ge : OpR X (compareOp .GtE) (rI0 fun i j => .bl (decide (j ≤ i))) := opB0 fun _ _ _ _ _ _ _ q => ge_int q
theorem nomark (b : Expr) {op : CmpOp} (h : op ≠ .In := by decide) (h2 : op ≠ .NotIn := by decide) : behindInMarks op b = false := by
  have e1 : (op == CmpOp.In) = false := by cases op <;> first | rfl | exact absurd rfl h
  have e2 : (op == CmpOp.NotIn) = false := by cases op <;> first | rfl | exact absurd rfl h2
  cases b <;> simp [behindInMarks, e1, e2]
theorem pe_cmpR {op : CmpOp} {r : R2} (ho : OpR X (compareOp op) r) (ha : PE X a ta) (hb : PE X b tb) (hm : behindInMarks op b = false) : PE X (.Compare a [op] [b] pos) (tOp r ta tb) := by
  intro pins s σ H Q I h
  exact wpAny_Compare1 (binT ha hb I h fun v u s2 x y H2 I2 rx ry q => ho pins s2 σ H2 x y v u Q I2 rx ry q) hm
def tTest (t : TE) : TT := fun σ H Q => t σ H fun x H' => ∃ k, x = .bl k ∧ Q k H'
theorem pt_cmpR {op : CmpOp} {r : R2} (ho : OpR X (compareOp op) r) (ha : PE X a ta) (hb : PE X b tb) (hm : behindInMarks op b = false) : PT X (.Compare a [op] [b] pos) (tTest (tOp r ta tb)) := by
  intro pins s σ H Q I h
  refine wpAny_isTrue_Compare1 (thn (ha pins s σ H _ I h) fun v s1 ⟨x, H1, I1, r1, q1⟩ => thn (hb pins s1 σ H1 _ I1 q1) fun u s2 ⟨y, H2, I2, r2, q2⟩ =>
    thn (ho pins s2 σ H2 x y v u _ I2 r1 r2 q2) fun c s3 ⟨z, H3, I3, r3, k, e, q3⟩ => ?_) hm
  subst e
  cases r3
  exact wpAny_truthy_bool ⟨H3, I3, q3⟩
theorem line63 : (sizeLine : Nat) < 2 ^ 63 := by rw [sizeLine_eq]; decide
theorem vals1 {x : V} {us : List Value} (r : Vals [x] us) : ∃ u, us = [u] ∧ RelV x u := by
  cases r with
  | cons r1 r2 => cases r2; exact ⟨_, rfl, r1⟩
end
end L2
namespace L2
open PySem PySem.Spec PyProof.Rows
structure ObjM (h : Heap) (x dx C : Addr) (mA : Str → Option Value) : Prop where
  obj : h.get? x = some (PySem.W.instObj C dx)
  ns : h.Ns1 dx mA
  ne : dx ≠ x
theorem lookIn_ns {h : Heap} {dx : Addr} {mA : Str → Option Value} (n : h.Ns1 dx mA) : ∃ od, h.get? dx = some od ∧ ∀ name, PySem.W.lookIn name od = some (mA name) := by
  obtain ⟨o, es, ep, ho, hd, hk, _, hm⟩ := n
  refine ⟨o, ho, fun name => ?_⟩
  have e := hm name
  unfold nsFind findBy at e
  rw [← Array.find?_toList] at e
  unfold PySem.W.lookIn
  rw [hd]
  dsimp only
  split
  · rename_i y q
    rw [q] at e
    exact congrArg some e
  · rename_i q
    rw [q] at e
    have a : es.toList.any (·.refKey) = false := by
      rw [List.any_eq_false]
      intro y hy
      obtain ⟨z, t, hkey⟩ := hk y (Array.mem_toList_iff.mp hy)
      simp [DictEntry.refKey, hkey]
    have a' : ¬ es.toList.any (·.refKey) = true := by rw [a]; exact Bool.false_ne_true
    rw [if_neg a']
    exact congrArg some e
theorem ObjM.look {h : Heap} {x dx C : Addr} {mA : Str → Option Value} (I : ObjM h x dx C mA) : ∃ od, PySem.W.InstAt h x (PySem.W.instObj C dx) C (some od) ∧ ∀ name, PySem.W.lookIn name od = some (mA name) :=
  let ⟨od, ho, hl⟩ := lookIn_ns I.ns
  ⟨od, ⟨I.obj, rfl, rfl, ho⟩, hl⟩
section
variable {prog : Program} {w : World} {A : Around} {E : Value → Shared → Prop} {s : Shared} {K : PySem.W.Frag} {x dx C f : Addr} {mA : Str → Option Value} {name : Str} {v : Value}
theorem get_map {expr : Bool} {Q : Value → Shared → Prop} (X : K.In s.heap) (I : ObjM s.heap x dx C mA) (hg : PySem.W.plainGet K C name = true) (hh : PySem.W.hasDictIn K C = true)
    (ha : PySem.W.findIn K (.ref C) name = some none) (hv : mA name = some v) (hv' : PySem.W.handedIn v = true) (h : Q v { s with toks := s.toks + 1 }) :
    wpAny (model prog w) A (getAttr (.ref x) name expr) Q E s := by
  obtain ⟨od, J, hl⟩ := I.look
  exact PySem.W.get_value X J (PySem.W.plainGet_of hg).1 (PySem.W.findObj_own hh ha rfl (by rw [hl, hv])) hv' h
theorem set_map {ns : List Str} {Q : Unit → Shared → Prop} (X : K.In s.heap) (I : ObjM s.heap x dx C mA)
    (hs : PySem.W.findIn K (.ref C) "__setattr__" = some (some (.builtin "object.__setattr__"))) (hp : PySem.W.plainOver K C = true) (ht : PySem.W.takerIn K C name = some none) (hh : PySem.W.hasDictIn K C = true)
    (hw : PySem.Within mA ns) (hsz : ns.length ≤ sizeLine)
    (h : ∀ h', ObjM h' x dx C (fun y => if y = name then some v else mA y) → Heap.SameBut dx s.heap h' → Q () { s with heap := h', toks := s.toks + 2 }) :
    wpAny (model prog w) A (setAttr (.ref x) name v) Q E s := by
  obtain ⟨od, J, hl⟩ := I.look
  refine PySem.W.set_plain X J hs (PySem.W.osa_open (s := { s with toks := s.toks + 1 }) (r := none) X J hp ht fun b => ?_)
  obtain ⟨cd, hc, hd'⟩ := PySem.W.any_some hh
  have hx : s.heap.get? x = some ⟨.ref C, some dx, .plain, #[]⟩ := I.obj
  refine wpAny_bind (wpAny_pure (wpAny_bind (wpAny_bind (wpAny_loadPart hx (wpAny_bind (PySem.W.Looks.here (s := { s with toks := s.toks + 1 }) (PySem.W.looks_clsIn X hc) ?_))))))
  rw [hd']
  refine wpAny_pure (a := some dx) (wpAny_bind (wpAny_pure (wpAny_bind ?_)))
  refine wpAny_nsSet1 (s := { s with toks := s.toks + 1 }) I.ns fun h' hn2 hs2 => ?_
  obtain ⟨oD, esD, epD, hoD, hdD, hcD⟩ := hn2.count (PySem.Within.cons name v hw)
  refine wpAny_bind (wpAny_lookBehind hoD (by rw [hdD]; exact pastItsLine_dict (Nat.le_trans hcD (by rw [List.length_cons]; omega))) ?_)
  exact wpAny_pure (h _ ⟨(hs2.2 _ (Ne.symm I.ne)).trans I.obj, hn2, I.ne⟩ hs2)
theorem make_map {R : Result → Shared → Prop} {vs : List Value} {kw : List (Str × Value)} (X : K.In s.heap) (hm : PySem.W.makesIn K C = true)
    (hi : PySem.W.findIn K (.ref C) "__init__" = some (some (.ref f))) (hf : PySem.W.typeIn K (.ref f) = some (.type "function"))
    (h : codeAny (model prog w) (A.under (.builtin "type.__call__" ⟨.ref C :: vs, kw⟩)) (.call (.ref f) ⟨.ref (s.heap.objs.size + 1) :: vs, kw⟩) (PySem.W.InitBack (s.heap.objs.size + 1) R)
      { s with heap := (s.heap.push PySem.W.emptyDict).push (PySem.W.instObj C s.heap.objs.size) }) :
    codeAny (model prog w) A (.call (.ref C) ⟨vs, kw⟩) R s := by
  obtain ⟨hh, g, d, t, os⟩ := s
  exact PySem.W.make_core (PySem.W.makes_of X hm) (PySem.W.looks_findIn X hi) (fun self => PySem.W.bind_fn X self hf) (.inl rfl) h
end
def putF (f : Str) (v : V) : List (Str × V) → List (Str × V)
  | [] => [(f, v)]
  | (g, x) :: r => if g = f then (g, v) :: r else (g, x) :: putF f v r
theorem lookup_putF (f g : Str) (v : V) : ∀ fs : List (Str × V), (putF f v fs).lookup g = if g = f then some v else fs.lookup g
  | [] => by
    show List.lookup g [(f, v)] = _
    by_cases h : g = f
    · have hb : (g == f) = true := beq_iff_eq.mpr h
      simp only [List.lookup, hb, if_pos h]
    · have hb : (g == f) = false := beq_eq_false_iff_ne.mpr h
      simp only [List.lookup, hb, if_neg h]
  | (k, x) :: r => by
    have ih := lookup_putF f g v r
    rw [show putF f v ((k, x) :: r) = (if k = f then (k, v) :: r else (k, x) :: putF f v r) from rfl]
    by_cases hk : k = f
    · rw [if_pos hk]
      by_cases h : g = k
      · have hb : (g == k) = true := beq_iff_eq.mpr h
        simp only [List.lookup, hb, if_pos (h.trans hk)]
      · have hb : (g == k) = false := beq_eq_false_iff_ne.mpr h
        simp only [List.lookup, hb, if_neg (fun e : g = f => h (e.trans hk.symm))]
    · rw [if_neg hk]
      by_cases h : g = k
      · have hb : (g == k) = true := beq_iff_eq.mpr h
        simp only [List.lookup, hb, if_neg (fun e : g = f => hk (h.symm.trans e))]
      · have hb : (g == k) = false := beq_eq_false_iff_ne.mpr h
        simp only [List.lookup, hb]
        exact ih
theorem keys_putF (f : Str) (v : V) : ∀ fs : List (Str × V), f ∈ (putF f v fs).map (·.1) ∧ ∀ g, g ∈ fs.map (·.1) → g ∈ (putF f v fs).map (·.1)
  | [] => ⟨by simp [putF], fun g h => by simp at h⟩
  | (k, x) :: r => by
    obtain ⟨i1, i2⟩ := keys_putF f v r
    rw [show putF f v ((k, x) :: r) = (if k = f then (k, v) :: r else (k, x) :: putF f v r) from rfl]
    by_cases hk : k = f
    · rw [if_pos hk]
      subst hk
      exact ⟨by simp, fun g h => by simpa using h⟩
    · rw [if_neg hk]
      refine ⟨?_, fun g h => ?_⟩
      · rw [List.map_cons]
        exact List.mem_cons_of_mem _ i1
      · rw [List.map_cons] at h ⊢
        rcases List.mem_cons.mp h with e | e
        · exact List.mem_cons.mpr (.inl e)
        · exact List.mem_cons_of_mem _ (i2 g e)
theorem length_putF (f : Str) (v : V) : ∀ fs : List (Str × V), (putF f v fs).length ≤ fs.length + 1
  | [] => by simp [putF]
  | (k, x) :: r => by
    have ih := length_putF f v r
    rw [show putF f v ((k, x) :: r) = (if k = f then (k, v) :: r else (k, x) :: putF f v r) from rfl]
    by_cases hk : k = f
    · rw [if_pos hk, List.length_cons, List.length_cons]; omega
    · rw [if_neg hk, List.length_cons, List.length_cons]; omega
theorem RelO.some_of {v : V} {o : Option Value} (r : RelO (some v) o) : ∃ u, o = some u ∧ RelV v u := by
  cases o with
  | none => exact (show False from r).elim
  | some u => exact ⟨u, rfl, r⟩
theorem handed_of {v : V} {u : Value} (r : RelV v u) : PySem.W.handedIn u = true := by
  cases v with
  | non => cases (show u = Value.none from r); rfl
  | bl b => cases (show u = Value.bool b from r); rfl
  | int i => obtain ⟨t, e⟩ := (show ∃ t, u = Value.int i t from r); cases e; rfl
  | str x => obtain ⟨t, e⟩ := (show ∃ t, u = Value.str x t from r); cases e; rfl
  | byt b => obtain ⟨t, e⟩ := (show ∃ t, u = Value.bytes b t from r); cases e; rfl
  | flt b => obtain ⟨t, e⟩ := (show ∃ t, u = Value.float b t from r); cases e; rfl
  | ref a => cases (show u = Value.ref a from r); rfl
  | ty n => cases (show u = Value.type n from r); rfl
section
variable {P : Program} {w : World} {H H' : Hp} {h h' : Heap} {a C dx : Addr} {fs fs' : List (Str × V)}
theorem ins_get (hok : HOk P w H h) (e : H a = some (.ins C dx fs)) : ∃ mA, ObjM h a dx C mA ∧ (∀ f, RelO (fs.lookup f) (mA f)) ∧ PySem.Within mA (fs.map (·.1)) ∧ fs.length ≤ 1000 ∧ H dx = some (.own a) := by
  obtain ⟨d, z, ne, ob, mA, n, r, q⟩ := (show ObjOk P w H h a (.ins C dx fs) from hok a _ e)
  exact ⟨mA, ⟨ob, n, ne⟩, r, q, z, d⟩
end
structure Cls (K : PySem.W.Frag) (C : Addr) : Prop where
  pg : PySem.W.plainGet K C Str.empty = true
  hd : PySem.W.hasDictIn K C = true
  po : PySem.W.plainOver K C = true
  sa : PySem.W.findIn K (.ref C) "__setattr__" = some (some (.builtin "object.__setattr__"))
theorem Cls.get {K : PySem.W.Frag} {C : Addr} (c : Cls K C) (f : Str) : PySem.W.plainGet K C f = true := c.pg
def NoAttr (K : PySem.W.Frag) (C : Addr) (f : Str) : Prop := PySem.W.findIn K (.ref C) f = some none
theorem NoAttr.taker {K : PySem.W.Frag} {C : Addr} {f : Str} (n : NoAttr K C f) : PySem.W.takerIn K C f = some none := by
  unfold PySem.W.takerIn
  rw [show PySem.W.findIn K (.ref C) f = some none from n]
  rfl
section
variable {X : Cx} {pins : List (Addr × Obj)} {σ : St} {H : Hp} {s : Shared} {a C dx : Addr} {fs : List (Str × V)} {f : Str} {v : V} {A : Around} {E : Value → Shared → Prop}
theorem getattr_ok {b : Bool} {Q : Value → Shared → Prop} (I : Inv X pins σ H s) (e : H a = some (.ins C dx fs)) (c : Cls X.K C) (n : NoAttr X.K C f) (l : fs.lookup f = some v)
    (h : ∀ u s', Inv X pins σ H s' → RelV v u → Q u s') : wpAny (model X.prog X.w) A (getAttr (.ref a) f b) Q E s := by
  obtain ⟨mA, O, r, _, _, _⟩ := ins_get I.hok e
  obtain ⟨u, hu, ru⟩ := RelO.some_of (v := v) (o := mA f) (by rw [← l]; exact r f)
  exact get_map I.kIn O (c.get f) c.hd n hu (handed_of ru) (h u _ (I.tok _) ru)
theorem setattr_ok {y : V} {u : Value} {Q : Unit → Shared → Prop} (I : Inv X pins σ H s) (e : H a = some (.ins C dx fs)) (c : Cls X.K C) (n : NoAttr X.K C f) (hl : fs.length < 1000) (ry : RelV y u)
    (h : ∀ s', Inv X pins σ (upd H a (.ins C dx (putF f y fs))) s' → Q () s') : wpAny (model X.prog X.w) A (setAttr (.ref a) f u) Q E s := by
  obtain ⟨mA, O, r, wi, _, ho⟩ := ins_get I.hok e
  have hz : (fs.map (·.1)).length ≤ sizeLine := by rw [List.length_map, sizeLine_eq]; omega
  refine set_map I.kIn O c.sa c.po n.taker c.hd wi hz fun h' O' sb => h _ ?_
  have hd : ∃ o, h'.get? dx = some o := let ⟨o, _, _, e', _⟩ := O'.ns; ⟨o, e'⟩
  refine I.write (x := a) (e := dx) (by rw [e]; exact True.intro) (.inr ho) (fun b q hb z => (sb.2 b hb).trans z) hd ?_
  refine ⟨by rw [upd_ne O.ne]; exact ho, ?_, O.ne, O'.obj, _, O'.ns, fun g => ?_, fun g hg => ?_⟩
  · have := length_putF f y fs; omega
  · show RelO ((putF f y fs).lookup g) (if g = f then some u else mA g)
    rw [lookup_putF]
    by_cases q : g = f
    · rw [if_pos q, if_pos q]; exact ry
    · rw [if_neg q, if_neg q]; exact r g
  · by_cases q : g = f
    · rw [q]; exact (keys_putF f y fs).1
    · refine (keys_putF f y fs).2 g (wi g fun z => hg ?_)
      show (if g = f then some u else mA g) = none
      rw [if_neg q]; exact z
theorem Inv.made (I : Inv X pins σ H s) : Inv X pins σ (upd (upd H s.heap.objs.size (.own (s.heap.objs.size + 1))) (s.heap.objs.size + 1) (.ins C s.heap.objs.size []))
    { s with heap := (s.heap.push PySem.W.emptyDict).push (PySem.W.instObj C s.heap.objs.size) } := by
  have e1 : (s.heap.push PySem.W.emptyDict).get? s.heap.objs.size = some PySem.W.emptyDict := Heap.get?_push_size s.heap rfl
  have e2 : ((s.heap.push PySem.W.emptyDict).push (PySem.W.instObj C s.heap.objs.size)).get? (s.heap.objs.size + 1) = some (PySem.W.instObj C s.heap.objs.size) := by
    have := Heap.get?_push_size (s.heap.push PySem.W.emptyDict) (o := PySem.W.instObj C s.heap.objs.size) rfl
    rwa [Heap.size_push] at this
  have e3 : (s.heap.push PySem.W.emptyDict).Ns s.heap.objs.size (fun _ => none) := ⟨PySem.W.emptyDict, #[], _, e1, rfl, (fun e he => absurd he (by simp)), fun _ => rfl⟩
  have I1 := I.laid (a := s.heap.objs.size) (o := .own (s.heap.objs.size + 1)) (h' := s.heap.push PySem.W.emptyDict) (t' := s.toks) (fun b u q => Heap.get?_push_of_some _ q) (Nat.le_refl _) ⟨_, e1⟩
  refine I1.laid (a := s.heap.objs.size + 1) (o := .ins C s.heap.objs.size []) (t' := s.toks) (fun b u q => Heap.get?_push_of_some _ q) (Nat.le_of_eq (Heap.size_push _ _)) ?_
  have ne : s.heap.objs.size ≠ s.heap.objs.size + 1 := Nat.ne_of_lt (Nat.lt_succ_self _)
  refine ⟨by rw [upd_ne ne, upd_same], Nat.zero_le _, ne, e2, fun _ => none, (Heap.Ns1.of_empty e3).at fun o q => Heap.get?_push_of_some _ q, fun _ => True.intro, fun y hy => absurd rfl hy⟩
theorem attr_of {prog : Program} {w : World} {env : Env} {e : Expr} {f : Str} {pos : Pos} {s : Shared} {Q : Value → Shared → Prop} (hb : attributeBase e f env (eval e env) = eval e env)
    (h : wpAny (model prog w) A (eval e env) (fun o s₁ => wpAny (model prog w) A (getAttr o f true) Q E s₁) E s) : wpAny (model prog w) A (eval (.Attribute e f pos) env) Q E s :=
  Attribute_any_ h (by rw [arm_eval_Attribute, hb])
end
def tFld (K : PySem.W.Frag) (ta : TE) (f : Str) : TE := fun σ H Q => ta σ H fun x H1 => ∃ a C dx fs v, x = .ref a ∧ H1 a = some (.ins C dx fs) ∧ Cls K C ∧ NoAttr K C f ∧ fs.lookup f = some v ∧ Q v H1
def sFld (K : PySem.W.Frag) (ta tv : TE) (f : Str) : TS := fun D σ H => tv σ H fun y H1 => ta σ H1 fun x H2 => ∃ a C dx fs, x = .ref a ∧ H2 a = some (.ins C dx fs) ∧ Cls K C ∧ NoAttr K C f ∧ fs.length < 1000 ∧
  D.nx σ (upd H2 a (.ins C dx (putF f y fs)))
section
variable {X : Cx} {o e value : Expr} {f : Str} {pos pos' tpos : Pos} {ta tv : TE}
theorem pe_fld (he : PE X e ta) (hb : attributeBase e f X.env (eval e X.env) = eval e X.env) : PE X (.Attribute e f pos) (tFld X.K ta f) := by
  intro pins s σ H Q I h
  refine attr_of hb (thn (he pins s σ H _ I h) fun u s1 ⟨x, H1, I1, rx, a, C, dx, fs, v, ex, ea, c, n, l, q⟩ => ?_)
  subst ex
  obtain rfl : u = Value.ref a := rx
  exact getattr_ok I1 ea c n l fun u' s2 I2 ru => ⟨v, H1, I2, ru, q⟩
theorem ps_fld (ha : PE X o ta) (hv : PE X value tv) (hs : swapsWith value (some (.Attribute o f pos')) pos.line X.env = pure false) : PS X (.Assign [.Attribute o f pos'] value pos) (sFld X.K ta tv f) := by
  intro pins s σ H D I h
  refine plainObj_wpAny_Assign_Attribute (thn (hv pins s σ H _ I h) fun u s1 ⟨y, H1, I1, ry, q⟩ => thn (ha pins s1 σ H1 _ I1 q) fun ov s2 ⟨x, H2, I2, rx, a, C, dx, fs, ex, ea, c, n, l, q2⟩ => ?_) hs
  subst ex
  obtain rfl : ov = Value.ref a := rx
  exact setattr_ok I2 ea c n l ry fun s3 I3 => ⟨σ, _, I3, q2⟩
end
end L2
namespace L2
open PySem PySem.Spec PyProof.Rows
structure Room (k : Nat) (A : Around) : Prop where
  hd : A.handled = none
  dp : A.depth + 3 * k + 5 < recursionLimit
  un : A.units + 16 * k + 200 < cLine
theorem Room.mono {j k : Nat} {A : Around} (r : Room k A) (h : j ≤ k) : Room j A := ⟨r.hd, by have := r.dp; omega, by have := r.un; omega⟩
theorem Room.deeper {k : Nat} {A : Around} (r : Room (k + 1) A) (env : Env) : Room k (A.deeper env) :=
  ⟨r.hd, by have := r.dp; show A.depth + 1 + 3 * k + 5 < _; omega, by have := r.un; show A.units + 3 + 16 * k + 200 < _; omega⟩
theorem Room.in1 {k : Nat} {A : Around} (r : Room (k + 1) A) : Room k A.in1 :=
  ⟨r.hd, by have := r.dp; show A.depth + 3 * k + 5 < _; omega, by have := r.un; show A.units + 1 + 16 * k + 200 < _; omega⟩
theorem make_depth {A : Around} {C : Addr} {us : List Value} {kw : List (Str × Value)} : (A.under (.builtin "type.__call__" ⟨.ref C :: us, kw⟩)).depth = A.depth + 1 := by
  first | rfl | simp [Around.under, Code.weight, Code.isCreation, Code.isGuard, Code.isCaller, Code.frames, Code.isFrame, guardIds]
theorem make_units {A : Around} {C : Addr} {us : List Value} {kw : List (Str × Value)} : (A.under (.builtin "type.__call__" ⟨.ref C :: us, kw⟩)).units = A.units + 1 := by
  first | rfl | simp [Around.under, Code.cUnits, Code.frames, Code.isFrame]
theorem Room.make {k : Nat} {A : Around} (r : Room (k + 1) A) (C : Addr) (us : List Value) (kw : List (Str × Value)) : Room k (A.under (.builtin "type.__call__" ⟨.ref C :: us, kw⟩)) :=
  ⟨r.hd, by have := r.dp; rw [make_depth]; omega, by have := r.un; rw [make_units]; omega⟩
theorem Room.depth {k : Nat} {A : Around} (r : Room k A) : A.depth < recursionLimit := by have := r.dp; omega
theorem Room.units {k : Nat} {A : Around} (r : Room k A) : A.units + 64 < cLine := by have := r.un; omega
def tNil : TA := fun _ H Q => Q [] H
def tCons (ta : TE) (tr : TA) : TA := fun σ H Q => ta σ H fun x H1 => tr σ H1 fun xs H2 => Q (x :: xs) H2
section
variable {X : Cx} {e : Expr} {es : List Expr} {te : TE} {t : TA} {pos : Pos}
theorem pa_nil : PA X [] tNil := fun _ _ _ _ H Q I h => Calls.spliced_nil ⟨[], H, I, .nil, h⟩
theorem pa_cons (ha : PE X e te) (hr : PA X es t) (hs : starEach (e :: es) X.env = (false, eval e X.env) :: starEach es X.env := by rfl) : PA X (e :: es) (tCons te t) := by
  intro pos pins s σ H Q I h
  rw [hs]
  show wpAny _ _ (spliced ((false, eval e X.env) :: backTo pos (starEach es X.env))) _ _ s
  refine Calls.spliced_cons (thn (ha pins s σ H _ I h) fun u s1 ⟨x, H1, I1, r1, q1⟩ => ?_)
  exact thn (hr pos pins s1 σ H1 _ I1 q1) fun us s2 ⟨xs, H2, I2, r2, q2⟩ => ⟨x :: xs, H2, I2, .cons r1 r2, q2⟩
def tTup (t : TA) : TE := fun σ H Q => t σ H fun xs H1 => xs.length ≤ sizeLine ∧ ∀ p, H1 p = none → Q (.ref p) (upd H1 p (.tup xs))
def tLst (t : TA) : TE := fun σ H Q => t σ H fun xs H1 => xs.length ≤ sizeLine ∧ ∀ p, H1 p = none → Q (.ref p) (upd H1 p (.lst xs))
theorem pe_tup {x1} (h : PA X es t) : PE X (.Tuple es x1 pos) (tTup t) := by
  intro pins s σ H Q I hq
  refine wpAny_Tuple_spliced (thn (h pos pins s σ H _ I hq) fun us s1 ⟨xs, H1, I1, r, z, q⟩ => ⟨by rw [← r.length]; exact z, ?_⟩)
  have hf : H1 s1.heap.objs.size = none := I1.hok.fresh (Nat.le_refl _)
  refine ⟨.ref s1.heap.objs.size, upd H1 s1.heap.objs.size (.tup xs), I1.laid (t' := s1.toks) (fun b u e => Heap.get?_push_of_some _ e) (Nat.le_refl _) ?_, rfl, q _ hf⟩
  exact ⟨z, us, r, ⟨_, Heap.get?_push_size _ rfl, rfl, _, rfl⟩⟩
theorem pe_lst (h : PA X es t) : PE X (.List es pos) (tLst t) := by
  intro pins s σ H Q I hq
  refine wpAny_List_spliced (thn (h pos pins s σ H _ I hq) fun us s1 ⟨xs, H1, I1, r, z, q⟩ => ⟨by rw [← r.length]; exact z, ?_⟩)
  have hf : H1 s1.heap.objs.size = none := I1.hok.fresh (Nat.le_refl _)
  refine ⟨.ref s1.heap.objs.size, upd H1 s1.heap.objs.size (.lst xs), I1.laid (t' := s1.toks) (fun b u e => Heap.get?_push_of_some _ e) (Nat.le_refl _) ?_, rfl, q _ hf⟩
  exact ⟨z, us, 0, r, Heap.get?_push_size _ rfl⟩
end
abbrev Sp := List V → Hp → VK → XK → Prop
abbrev CXT := List Env → Hp → Shared → XK → Value → Shared → Prop
structure Env0 (P : Program) (w : World) (K : PySem.W.Frag) (mg : Str → Option Value) (base : Heap) (A : Around) (outer : List Env) (s : Shared) (H : Hp) : Prop where
  frames : A.frames = some outer
  mod : Mod K mg base
  bs : ∀ b o, base.get? b = some o → s.heap.get? b = some o ∧ H b = none
  bsz : base.objs.size ≤ s.heap.objs.size
  funs : s.heap.FunFrames base outer
  frf : ∀ b ∈ frs outer, H b = none
  hok : HOk P w H s.heap
  bare : AllBare s.gens
def CE (outer : List Env) (P : Program) (w : World) (H : Hp) (s : Shared) (Q : VK) (u : Value) (s' : Shared) : Prop :=
  ∃ v H', s'.os = s.os ∧ AllBare s'.gens ∧ Un (frs outer) [] H H' s.heap s'.heap ∧ HOk P w H' s'.heap ∧ RelV v u ∧ Q v H'
def CR (CX : CXT) (outer : List Env) (P : Program) (w : World) (H : Hp) (s : Shared) (Q : VK) (E : XK) (r : Result) (s' : Shared) : Prop :=
  match r with
  | .ok (.ret u) => CE outer P w H s Q u s'
  | .ok _ => False
  | .error e => CX outer H s E e s'
structure FnOk (P : Program) (w : World) (K : PySem.W.Frag) (mg : Str → Option Value) (base : Heap) (CX : CXT) (k : Nat) (f : Addr) (fd : FuncData) (ps : List Str) (sp : Sp) : Prop where
  len : ∀ vs H Q E, sp vs H Q E → vs.length = ps.length
  run : ∀ (A : Around) (outer : List Env) (s : Shared) (H : Hp) (args : Args) (us : List Value) (vs : List V) (Q : VK) (E : XK), Room k A → Env0 P w K mg base A outer s H → BindsTo s fd args (ps.zip us) → Vals vs us → sp vs H Q E →
    codeAny (model P w) A (.call (.ref f) args) (CR CX outer P w H s Q E) s
theorem FnOk.mono {P : Program} {w : World} {K : PySem.W.Frag} {mg : Str → Option Value} {base : Heap} {CX : CXT} {j k : Nat} {f : Addr} {fd : FuncData} {ps : List Str} {sp : Sp} (F : FnOk P w K mg base CX j f fd ps sp) (h : j ≤ k) :
    FnOk P w K mg base CX k f fd ps sp := ⟨F.len, fun A outer s H args us vs Q E hr => F.run A outer s H args us vs Q E (hr.mono h)⟩
theorem Env0.make {P : Program} {w : World} {K : PySem.W.Frag} {mg : Str → Option Value} {base : Heap} {A : Around} {outer : List Env} {s : Shared} {H : Hp} (e : Env0 P w K mg base A outer s H) (C : Addr) (us : List Value) (kw : List (Str × Value)) :
    Env0 P w K mg base (A.under (.builtin "type.__call__" ⟨.ref C :: us, kw⟩)) outer s H := ⟨by first | exact e.frames | (simpa [Around.under, Code.envs, Code.isFrame, pushEnvs] using e.frames), e.mod, e.bs, e.bsz, e.funs, e.frf, e.hok, e.bare⟩
section
variable {X : Cx} {pins : List (Addr × Obj)} {σ : St} {H : Hp} {s s' : Shared}
theorem Inv.env0 (I : Inv X pins σ H s) : Env0 X.prog X.w X.K X.mg X.base X.A X.stack s H :=
  ⟨I.ok.frames, I.ok.mod, I.bs, Nat.le_trans I.ok.bsz I.sz, I.stack, I.stkFree, I.hok, I.bare⟩
theorem Inv.after {Q : VK} {u : Value} (I : Inv X pins σ H s) (h : CE X.stack X.prog X.w H s Q u s') : EP X pins σ Q u s' := by
  obtain ⟨v, H', os, bare, un, hok, r, q⟩ := h
  obtain ⟨hh, g, d, t, os'⟩ := s'
  obtain rfl : os' = s.os := os
  exact ⟨v, H', I.call (h' := hh) (g' := g) (d' := d) (t' := t) (ch := []) un hok bare (fun b z => absurd z (by simp)), r, q⟩
end
def tCall (sp : Sp) (dvs : List V) (E : XK) (t : TA) : TE := fun σ H Q => t σ H fun vs H1 => sp (vs ++ dvs) H1 Q E
def tMake (C : Addr) (sp : Sp) (dvs : List V) (E : XK) (t : TA) : TE := fun σ H Q => t σ H fun vs H1 => ∀ x dx, H1 x = none → H1 dx = none → dx ≠ x →
  sp (.ref x :: (vs ++ dvs)) (upd (upd H1 dx (.own x)) x (.ins C dx [])) (fun v H2 => v = .non ∧ Q (.ref x) H2) E
def Binds (K : PySem.W.Frag) (fd : FuncData) (ps : List Str) (ds : List Value) : Prop :=
  ∀ (s : Shared) (us : List Value), K.In s.heap → (us ++ ds).length = ps.length → BindsTo s fd ⟨us, []⟩ (ps.zip (us ++ ds))
theorem Binds.all {K : PySem.W.Frag} {fd : FuncData} {ps : List Str} (h : ∀ us : List Value, us.length = ps.length → bindArgs fd ⟨us, []⟩ = pure (ps.zip us)) : Binds K fd ps [] := fun s us _ hl => by
  rw [List.append_nil] at hl ⊢
  exact .of_eq (h us hl)
def Passes (CX : CXT) (X : Cx) (E : XK) : Prop := ∀ (pins : List (Addr × Obj)) (σ : St) (H : Hp) (s : Shared) (e : Value) (s' : Shared), Inv X pins σ H s → CX X.stack H s E e s' → X.xe e s'
section
variable {X : Cx} {CX : CXT} {k : Nat} {f C : Addr} {fd : FuncData} {ps : List Str} {sp : Sp} {dvs : List V} {ds : List Value} {E : XK} {x m : Str} {p pos apos : Pos} {e o : Expr} {es : List Expr} {ta : TE} {t : TA}
theorem run_fn {pins : List (Addr × Obj)} {σ : St} {H : Hp} {s : Shared} {Q : VK} {us : List Value} {vs : List V} (F : FnOk X.prog X.w X.K X.mg X.base CX k f fd ps sp) (hr : Room k X.A) (hb : Binds X.K fd ps ds) (hd : Vals dvs ds) (hx : Passes CX X E)
    (I : Inv X pins σ H s) (r : Vals vs us) (h : sp (vs ++ dvs) H Q E) : wpAny (model X.prog X.w) X.A (call (.ref f) us) (EP X pins σ Q) X.xe s := by
  have r2 : Vals (vs ++ dvs) (us ++ ds) := r.append hd
  have hl : (us ++ ds).length = ps.length := by rw [← r2.length]; exact F.len _ _ _ _ h
  refine wpAny_call (codeAny_mono (F.run X.A X.stack s H ⟨us, []⟩ (us ++ ds) (vs ++ dvs) Q E hr I.env0 (hb s us I.kIn hl) r2 h) fun r s' hq => ?_)
  cases r with
  | error e => exact hx pins σ H s e s' I hq
  | ok fl =>
    cases fl with
    | ret u => exact I.after hq
    | next => exact False.elim hq
    | brk => exact False.elim hq
    | cont => exact False.elim hq
theorem pe_call (F : FnOk X.prog X.w X.K X.mg X.base CX k f fd ps sp) (hr : Room k X.A) (hg : Gl X x) (hm : X.mg x = some (.ref f)) (hk : PySem.W.keepIn X.K (.ref f) = true) (hb : Binds X.K fd ps ds) (hd : Vals dvs ds) (hx : Passes CX X E)
    (ha : PA X (e :: es) t) (hdb : (x == ("__debug__" : Str)) = false := by decide) (he : starEach (e :: es) X.env = (false, eval e X.env) :: starEach es X.env := by rfl) (hpl : (backTo pos (starEach es X.env)).any (·.1) = false := by rfl) :
    PE X (.Call (.Name x p) (e :: es) [] pos) (tCall sp dvs E t) := by
  intro pins s σ H Q I h
  refine wpAny_Call_Name_kw (ld_glob I hg hm ?_ hdb)
  refine PySem.W.callWith_K (h₀ := X.base) I.ok.mod.kin hk (thn (ha pos pins s σ H _ I h) fun us s1 ⟨vs, H1, I1, r, q⟩ => ⟨I1.kIn, ?_⟩) he hpl
  exact run_fn F hr hb hd hx I1 r q
structure Mk (K : PySem.W.Frag) (C f : Addr) : Prop where
  makes : PySem.W.makesIn K C = true
  init : PySem.W.findIn K (.ref C) "__init__" = some (some (.ref f))
  fn : PySem.W.isFn K (.ref f) = true
  kp : PySem.W.keepIn K (.ref C) = true
theorem run_make {pins : List (Addr × Obj)} {σ : St} {H : Hp} {s : Shared} {Q : VK} {us : List Value} {vs : List V} (M : Mk X.K C f) (F : FnOk X.prog X.w X.K X.mg X.base CX k f fd ps sp) (hr : Room (k + 1) X.A) (hb : Binds X.K fd ps ds) (hd : Vals dvs ds)
    (hx : Passes CX X E) (I : Inv X pins σ H s) (r : Vals vs us)
    (h : ∀ x dx, H x = none → H dx = none → dx ≠ x → sp (.ref x :: (vs ++ dvs)) (upd (upd H dx (.own x)) x (.ins C dx [])) (fun v H2 => v = .non ∧ Q (.ref x) H2) E) :
    wpAny (model X.prog X.w) X.A (call (.ref C) us) (EP X pins σ Q) X.xe s := by
  have hq := h (s.heap.objs.size + 1) s.heap.objs.size (I.hok.fresh (Nat.le_succ _)) (I.hok.fresh (Nat.le_refl _)) (Nat.ne_of_lt (Nat.lt_succ_self _))
  have I2 := Inv.made (C := C) I
  have r2 : Vals (V.ref (s.heap.objs.size + 1) :: (vs ++ dvs)) (Value.ref (s.heap.objs.size + 1) :: (us ++ ds)) := .cons rfl (r.append hd)
  have hl : (Value.ref (s.heap.objs.size + 1) :: us ++ ds).length = ps.length := by
    have e := r2.length
    rw [F.len _ _ _ _ hq] at e
    exact e.symm
  refine wpAny_call (make_map (f := f) I.kIn M.makes M.init (beq_iff_eq.mp M.fn) (codeAny_mono (F.run _ X.stack _ _ ⟨Value.ref (s.heap.objs.size + 1) :: us, []⟩ (Value.ref (s.heap.objs.size + 1) :: (us ++ ds)) _ _ E (hr.make C us [])
    (I2.env0.make C us []) (hb _ (Value.ref (s.heap.objs.size + 1) :: us) I2.kIn hl) r2 hq) fun r s' hq' => ?_))
  cases r with
  | error e => exact hx pins σ _ _ e s' I2 hq'
  | ok fl =>
    cases fl with
    | ret u =>
      obtain ⟨v, H', I3, rv, ev, q3⟩ := I2.after hq'
      subst ev
      exact ⟨rv, ⟨V.ref (s.heap.objs.size + 1), H', I3, rfl, q3⟩⟩
    | next => exact False.elim hq'
    | brk => exact False.elim hq'
    | cont => exact False.elim hq'
theorem pe_make (M : Mk X.K C f) (F : FnOk X.prog X.w X.K X.mg X.base CX k f fd ps sp) (hr : Room (k + 1) X.A) (hg : Gl X x) (hm : X.mg x = some (.ref C)) (hb : Binds X.K fd ps ds) (hd : Vals dvs ds) (hx : Passes CX X E)
    (ha : PA X (e :: es) t) (hdb : (x == ("__debug__" : Str)) = false := by decide) (he : starEach (e :: es) X.env = (false, eval e X.env) :: starEach es X.env := by rfl) (hpl : (backTo pos (starEach es X.env)).any (·.1) = false := by rfl) :
    PE X (.Call (.Name x p) (e :: es) [] pos) (tMake C sp dvs E t) := by
  intro pins s σ H Q I h
  refine wpAny_Call_Name_kw (ld_glob I hg hm ?_ hdb)
  refine PySem.W.callWith_K (h₀ := X.base) I.ok.mod.kin M.kp (thn (ha pos pins s σ H _ I h) fun us s1 ⟨vs, H1, I1, r, q⟩ => ⟨I1.kIn, ?_⟩) he hpl
  exact run_make M F hr hb hd hx I1 r q
end
def PK (X : Cx) (kws : List Keyword) (t : TA) : Prop :=
  ∀ (pos : Pos) (pins : List (Addr × Obj)) (s : Shared) (σ : St) (H : Hp) (Q : List V → Hp → Prop), Inv X pins σ H s → t σ H Q → wpAny (model X.prog X.w) X.A (evalAll ((backToKw pos (keywordEach kws X.env)).map (·.2))) (AP X pins σ Q) X.xe s
section
variable {X : Cx} {CX : CXT} {k : Nat} {f C : Addr} {fd : FuncData} {ps ks : List Str} {sp : Sp} {E : XK} {x m : Str} {p pos apos kpos : Pos} {e o : Expr} {es : List Expr} {kws : List Keyword} {te ta : TE} {t tk : TA} {nm : Option Str}
theorem pk_nil : PK X [] tNil := fun _ _ _ _ H Q I h => wpAny_evalAll_nil ⟨[], H, I, .nil, h⟩
theorem pk_cons (ha : PE X e te) (hr : PK X kws t) : PK X (⟨nm, e, kpos⟩ :: kws) (tCons te t) := by
  intro pos pins s σ H Q I h
  show wpAny _ _ (evalAll ((do let v ← eval e X.env; standAt pos; pure v) :: (backToKw pos (keywordEach kws X.env)).map (·.2))) _ _ s
  refine wpAny_evalAll_cons (wpAny_bind (thn (ha pins s σ H _ I h) fun u s1 ⟨x, H1, I1, r1, q1⟩ => wpAny_bind (wpAny_standAt (wpAny_pure ?_))))
  exact thn (hr pos pins s1 σ H1 _ I1 q1) fun us s2 ⟨xs, H2, I2, r2, q2⟩ => ⟨x :: xs, H2, I2, .cons r1 r2, q2⟩
variable {g : List Value → List Value → List Value} {gV : List V → List V → List V}
end
structure FnScope (N P : List Str) (sc : Scope) : Prop where
  kind : sc.kind = .function
  co : sc.isCoroutine = false
  gen : sc.isGenerator = false
  nd : N.Nodup
  pre : N.take P.length = P
  par : ∀ x ∈ P, sc.names.lookup x = some .local ∨ sc.names.lookup x = some .cell
  nofree : ∀ y ∈ sc.names, y.2 ≠ .free
theorem bindL_out {kindOf : Str → Option NameKind} {x : Str} : ∀ {binds : List (Str × Value)} {m : Str → Option Value}, (∀ v, (x, v) ∉ binds) → bindL kindOf binds m x = m x
  | [], _, _ => rfl
  | (n, v) :: r, m, h => by
    unfold bindL
    rw [bindL_out fun w hw => h w (List.mem_cons_of_mem _ hw)]
    split
    · have : x ≠ n := by rintro rfl; exact h v List.mem_cons_self
      simp [this]
    · rfl
theorem bindC_out {kindOf : Str → Option NameKind} {x : Str} : ∀ {binds : List (Str × Value)} {m : Str → Option Value}, (∀ v, (x, v) ∉ binds) → bindC kindOf binds m x = m x
  | [], _, _ => rfl
  | (n, v) :: r, m, h => by
    unfold bindC
    rw [bindC_out fun w hw => h w (List.mem_cons_of_mem _ hw)]
    split
    · rfl
    · have : x ≠ n := by rintro rfl; exact h v List.mem_cons_self
      simp [this]
theorem bindL_get {kindOf : Str → Option NameKind} {x : Str} {v : Value} : ∀ {P : List Str} {vs : List Value} {i : Nat} {m : Str → Option Value}, P.Nodup → P[i]? = some x → vs[i]? = some v → kindOf x = some .local →
    bindL kindOf (P.zip vs) m x = some v
  | [], _, _, _, _, h, _, _ => by simp at h
  | _ :: _, [], _, _, _, _, h, _ => by simp at h
  | p :: P, w :: vs, 0, m, nd, h1, h2, hk => by
    simp at h1 h2; subst h1; subst h2
    show bindL kindOf ((p, w) :: P.zip vs) m p = _
    unfold bindL
    rw [bindL_out fun v hv => (List.nodup_cons.mp nd).1 (List.of_mem_zip hv).1, if_pos hk]
    simp
  | p :: P, w :: vs, i + 1, m, nd, h1, h2, hk => by
    show bindL kindOf ((p, w) :: P.zip vs) m x = _
    unfold bindL
    exact bindL_get (i := i) (List.nodup_cons.mp nd).2 (by simpa using h1) (by simpa using h2) hk
theorem bindC_get {kindOf : Str → Option NameKind} {x : Str} {v : Value} : ∀ {P : List Str} {vs : List Value} {i : Nat} {m : Str → Option Value}, P.Nodup → P[i]? = some x → vs[i]? = some v → kindOf x ≠ some .local →
    bindC kindOf (P.zip vs) m x = some v
  | [], _, _, _, _, h, _, _ => by simp at h
  | _ :: _, [], _, _, _, _, h, _ => by simp at h
  | p :: P, w :: vs, 0, m, nd, h1, h2, hk => by
    simp at h1 h2; subst h1; subst h2
    show bindC kindOf ((p, w) :: P.zip vs) m p = _
    unfold bindC
    rw [bindC_out fun v hv => (List.nodup_cons.mp nd).1 (List.of_mem_zip hv).1, if_neg hk]
    simp
  | p :: P, w :: vs, i + 1, m, nd, h1, h2, hk => by
    show bindC kindOf ((p, w) :: P.zip vs) m x = _
    unfold bindC
    exact bindC_get (i := i) (List.nodup_cons.mp nd).2 (by simpa using h1) (by simpa using h2) hk
def start (N : List Str) (vs : List V) : St := vs.map some ++ List.replicate (N.length - vs.length) none
def cxOf (CX : CXT) (P : Program) (w : World) (K : PySem.W.Frag) (mg : Str → Option Value) (base : Heap) (N : List Str) (qual : Str) (scope : Scope) (f : Addr) (cd : Value) (A : Around) (outer : List Env) (s : Shared) (H : Hp) (E : XK) : Cx where
  prog := P
  w := w
  K := K
  mg := mg
  base := base
  A := A.deeper (envOfC qual scope s.heap.objs.size f cd)
  N := N
  s_0 := s
  H_0 := H
  env := envOfC qual scope s.heap.objs.size f cd
  outer := outer
  stack := envOfC qual scope s.heap.objs.size f cd :: outer
  ex := []
  calm := true
  fn := fun _ => true
  pn := []
  xe := fun e s' => wpAny (model P w) (A.deeper (envOfC qual scope s.heap.objs.size f cd)) (leaving (envOfC qual scope s.heap.objs.size f cd) e) (fun _ s'' => CX outer H s E e s'') (fun e' s'' => CX outer H s E e' s'') s'
theorem cell_has {sc : Scope} {n : Nat} {x : Str} (h : sc.names.lookup x = some .cell) : ∃ c, (cellsFrom n sc.names []).lookup x = some c := by
  have q := PySem.W.cellsFrom_some sc.names n [] (.inl h)
  exact Option.isSome_iff_exists.mp q
theorem inv_start {CX : CXT} {P : Program} {w : World} {K : PySem.W.Frag} {mg : Str → Option Value} {base : Heap} {N ps : List Str} {qual : Str} {scope : Scope} {f : Addr} {cd : Value} {A : Around} {outer : List Env} {s s1 : Shared} {H : Hp} {E : XK} {us : List Value} {vs : List V}
    (S : FnScope N ps scope) (hd : A.handled = none) (e0 : Env0 P w K mg base A outer s H) (hl : vs.length = ps.length) (r : Vals vs us)
    (x : InCallC s s.heap.objs.size (bindL (envOfC qual scope s.heap.objs.size f cd).kindOf (ps.zip us) fun _ => none) (cellsFrom (s.heap.objs.size + 1) scope.names []) (bindC (envOfC qual scope s.heap.objs.size f cd).kindOf (ps.zip us) fun _ => none) s1) :
    Inv (cxOf CX P w K mg base N qual scope f cd A outer s H E) [] (start N vs) H s1 := by
  have hpl : ps.length ≤ N.length := by have := congrArg List.length S.pre; rw [List.length_take] at this; omega
  obtain ⟨h1, tk, rfl, hk⟩ := x.done
  have noA : ∀ b : Addr, b ∉ (cxOf CX P w K mg base N qual scope f cd A outer s H E).ex := fun b z => absurd (show b ∈ ([] : List Addr) from z) (by simp)
  refine ⟨⟨e0.mod, S.kind, rfl, rfl, Nat.le_refl _, fun y z c h1 h2 => ?_, fun y hy => ?_, fun y c _ h => ?_, fun _ => hd, Around.frames_deeper e0.frames, .inr ⟨rfl, rfl⟩, fun b z => absurd z (noA b), e0.bs, e0.bsz, fun b _ _ => noA b, fun b z => absurd z (noA b), e0.funs, e0.frf⟩,
    rfl, e0.bare, Un.kept hk, ⟨_, x.toInCall.ns, fun i y v h1 h2 h3 => ?_⟩, fun y c h => ⟨_, x.cell y c h⟩, e0.hok.fresh (Nat.le_refl _), fun y c h => ?_, fun p hp => absurd (show p ∈ ([] : List (Addr × Obj)) from hp) (by simp), e0.hok.kept hk, ?_⟩
  · exact name_of_addr x.apart (PySem.mem_of_lookup h1) (PySem.mem_of_lookup h2)
  · have hy : scope.names.lookup y = some .cell ∨ scope.names.lookup y = some .free := hy
    rcases hy with hy | hy
    · exact cell_has hy
    · exact absurd rfl (S.nofree _ (PySem.mem_of_lookup hy))
  · exact Nat.le_of_lt (x.above y c (PySem.mem_of_lookup h))
  · have hi : i < vs.length := by
      unfold start at h2
      by_cases hi : i < vs.length
      · exact hi
      · rw [List.getElem?_append_right (by simpa using hi)] at h2
        rw [List.getElem?_replicate] at h2
        split at h2 <;> cases h2
    have ha : vs[i]? = some v := by
      unfold start at h2
      rw [List.getElem?_append_left (by simpa using hi), List.getElem?_map] at h2
      cases e : vs[i]? with
      | none => rw [e] at h2; cases h2
      | some a => rw [e] at h2; cases h2; rfl
    obtain ⟨u, hu, rv⟩ := r.get ha
    have hp : ps[i]? = some y := by
      rw [← S.pre, List.getElem?_take_of_lt (by omega)]; exact h1
    have ndP : ps.Nodup := by rw [← S.pre]; exact S.nd.sublist (List.take_sublist _ _)
    refine ⟨u, rv, ?_⟩
    rcases S.par y (List.mem_of_getElem? hp) with k | k
    · exact .inl ⟨k, bindL_get ndP hp hu k⟩
    · obtain ⟨c, e⟩ := cell_has (n := s.heap.objs.size + 1) k
      refine .inr ⟨.inl k, c, e, ?_⟩
      have q := x.cell y c e
      rw [bindC_get ndP hp hu (by show scope.names.lookup y ≠ _; rw [k]; decide)] at q
      exact q
  · exact e0.hok.fresh (Nat.le_of_lt (x.above y c (PySem.mem_of_lookup h)))
  · unfold start
    show _ = N.length
    rw [List.length_append, List.length_map, List.length_replicate]
    omega
theorem fn_of {CX : CXT} {P : Program} {w : World} {K : PySem.W.Frag} {mg : Str → Option Value} {base : Heap} {k : Nat} {f : Addr} {name qual : Str} {params : Arguments} {body : List Stmt} {scope : Scope} {dV kV doc pm cdv ct oc : Value} {an od : Option Addr}
    {osl : Array (Option Value)} {N ps : List Str} {sp : Sp} (lk : K.lookup f = some ⟨oc, od, .func (PySem.W.fnOf name qual params body scope dV kV doc pm an cdv ct), osl⟩) (hcd : PySem.W.codeIn K cdv qual = true) (S : FnScope N ps scope)
    (len : ∀ vs H Q E, sp vs H Q E → vs.length = ps.length)
    (hbody : ∀ (A : Around) (outer : List Env) (s : Shared) (H : Hp) (vs : List V) (Q : VK) (E : XK), Room k (A.deeper (envOfC qual scope s.heap.objs.size f cdv)) → sp vs H Q E →
      ∃ t, PSs (cxOf CX P w K mg base N qual scope f cdv A outer s H E) body t ∧ t { nx := fun _ H' => Q .non H', rt := Q } (start N vs) H) :
    FnOk P w K mg base CX (k + 1) f (PySem.W.fnOf name qual params body scope dV kV doc pm an cdv ct) ps sp := by
  refine ⟨len, fun A outer s H args us vs Q E hr e0 hb r hsp => ?_⟩
  have hl := len _ _ _ _ hsp
  have KX : K.In s.heap := e0.mod.kin.keeps fun b o e => (e0.bs b o e).1
  have lim : s.heap.NoLimit := e0.mod.nolimit.keeps fun b o e => (e0.bs b o e).1
  have hkind : ∀ y ∈ ps.zip us, scope.names.lookup y.1 = some .local ∨ (scope.names.lookup y.1 = some .cell ∧ ((cellsFrom (s.heap.objs.size + 1) scope.names []).lookup y.1).isSome = true) := fun ⟨n, v⟩ hy => by
    rcases S.par n (List.of_mem_zip hy).1 with q | q
    · exact .inl q
    · exact .inr ⟨q, PySem.W.cellsFrom_some _ _ _ (.inl q)⟩
  refine codeAny_call_function hr.depth (KX _ _ lk) rfl S.co S.gen rfl (PySem.W.codeRec_of KX hcd) (hb _ _ _ _ ?_)
  refine wpAny_newFunctionEnv_cells S.kind hkind fun env he s1 x => ?_
  subst he
  refine ⟨lim.keeps x.toInCall.keep, codeAny_func ?_⟩
  obtain ⟨t, ht, hq⟩ := hbody A outer s H vs Q E (hr.deeper _) hsp
  have I : Inv (cxOf CX P w K mg base N qual scope f cdv A outer s H E) [] (start N vs) H s1 := inv_start S hr.hd e0 hl r x
  refine wpAny_mono (ht [] s1 (start N vs) H _ I hq) (fun fl s' hs => ?_) fun e s' hs => hs
  have fin : ∀ {σ' : St} {H' : Hp} {v : V} {u : Value}, Inv (cxOf CX P w K mg base N qual scope f cdv A outer s H E) [] σ' H' s' → RelV v u → Q v H' → CE outer P w H s Q u s' :=
    fun {σ' H' v u} J rv q => ⟨v, H', J.os, J.bare, J.base, J.hok, rv, q⟩
  cases fl with
  | ret u =>
    obtain ⟨v, σ', H', J, rv, q⟩ := hs
    exact fin J rv q
  | next =>
    obtain ⟨σ', H', J, q⟩ := hs
    exact fin (v := V.non) (u := Value.none) J rfl q
  | brk =>
    obtain ⟨_, _, _, q⟩ := hs
    exact False.elim q
  | cont =>
    obtain ⟨_, _, _, q⟩ := hs
    exact False.elim q
end L2
namespace L2
open PySem PySem.Spec PyProof.Rows
section
variable {X : Cx} {x : Str} {p pos : Pos} {e : Expr} {es : List Expr} {t : TA} {id T : String} {r : List V → Hp → VK → Prop}
def tCB (r : List V → Hp → VK → Prop) (t : TA) : TE := fun σ H Q => t σ H fun vs H1 => r vs H1 Q
theorem pe_callB (hc : CallR X (.builtin id) r) (hg : Gl X x) (hm : X.mg x = none) (hv : bootBuiltins x = some (.builtin id)) (ha : PA X (e :: es) t) (hn : x ≠ "__name__" := by decide) (hdb : (x == ("__debug__" : Str)) = false := by decide)
    (he : starEach (e :: es) X.env = (false, eval e X.env) :: starEach es X.env := by rfl) (hpl : (backTo pos (starEach es X.env)).any (·.1) = false := by rfl) : PE X (.Call (.Name x p) (e :: es) [] pos) (tCB r t) := by
  intro pins s σ H Q I h
  refine wpAny_Call_Name_kw (ld_blt I hg hm hv ?_ hn hdb)
  exact PyProof.Rows.callWith_builtin1 (thn (ha pos pins s σ H _ I h) fun us s1 ⟨vs, H1, I1, r1, q1⟩ => hc pins s1 σ H1 vs us Q I1 r1 q1) he hpl
end
end L2
namespace HT
open PySem PyProof.Rows
section
open PySem.SeqAt
open PySem.AutoSeq1 (wpAny_loadPart')
open PySem.MeetsSeq PySem.MeetsSeq2 PySem.MeetsSeq3
end
section
variable {prog : Program} {w : World} {A : Around} {E : Value → Shared → Prop} {s : Shared}
def sIx (n d : Nat) : Option Int → Nat
  | none => d
  | some v => if v < 0 then (v + (n : Int)).toNat else min v.toNat n
end
end HT
namespace L2
open PySem PySem.Spec PyProof.Rows
abbrev TO := St → Hp → (Option Int → Hp → Prop) → Prop
def PO (X : Cx) (e : Option Expr) (t : TO) : Prop :=
  ∀ (pins : List (Addr × Obj)) (s : Shared) (σ : St) (H : Hp) (Q : Option Int → Hp → Prop), Inv X pins σ H s → t σ H Q →
    wpAny (model X.prog X.w) X.A (evalPart e X.env) (fun u s' => ∃ o H', Inv X pins σ H' s' ∧ IsPart u o ∧ Q o H') X.xe s
def tNoPart : TO := fun _ H Q => Q none H
def tPart (t : TE) : TO := fun σ H Q => t σ H fun x H1 => ∃ i, x = .int i ∧ Q (some i) H1
section
variable {X : Cx} {e : Expr} {te : TE} {lo hi : Option Expr} {tl th : TO} {pos p2 : Pos}
theorem po_none : PO X none tNoPart := by
  intro pins s σ H Q I h
  rw [evalPart_none]
  exact wpAny_pure ⟨none, H, I, .none, h⟩
theorem po_some (h : PE X e te) : PO X (some e) (tPart te) := by
  intro pins s σ H Q I hw
  rw [evalPart_some]
  refine thn (h pins s σ H _ I hw) fun u s1 ⟨x, H1, I1, r1, q1⟩ => ?_
  obtain ⟨i, rfl, q⟩ := q1
  obtain ⟨t, rfl⟩ := r1
  exact ⟨some i, H1, I1, .int i t, q⟩
def SlR (X : Cx) (r : V → Option Int → Option Int → Hp → VK → Prop) : Prop :=
  ∀ (pins : List (Addr × Obj)) (s : Shared) (σ : St) (H : Hp) (x : V) (v vl vu : Value) (lo hi : Option Int) (sl : Addr) (Q : VK), Inv X pins σ H s → RelV x v → s.heap.IsSliceOf sl vl vu .none → IsPart vl lo → IsPart vu hi → r x lo hi H Q →
    ∃ T id, typeLookup (.type T) "__getitem__" = pure (some (.builtin id)) ∧ s.TypeIs v T ∧ wpAny (model X.prog X.w) X.A (getItem v (.ref sl)) (EP X pins σ Q) X.xe s
def tSl (r : V → Option Int → Option Int → Hp → VK → Prop) (te : TE) (tl th : TO) : TE := fun σ H Q => te σ H fun x H1 => tl σ H1 fun l H2 => th σ H2 fun u H3 => r x l u H3 Q
theorem pe_slice {r : V → Option Int → Option Int → Hp → VK → Prop} (hr : SlR X r) (he : PE X e te) (hl : PO X lo tl) (hu : PO X hi th) : PE X (.Subscript e (.Slice lo hi none p2) pos) (tSl r te tl th) := by
  intro pins s σ H Q I h
  refine Subscript_ (thn (he pins s σ H _ I h) fun v s1 ⟨x, H1, I1, r1, q1⟩ => ?_)
  refine wpAny_Slice (thn (hl pins s1 σ H1 _ I1 q1) fun vl s2 ⟨l, H2, I2, pl, q2⟩ => thn (hu pins s2 σ H2 _ I2 q2) fun vu s3 ⟨u, H3, I3, pu, q3⟩ => ?_)
  rw [evalPart_none]
  refine wpAny_pure ?_
  have I4 : Inv X pins σ H3 { s3 with heap := s3.heap.push { cls := .type "slice", data := .fields #[vl, vu, .none] } } := I3.kept (t' := s3.toks) fun b ob q => Heap.get?_push_of_some _ q
  obtain ⟨T, id, hT, ht, hg⟩ := hr pins { s3 with heap := s3.heap.push { cls := .type "slice", data := .fields #[vl, vu, .none] } } σ H3 x v vl vu l u s3.heap.objs.size Q I4 r1 (Heap.IsSliceOf.new ..) pl pu q3
  show wpAny (model X.prog X.w) X.A (subscriptTail e (.Slice lo hi none p2) v (.ref s3.heap.objs.size)) (EP X pins σ Q) X.xe { s3 with heap := s3.heap.push { cls := .type "slice", data := .fields #[vl, vu, .none] } }
  exact tail_any (ops := [.ref s3.heap.objs.size, v]) ht hT hg (by with_unfolding_all rfl)
def cutV (xs : List V) (lo hi : Option Int) : List V := (xs.drop (HT.sIx xs.length 0 lo)).take (HT.sIx xs.length xs.length hi - HT.sIx xs.length 0 lo)
theorem cutV_length (xs : List V) (lo hi : Option Int) : (cutV xs lo hi).length ≤ xs.length := by
  unfold cutV
  rw [List.length_take, List.length_drop]
  omega
end
end L2
namespace L2
open PySem PySem.Spec PyProof.Rows
def ixN (n : Nat) (i : Int) : Option Nat := if 0 ≤ i then (if i < n then some i.toNat else none) else if -(n : Int) ≤ i then some (i + n).toNat else none
def atI {α : Type} (xs : List α) (i : Int) : Option α := (ixN xs.length i).bind fun j => xs[j]?
theorem ixN_seq {n : Nat} {i : Int} {j : Nat} (h : ixN n i = some j) : seqIndex? i n = some j ∧ j < n ∧ -(n : Int) ≤ i ∧ i < n := by
  unfold ixN at h
  by_cases h0 : 0 ≤ i
  · rw [if_pos h0] at h
    by_cases h1 : i < n
    · rw [if_pos h1] at h
      have e : i.toNat = j := Option.some.inj h
      exact ⟨by rw [seqIndex_of h0 h1, e], by omega, by omega, h1⟩
    · rw [if_neg h1] at h; cases h
  · rw [if_neg h0] at h
    by_cases h1 : -(n : Int) ≤ i
    · rw [if_pos h1] at h
      have e : (i + n).toNat = j := Option.some.inj h
      exact ⟨by rw [seqIndex_neg (by omega) h1, e], by omega, h1, by omega⟩
    · rw [if_neg h1] at h; cases h
theorem atI_get {α : Type} {xs : List α} {i : Int} {v : α} (h : atI xs i = some v) : ∃ j, seqIndex? i xs.length = some j ∧ xs[j]? = some v ∧ j < xs.length ∧ -(xs.length : Int) ≤ i ∧ i < xs.length := by
  unfold atI at h
  cases e : ixN xs.length i with
  | none => rw [e] at h; cases h
  | some j =>
    rw [e] at h
    obtain ⟨h1, h2, h3, h4⟩ := ixN_seq e
    exact ⟨j, h1, h, h2, h3, h4⟩
theorem atI_nat {α : Type} {xs : List α} {j : Nat} {v : α} (h : xs[j]? = some v) : atI xs (j : Int) = some v := by
  have hj : j < xs.length := (List.getElem?_eq_some_iff.mp h).1
  have e : ixN xs.length (j : Int) = some j := by
    unfold ixN
    rw [if_pos (by omega), if_pos (by omega)]; simp
  unfold atI; rw [e]; exact h
def PlainIx (b : Expr) : Prop := ∀ o i, subscripted b false o i = operate [o, i] (getItem o i)
def IxR (X : Cx) (r : R2) : Prop :=
  ∀ (value slice : Expr) (pins : List (Addr × Obj)) (s : Shared) (σ : St) (H : Hp) (x y : V) (v u : Value) (Q : VK), Inv X pins σ H s → RelV x v → RelV y u → r x y H Q →
    subscripted slice false v u = operate [v, u] (getItem v u) → wpAny (model X.prog X.w) X.A (subscriptTail value slice v u) (EP X pins σ Q) X.xe s
def MtR (X : Cx) (id : String) (r : V → List V → Hp → VK → Prop) : Prop :=
  ∀ (pins : List (Addr × Obj)) (s : Shared) (σ : St) (H : Hp) (x : V) (xs : List V) (v : Value) (us : List Value) (Q : VK), Inv X pins σ H s → RelV x v → Vals xs us → r x xs H Q →
    wpAny (model X.prog X.w) X.A (call (.builtin id) (v :: us)) (EP X pins σ Q) X.xe s
section
variable {X : Cx} {a b : Expr} {ta tb : TE} {pos : Pos}
theorem pe_ix {r : R2} (hr : IxR X r) (ha : PE X a ta) (hb : PE X b tb) (hs : PlainIx b) : PE X (.Subscript a b pos) (tOp r ta tb) := by
  intro pins s σ H Q I h
  exact Subscript_ (binT ha hb I h fun v u s2 x y H2 I2 rx ry q => hr a b pins s2 σ H2 x y v u Q I2 rx ry q (hs _ _))
def rIxL (K : PySem.W.Frag) : R2 := fun x y H Q => ∃ p xs i v, x = .ref p ∧ y = .int i ∧ SqL K H p xs ∧ atI xs i = some v ∧ Q v H
def rIxT (K : PySem.W.Frag) : R2 := fun x y H Q => ∃ p xs i v, x = .ref p ∧ y = .int i ∧ SqT K H p xs ∧ atI xs i = some v ∧ Q v H
theorem ix_list : IxR X (rIxL X.K) := by
  intro value slice pins s σ H x y v u Q I rx ry h hs
  obtain ⟨p, xs, i, z, rfl, rfl, hq, he, q⟩ := h
  cases rx
  obtain ⟨t, rfl⟩ := ry
  obtain ⟨its, r, pl, hz⟩ := I.list hq
  obtain ⟨j, h1, h2, h3, h4, h5⟩ := atI_get he
  obtain ⟨w, ew, rw'⟩ := r.get h2
  have hl := r.length
  have hn := line63
  have fin : EP X pins σ Q w s := ⟨z, H, I, rw', q⟩
  by_cases h0 : 0 ≤ i
  · have hj : i.toNat = j := by
      rw [seqIndex_of h0 h5] at h1
      exact Option.some.inj h1
    exact item_listR pl.isList h0 (by omega) (by rw [hj]; simpa using ew) fin hs
  · have hj : (i + (its.toArray.size : Int)).toNat = j := by
      rw [seqIndex_neg (by omega) h4] at h1
      rw [List.size_toArray, ← hl]
      exact Option.some.inj h1
    exact subscriptTail_builtinR (x := w) pl.isList.typeIs slot_list_getitem.lookup
      (wpAny_getItem_list_neg (Q := fun r s' => r = w ∧ EP X pins σ Q r s') pl.isList (by omega) (by rw [List.size_toArray] <;> omega) (by omega) (by rw [hj]; simpa using ew) ⟨rfl, fin⟩) hs
theorem ix_tup : IxR X (rIxT X.K) := by
  intro value slice pins s σ H x y v u Q I rx ry h hs
  obtain ⟨p, xs, i, z, rfl, rfl, hq, he, q⟩ := h
  cases rx
  obtain ⟨t, rfl⟩ := ry
  obtain ⟨its, r, pl, hz⟩ := I.tuple hq
  obtain ⟨j, h1, h2, h3, h4, h5⟩ := atI_get he
  obtain ⟨w, ew, rw'⟩ := r.get h2
  have hl := r.length
  have hn := line63
  have fin : EP X pins σ Q w s := ⟨z, H, I, rw', q⟩
  exact subscriptTail_builtinR (x := w) pl.typeIs slot_tuple_getitem.lookup
    (getItem_tuple (j := j) (Q := fun r s' => r = w ∧ EP X pins σ Q r s') pl (by omega) (by omega) (by rw [List.size_toArray, ← hl]; exact h1) (by simpa using ew) ⟨rfl, fin⟩) hs
theorem slice_bounds (lo hi : Option Int) (n : Nat) : (sliceBounds lo hi none n).1 = ((HT.sIx n 0 lo : Nat) : Int) ∧ (sliceBounds lo hi none n).2.1 = ((HT.sIx n n hi : Nat) : Int) ∧ (sliceBounds lo hi none n).2.2 = 1 := by
  refine ⟨?_, ?_, rfl⟩
  · cases lo with
    | none => simp [sliceBounds, HT.sIx]
    | some i =>
      simp only [sliceBounds, HT.sIx, Option.getD_none, show (1 : Int) > 0 by decide, if_true]
      by_cases h : i < 0
      · simp only [h, if_true] <;> omega
      · simp only [h, if_false] <;> omega
  · cases hi with
    | none => simp [sliceBounds, HT.sIx]
    | some i =>
      simp only [sliceBounds, HT.sIx, Option.getD_none, show (1 : Int) > 0 by decide, if_true]
      by_cases h : i < 0
      · simp only [h, if_true] <;> omega
      · simp only [h, if_false] <;> omega
theorem slicePick_cut (its : List Value) (lo hi : Option Int) : slicePick its.toArray lo hi none = ((its.drop (HT.sIx its.length 0 lo)).take (HT.sIx its.length its.length hi - HT.sIx its.length 0 lo)).toArray := by
  obtain ⟨h1, h2, h3⟩ := slice_bounds lo hi its.toArray.size
  unfold slicePick
  rw [h1, h2, h3]
  simp only [sliceRange_one, pick_run, List.size_toArray] <;> rfl
def rSlL (K : PySem.W.Frag) : V → Option Int → Option Int → Hp → VK → Prop := fun x lo hi H Q => ∃ a xs, x = .ref a ∧ SqL K H a xs ∧ ∀ p, H p = none → Q (.ref p) (upd H p (.lst (cutV xs lo hi)))
theorem sl_list : SlR X (rSlL X.K) := by
  intro pins s σ H x v vl vu lo hi sl Q I rx hs pl pu h
  obtain ⟨a, xs, rfl, hx, q⟩ := h
  cases rx
  obtain ⟨its, r, ht, hz⟩ := I.list hx
  have hlen := r.length
  refine ⟨"list", _, slot_list_getitem.lookup, ht.isList.typeIs, ?_⟩
  refine wpAny_getItem_list_slice ht.isList hs pl pu .none (by simp) ?_ (by rw [List.size_toArray] <;> omega)
  rw [slicePick_cut, ← hlen]
  refine ⟨.ref s.heap.objs.size, _, I.laid (t' := s.toks) (o := .lst (cutV xs lo hi)) (fun b ob q => Heap.get?_push_of_some _ q) (Nat.le_refl _) ?_, rfl, q _ (I.hok.fresh (Nat.le_refl _))⟩
  exact ⟨Nat.le_trans (cutV_length xs lo hi) hz, _, 0, (r.drop (HT.sIx xs.length 0 lo)).take (HT.sIx xs.length xs.length hi - HT.sIx xs.length 0 lo), Heap.get?_push_size _ rfl⟩
def flatV : V → Bool
  | .non => true
  | .bl _ => true
  | .int _ => true
  | .str _ => true
  | _ => false
def eqV : V → V → Bool
  | .non, .non => true
  | .bl a, .bl b => a == b
  | .bl a, .int b => (if a then 1 else 0) == b
  | .int a, .bl b => a == (if b then 1 else 0)
  | .int a, .int b => a == b
  | .str a, .str b => a == b
  | _, _ => false
theorem eqAt_V {A : Around} {s : Shared} {y x : V} {u v : Value} (ry : RelV y u) (rx : RelV x v) (fy : flatV y = true) (fx : flatV x = true) : SeqAt.EqAt A s u v (eqV y x) := by
  cases y with
  | non =>
    cases ry
    cases x with
    | non => cases rx; exact SeqAt.EqAt.same _
    | bl b => cases rx; exact SeqAt.EqAt.none_bool b
    | int b => obtain ⟨t, rfl⟩ := rx; exact SeqAt.EqAt.none_int b t
    | str b => obtain ⟨t, rfl⟩ := rx; exact SeqAt.EqAt.none_str b t
    | _ => exact absurd (show false = true from fx) Bool.false_ne_true
  | bl a =>
    cases ry
    cases x with
    | non => cases rx; exact SeqAt.EqAt.bool_none a
    | bl b => cases rx; exact SeqAt.EqAt.bool_bool a b
    | int b => obtain ⟨t, rfl⟩ := rx; exact SeqAt.EqAt.bool_int a b t
    | str b => obtain ⟨t, rfl⟩ := rx; exact SeqAt.EqAt.bool_str a b t
    | _ => exact absurd (show false = true from fx) Bool.false_ne_true
  | int a =>
    obtain ⟨t', rfl⟩ := ry
    cases x with
    | non => cases rx; exact SeqAt.EqAt.int_none a t'
    | bl b => cases rx; exact SeqAt.EqAt.int_bool a t' b
    | int b => obtain ⟨t, rfl⟩ := rx; exact SeqAt.EqAt.int_int a t' b t
    | str b => obtain ⟨t, rfl⟩ := rx; exact SeqAt.EqAt.int_str a t' b t
    | _ => exact absurd (show false = true from fx) Bool.false_ne_true
  | str a =>
    obtain ⟨t', rfl⟩ := ry
    cases x with
    | non => cases rx; exact SeqAt.EqAt.str_none a t'
    | bl b => cases rx; exact SeqAt.EqAt.str_bool a t' b
    | int b => obtain ⟨t, rfl⟩ := rx; exact SeqAt.EqAt.str_int a t' b t
    | str b => obtain ⟨t, rfl⟩ := rx; exact SeqAt.EqAt.str_str a t' b t
    | _ => exact absurd (show false = true from fx) Bool.false_ne_true
  | _ => exact absurd (show false = true from fy) Bool.false_ne_true
def eqU (x : V) (u : Value) : Bool := match u with
  | .none => eqV .non x
  | .bool b => eqV (.bl b) x
  | .int i _ => eqV (.int i) x
  | .str z _ => eqV (.str z) x
  | _ => false
theorem eqU_of {x y : V} {u : Value} (r : RelV y u) (f : flatV y = true) : eqU x u = eqV y x := by
  cases y with
  | non => cases r; rfl
  | bl b => cases r; rfl
  | int i => obtain ⟨t, rfl⟩ := r; rfl
  | str z => obtain ⟨t, rfl⟩ := r; rfl
  | _ => exact absurd (show false = true from f) Bool.false_ne_true
theorem any_eqU {x : V} : ∀ {xs : List V} {us : List Value}, Vals xs us → xs.all flatV = true → us.any (eqU x) = xs.any fun y => eqV y x
  | _, _, .nil, _ => rfl
  | y :: xs, u :: us, .cons r t, f => by
    rw [List.all_cons, Bool.and_eq_true] at f
    rw [List.any_cons, List.any_cons, eqU_of r f.1, any_eqU t f.2]
theorem mem_eqAt {A : Around} {s : Shared} {x : V} {v : Value} (rx : RelV x v) (fx : flatV x = true) : ∀ {xs : List V} {us : List Value}, Vals xs us → xs.all flatV = true → ∀ u ∈ us, SeqAt.EqAt A s u v (eqU x u)
  | _, _, .nil, _ => fun u hu => by cases hu
  | y :: xs, u :: us, .cons r t, f => fun u' hu => by
    rw [List.all_cons, Bool.and_eq_true] at f
    rcases List.mem_cons.mp hu with rfl | hu
    · rw [eqU_of r f.1]; exact eqAt_V r rx f.1 fx
    · exact mem_eqAt rx fx t f.2 u' hu
def inV (x : V) (xs : List V) : Bool := xs.any fun y => eqV y x
def rIn (K : PySem.W.Frag) (neg : Bool) : R2 := fun x y H Q => ∃ p xs, y = .ref p ∧ (SqL K H p xs ∨ SqT K H p xs) ∧ flatV x = true ∧ xs.all flatV = true ∧ Q (.bl (if neg then !inV x xs else inV x xs)) H
theorem op_in_seq : OpR X (compareOp .In) (rIn X.K false) := by
  intro pins s σ H x y v u Q I rx ry h
  obtain ⟨p, xs, rfl, hq, fx, fs, q⟩ := h
  cases ry
  rcases hq with hq | hq
  · obtain ⟨its, r, pl, hz⟩ := I.list hq
    refine SeqAt.in_listAt (eqU x) pl.isList (fun w hw => mem_eqAt rx fx r fs w (by simpa using hw)) ⟨.bl _, H, I, rfl, ?_⟩
    rw [show its.toArray.any (eqU x) = its.any (eqU x) by simp, any_eqU r fs]
    exact q
  · obtain ⟨its, r, pl, hz⟩ := I.tuple hq
    refine SeqAt.in_tupleAt (eqU x) pl (fun w hw => mem_eqAt rx fx r fs w (by simpa using hw)) ⟨.bl _, H, I, rfl, ?_⟩
    rw [show its.toArray.any (eqU x) = its.any (eqU x) by simp, any_eqU r fs]
    exact q
theorem call_len_seq : CallR X (.builtin "len") (fun xs H Q => ∃ p ys, xs = [.ref p] ∧ (SqL X.K H p ys ∨ SqT X.K H p ys) ∧ Q (.int ys.length) H) := by
  intro pins s σ H xs us Q I r h
  obtain ⟨p, ys, rfl, hq, q⟩ := h
  obtain ⟨u, rfl, rx⟩ := vals1 r
  cases rx
  have hn := line63
  rcases hq with hq | hq
  · obtain ⟨its, r', pl, hz⟩ := I.list hq
    have hlen := r'.length
    exact Calls.call_len_list pl.isList (by simp only [List.size_toArray] <;> omega) ⟨.int ys.length, H, I.tok _, ⟨s.toks + 1, by rw [List.size_toArray, hlen]⟩, q⟩
  · obtain ⟨its, r', pl, hz⟩ := I.tuple hq
    have hlen := r'.length
    exact len_tuple pl (by simp only [List.size_toArray] <;> omega) ⟨.int ys.length, H, I.tok _, ⟨s.toks + 1, by rw [List.size_toArray, hlen]⟩, q⟩
def tyV (K : PySem.W.Frag) (T : String) (x : V) (H : Hp) : Prop := match x with
  | .str _ => T = "str"
  | .int _ => T = "int"
  | .ref p => (T = "list" ∧ ∃ xs, SqL K H p xs) ∨ (T = "tuple" ∧ ∃ o, K.lookup p = some o ∧ o.cls = .type "tuple" ∧ o.dict = none) ∨
      (T = "dict" ∧ ((∃ kvs, H p = some (.dK kvs)) ∨ ∃ kvs, H p = some (.dT kvs))) ∨ (T = "set" ∧ ∃ S n, H p = some (.set S n))
  | _ => False
theorem tyV_is {pins : List (Addr × Obj)} {σ : St} {H : Hp} {s : Shared} {T : String} {x : V} {v : Value} (I : Inv X pins σ H s) (r : RelV x v) (ty : tyV X.K T x H) :
    s.TypeIs v T ∧ ∀ a, v = .ref a → ∃ ob, s.heap.get? a = some ob ∧ ob.dict = none := by
  cases x with
  | str z =>
    obtain ⟨t, rfl⟩ := r
    cases (show T = "str" from ty)
    exact ⟨typeIs_str s z t, fun _ e => nomatch e⟩
  | int i =>
    obtain ⟨t, rfl⟩ := r
    cases (show T = "int" from ty)
    exact ⟨typeIs_int s i t, fun _ e => nomatch e⟩
  | ref p =>
    cases r
    rcases ty with ⟨rfl, xs, hq⟩ | ⟨rfl, o, hk, hc, hd⟩ | ⟨rfl, hk⟩ | ⟨rfl, S, n, hk⟩
    · obtain ⟨its, _, pl, _⟩ := I.list hq
      refine ⟨pl.isList.typeIs, fun a e => ?_⟩
      cases e
      obtain ⟨o, n, e, c, hd, _⟩ := pl
      exact ⟨o, e, hd⟩
    · refine ⟨⟨o, I.kIn p o hk, hc⟩, fun a e => ?_⟩
      cases e
      exact ⟨o, I.kIn _ o hk, hd⟩
    · have z : ∃ o, s.heap.get? p = some o ∧ o.ExactDict := by
        rcases hk with ⟨kvs, hk⟩ | ⟨kvs, hk⟩
        · obtain ⟨_, _, _, _, o, _, _, e, ex, _⟩ := I.hok p _ hk
          exact ⟨o, e, ex⟩
        · obtain ⟨_, _, _, _, o, _, _, e, ex, _⟩ := I.hok p _ hk
          exact ⟨o, e, ex⟩
      obtain ⟨o, e, ex⟩ := z
      refine ⟨⟨o, e, ex.1⟩, fun a e2 => ?_⟩
      cases e2
      exact ⟨o, e, ex.2.1⟩
    · obtain ⟨o, _, _, _, e, ex, _⟩ := I.hok p _ hk
      refine ⟨⟨o, e, ex.1⟩, fun a e2 => ?_⟩
      cases e2
      exact ⟨o, e, ex.2.1⟩
  | _ => exact False.elim ty
def tBM0 (K : PySem.W.Frag) (T : String) (r : V → List V → Hp → VK → Prop) (to : TE) : TE := fun σ H Q => to σ H fun x H1 => tyV K T x H1 ∧ r x [] H1 Q
def tBM (K : PySem.W.Frag) (T : String) (r : V → List V → Hp → VK → Prop) (to : TE) (t : TA) : TE := fun σ H Q => to σ H fun x H1 => tyV K T x H1 ∧ t σ H1 fun xs H2 => r x xs H2 Q
variable {o e : Expr} {es : List Expr} {to : TE} {t : TA} {name : Str} {apos cpos : Pos} {T id : String} {r : V → List V → Hp → VK → Prop}
theorem pe_bm0 (pa : PlainAttrs T) (slot : Slot T name id) (hty : typeOf (.builtin id) = pure (.type "method_descriptor")) (hm : MtR X id r) (ho : PE X o to)
    (hbase : attributeBase o name X.env (eval o X.env) = eval o X.env := by rfl) (hline : (apos.endLine == cpos.line) = true := by rfl) : PE X (.Call (.Attribute o name apos) [] [] cpos) (tBM0 X.K T r to) := by
  intro pins s σ H Q I h
  refine wpAny_Call_method0_late hbase hline (thn (ho pins s σ H _ I h) fun v s1 ⟨x, H1, I1, r1, ty, q1⟩ => ?_)
  obtain ⟨h1, h2⟩ := tyV_is I1 r1 ty
  exact ⟨T, id, pa, slot, hty, h1, h2, Calls.callWith_builtin rfl (PySem.evalArgs_none (hm pins s1 σ H1 x [] v [] Q I1 r1 .nil q1))⟩
theorem pe_bm (pa : PlainAttrs T) (slot : Slot T name id) (hty : typeOf (.builtin id) = pure (.type "method_descriptor")) (hm : MtR X id r) (ho : PE X o to) (ha : PA X (e :: es) t)
    (hbase : attributeBase o name X.env (eval o X.env) = eval o X.env := by rfl)
    (hfew : ((backTo cpos (starEach (e :: es) X.env)).all (fun x => !x.1) && (backToKw cpos (keywordEach [] X.env)).all (fun x => x.1.isSome)
      && decide ((e :: es).length + ([] : List Keyword).length + (if ([] : List Keyword).isEmpty then 0 else 1) < 30)) = true := by rfl)
    (hline : (apos.endLine == cpos.line) = true := by rfl) (hs : starEach (e :: es) X.env = (false, eval e X.env) :: starEach es X.env := by rfl) (hplain : (backTo cpos (starEach es X.env)).any (·.1) = false := by rfl) :
    PE X (.Call (.Attribute o name apos) (e :: es) [] cpos) (tBM X.K T r to t) := by
  intro pins s σ H Q I h
  refine wpAny_Call_method_late hbase hfew hline rfl (thn (ho pins s σ H _ I h) fun v s1 ⟨x, H1, I1, r1, ty, q1⟩ => ?_)
  obtain ⟨h1, h2⟩ := tyV_is I1 r1 ty
  refine ⟨T, id, pa, slot, hty, h1, h2, ?_⟩
  have hA := ha cpos pins s1 σ H1 _ I1 q1
  rw [hs] at hA ⊢
  refine Calls.callWith_builtin (by show (false || (backTo cpos (starEach es X.env)).any (·.1)) = false; rw [hplain] <;> rfl) (Calls.evalArgs_plain ?_)
  exact thn hA fun us s2 ⟨vs, H2, I2, r2, q2⟩ => hm pins s2 σ H2 x vs v us Q I2 r1 r2 q2
end
end L2
namespace L2
open PySem PySem.Spec PyProof.Rows
def MtM (X : Cx) (id : String) (r : V → List V → Hp → VK → Prop) : Prop :=
  ∀ (pins : List (Addr × Obj)) (s : Shared) (σ : St) (H : Hp) (x : V) (xs : List V) (v : Value) (us : List Value) (Q : VK), Inv X pins σ H s → RelV x v → Vals xs us → r x xs H Q →
    wpAny (model X.prog X.w) X.A (call (.builtin id) (v :: us)) (EP X pins σ Q) X.xe s
theorem Vals.one : ∀ {x : V} {us : List Value}, Vals [x] us → ∃ u, us = [u] ∧ RelV x u
  | _, _, .cons r .nil => ⟨_, rfl, r⟩
theorem Vals.zero : ∀ {us : List Value}, Vals [] us → us = []
  | _, .nil => rfl
theorem Vals.dropLast {xs : List V} {us : List Value} (h : Vals xs us) : Vals xs.dropLast us.dropLast := by
  induction h with
  | nil => exact .nil
  | cons r t ih =>
    cases t with
    | nil => exact .nil
    | cons q t' => exact .cons r ih
theorem erase_last {α : Type} (l : List α) : l.eraseIdx (l.length - 1) = l.dropLast := by
  induction l with
  | nil => rfl
  | cons a r ih =>
    cases r with
    | nil => rfl
    | cons b r =>
      have e : (a :: b :: r).length - 1 = ((b :: r).length - 1) + 1 := by
        have h1 : (a :: b :: r).length = r.length + 2 := rfl
        have h2 : (b :: r).length = r.length + 1 := rfl
        omega
      rw [e, List.eraseIdx_cons_succ, ih]
      all_goals rfl
section
variable {X : Cx} {pins : List (Addr × Obj)} {σ : St} {H : Hp} {s : Shared} {l b : Addr} {xs ys zs : List V}
theorem Inv.lset {its its' : List Value} {n : Nat} {f : Array Value → Array Value} {t' : Nat} (I : Inv X pins σ H s) (hH : H l = some (.lst xs))
    (e : s.heap.get? l = some { cls := .type "list", data := .seq its.toArray n }) (hf : f its.toArray = its'.toArray) (hv : Vals ys its') (hz : ys.length ≤ sizeLine) :
    Inv X pins σ (upd H l (.lst ys)) { s with heap := s.heap.update l (Obj.mapSeq f), toks := t' } := by
  have q := PySem.IsL.update e f
  rw [hf] at q
  refine I.write (x := l) (e := l) (by rw [hH]; exact trivial) (.inl rfl) (fun b' u hb hu => (Heap.get?_update_other s.heap (Obj.mapSeq f) (Ne.symm hb)).trans hu) ⟨_, q⟩ ?_
  exact ⟨hz, its', _, hv, q⟩
theorem Inv.lstM (I : Inv X pins σ H s) (hH : H l = some (.lst xs)) : xs.length ≤ sizeLine ∧ ∃ (its : List Value) (n : Nat), Vals xs its ∧ xs.length = its.length ∧ s.heap.get? l = some { cls := .type "list", data := .seq its.toArray n } := by
  obtain ⟨z, its, n, r, e⟩ := I.hok l _ hH
  exact ⟨z, its, n, r, r.length, e⟩
end
section
variable {X : Cx}
def rAppend : V → List V → Hp → VK → Prop := fun x vs H Q => ∃ l xs y, x = .ref l ∧ vs = [y] ∧ H l = some (.lst xs) ∧ xs.length < sizeLine ∧ Q .non (upd H l (.lst (xs ++ [y])))
theorem mt_append : MtM X "list.append" rAppend := by
  intro pins s σ H x vs v us Q I rx rv h
  obtain ⟨l, xs, y, rfl, rfl, hH, hz, q⟩ := h
  cases rx
  obtain ⟨u, rfl, ru⟩ := rv.one
  obtain ⟨z, its, n, r, hl, e⟩ := I.lstM hH
  refine call_meets F.slot_list_append ⟨_, e, rfl⟩ F.entry_list_append (F.args_list_append_2 _ _) (PySem.list_append l its.toArray n u (by rw [List.size_toArray]; omega)) ⟨e, ?_⟩
  refine ⟨.non, _, I.lset (its' := its ++ [u]) hH e (by simp) (r.append (.cons ru .nil)) ?_, rfl, q⟩
  rw [List.length_append, List.length_singleton]
  omega
def rPop : V → List V → Hp → VK → Prop := fun x vs H Q => ∃ l xs y, x = .ref l ∧ vs = [] ∧ H l = some (.lst xs) ∧ xs[xs.length - 1]? = some y ∧ Q y (upd H l (.lst xs.dropLast))
theorem mt_pop : MtM X "list.pop" rPop := by
  intro pins s σ H x vs v us Q I rx rv h
  obtain ⟨l, xs, y, rfl, rfl, hH, hy, q⟩ := h
  cases rx
  have hus := rv.zero
  subst hus
  obtain ⟨z, its, n, r, hl, e⟩ := I.lstM hH
  obtain ⟨u, hu, ru⟩ := r.get hy
  have hy' : its.toArray[its.toArray.size - 1]? = some u := by
    show its.toArray[its.length - 1]? = some u
    rw [← Array.getElem?_toList, ← hl]
    exact hu
  refine call_meets F.slot_list_pop ⟨_, e, rfl⟩ F.entry_list_pop (F.args_list_pop_1 _) (MeetsSeq.list_pop_last l its.toArray n u hy' (by rw [List.size_toArray]; omega)) ⟨e, ?_⟩
  refine ⟨y, _, I.lset (its' := its.dropLast) hH e ?_ r.dropLast ?_, ru, q⟩
  · show its.toArray.eraseIdxIfInBounds (its.toArray.size - 1) = its.dropLast.toArray
    rw [List.size_toArray, List.eraseIdxIfInBounds_toArray, erase_last]
  · rw [List.length_dropLast]
    omega
end
end L2
namespace L2
open PySem PySem.Spec PyProof.Rows
theorem Vals.ints : ∀ {ns : List Int} {us : List Value}, Vals (ns.map V.int) us → IntsAre us ns
  | [], us, h => by
    rw [List.map_nil] at h
    cases h
    exact IntsAre.nil
  | n :: ns, us, h => by
    rw [List.map_cons] at h
    cases h with
    | cons r t =>
      obtain ⟨k, rfl⟩ := r
      exact IntsAre.cons n k (Vals.ints t)
theorem Vals.bls : ∀ {bs : List Bool} {us : List Value}, Vals (bs.map V.bl) us → us = bs.map Value.bool
  | [], us, h => by
    rw [List.map_nil] at h
    cases h
    rfl
  | b :: bs, us, h => by
    rw [List.map_cons] at h
    cases h with
    | cons r t =>
      cases r
      rw [Vals.bls t, List.map_cons]
theorem Vals.ref1 {a : Addr} {us : List Value} (r : Vals [V.ref a] us) : us = [Value.ref a] := by
  cases r with
  | cons r t =>
    cases t
    cases r
    rfl
theorem iter_any {prog : Program} {w : World} {A : Around} {E : Value → Shared → Prop} {s : Shared} {l : Addr} {items : Array Value} {Q : Value → Shared → Prop} (hl : s.heap.IsList l items)
    (h : ∀ s₂ : Shared, s₂ = { s with heap := s.heap.push { cls := .type "list_iterator", data := .fields #[.ref l, .int 0 0] } } →
      (s₂.heap.IsListIter s.heap.objs.size l 0 ∧ s₂.heap.IsList l items) → l ≠ s.heap.objs.size → Q (.ref s.heap.objs.size) s₂) : wpAny (model prog w) A (pyIter (.ref l)) Q E s := by
  have hlt : l < s.heap.objs.size := by obtain ⟨_, e, _⟩ := hl; exact Heap.lt_size e
  exact wpAny_pyIter_list hl (h _ rfl ⟨⟨_, Heap.get?_push_size _ rfl, rfl, rfl⟩, hl.push _⟩ (Nat.ne_of_lt hlt))
theorem truth_bools {prog : Program} {w : World} {A : Around} {bs : List Bool} {its : List Value} (e : its = bs.map Value.bool) :
    TruthOf prog w A (fun i v => its.toArray[i]? = some v) (fun i => bs.getD i false) := fun i v s Q E hv hq => by
  have hv' : its[i]? = some v := by simpa using hv
  rw [e, List.getElem?_map] at hv'
  obtain ⟨b, hb, rfl⟩ := Option.map_eq_some_iff.mp hv'
  have hg : bs.getD i false = b := by rw [List.getD_eq_getElem?_getD, hb] <;> rfl
  have hq' : Q (bs.getD i false) s := hq
  rw [hg] at hq'
  exact wpAny_truthy_bool hq'
theorem any_range : ∀ bs : List Bool, (List.range bs.length).any (fun i => bs.getD i false) = bs.any id
  | [] => rfl
  | b :: bs => by
    rw [List.length_cons, List.range_succ_eq_map, List.any_cons, List.any_map, List.any_cons, ← any_range bs]
    all_goals rfl
section
variable {X : Cx}
def rAny (K : PySem.W.Frag) : List V → Hp → VK → Prop := fun vs H Q => ∃ (a : Addr) (bs : List Bool), vs = [V.ref a] ∧ SqL K H a (bs.map V.bl) ∧ Q (.bl (bs.any id)) H
theorem cr_any (hc : X.calm = true) : CallR X (.builtin "any") (rAny X.K) := by
  intro pins s σ H vs us Q I r h
  obtain ⟨a, bs, rfl, hs, q⟩ := h
  obtain ⟨its, rv, hl, _⟩ := I.list hs
  rw [Vals.ref1 r]
  have hb := rv.bls
  refine call_any_walk (iter_any hl.isList fun s₂ e2 st hne => ?_)
  subst e2
  refine ⟨_, _, _, _, _, _, _, rfl, Walks.list (A := X.A.in1) (I.ok.hd hc) _ a hne its.toArray, st, truth_bools hb, fun h' tk hk => ?_⟩
  refine ⟨.bl _, H, I.kept fun b o eo => hk b o (fun hmem => ?_) (Heap.get?_push_of_some _ eo), ?_, q⟩
  · rcases List.mem_cons.mp hmem with e1 | hmem
    · exact absurd (e1 ▸ Heap.lt_size eo) (Nat.lt_irrefl _)
    · cases hmem
  · show Value.bool _ = Value.bool _
    rw [← any_range, hb, List.size_toArray, List.length_map]
end
mutual
inductive Dp (K : PySem.W.Frag) (H : Hp) : V → PyData → Prop
  | non : Dp K H .non .none
  | bl (b : Bool) : Dp K H (.bl b) (.bool b)
  | int (i : Int) : Dp K H (.int i) (.int i)
  | str (x : Str) : Dp K H (.str x) (.str x)
  | lst {a : Addr} {xs : List V} {ds : List PyData} : SqL K H a xs → DpAll K H xs ds → Dp K H (.ref a) (.list ds)
  | tup {a : Addr} {xs : List V} {ds : List PyData} : SqT K H a xs → DpAll K H xs ds → Dp K H (.ref a) (.tuple ds)
inductive DpAll (K : PySem.W.Frag) (H : Hp) : List V → List PyData → Prop
  | nil : DpAll K H [] []
  | cons {v : V} {vs : List V} {d : PyData} {ds : List PyData} : Dp K H v d → DpAll K H vs ds → DpAll K H (v :: vs) (d :: ds)
end
section
variable {X : Cx} {pins : List (Addr × Obj)} {σ : St} {H : Hp} {s : Shared}
mutual
theorem Dp.reads (I : Inv X pins σ H s) : ∀ (d : PyData) (v : V) (u : Value), Dp X.K H v d → RelV v u → ∃ as, Reads s.heap u d as
  | .none, _, _, h, r => by
    cases h
    cases r
    exact ⟨_, Reads.none⟩
  | .bool b, _, _, h, r => by
    cases h
    cases r
    exact ⟨_, Reads.bool b⟩
  | .int i, _, _, h, r => by
    cases h
    obtain ⟨t, rfl⟩ := r
    exact ⟨_, Reads.int i t⟩
  | .str x, _, _, h, r => by
    cases h
    obtain ⟨t, rfl⟩ := r
    exact ⟨_, Reads.str x t⟩
  | .list ds, _, _, h, r => by
    cases h with
    | lst hs ha =>
      cases r
      obtain ⟨its, rv, ⟨o, n, ho, hc, _, hd⟩, _⟩ := I.list hs
      obtain ⟨as, hr⟩ := Dp.readsAll I ds _ its ha rv
      exact ⟨_, Reads.list ho hc hd hr⟩
  | .tuple ds, _, _, h, r => by
    cases h with
    | tup hs ha =>
      cases r
      obtain ⟨its, rv, ⟨o, ho, hc, n, hd⟩, _⟩ := I.tuple hs
      obtain ⟨as, hr⟩ := Dp.readsAll I ds _ its ha rv
      exact ⟨_, Reads.tuple ho hc hd hr⟩
  | .dict _, _, _, h, _ => by cases h
theorem Dp.readsAll (I : Inv X pins σ H s) : ∀ (ds : List PyData) (vs : List V) (us : List Value), DpAll X.K H vs ds → Vals vs us → ∃ as, ReadsAll s.heap us ds as
  | [], _, _, h, r => by
    cases h
    cases r
    exact ⟨_, ReadsAll.nil⟩
  | d :: ds, _, _, h, r => by
    cases h with
    | cons h1 h2 =>
      cases r with
      | cons r1 r2 =>
        obtain ⟨as, q1⟩ := Dp.reads I d _ _ h1 r1
        obtain ⟨bs, q2⟩ := Dp.readsAll I ds _ _ h2 r2
        exact ⟨_, ReadsAll.cons q1 q2⟩
end
end
section
variable {X : Cx}
def rEqD (K : PySem.W.Frag) : R2 := fun x y H Q => ∃ d e, Dp K H x d ∧ Dp K H y e ∧ SeqAt.shaped d = true ∧ SeqAt.shaped e = true ∧ Q (.bl (PyData.eqv d e)) H
def rNeD (K : PySem.W.Frag) : R2 := fun x y H Q => ∃ d e, Dp K H x d ∧ Dp K H y e ∧ SeqAt.shaped d = true ∧ SeqAt.shaped e = true ∧ Q (.bl (!PyData.eqv d e)) H
theorem op_eqD (hu : X.A.units + 64 < cLine) : OpR X (compareOp .Eq) (rEqD X.K) := by
  intro pins s σ H x y v u Q I rx ry h
  obtain ⟨d, e, hd, he, sd, se, q⟩ := h
  obtain ⟨as, r1⟩ := Dp.reads I d x v hd rx
  obtain ⟨bs, r2⟩ := Dp.reads I e y u he ry
  exact SeqAt.compareEq_shaped r1 r2 sd se hu ⟨.bl _, H, I, rfl, q⟩
theorem op_neD (hu : X.A.units + 64 < cLine) : OpR X (compareOp .NotEq) (rNeD X.K) := by
  intro pins s σ H x y v u Q I rx ry h
  obtain ⟨d, e, hd, he, sd, se, q⟩ := h
  obtain ⟨as, r1⟩ := Dp.reads I d x v hd rx
  obtain ⟨bs, r2⟩ := Dp.reads I e y u he ry
  exact SeqAt.compareNe_shaped r1 r2 sd se hu ⟨.bl _, H, I, rfl, q⟩
end
end L2
namespace L2
open PySem PySem.Spec PyProof.Rows
abbrev CellAt (h : Heap) (c : Addr) (v : Option Value) : Prop := h.IsCell c v
def relS (scope sc : Scope) : Scope :=
  { scope with names := scope.names.map fun (n, k) => if (k == .free && sc.kind == .function && sc.names.lookup n == some .cell) then (n, .cell) else (n, k) }
def cloFrom (cells : List (Str × Addr)) : List (Str × NameKind) → List (Str × Addr) → List (Str × Addr)
  | [], acc => acc
  | (n, k) :: r, acc => if k == .free then cloFrom cells r ((n, (cells.lookup n).getD 0) :: acc) else cloFrom cells r acc
theorem closure_loop (env : Env) (f : Str × NameKind → List (Str × Addr) → Sem (ForInStep (List (Str × Addr))))
    (hf : ∀ n k c, f (n, k) c = if k == .free then (do let a ← cellOf env n; pure (.yield ((n, a) :: c))) else pure (.yield c)) :
    ∀ (names : List (Str × NameKind)) (acc : List (Str × Addr)), (∀ y ∈ names, y.2 = .free → ∃ c, env.cells.lookup y.1 = some c) → forIn names acc f = pure (cloFrom env.cells names acc)
  | [], acc, _ => by rw [List.forIn_nil]; rfl
  | (n, k) :: r, acc, h => by
    rw [List.forIn_cons, hf]
    have ih := fun acc => closure_loop env f hf r acc fun y hy => h y (List.mem_cons_of_mem _ hy)
    unfold cloFrom
    by_cases hk : (k == NameKind.free) = true
    · rw [if_pos hk, if_pos hk]
      obtain ⟨c, hc⟩ := h (n, k) List.mem_cons_self (by simpa using hk)
      have e : cellOf env n = pure c := by unfold cellOf; rw [hc]
      rw [e]
      have e2 : (env.cells.lookup n).getD 0 = c := by rw [hc]; rfl
      rw [e2]
      exact ih _
    · rw [if_neg hk, if_neg hk]
      exact ih _
theorem closure_ok {scope : Scope} {env : Env} (h : ∀ y ∈ scope.names, y.2 = .free → ∃ c, env.cells.lookup y.1 = some c) : closureFor scope env = pure (cloFrom env.cells scope.names []) := by
  simp only [closureFor]
  rw [closure_loop env _ (fun n k c => rfl) scope.names [] h]
  rfl
theorem mem_lookup {α : Type} : ∀ {l : List (Str × α)} {n : Str} {c : α}, (n, c) ∈ l → ∃ c', l.lookup n = some c'
  | (k, v) :: r, n, c, h => by
    rw [List.lookup_cons]
    cases hb : n == k with
    | true => exact ⟨_, rfl⟩
    | false =>
      rcases List.mem_cons.mp h with e | h
      · cases e; simp at hb
      · exact mem_lookup h
theorem cloFrom_mem {cells : List (Str × Addr)} : ∀ {names : List (Str × NameKind)} {acc : List (Str × Addr)} {n : Str} {c : Addr}, (n, c) ∈ cloFrom cells names acc → (n, c) ∈ acc ∨ ((n, .free) ∈ names ∧ c = (cells.lookup n).getD 0)
  | [], _, _, _, h => .inl h
  | (m, k) :: r, acc, n, c, h => by
    unfold cloFrom at h
    split at h
    · rename_i hk
      have hk : k = .free := by simpa using hk
      rcases cloFrom_mem h with h | ⟨h1, h2⟩
      · rcases List.mem_cons.mp h with e | h
        · cases e; exact .inr ⟨hk ▸ List.mem_cons_self, rfl⟩
        · exact .inl h
      · exact .inr ⟨List.mem_cons_of_mem _ h1, h2⟩
    · rcases cloFrom_mem h with h | ⟨h1, h2⟩
      · exact .inl h
      · exact .inr ⟨List.mem_cons_of_mem _ h1, h2⟩
theorem cloFrom_acc {cells : List (Str × Addr)} : ∀ {names : List (Str × NameKind)} {acc : List (Str × Addr)} {p : Str × Addr}, p ∈ acc → p ∈ cloFrom cells names acc
  | [], _, _, h => h
  | (m, k) :: r, acc, p, h => by
    unfold cloFrom
    split
    · exact cloFrom_acc (List.mem_cons_of_mem _ h)
    · exact cloFrom_acc h
theorem cloFrom_has {cells : List (Str × Addr)} : ∀ {names : List (Str × NameKind)} {acc : List (Str × Addr)} {n : Str}, (n, .free) ∈ names → (n, (cells.lookup n).getD 0) ∈ cloFrom cells names acc
  | (m, k) :: r, acc, n, h => by
    unfold cloFrom
    rcases List.mem_cons.mp h with e | h
    · cases e
      exact cloFrom_acc List.mem_cons_self
    · split
      · exact cloFrom_has h
      · exact cloFrom_has h
theorem cells_mem : ∀ {names : List (Str × NameKind)} {h : Heap} {acc : List (Str × Addr)} {x : Str} {c : Addr}, (x, c) ∈ cellsFrom h.objs.size names acc →
    (x, c) ∈ acc ∨ ((x, .cell) ∈ names ∧ h.objs.size ≤ c ∧ CellAt (pushCells h names) c none)
  | [], _, _, _, _, h => .inl h
  | (n, k) :: r, h, acc, x, c, hm => by
    unfold cellsFrom at hm
    unfold pushCells
    split at hm
    · rename_i hk
      rw [if_pos hk]
      have hk : k = .cell := by simpa using hk
      rw [← Heap.size_push h { cls := .type "cell", data := .cell none }] at hm
      rcases cells_mem hm with hm | ⟨h1, h2, h3⟩
      · rcases List.mem_cons.mp hm with e | hm
        · cases e
          exact .inr ⟨hk ▸ List.mem_cons_self, Nat.le_refl _, _, pushCells_keeps r _ _ _ (Heap.get?_push_size _ rfl), rfl⟩
        · exact .inl hm
      · rw [Heap.size_push] at h2
        exact .inr ⟨List.mem_cons_of_mem _ h1, Nat.le_of_succ_le h2, h3⟩
    · rename_i hk
      rw [if_neg hk]
      rcases cells_mem hm with hm | ⟨h1, h2, h3⟩
      · exact .inl hm
      · exact .inr ⟨List.mem_cons_of_mem _ h1, h2, h3⟩
theorem cells_acc : ∀ {names : List (Str × NameKind)} {n : Nat} {acc : List (Str × Addr)} {p : Str × Addr}, p ∈ acc → p ∈ cellsFrom n names acc
  | [], _, _, _, h => h
  | (m, k) :: r, n, acc, p, h => by
    unfold cellsFrom
    split
    · exact cells_acc (List.mem_cons_of_mem _ h)
    · exact cells_acc h
theorem cells_has : ∀ {names : List (Str × NameKind)} {n : Nat} {acc : List (Str × Addr)} {x : Str}, (x, .cell) ∈ names → ∃ c, (x, c) ∈ cellsFrom n names acc
  | (m, k) :: r, n, acc, x, h => by
    unfold cellsFrom
    rcases List.mem_cons.mp h with e | h
    · cases e
      exact ⟨n, cells_acc List.mem_cons_self⟩
    · split
      · exact cells_has h
      · exact cells_has h
theorem cells_inj : ∀ {names : List (Str × NameKind)} {h : Heap} {acc : List (Str × Addr)} {x y : Str} {c : Addr}, (∀ p ∈ acc, p.2 < h.objs.size) → (∀ x y c, (x, c) ∈ acc → (y, c) ∈ acc → x = y) →
    (x, c) ∈ cellsFrom h.objs.size names acc → (y, c) ∈ cellsFrom h.objs.size names acc → x = y
  | [], _, _, _, _, _, _, hi, h1, h2 => hi _ _ _ h1 h2
  | (n, k) :: r, h, acc, x, y, c, hl, hi, h1, h2 => by
    unfold cellsFrom at h1 h2
    split at h1
    · rename_i hk
      rw [if_pos hk] at h2
      rw [← Heap.size_push h { cls := .type "cell", data := .cell none }] at h1 h2
      refine cells_inj (h := h.push _) (fun p hp => ?_) (fun x y c a b => ?_) h1 h2
      · rw [Heap.size_push]
        rcases List.mem_cons.mp hp with rfl | hp
        · exact Nat.lt_succ_self _
        · exact Nat.lt_succ_of_lt (hl p hp)
      · rcases List.mem_cons.mp a with e | a <;> rcases List.mem_cons.mp b with e' | b
        · cases e; cases e'; rfl
        · cases e; exact absurd (hl _ b) (Nat.lt_irrefl _)
        · cases e'; exact absurd (hl _ a) (Nat.lt_irrefl _)
        · exact hi _ _ _ a b
    · rename_i hk
      rw [if_neg hk] at h2
      exact cells_inj hl hi h1 h2
theorem newEnv_comp {M : Model} {A : Around} {E : Value → Shared → Prop} {s : Shared} {scope : Scope} {globals : Addr} {closure : List (Str × Addr)} {qual : Str} {func : Option Addr} {code : Value} {around : Env} {builtins : Addr} {Q : Env → Shared → Prop}
    (h : Q (newEnv scope s.heap.objs.size globals (cellsFrom (s.heap.objs.size + 1) scope.names closure) qual func code (some around) builtins)
      { s with heap := pushCells (s.heap.push { cls := .type "dict", data := .dict #[] }) scope.names }) :
    wpAny M A (newFunctionEnv scope globals closure [] qual func code (some around) builtins) Q E s := by
  simp only [newFunctionEnv, Option.isSome_some, if_true]
  refine wpAny_bind (wpAny_alloc ?_)
  refine wpAny_bind (wpAny_layCells _ (fun n k c => rfl) scope.names closure _ _ ?_)
  rw [show ({ s with heap := s.heap.push { cls := .type "dict", data := .dict #[] } } : Shared).heap.objs.size = s.heap.objs.size + 1 from Heap.size_push ..]
  rw [List.forIn_nil]
  exact wpAny_bind (wpAny_pure (wpAny_pure h))
theorem lookup_relS {sc : Scope} : ∀ {names : List (Str × NameKind)} {x : Str} {k : NameKind},
    (names.map fun (n, k) => if (k == NameKind.free && sc.kind == .function && sc.names.lookup n == some .cell) then (n, NameKind.cell) else (n, k)).lookup x = some k →
    ∃ k', names.lookup x = some k' ∧ (k = k' ∨ (k' = .free ∧ k = .cell))
  | [], _, _, h => by simp at h
  | (n, k₀) :: r, x, k, h => by
    have ih := @lookup_relS sc r x k
    have h' : List.lookup x ((if (k₀ == NameKind.free && sc.kind == .function && sc.names.lookup n == some .cell) = true then (n, NameKind.cell) else (n, k₀)) :: (r.map _)) = some k := h
    cases hx : x == n with
    | true =>
      simp only [List.lookup_cons, hx]
      by_cases hc : (k₀ == NameKind.free && sc.kind == .function && sc.names.lookup n == some .cell) = true
      · rw [if_pos hc] at h'
        simp only [List.lookup_cons, hx] at h'
        cases h'
        simp only [Bool.and_eq_true, beq_iff_eq] at hc
        exact ⟨k₀, rfl, .inr ⟨hc.1.1, rfl⟩⟩
      · rw [if_neg hc] at h'
        simp only [List.lookup_cons, hx] at h'
        cases h'
        exact ⟨_, rfl, .inl rfl⟩
    | false =>
      simp only [List.lookup_cons, hx]
      by_cases hc : (k₀ == NameKind.free && sc.kind == .function && sc.names.lookup n == some .cell) = true
      · rw [if_pos hc] at h'
        simp only [List.lookup_cons, hx] at h'
        exact ih h'
      · rw [if_neg hc] at h'
        simp only [List.lookup_cons, hx] at h'
        exact ih h'
structure BlkOk (N : List Str) (sc scope : Scope) (own : List (Str × Nat)) : Prop where
  kind : scope.kind = .function
  uniq : ∀ y ∈ scope.names, scope.names.lookup y.1 = some y.2
  ix : ∀ p ∈ own, N[p.2]? = some p.1
  free : ∀ y ∈ scope.names, y.2 = .free → sc.names.lookup y.1 = some .cell ∨ sc.names.lookup y.1 = some .free
  own : ∀ y ∈ scope.names, y.2 = .local ∨ y.2 = .cell → y.1 ∈ own.map (·.1) ∨ y.1 ∉ N
def wipe (σ : St) : List Nat → St
  | [] => σ
  | v :: vs => (wipe σ vs).set v none
theorem wipe_length (σ : St) : ∀ vs : List Nat, (wipe σ vs).length = σ.length
  | [] => rfl
  | v :: vs => by unfold wipe; rw [List.length_set, wipe_length σ vs]
theorem wipe_some {σ : St} {i : Nat} {x : V} : ∀ {vs : List Nat}, (wipe σ vs)[i]? = some (some x) → σ[i]? = some (some x) ∧ i ∉ vs
  | [], h => ⟨h, by simp⟩
  | v :: vs, h => by
    unfold wipe at h
    by_cases hi : v = i
    · subst hi
      by_cases hv : v < (wipe σ vs).length
      · rw [List.getElem?_set_self hv] at h; cases h
      · rw [List.getElem?_eq_none (by simpa using hv)] at h; cases h
    · rw [List.getElem?_set_ne hi] at h
      obtain ⟨h1, h2⟩ := wipe_some h
      exact ⟨h1, by simp only [List.mem_cons, not_or]; exact ⟨fun e => hi e.symm, h2⟩⟩
abbrev Cx.blk (X : Cx) (s : Shared) (H : Hp) (scope : Scope) (cenv : Env) (fp : List Addr) : Cx := { X with s_0 := s, H_0 := H, env := cenv, outer := X.stack, ex := fp, fn := fun x => scope.names.lookup x == some .cell, pn := [], xe := fun _ _ => False }
section
variable {X : Cx} {pins : List (Addr × Obj)} {σ : St} {H : Hp} {s : Shared}
theorem block_start {scope : Scope} {own : List (Str × Nat)} {fp : List Addr} (I : Inv X pins σ H s) (ok : BlkOk X.N X.env.scope scope own) (hN : X.N.Nodup) (hfp : ∀ b ∈ fp, FpOk X pins H b ∧ b < s.heap.objs.size) :
    Inv (X.blk s H scope (compEnvC scope (cellsFrom (s.heap.objs.size + 1) scope.names (cloFrom X.env.cells scope.names [])) s.heap.objs.size X.env) fp) [] (wipe σ (own.map (·.2))) H { s with heap := pushCells (s.heap.push { cls := .type "dict", data := .dict #[] }) scope.names } := by
  have hfree : ∀ y ∈ scope.names, y.2 = .free → ∃ c, X.env.cells.lookup y.1 = some c := fun y hy e => by
    rcases ok.free y hy e with k | k
    · exact I.ok.has _ (.inl k)
    · exact I.ok.has _ (.inr k)
  generalize hcenv : compEnvC scope (cellsFrom (s.heap.objs.size + 1) scope.names (cloFrom X.env.cells scope.names [])) s.heap.objs.size X.env = cenv
  have kp : ∀ b o, s.heap.get? b = some o → (pushCells (s.heap.push { cls := .type "dict", data := .dict #[] }) scope.names).get? b = some o := fun b o e => pushCells_keeps _ _ _ _ (Heap.get?_push_of_some _ e)
  have hL : cenv.locals = s.heap.objs.size := by rw [← hcenv]; rfl
  have hcl : cenv.cells = cellsFrom (s.heap.objs.size + 1) scope.names (cloFrom X.env.cells scope.names []) := by rw [← hcenv]; rfl
  have hsc : cenv.scope = relS scope X.env.scope := by rw [← hcenv]; rfl
  rw [← Heap.size_push s.heap { cls := .type "dict", data := .dict #[] }] at hcl
  have cm : ∀ {y c}, (y, c) ∈ cloFrom X.env.cells scope.names [] → X.env.cells.lookup y = some c ∧ c < s.heap.objs.size := fun {y c} hm => by
    rcases cloFrom_mem hm with hm | ⟨h1, rfl⟩
    · cases hm
    · obtain ⟨c, hc⟩ := hfree _ h1 rfl
      rw [hc]
      obtain ⟨w, z⟩ := I.cell _ _ hc
      exact ⟨rfl, z.lt⟩
  have mem : ∀ {y c}, cenv.cells.lookup y = some c → (X.env.cells.lookup y = some c ∧ c < s.heap.objs.size) ∨ (s.heap.objs.size + 1 ≤ c ∧ CellAt (pushCells (s.heap.push { cls := .type "dict", data := .dict #[] }) scope.names) c none) := fun {y c} e => by
    rw [hcl] at e
    rcases cells_mem (PySem.mem_of_lookup e) with hm | ⟨_, h2, h3⟩
    · exact .inl (cm hm)
    · rw [Heap.size_push] at h2; exact .inr ⟨h2, h3⟩
  have look : ∀ {y}, scope.names.lookup y = some .free → ∃ c, cenv.cells.lookup y = some c ∧ X.env.cells.lookup y = some c := fun {y} hl => by
    have hy : (y, NameKind.free) ∈ scope.names := PySem.mem_of_lookup hl
    obtain ⟨c', e'⟩ := mem_lookup (cells_acc (names := scope.names) (n := (s.heap.push { cls := .type "dict", data := .dict #[] }).objs.size) (cloFrom_has (cells := X.env.cells) (acc := []) hy))
    rw [← hcl] at e'
    refine ⟨c', e', ?_⟩
    rw [hcl] at e'
    rcases cells_mem (PySem.mem_of_lookup e') with hm | ⟨h1, _, _⟩
    · exact (cm hm).1
    · have := ok.uniq _ h1
      rw [hl] at this; cases this
  have okB : (X.blk s H scope cenv fp).Ok := by
    refine ⟨I.ok.mod, by show cenv.scope.kind = _; rw [hsc]; exact ok.kind, by show cenv.globals = _; rw [← hcenv]; exact I.ok.glob, by show cenv.builtins = _; rw [← hcenv]; exact I.ok.blt, by show s.heap.objs.size ≤ cenv.locals; rw [hL]; exact Nat.le_refl _,
      fun y z c e1 e2 => ?_, fun y hy => ?_, fun y c z e => ?_, I.ok.hd, I.ok.frames, .inl rfl, fun b hb => ⟨?_, fun y c e z => ?_⟩, I.bs, Nat.le_trans I.ok.bsz I.sz, fun b o e hb => ?_, fun b hb z => ?_, I.stack, I.stkFree⟩
    · have e1 : cenv.cells.lookup y = some c := e1
      have e2 : cenv.cells.lookup z = some c := e2
      rw [hcl] at e1 e2
      refine cells_inj (fun p hp => ?_) (fun y z c a b => I.ok.inj y z c (cm a).1 (cm b).1) (PySem.mem_of_lookup e1) (PySem.mem_of_lookup e2)
      rw [Heap.size_push]
      exact Nat.lt_succ_of_lt (cm (y := p.1) (c := p.2) hp).2
    · show ∃ c, cenv.cells.lookup y = some c
      have key : ∀ k, cenv.kindOf y = some k → (k = .cell ∨ k = .free) → ∃ c, cenv.cells.lookup y = some c := fun k hk hk' => by
        unfold Env.kindOf at hk
        rw [hsc] at hk
        obtain ⟨k', e, r⟩ := lookup_relS hk
        have : k' = .cell ∨ k' = .free := by
          rcases r with rfl | ⟨rfl, _⟩
          · exact hk'
          · exact .inr rfl
        rcases this with rfl | rfl
        · obtain ⟨c, hm⟩ := cells_has (n := (s.heap.push { cls := .type "dict", data := .dict #[] }).objs.size) (acc := cloFrom X.env.cells scope.names []) (PySem.mem_of_lookup e)
          obtain ⟨c', e'⟩ := mem_lookup hm
          exact ⟨c', by rw [hcl]; exact e'⟩
        · obtain ⟨c, h1, _⟩ := look e
          exact ⟨c, h1⟩
      rcases hy with hy | hy
      · exact key _ hy (.inl rfl)
      · exact key _ hy (.inr rfl)
    · have z : (scope.names.lookup y == some NameKind.cell) = true := z
      have z : scope.names.lookup y = some .cell := by simpa using z
      have e : cenv.cells.lookup y = some c := e
      rw [hcl] at e
      rcases cells_mem (PySem.mem_of_lookup e) with hm | ⟨_, h2, _⟩
      · rcases cloFrom_mem hm with hm | ⟨h1, _⟩
        · cases hm
        · have q := ok.uniq _ h1
          rw [z] at q; cases q
      · rw [Heap.size_push] at h2
        exact Nat.le_of_succ_le h2
    · show b ≠ cenv.locals
      rw [hL]; exact Nat.ne_of_lt (hfp b hb).2
    · have e : cenv.cells.lookup y = some c := e
      rcases mem e with ⟨h1, _⟩ | ⟨h1, _⟩
      · exact (hfp b hb).1.2.2.2.2.1 y c h1 z
      · have h2 : s.heap.objs.size + 1 ≤ b := by rw [← z]; exact h1
        exact absurd (Nat.lt_of_lt_of_le (hfp b hb).2 (Nat.le_of_succ_le h2)) (Nat.lt_irrefl _)
    · rcases (hfp b hb).1.2.2.2.1 with z | z
      · exact I.ok.noex b o e z
      · exact absurd (Nat.lt_of_lt_of_le (Heap.lt_size e) (Nat.le_trans I.ok.bsz z)) (Nat.lt_irrefl _)
    · rcases List.mem_cons.mp (I.stkSub b z) with z | z
      · exact (hfp b hb).1.2.1 z
      · exact (hfp b hb).1.2.2.1 z
  refine ⟨okB, rfl, I.bare, Un.kept kp, ⟨fun _ => none, ?_, fun i y av e1 e2 e3 => ?_⟩, fun y c e => ?_, ?_, fun y c e => ?_, fun p hp => ?_, I.hok.kept kp, by rw [wipe_length]; exact I.len⟩
  · show Heap.Ns _ cenv.locals _
    rw [hL]
    exact Heap.Ns.keeps (Heap.Ns.new ..) fun b o e => pushCells_keeps _ _ _ _ e
  · obtain ⟨e2, hne⟩ := wipe_some e2
    have hfr : scope.names.lookup y = some .free ∧ (cenv.kindOf y = some .cell ∨ cenv.kindOf y = some .free) := by
      have key : ∀ k, cenv.scope.names.lookup y = some k → k = .local ∨ k = .cell ∨ k = .free → scope.names.lookup y = some .free ∧ (cenv.kindOf y = some .cell ∨ cenv.kindOf y = some .free) := fun k hk hk' => by
        have hk0 := hk
        rw [hsc] at hk
        obtain ⟨k', e, r⟩ := lookup_relS hk
        have no : ¬ (k' = .local ∨ k' = .cell) := fun hh => by
          rcases ok.own _ (PySem.mem_of_lookup e) hh with e' | e'
          · obtain ⟨p, hp, hpy⟩ := List.mem_map.mp e'
            have e3 := ok.ix p hp
            have : p.1 = y := hpy
            rw [this] at e3
            exact hne (List.mem_map.mpr ⟨p, hp, nodup_ix hN e3 e1⟩)
          · exact e' (List.mem_of_getElem? e1)
        rcases r with rfl | ⟨rfl, rfl⟩
        · rcases hk' with rfl | rfl | rfl
          · exact absurd (.inl rfl) no
          · exact absurd (.inr rfl) no
          · exact ⟨e, .inr hk0⟩
        · exact ⟨e, .inl hk0⟩
      have e3 : Vis cenv.scope y := e3
      rcases e3 with e3 | e3 | e3
      · exact key _ e3 (.inl rfl)
      · exact key _ e3 (.inr (.inl rfl))
      · exact key _ e3 (.inr (.inr rfl))
    obtain ⟨m, hn, hl⟩ := I.loc
    have hvis : Vis X.env.scope y := (ok.free _ (PySem.mem_of_lookup hfr.1) rfl).elim (fun k => .inr (.inl k)) (fun k => .inr (.inr k))
    obtain ⟨w, r, q⟩ := hl i y av e1 e2 hvis
    refine ⟨w, r, .inr ⟨hfr.2, ?_⟩⟩
    obtain ⟨c, h1, h2⟩ := look hfr.1
    rcases q with ⟨k, _⟩ | ⟨_, c', e', z⟩
    · have k : X.env.scope.names.lookup y = some .local := k
      rcases ok.free _ (PySem.mem_of_lookup hfr.1) rfl with k' | k' <;> rw [show X.env.scope.names.lookup y = _ from k'] at k <;> cases k
    · rw [h2] at e'; cases e'
      exact ⟨c, h1, z.keeps kp⟩
  · have e : cenv.cells.lookup y = some c := e
    rcases mem e with ⟨h1, _⟩ | ⟨_, z⟩
    · obtain ⟨w, z⟩ := I.cell y c h1
      exact ⟨w, z.keeps kp⟩
    · exact ⟨_, z⟩
  · show H cenv.locals = none
    rw [hL]; exact I.hok.fresh (Nat.le_refl _)
  · have e : cenv.cells.lookup y = some c := e
    rcases mem e with ⟨h1, _⟩ | ⟨h1, _⟩
    · exact I.freeC y c h1
    · exact I.hok.fresh (Nat.le_of_succ_le h1)
  · exact absurd (show p ∈ ([] : List (Addr × Obj)) ++ [] from hp) (by simp)
theorem app_ok {E : Value → Shared → Prop} {D : Addr} {xs : List V} {y : V} {v : Value} {Q : Value → Shared → Prop} (I : Inv X pins σ H s) (hD : H D = some (.lst xs)) (hz : xs.length < sizeLine) (r : RelV y v)
    (h : ∀ s', Inv X pins σ (upd H D (.lst (xs ++ [y]))) s' → Q .none s') : wpAny (model X.prog X.w) X.A (call (.builtin "list.append") [.ref D, v]) Q E s := by
  obtain ⟨hz', its, n, ri, e⟩ := I.hok D _ hD
  have hl := ri.length
  refine append_at (hsz := by rw [List.size_toArray]; omega) e fun h' sb ho' => ?_
  refine h { s with heap := h' } (I.write (t' := s.toks) (by rw [hD]; trivial) (.inl rfl) (fun b u hb q => (sb.2 b hb).trans q) ⟨_, ho'⟩ ⟨by rw [List.length_append]; exact hz, its ++ [v], n + 1, ri.append (.cons r .nil), ?_⟩)
  rw [ho']
  simp
def PTs (X : Cx) (ifs : List Expr) (t : TT) : Prop :=
  ∀ (pins : List (Addr × Obj)) (s : Shared) (σ : St) (H : Hp) (Q : Bool → Hp → Prop), Inv X pins σ H s → t σ H Q →
    wpAny (model X.prog X.w) X.A (forIn ifs true fun c r => if r = true then do let ok ← isTrue c X.env (eval c X.env); pure (ForInStep.yield ok) else pure (ForInStep.yield r)) (TP X pins σ Q) X.xe s
def tYes : TT := fun _ H Q => Q true H
theorem pts_nil : PTs X [] tYes := fun _ _ _ H _ I h => wpAny_tests_nil ⟨H, I, h⟩
theorem pts_one {c : Expr} {t : TT} (h : PT X c t) : PTs X [c] t := fun pins s σ H Q I hw => wpAny_tests_one (h pins s σ H Q I hw)
end
theorem thnF {α : Type} {t : Sem α} {Q Q' : α → Shared → Prop} {M : Model} {A : Around} {E : Value → Shared → Prop} {s : Shared} (h : wpAny M A t Q (fun _ _ => False) s) (hQ : ∀ a s, Q a s → Q' a s) : wpAny M A t Q' E s := wpAny_mono h hQ fun _ _ z => False.elim z
theorem compLoop_any {prog : Program} {w : World} {A : Around} {R : Result → Shared → Prop} {s : Shared} {elt target iter : Expr} {ifs : List Expr} {scope : Scope} {pos : Pos} {it acc : Value} {env : Env} (I : Nat → Shared → Prop)
    (turn : ∀ n s, I n s → wpAny (model prog w) A (pyNext it) (fun r s₁ => match r with
      | none => R (.ok .next) s₁
      | some v => wpAny (model prog w) A (letOwnedTupleGo target it v) (fun _ s₁' => wpAny (model prog w) A (assign target env v) (fun _ s₂ =>
          wpAny (model prog w) A (forIn ifs true fun c r => if r = true then do let ok ← isTrue c env (eval c env); pure (ForInStep.yield ok) else pure (ForInStep.yield r)) (fun ok s₃ =>
            if ok = true then wpAny (model prog w) A (eval elt env) (fun x s₄ =>
              wpAny (model prog w) A (call (.builtin "list.append") [acc, x]) (fun _ s₅ => ∃ m, m < n ∧ I m s₅) (notedBy (model prog w) A env fun e s' => R (.error e) s') s₄) (notedBy (model prog w) A env fun e s' => R (.error e) s') s₃
            else ∃ m, m < n ∧ I m s₃) (notedBy (model prog w) A env fun e s' => R (.error e) s') s₂) (notedBy (model prog w) A env fun e s' => R (.error e) s') s₁') (notedBy (model prog w) A env fun e s' => R (.error e) s') s₁) (notedBy (model prog w) A env fun e s' => R (.error e) s') s)
    (n : Nat) (h : I n s) :
    codeAny (model prog w) A (.compLoop (.ListComp elt [⟨target, iter, ifs, 0⟩] scope pos) 0 it acc env) R s := by
  refine codeAny_loop rfl I (fun n s hI => ?_) n h
  show wpAny _ A ((compTurn (.ListComp elt [⟨target, iter, ifs, 0⟩] scope pos) 0 it acc env).onRaise (fun x => do noteFrame x env; theTreesLotGoes x)) _ _ s
  refine wpAny_noted ?_
  rw [compTurn_list]
  refine wpAny_bind (wpAny_standAt (wpAny_bind (wpAny_mono (turn n s hI) (fun r s₁ h₁ => ?_) fun _ _ h' => h')))
  cases r with
  | none => exact wpAny_pure h₁
  | some v =>
    refine wpAny_bind (wpAny_mono h₁ (fun _ s₁' h₁' => ?_) fun _ _ h' => h')
    refine wpAny_bind (wpAny_mono h₁' (fun _ s₂ h₂ => wpAny_bind (wpAny_mono h₂ (fun ok s₃ h₃ => ?_) fun _ _ h' => h')) fun _ _ h' => h')
    cases ok with
    | false => exact wpAny_pure ⟨rfl, h₃⟩
    | true =>
      exact wpAny_bind (wpAny_bind (wpAny_mono h₃ (fun x s₄ h₄ => wpAny_bind (wpAny_mono h₄ (fun _ s₅ h₅ => wpAny_pure (wpAny_pure ⟨rfl, h₅⟩)) fun _ _ h' => h')) fun _ _ h' => h'))
section
variable {X : Cx}
def tLc (wi : TI) (g : TG) (tt : TT) (te : TE) (vs : List Nat) : TE := fun σ H Q => wi σ H fun J H1 => ∀ D, H1 D = none → ∃ W : Nat → Nat → Hp → Prop, (∃ m, W 0 m (upd H1 D (.lst []))) ∧ ∀ i m H, W i m H →
  (J.stop i H ∧ Q (.ref D) H) ∨ (J.go i H ∧ ∃ Nx : Hp → Prop, (∀ H', Nx H' → ∃ m', m' < m ∧ W (i + 1) m' H') ∧ ∀ x H', J.yld i H x H' → g x (wipe σ vs) H' fun σ2 H2 => wipe σ2 vs = wipe σ vs ∧ tt σ2 H2 fun b H3 =>
    if b = true then te σ2 H3 fun y H4 => ∃ acc, H4 D = some (.lst acc) ∧ acc.length < sizeLine ∧ Nx (upd H4 D (.lst (acc ++ [y]))) else Nx H3)
theorem lc_core {pins : List (Addr × Obj)} {s : Shared} {σ : St} {H : Hp} {Q : VK} {elt tg iter : Expr} {ifs : List Expr} {scope : Scope} {own : List (Str × Nat)} {pos pos' : Pos} {wi : TI} {g : TG} {tt : TT} {te : TE} {use : Option (Value → Sem Unit)} {Qf : Value → Shared → Prop}
    (hc : X.calm = true) (hN : X.N.Nodup) (I : Inv X pins σ H s) (hi : PI X tg iter wi) (ok : BlkOk X.N X.env.scope scope own)
    (hg : ∀ (s : Shared) (H : Hp) (C : Addr) (cl : List (Str × Addr)) (fp : List Addr), PG (X.blk s H scope (compEnvC scope cl C X.env) fp) tg g) (ht : ∀ (s : Shared) (H : Hp) (C : Addr) (cl : List (Str × Addr)) (fp : List Addr), PTs (X.blk s H scope (compEnvC scope cl C X.env) fp) ifs tt)
    (he : ∀ (s : Shared) (H : Hp) (C : Addr) (cl : List (Str × Addr)) (fp : List Addr), PE (X.blk s H scope (compEnvC scope cl C X.env) fp) elt te) (hs : ∀ x, foldedSetIterable iter X.env x = pure x)
    (h : tLc wi g tt te (own.map (·.2)) σ H Q)
    (hRR : ∀ D C s' m H', Inv X pins σ H' s' → Q (.ref D) H' → s'.heap.Ns C m → FpOk X pins H' C → compPost (model X.prog X.w) X.A X.xe use Qf (.ref D) C (.ok .next) s') :
    wpAny (model X.prog X.w) X.A (comprehension (.ListComp elt [⟨tg, iter, ifs, 0⟩] scope pos) scope X.env pos' (newList []) false (eval iter X.env) use) Qf X.xe s := by
  have hfree : ∀ y ∈ scope.names, y.2 = .free → ∃ c, X.env.cells.lookup y.1 = some c := fun y hy e => by
    rcases ok.free y hy e with k | k
    · exact I.ok.has _ (.inl k)
    · exact I.ok.has _ (.inr k)
  refine wpAny_comprehension_free (use := use) rfl hs (closure_ok hfree) ok.kind (fun y hy e => by rw [ok.uniq y hy, e])
    (thn (hi pins s σ H _ I h) fun xv s1 hx => thn hx fun itv s2 h2 => ?_)
  obtain ⟨it, fp, tn, J, H2, e, I2, T, st2, f2, q⟩ := h2
  subst e
  refine wpAny_newObj_type (newEnv_comp ?_) (by show 0 ≤ sizeLine; decide)
  generalize hD : s2.heap.objs.size = D
  have hDn : H2 D = none := I2.hok.fresh (Nat.le_of_eq hD)
  obtain ⟨W, ⟨m0, w0⟩, turn⟩ := q D hDn
  -- the new list
  generalize hs3 : ({ s2 with heap := s2.heap.push { cls := .type "list", data := .seq ([] : List Value).toArray } } : Shared) = s3
  have I3 : Inv X pins σ (upd H2 D (.lst [])) s3 := by
    rw [← hs3]
    refine I2.laid (t' := s2.toks) (fun b o e => Heap.get?_push_of_some _ e) (Nat.le_of_eq hD) ⟨Nat.zero_le _, [], 0, .nil, ?_⟩
    rw [← hD]
    exact Heap.get?_push_size _ rfl
  have h3 : s3.heap = s2.heap.push { cls := .type "list", data := .seq ([] : List Value).toArray } := by rw [← hs3]
  have sz : ∀ b ∈ fp, b < s2.heap.objs.size := fun b hb => by
    obtain ⟨o, e, _⟩ := T.obj _ _ st2 b hb
    exact Heap.lt_size e
  have f3 : ∀ b ∈ fp, FpOk X pins (upd H2 D (.lst [])) b ∧ b < s3.heap.objs.size := fun b hb => by
    have hlt := sz b hb
    refine ⟨⟨?_, (f2 b hb).2⟩, by rw [h3, Heap.size_push]; exact Nat.lt_succ_of_lt hlt⟩
    rw [upd_ne (by rw [← hD]; exact Nat.ne_of_lt hlt)]
    exact (f2 b hb).1
  have st3 : tn 0 s3.heap := T.keep _ _ _ st2 fun b _ o e => by rw [h3]; exact Heap.get?_push_of_some _ e
  have I4 := block_start I3 ok hN f3
  have pg := hg s3 (upd H2 D (.lst [])) s3.heap.objs.size (cellsFrom (s3.heap.objs.size + 1) scope.names (cloFrom X.env.cells scope.names [])) fp
  have pt := ht s3 (upd H2 D (.lst [])) s3.heap.objs.size (cellsFrom (s3.heap.objs.size + 1) scope.names (cloFrom X.env.cells scope.names [])) fp
  have pe := he s3 (upd H2 D (.lst [])) s3.heap.objs.size (cellsFrom (s3.heap.objs.size + 1) scope.names (cloFrom X.env.cells scope.names [])) fp
  show codeAny _ _ (.compStart (.ListComp elt [⟨tg, iter, ifs, 0⟩] scope pos) 0 (.ref it) (.ref D) (compEnvC scope (cellsFrom (s3.heap.objs.size + 1) scope.names (cloFrom X.env.cells scope.names [])) s3.heap.objs.size X.env)) (compPost (model X.prog X.w) X.A X.xe use Qf (.ref D) s3.heap.objs.size) { s3 with heap := pushCells (s3.heap.push { cls := .type "dict", data := .dict #[] }) scope.names }
  have nfp : ∀ b ∈ fp, (upd H2 D (.lst [])) b = none := fun b hb => (f3 b hb).1.1
  generalize hce : compEnvC scope (cellsFrom (s3.heap.objs.size + 1) scope.names (cloFrom X.env.cells scope.names [])) s3.heap.objs.size X.env = ce at I4 pg pt pe ⊢
  have cL : ce.locals = s3.heap.objs.size := by subst hce; rfl
  generalize hH3 : upd H2 D (.lst []) = H3 at I3 I4 pg pt pe w0 nfp f3
  generalize hs4 : ({ s3 with heap := pushCells (s3.heap.push { cls := .type "dict", data := .dict #[] }) scope.names } : Shared) = s4 at I4 ⊢
  have st4 : tn 0 s4.heap := T.keep _ _ _ st3 fun b _ o e => by rw [← hs4]; exact pushCells_keeps _ _ _ _ (Heap.get?_push_of_some _ e)
  have stat : ∀ {σ' : St} {H' : Hp} {s' : Shared}, Inv (X.blk s3 H3 scope ce fp) [] σ' H' s' → (∀ b ∈ fp, H' b = none) → ∀ b ∈ fp, FpOk (X.blk s3 H3 scope ce fp) [] H' b := fun {σ' H' s'} I' hn b hb =>
    ⟨hn b hb, (I'.ok.exf b hb).1, I'.ok.exfs b hb, .inl hb, fun x c e => (I'.ok.exf b hb).2 x c e, fun p hp => absurd (show p ∈ ([] : List (Addr × Obj)) ++ [] from hp) (by simp)⟩
  have loop : codeAny (model X.prog X.w) X.A (.compLoop (.ListComp elt [⟨tg, iter, ifs, 0⟩] scope pos) 0 (.ref it) (.ref D) ce) (compPost (model X.prog X.w) X.A X.xe use Qf (.ref D) s3.heap.objs.size) s4 := by
    refine compLoop_any (fun n s' => ∃ i H', Inv (X.blk s3 H3 scope ce fp) [] (wipe σ (own.map (·.2))) H' s' ∧ tn i s'.heap ∧ (∀ b ∈ fp, H' b = none) ∧ W i n H') ?_ m0 ⟨0, H3, I4, st4, nfp, w0⟩
    rintro n s5 ⟨i, H5, I5, st5, n5, w5⟩
    rcases turn i n H5 w5 with ⟨stop, qq⟩ | ⟨go, Nx, hNx, step⟩
    · have td := T.done (X.blk s3 H3 scope ce fp) rfl rfl rfl hc i [] s5 _ H5 (fun _ _ => False) I5 (stat I5 n5) st5 stop
      refine thnF td fun r s6 ⟨hr, I6⟩ => ?_
      subst hr
      -- back in the def's context
      have I7 : Inv X pins σ H5 s6 := I3.call' (ch := fp) I6.os I6.base I6.hok I6.bare fun b hb => ⟨(f3 b hb).1.2.2.2.1, (f3 b hb).1.2.1, (f3 b hb).1.2.2.2.2.1, (f3 b hb).1.2.2.2.2.2⟩
      have nC : H5 s3.heap.objs.size = none := by
        have z : H5 ce.locals = none := I6.free
        rw [cL] at z
        exact z
      obtain ⟨m, hn, _⟩ := I6.loc
      have hn : s6.heap.Ns ce.locals m := hn
      rw [cL] at hn
      exact hRR D s3.heap.objs.size s6 m H5 I7 qq hn (I3.fpOk (Nat.le_refl _) nC)
    · have ti := T.item (X.blk s3 H3 scope ce fp) rfl rfl rfl hc i [] s5 _ H5 (fun _ _ => False) I5 (stat I5 n5) st5 go
      refine thnF ti fun r s6 ⟨u, hr, h6⟩ => ?_
      subst hr
      refine thnF h6 fun _ s7 ⟨x, H7, I7, r7, y7, st7, n7⟩ => ?_
      have I7' := I7.pinned (stat I7 n7) (T.obj _ _ st7)
      refine thnF (pg _ s7 _ H7 x u _ I7' r7 (step x H7 y7)) fun _ s8 ⟨σ8, H8, I8, hw8, q8⟩ => ?_
      refine thnF (pt _ s8 σ8 H8 _ I8 q8) fun b s9 ⟨H9, I9, q9⟩ => ?_
      -- the turn's end
      have fin : ∀ {s' : Shared} {H' : Hp}, Inv (X.blk s3 H3 scope ce fp) ([] ++ pinsAt fp s7.heap) σ8 H' s' → Nx H' → ∃ m, m < n ∧ ∃ i H', Inv (X.blk s3 H3 scope ce fp) [] (wipe σ (own.map (·.2))) H' s' ∧ tn i s'.heap ∧ (∀ b ∈ fp, H' b = none) ∧ W i m H' := fun {s' H'} I' nx => by
        obtain ⟨m', hm, w'⟩ := hNx H' nx
        have pin' : ∀ b ∈ fp, ∀ o, s7.heap.get? b = some o → s'.heap.get? b = some o ∧ H' b = none := fun b hb o e =>
          let z := I'.pin (b, o) (List.mem_append_right _ (List.mem_append_right _ (mem_pinsAt hb e)))
          ⟨z.1, z.2.1⟩
        have hl : (wipe σ (own.map (·.2))).length = σ8.length := by rw [← hw8, wipe_length]
        refine ⟨m', hm, i + 1, H', (I'.unpinned (pins := [])).weak hl (fun j v e => ?_), T.keep _ _ _ st7 fun b hb o e => (pin' b hb o e).1, fun b hb => ?_, w'⟩
        · rw [← hw8] at e
          exact (wipe_some e).1
        · obtain ⟨o, e, _⟩ := T.obj _ _ st7 b hb
          exact (pin' b hb o e).2
      cases b with
      | false =>
        simp only [Bool.false_eq_true, if_false] at q9 ⊢
        exact fin I9 q9
      | true =>
        simp only [if_true] at q9 ⊢
        refine thnF (pe _ s9 σ8 H9 _ I9 q9) fun z s10 ⟨yv, H10, I10, r10, acc, hD10, hz10, nx⟩ => ?_
        exact app_ok (X := X.blk s3 H3 scope ce fp) I10 hD10 hz10 r10 fun s11 I11 => fin I11 nx
  exact codeAny_compStart_list loop (T.self X.A 0 _ _ _ st4 loop)
theorem pe_lc {elt tg iter : Expr} {ifs : List Expr} {scope : Scope} {own : List (Str × Nat)} {pos : Pos} {wi : TI} {g : TG} {tt : TT} {te : TE} (hc : X.calm = true) (hN : X.N.Nodup) (hi : PI X tg iter wi) (ok : BlkOk X.N X.env.scope scope own)
    (hg : ∀ (s : Shared) (H : Hp) (C : Addr) (cl : List (Str × Addr)) (fp : List Addr), PG (X.blk s H scope (compEnvC scope cl C X.env) fp) tg g) (ht : ∀ (s : Shared) (H : Hp) (C : Addr) (cl : List (Str × Addr)) (fp : List Addr), PTs (X.blk s H scope (compEnvC scope cl C X.env) fp) ifs tt)
    (he : ∀ (s : Shared) (H : Hp) (C : Addr) (cl : List (Str × Addr)) (fp : List Addr), PE (X.blk s H scope (compEnvC scope cl C X.env) fp) elt te) (hs : ∀ x, foldedSetIterable iter X.env x = pure x := by intro _; rfl) :
    PE X (.ListComp elt [⟨tg, iter, ifs, 0⟩] scope pos) (tLc wi g tt te (own.map (·.2))) := by
  intro pins s σ H Q I h
  rw [eval_ListComp]
  refine lc_core hc hN I hi ok hg ht he hs h fun D C s' m H' I' q hn f => ⟨m, hn, fun h'' sb => ?_⟩
  obtain ⟨f0, f1, f2, f3, f4, f5⟩ := f
  exact ⟨.ref D, H', I'.turned (t' := s'.toks) (fun b o hb e => (sb.2 b hb).trans e) f0 f1 f3 f4 f5, rfl, q⟩
end
theorem lc_list {K : PySem.W.Frag} {a : Addr} {xs : List V} {g : TG} {tt : TT} {te : TE} {vs : List Nat} {σ : St} {H1 : Hp} {D : Addr} {Qd : Hp → Prop} (Pv : Nat → Hp → Prop) (h0 : Pv 0 (upd H1 D (.lst []))) (hl : ∀ i H, i ≤ xs.length → Pv i H → SqL K H a xs)
    (hs : ∀ i x H, xs[i]? = some x → Pv i H → g x (wipe σ vs) H fun σ2 H2 => wipe σ2 vs = wipe σ vs ∧ tt σ2 H2 fun b H3 =>
      if b = true then te σ2 H3 fun y H4 => ∃ acc, H4 D = some (.lst acc) ∧ acc.length < sizeLine ∧ Pv (i + 1) (upd H4 D (.lst (acc ++ [y]))) else Pv (i + 1) H3) (hd : ∀ H, Pv xs.length H → Qd H) :
    ∃ W : Nat → Nat → Hp → Prop, (∃ m, W 0 m (upd H1 D (.lst []))) ∧ ∀ i m H, W i m H →
      ((Itl K a).stop i H ∧ Qd H) ∨ ((Itl K a).go i H ∧ ∃ Nx : Hp → Prop, (∀ H', Nx H' → ∃ m', m' < m ∧ W (i + 1) m' H') ∧ ∀ x H', (Itl K a).yld i H x H' → g x (wipe σ vs) H' fun σ2 H2 => wipe σ2 vs = wipe σ vs ∧ tt σ2 H2 fun b H3 =>
        if b = true then te σ2 H3 fun y H4 => ∃ acc, H4 D = some (.lst acc) ∧ acc.length < sizeLine ∧ Nx (upd H4 D (.lst (acc ++ [y]))) else Nx H3) := by
  refine ⟨fun i m H => m = xs.length - i ∧ i ≤ xs.length ∧ Pv i H, ⟨xs.length, by simp, Nat.zero_le _, h0⟩, ?_⟩
  rintro i m H ⟨rfl, hi, p⟩
  have q := hl i H hi p
  by_cases hlt : i < xs.length
  · refine .inr ⟨⟨xs, xs[i], q, by simp [hlt]⟩, Pv (i + 1), fun H' p' => ⟨xs.length - (i + 1), by omega, rfl, hlt, p'⟩, fun x H' y => ?_⟩
    obtain ⟨e, y⟩ := y
    subst e
    exact hs i x _ (y xs q) p
  · have e : i = xs.length := by omega
    subst e
    exact .inl ⟨⟨xs, q, Nat.le_refl _⟩, hd H p⟩
theorem lc_tup {K : PySem.W.Frag} {a : Addr} {xs : List V} {g : TG} {tt : TT} {te : TE} {vs : List Nat} {σ : St} {H1 : Hp} {D : Addr} {Qd : Hp → Prop} (Pv : Nat → Hp → Prop) (h0 : Pv 0 (upd H1 D (.lst []))) (hl : ∀ i H, i ≤ xs.length → Pv i H → SqT K H a xs)
    (hs : ∀ i x H, xs[i]? = some x → Pv i H → g x (wipe σ vs) H fun σ2 H2 => wipe σ2 vs = wipe σ vs ∧ tt σ2 H2 fun b H3 =>
      if b = true then te σ2 H3 fun y H4 => ∃ acc, H4 D = some (.lst acc) ∧ acc.length < sizeLine ∧ Pv (i + 1) (upd H4 D (.lst (acc ++ [y]))) else Pv (i + 1) H3) (hd : ∀ H, Pv xs.length H → Qd H) :
    ∃ W : Nat → Nat → Hp → Prop, (∃ m, W 0 m (upd H1 D (.lst []))) ∧ ∀ i m H, W i m H →
      ((Itt K a).stop i H ∧ Qd H) ∨ ((Itt K a).go i H ∧ ∃ Nx : Hp → Prop, (∀ H', Nx H' → ∃ m', m' < m ∧ W (i + 1) m' H') ∧ ∀ x H', (Itt K a).yld i H x H' → g x (wipe σ vs) H' fun σ2 H2 => wipe σ2 vs = wipe σ vs ∧ tt σ2 H2 fun b H3 =>
        if b = true then te σ2 H3 fun y H4 => ∃ acc, H4 D = some (.lst acc) ∧ acc.length < sizeLine ∧ Nx (upd H4 D (.lst (acc ++ [y]))) else Nx H3) := by
  refine ⟨fun i m H => m = xs.length - i ∧ i ≤ xs.length ∧ Pv i H, ⟨xs.length, by simp, Nat.zero_le _, h0⟩, ?_⟩
  rintro i m H ⟨rfl, hi, p⟩
  have q := hl i H hi p
  by_cases hlt : i < xs.length
  · refine .inr ⟨⟨xs, xs[i], q, by simp [hlt]⟩, Pv (i + 1), fun H' p' => ⟨xs.length - (i + 1), by omega, rfl, hlt, p'⟩, fun x H' y => ?_⟩
    obtain ⟨e, y⟩ := y
    subst e
    exact hs i x _ (y xs q) p
  · have e : i = xs.length := by omega
    subst e
    exact .inl ⟨⟨xs, q, Nat.le_refl _⟩, hd H p⟩
def blkC (N : List Str) (sc scope : Scope) (own : List (Str × Nat)) : Bool :=
  (match scope.kind with | .function => true | _ => false) && (scope.names.all fun y => decide (scope.names.lookup y.1 = some y.2)) && (own.all fun p => decide (N[p.2]? = some p.1)) &&
    (scope.names.all fun y => match y.2 with
      | .free => (match sc.names.lookup y.1 with | some .cell => true | some .free => true | _ => false)
      | .local => decide (y.1 ∈ own.map (·.1)) || decide (y.1 ∉ N)
      | .cell => decide (y.1 ∈ own.map (·.1)) || decide (y.1 ∉ N)
      | _ => true)
theorem blkOk_by {N : List Str} {sc scope : Scope} {own : List (Str × Nat)} (h : blkC N sc scope own = true) : BlkOk N sc scope own := by
  unfold blkC at h
  simp only [Bool.and_eq_true, List.all_eq_true, decide_eq_true_eq] at h
  obtain ⟨⟨⟨h1, h2⟩, h3⟩, h4⟩ := h
  refine ⟨?_, h2, h3, fun y hy e => ?_, fun y hy e => ?_⟩
  · split at h1
    · assumption
    · cases h1
  · have q := h4 y hy
    simp only [e] at q
    split at q <;> first | exact .inl (by assumption) | exact .inr (by assumption) | cases q
  · have q := h4 y hy
    rcases e with e | e <;> (simp only [e, Bool.or_eq_true, decide_eq_true_eq] at q; exact q)
end L2
namespace L2
open PySem PySem.Spec PyProof.Rows
section
variable {κ : Type} [DecidableEq κ]
def valV (kvs : List (κ × V)) (k : κ) : Option V := (kvs.find? fun kv => decide (kv.1 = k)).map (·.2)
def putK (kvs : List (κ × V)) (k : κ) (v : V) : List (κ × V) :=
  if (kvs.any fun kv => decide (kv.1 = k)) = true then kvs.map (fun kv => if kv.1 = k then (kv.1, v) else kv) else kvs ++ [(k, v)]
theorem valV_pos {p : κ × V} {r : List (κ × V)} {k : κ} (e : p.1 = k) : valV (p :: r) k = some p.2 := by simp [valV, List.find?_cons, e]
theorem valV_neg {p : κ × V} {r : List (κ × V)} {k : κ} (e : ¬ p.1 = k) : valV (p :: r) k = valV r k := by simp [valV, List.find?_cons, e]
theorem valV_any (k : κ) : ∀ kvs : List (κ × V), (kvs.any fun kv => decide (kv.1 = k)) = (valV kvs k).isSome
  | [] => rfl
  | p :: r => by
    rw [List.any_cons]
    by_cases e : p.1 = k
    · simp only [valV_pos e, decide_eq_true e, Bool.true_or, Option.isSome_some]
    · rw [valV_neg e, decide_eq_false e, Bool.false_or]; exact valV_any k r
theorem valV_map (k j : κ) (y : V) : ∀ kvs : List (κ × V), valV (kvs.map fun kv => if kv.1 = k then (kv.1, y) else kv) j = (valV kvs j).map fun x => if j = k then y else x
  | [] => rfl
  | p :: r => by
    have ih := valV_map k j y r
    rw [List.map_cons]
    by_cases h : p.1 = k
    · rw [if_pos h]
      by_cases e : p.1 = j
      · rw [valV_pos (p := (p.1, y)) e, valV_pos e, Option.map_some, if_pos (e.symm.trans h)]
      · rw [valV_neg (p := (p.1, y)) e, valV_neg e, ih]
    · rw [if_neg h]
      by_cases e : p.1 = j
      · rw [valV_pos (p := p) e, valV_pos e, Option.map_some, if_neg (fun z => h (e.trans z))]
      · rw [valV_neg (p := p) e, valV_neg e, ih]
theorem valV_snoc (k j : κ) (y : V) : ∀ kvs : List (κ × V), valV kvs k = none → valV (kvs ++ [(k, y)]) j = if j = k then some y else valV kvs j
  | [], _ => by
    by_cases e : k = j
    · rw [if_pos e.symm]; exact valV_pos (p := (k, y)) e
    · rw [if_neg (fun z => e z.symm)]; exact valV_neg (p := (k, y)) e
  | p :: r, hn => by
    rw [List.cons_append]
    have hk : ¬ p.1 = k := fun z => by rw [valV_pos z] at hn; cases hn
    rw [valV_neg hk] at hn
    have ih := valV_snoc k j y r hn
    by_cases e : p.1 = j
    · rw [valV_pos e, valV_pos e, if_neg (fun z => hk (e.trans z))]
    · rw [valV_neg e, valV_neg e, ih]
theorem valV_put (kvs : List (κ × V)) (k j : κ) (y : V) : valV (putK kvs k y) j = if j = k then some y else valV kvs j := by
  unfold putK
  by_cases a : (kvs.any fun kv => decide (kv.1 = k)) = true
  · rw [if_pos a, valV_map]
    rw [valV_any] at a
    by_cases e : j = k
    · obtain ⟨x, hx⟩ := Option.isSome_iff_exists.mp a
      rw [if_pos e, e, hx, Option.map_some, if_pos rfl]
    · rw [if_neg e]
      cases valV kvs j with
      | none => rfl
      | some x => rw [Option.map_some, if_neg e]
  · rw [if_neg a]
    refine valV_snoc k j y kvs ?_
    rw [valV_any] at a
    cases q : valV kvs k with
    | none => rfl
    | some x => rw [q] at a; exact (a rfl).elim
theorem length_putK (kvs : List (κ × V)) (k : κ) (v : V) : (putK kvs k v).length ≤ kvs.length + 1 := by
  unfold putK
  split
  · rw [List.length_map]; omega
  · rw [List.length_append, List.length_cons, List.length_nil]; omega
theorem putK_new {kvs : List (κ × V)} {k : κ} (v : V) (h : valV kvs k = none) : putK kvs k v = kvs ++ [(k, v)] := by
  unfold putK
  rw [valV_any, h]
  exact if_neg (by decide)
theorem RelO.isSome_eq {o : Option V} {u : Option Value} (r : RelO o u) : o.isSome = u.isSome := by
  cases o with
  | none => cases u with
    | none => rfl
    | some _ => exact (show False from r).elim
  | some _ => cases u with
    | none => exact (show False from r).elim
    | some _ => rfl
theorem RelO.getD {o : Option V} {u : Option Value} {d : V} {d' : Value} (r : RelO o u) (rd : RelV d d') : RelV (o.getD d) (u.getD d') := by
  cases o with
  | none => cases u with
    | none => exact rd
    | some _ => exact (show False from r).elim
  | some _ => cases u with
    | none => exact (show False from r).elim
    | some _ => exact r
theorem KV.val {kvs : List (κ × V)} {vs : List (κ × Value)} (r : KV kvs vs) (k : κ) : RelO (valV kvs k) (valueAt vs k) := by
  unfold KV at r
  induction r with
  | nil => exact True.intro
  | @cons p q ps qs h t ih =>
    obtain ⟨h1, h2⟩ := h
    by_cases e : p.1 = k
    · have e' : q.1 = k := h1.symm.trans e
      have b : valueAt (q :: qs) k = some q.2 := by simp [valueAt, List.find?_cons, e']
      rw [valV_pos e, b]; exact h2
    · have e' : ¬ q.1 = k := fun z => e (h1.trans z)
      have b : valueAt (q :: qs) k = valueAt qs k := by simp [valueAt, List.find?_cons, e']
      rw [valV_neg e, b]; exact ih
theorem KV.any {kvs : List (κ × V)} {vs : List (κ × Value)} (r : KV kvs vs) (k : κ) : (kvs.any fun kv => decide (kv.1 = k)) = vs.any fun kv => decide (kv.1 = k) := by
  unfold KV at r
  induction r with
  | nil => rfl
  | cons h t ih => rw [List.any_cons, List.any_cons, ih, h.1]
theorem KV.repl {kvs : List (κ × V)} {vs : List (κ × Value)} (r : KV kvs vs) (k : κ) {y : V} {u : Value} (ry : RelV y u) :
    KV (kvs.map fun kv => if kv.1 = k then (kv.1, y) else kv) (vs.map fun kv => if kv.1 = k then (kv.1, u) else kv) := by
  unfold KV at r ⊢
  induction r with
  | nil => exact .nil
  | @cons p q ps qs h t ih =>
    rw [List.map_cons, List.map_cons]
    refine .cons ?_ ih
    obtain ⟨h1, h2⟩ := h
    by_cases e : p.1 = k
    · rw [if_pos e, if_pos (h1.symm.trans e)]; exact ⟨h1, ry⟩
    · rw [if_neg e, if_neg (fun z => e (h1.trans z))]; exact ⟨h1, h2⟩
theorem KV.put {kvs : List (κ × V)} {vs : List (κ × Value)} (r : KV kvs vs) (k : κ) {y : V} {u : Value} (ry : RelV y u) : KV (putK kvs k y) (stored vs k u) := by
  unfold putK stored
  rw [r.any k]
  by_cases e : (vs.any fun kv => decide (kv.1 = k)) = true
  · rw [if_pos e, if_pos e]; exact r.repl k ry
  · rw [if_neg e, if_neg e]; exact Paired.snoc r ⟨rfl, ry⟩
theorem KV.length {kvs : List (κ × V)} {vs : List (κ × Value)} (r : KV kvs vs) : kvs.length = vs.length := Paired.length r
end
theorem kV_is {P : Program} {w : World} {k : Key} {u : Value} (r : RelV (kV k) u) : (mixKind P w).is k u = true := by
  cases k with
  | inl i => obtain ⟨t, e⟩ := (show ∃ t, u = Value.int i t from r); subst e; exact mixKind_int P w i t
  | inr x => obtain ⟨t, e⟩ := (show ∃ t, u = Value.str x t from r); subst e; exact mixKind_str P w x t
theorem items_are {P : Program} {w : World} : ∀ {ks : List Key} {us : List Value}, Vals (ks.map kV) us → ItemsAre (mixKind P w) ks us
  | [], _, r => by rw [List.map_nil] at r; cases r; exact .nil
  | k :: ks, _, r => by
    rw [List.map_cons] at r
    cases r with
    | cons h t => exact .cons (kV_is h) (items_are t)
abbrev KT (H : Hp) : List (List Key × V) → List (List Key × Addr × Value) → Prop := Paired fun p q => p.1 = q.1 ∧ H q.2.1 = some (.tup (p.1.map kV)) ∧ RelV p.2 q.2.2
theorem KT.val {H : Hp} {kvs : List (List Key × V)} {xs : List (List Key × Addr × Value)} (r : KT H kvs xs) (k : List Key) : RelO (valV kvs k) ((atKey xs k).map (·.2)) := by
  induction r with
  | nil => exact True.intro
  | @cons p q ps qs h t ih =>
    obtain ⟨h1, _, h2⟩ := h
    by_cases e : p.1 = k
    · have e' : q.1 = k := h1.symm.trans e
      have b : atKey (q :: qs) k = some q.2 := by simp [atKey, List.find?_cons, e']
      rw [valV_pos e, b]; exact h2
    · have e' : ¬ q.1 = k := fun z => e (h1.trans z)
      have b : atKey (q :: qs) k = atKey qs k := by simp [atKey, List.find?_cons, e']
      rw [valV_neg e, b]; exact ih
theorem KT.repl {H : Hp} {kvs : List (List Key × V)} {xs : List (List Key × Addr × Value)} (r : KT H kvs xs) (k : List Key) {y : V} {u : Value} (ry : RelV y u) :
    KT H (kvs.map fun kv => if kv.1 = k then (kv.1, y) else kv) (xs.map (putAt k u)) := by
  induction r with
  | nil => exact .nil
  | @cons p q ps qs h t ih =>
    rw [List.map_cons, List.map_cons]
    refine .cons ?_ ih
    obtain ⟨h1, h2, h3⟩ := h
    unfold putAt
    by_cases e : p.1 = k
    · rw [if_pos e, if_pos (h1.symm.trans e)]; exact ⟨h1, h2, ry⟩
    · rw [if_neg e, if_neg (fun z => e (h1.trans z))]; exact ⟨h1, h2, h3⟩
theorem KT.put {H : Hp} {kvs : List (List Key × V)} {xs : List (List Key × Addr × Value)} (r : KT H kvs xs) (k : List Key) {b : Addr} {y : V} {u : Value} (hb : H b = some (.tup (k.map kV))) (ry : RelV y u) :
    KT H (putK kvs k y) (storedH xs k b u) := by
  have e : (kvs.any fun kv => decide (kv.1 = k)) = (atKey xs k).isSome := by
    rw [valV_any, (r.val k).isSome_eq, Option.isSome_map]
  unfold putK storedH
  rw [e]
  by_cases q : (atKey xs k).isSome = true
  · rw [if_pos q, if_pos q]; exact r.repl k ry
  · rw [if_neg q, if_neg q]; exact Paired.snoc r ⟨rfl, hb, ry⟩
theorem KT.keeps {H H' : Hp} {kvs : List (List Key × V)} {xs : List (List Key × Addr × Value)} (r : KT H kvs xs) (ht : ∀ b ys, H b = some (.tup ys) → H' b = some (.tup ys)) : KT H' kvs xs :=
  Paired.mapP r fun _ _ z => ⟨z.1, ht _ _ z.2.1, z.2.2⟩
section
variable {P : Program} {w : World} {H : Hp} {h : Heap} {a : Addr}
theorem rd_of {u : HO} (ok : HOk P w H h) (e : Rd H a u) : ObjOk P w H h a u := e.ok ok
theorem dk_rd {kvs : List (Key × V)} (ok : HOk P w H h) (e : Rd H a (.dK kvs)) : kvs.length ≤ sizeLine ∧ (a == sysModules) = false ∧ ∃ vs, KV kvs vs ∧ h.DictOf (mixKind P w) a vs :=
  show ObjOk P w H h a (.dK kvs) from rd_of ok e
theorem dk_of {kvs : List (Key × V)} (ok : HOk P w H h) (e : H a = some (.dK kvs)) : kvs.length ≤ sizeLine ∧ (a == sysModules) = false ∧ ∃ vs, KV kvs vs ∧ h.DictOf (mixKind P w) a vs := dk_rd ok (.inl e)
theorem key_of {ks : List Key} (ok : HOk P w H h) (e : H a = some (.tup (ks.map kV))) : (tupleKind (mixKind P w)).is h ks a := by
  obtain ⟨_, its, r, o, h1, h2, n, h3⟩ := (show ObjOk P w H h a (.tup (ks.map kV)) from ok a _ e)
  exact ⟨o, its.toArray, n, h1, h2, h3, by simpa using items_are r⟩
theorem dt_rd {kvs : List (List Key × V)} (ok : HOk P w H h) (e : Rd H a (.dT kvs)) : kvs.length ≤ sizeLine ∧ (a == sysModules) = false ∧
    ∃ xs, KT H kvs xs ∧ h.DictOfH (tupleKind (mixKind P w)) a xs := by
  obtain ⟨z, y, xs, r, o, es, ep, h1, h2, h3, h4, h5⟩ := (show ObjOk P w H h a (.dT kvs) from rd_of ok e)
  refine ⟨z, y, xs, r, o, es, ep, h1, h2, h3, h4, fun x hx => ?_, h5⟩
  have all : ∀ {l : List (List Key × V)} {m : List (List Key × Addr × Value)}, KT H l m → ∀ x ∈ m, (tupleKind (mixKind P w)).is h x.1 x.2.1 := by
    intro l m q
    induction q with
    | nil => intro x hx; exact nomatch hx
    | @cons p q ps qs hq t ih =>
      intro x hx
      rcases List.mem_cons.mp hx with e | hx
      · subst e
        exact key_of ok (by rw [← hq.1]; exact hq.2.1)
      · exact ih x hx
  exact all r x hx
theorem dt_of {kvs : List (List Key × V)} (ok : HOk P w H h) (e : H a = some (.dT kvs)) : kvs.length ≤ sizeLine ∧ (a == sysModules) = false ∧
    ∃ xs, KT H kvs xs ∧ h.DictOfH (tupleKind (mixKind P w)) a xs := dt_rd ok (.inl e)
end
def DGet (H : Hp) (a : Addr) (y : V) (r : Option V) : Prop :=
  (∃ kvs k, Rd H a (.dK kvs) ∧ y = kV k ∧ r = valV kvs k) ∨ ∃ kvs k b, Rd H a (.dT kvs) ∧ y = .ref b ∧ H b = some (.tup (k.map kV)) ∧ r = valV kvs k
def DPut (H : Hp) (a : Addr) (y v : V) (H' : Hp) : Prop :=
  (∃ kvs k, H a = some (.dK kvs) ∧ y = kV k ∧ kvs.length < sizeLine ∧ H' = upd H a (.dK (putK kvs k v))) ∨
  ∃ kvs k b, H a = some (.dT kvs) ∧ y = .ref b ∧ H b = some (.tup (k.map kV)) ∧ kvs.length < sizeLine ∧ H' = upd H a (.dT (putK kvs k v))
theorem DGet.k {H : Hp} {a : Addr} {kvs : List (Key × V)} {k : Key} (e : H a = some (.dK kvs)) : DGet H a (kV k) (valV kvs k) := .inl ⟨kvs, k, .inl e, rfl, rfl⟩
theorem DGet.t {H : Hp} {a b : Addr} {kvs : List (List Key × V)} {k : List Key} (e : H a = some (.dT kvs)) (eb : H b = some (.tup (k.map kV))) : DGet H a (.ref b) (valV kvs k) := .inr ⟨kvs, k, b, .inl e, rfl, eb, rfl⟩
theorem DPut.k {H : Hp} {a : Addr} {kvs : List (Key × V)} {k : Key} {v : V} (e : H a = some (.dK kvs)) (hl : kvs.length < sizeLine) : DPut H a (kV k) v (upd H a (.dK (putK kvs k v))) := .inl ⟨kvs, k, e, rfl, hl, rfl⟩
theorem DPut.t {H : Hp} {a b : Addr} {kvs : List (List Key × V)} {k : List Key} {v : V} (e : H a = some (.dT kvs)) (eb : H b = some (.tup (k.map kV))) (hl : kvs.length < sizeLine) :
    DPut H a (.ref b) v (upd H a (.dT (putK kvs k v))) := .inr ⟨kvs, k, b, e, rfl, eb, hl, rfl⟩
section
variable {X : Cx} {pins : List (Addr × Obj)} {σ : St} {H : Hp} {s : Shared} {a : Addr} {y v : V} {u r : Value} {o : Option V} {A : Around} {E : Value → Shared → Prop}
theorem Inv.big (I : Inv X pins σ H s) : sysModules < s.heap.objs.size := by
  have h : mainGlobals < s.heap.objs.size := (I.mod.glob.keeps I.bk).lt
  exact Nat.lt_trans (by decide) h
theorem d_getItem {Q : Value → Shared → Prop} (hu : A.units + 1 < cLine) (I : Inv X pins σ H s) (g : DGet H a y (some v)) (ry : RelV y u) (h : ∀ w' s', Inv X pins σ H s' → RelV v w' → Q w' s') :
    wpAny (model X.prog X.w) A (getItem (.ref a) u) Q E s := by
  rcases g with ⟨kvs, k, e, ey, l⟩ | ⟨kvs, k, b, e, ey, eb, l⟩
  · subst ey
    obtain ⟨z, hd, vs, rel, dd⟩ := dk_rd I.hok e
    obtain ⟨w', hw, rw'⟩ := RelO.some_of (v := v) (o := valueAt vs k) (by rw [l]; exact rel.val k)
    exact wpAny_getItem_of (kV_is ry) dd.mapOf hw (h w' _ (I.tok _) rw')
  · subst ey
    cases (show u = Value.ref b from ry)
    obtain ⟨z, hd, xs, rel, dd⟩ := dt_rd I.hok e
    obtain ⟨w', hw, rw'⟩ := RelO.some_of (v := v) (o := (atKey xs k).map (·.2)) (by rw [l]; exact rel.val k)
    obtain ⟨p, hp, hp2⟩ := Option.map_eq_some_iff.mp hw
    refine wpAny_getItem_heap (tupleKind_room_in1 hu) (key_of I.hok eb) dd hp ?_
    rw [hp2]
    exact h w' _ (I.tok _) rw'
theorem d_in {Q : Value → Shared → Prop} (hu : A.units + 1 < cLine) (I : Inv X pins σ H s) (g : DGet H a y o) (ry : RelV y u) (h : ∀ s', Inv X pins σ H s' → Q (.bool o.isSome) s') :
    wpAny (model X.prog X.w) A (compareOp .In u (.ref a)) Q E s := by
  rcases g with ⟨kvs, k, e, ey, l⟩ | ⟨kvs, k, b, e, ey, eb, l⟩
  · subst ey
    obtain ⟨z, hd, vs, rel, dd⟩ := dk_rd I.hok e
    refine wpAny_in_of (kV_is ry) hd dd.mapOf ?_
    rw [← (rel.val k).isSome_eq, ← l]
    exact h _ (I.tok _)
  · subst ey
    cases (show u = Value.ref b from ry)
    obtain ⟨z, hd, xs, rel, dd⟩ := dt_rd I.hok e
    refine wpAny_in_heap (tupleKind_room_in1 hu) (key_of I.hok eb) hd dd ?_
    have q := (rel.val k).isSome_eq
    rw [Option.isSome_map] at q
    rw [← q, ← l]
    exact h _ (I.tok _)
theorem d_notIn {Q : Value → Shared → Prop} (hu : A.units + 1 < cLine) (I : Inv X pins σ H s) (g : DGet H a y o) (ry : RelV y u) (h : ∀ s', Inv X pins σ H s' → Q (.bool (!o.isSome)) s') :
    wpAny (model X.prog X.w) A (compareOp .NotIn u (.ref a)) Q E s := by
  rcases g with ⟨kvs, k, e, ey, l⟩ | ⟨kvs, k, b, e, ey, eb, l⟩
  · subst ey
    obtain ⟨z, hd, vs, rel, dd⟩ := dk_rd I.hok e
    refine wpAny_notIn_of (kV_is ry) hd dd.mapOf ?_
    rw [← (rel.val k).isSome_eq, ← l]
    exact h _ (I.tok _)
  · subst ey
    cases (show u = Value.ref b from ry)
    obtain ⟨z, hd, xs, rel, dd⟩ := dt_rd I.hok e
    refine wpAny_notIn_heap (tupleKind_room_in1 hu) (key_of I.hok eb) hd dd ?_
    have q := (rel.val k).isSome_eq
    rw [Option.isSome_map] at q
    rw [← q, ← l]
    exact h _ (I.tok _)
theorem d_write {h' : Heap} {t' : Nat} {ob : HO} (I : Inv X pins σ H s) (mu : Mut (H a)) (hs : Heap.SameBut a s.heap h') (he : ∃ q, h'.get? a = some q) (new : ObjOk X.prog X.w (upd H a ob) h' a ob) :
    Inv X pins σ (upd H a ob) { s with heap := h', toks := t' } :=
  I.write (x := a) (e := a) mu (.inl rfl) (fun b q hb z => (hs.2 b hb).trans z) he new
theorem dk_new {P : Program} {w : World} {H' : Hp} {h' : Heap} {kvs : List (Key × V)} {vs : List (Key × Value)} (z : kvs.length ≤ sizeLine) (hd : (a == sysModules) = false) (rel : KV kvs vs) (dd : h'.DictOf (mixKind P w) a vs) :
    ObjOk P w H' h' a (.dK kvs) := ⟨z, hd, vs, rel, dd⟩
theorem d_setItem {H' : Hp} {Q : Unit → Shared → Prop} (hu : A.units + 1 < cLine) (I : Inv X pins σ H s) (g : DPut H a y v H') (ry : RelV y u) (rv : RelV v r) (h : ∀ s', Inv X pins σ H' s' → Q () s') :
    wpAny (model X.prog X.w) A (setItem (.ref a) u r) Q E s := by
  rcases g with ⟨kvs, k, e, ey, l, eH⟩ | ⟨kvs, k, b, e, ey, eb, l, eH⟩
  · subst ey eH
    obtain ⟨z, hd, vs, rel, dd⟩ := dk_of I.hok e
    have hz : vs.length ≤ sizeLine := by rw [← rel.length]; exact z
    have hl : (putK kvs k v).length ≤ sizeLine := by have := length_putK kvs k v; omega
    refine wpAny_setItem_pairs (hsz := hz) (kV_is ry) dd fun h' dd' hs => h _ ?_
    have he : ∃ q, h'.get? a = some q := let ⟨q, _, _, hq, _⟩ := dd'; ⟨q, hq⟩
    exact d_write I (by rw [e]; exact True.intro) hs he (dk_new hl hd (rel.put k rv) dd')
  · subst ey eH
    cases (show u = Value.ref b from ry)
    obtain ⟨z, hd, xs, rel, dd⟩ := dt_of I.hok e
    have hz : xs.length ≤ sizeLine := by rw [← Paired.length rel]; exact z
    have hl : (putK kvs k v).length ≤ sizeLine := by have := length_putK kvs k v; omega
    refine wpAny_setItem_heap (hsz := hz) (tupleKind_room_in1 hu) (key_of I.hok eb) dd fun h' dd' hs => h _ ?_
    obtain ⟨q, es, ep, hq, h2, h3, h4, _, h5⟩ := dd'
    refine d_write I (by rw [e]; exact True.intro) hs ⟨q, hq⟩ ⟨hl, hd, _, (rel.put k eb rv).keeps fun c ys ec => ?_, q, es, ep, hq, h2, h3, h4, h5⟩
    rw [upd_ne (ne_of ec e (fun z => nomatch z))]
    exact ec
end
section
variable {X : Cx} {pins : List (Addr × Obj)} {σ : St} {H : Hp} {s : Shared} {a : Addr} {kvs : List (Key × V)} {k : Key} {u : Value} {A : Around} {E : Value → Shared → Prop}
theorem d_len {Q : Value → Shared → Prop} (I : Inv X pins σ H s) (e : Rd H a (.dK kvs)) (h : ∀ t s', Inv X pins σ H s' → Q (.int kvs.length t) s') : wpAny (model X.prog X.w) A (call (.builtin "len") [.ref a]) Q E s := by
  obtain ⟨z, hd, vs, rel, dd⟩ := dk_rd I.hok e
  refine call_len_dict hd dd (by rw [← rel.length]; rw [sizeLine_eq] at z; omega) ?_
  rw [← rel.length]
  exact h _ _ (I.tok _)
end
def NoSl (i : Expr) : Prop := ∀ ov iv, subscripted i false ov iv = operate [ov, iv] (getItem ov iv)
theorem subD_of {prog : Program} {w : World} {A : Around} {E : Value → Shared → Prop} {s : Shared} {env : Env} {value slice : Expr} {pos : Pos} {T id : String} {Q : Value → Shared → Prop}
    (hl : typeLookup (.type T) "__getitem__" = pure (some (.builtin id))) (hs : NoSl slice)
    (h : wpAny (model prog w) A (eval value env) (fun o s₁ => wpAny (model prog w) A (eval slice env) (fun i s₂ => s₂.TypeIs o T ∧ wpAny (model prog w) A (getItem o i) Q E s₂) E s₁) E s) :
    wpAny (model prog w) A (eval (.Subscript value slice pos) env) Q E s := by
  refine Subscript_ (wpAny_mono h (fun o s₁ h₁ => wpAny_mono h₁ (fun i s₂ h₂ => ?_) fun _ _ x => x) fun _ _ x => x)
  obtain ⟨hT, h₂⟩ := h₂
  unfold subscriptTail
  refine wpAny_bind ?_
  rw [getitemInPython_of_ne hT.not_modules]
  refine wpAny_bind (wpAny_specialOf hT hl ?_)
  have fin : wpAny (model prog w) A (subscripted slice false o i) (fun r s₃ => wpAny (model prog w) A (letTemporaryGo value o r >>= fun _ => pure r) Q E s₃) E s₂ := by
    rw [hs o i]
    exact wpAny_operating (wpAny_mono h₂ (fun r s₃ h₃ => wpAny_bind (wpAny_letTemporaryGo (wpAny_pure h₃))) fun _ _ x => x)
  first
    | exact wpAny_pure (wpAny_bind fin)
    | exact wpAny_bind (wpAny_pure (wpAny_bind fin))
    | exact wpAny_bind fin
theorem dict_typeIs {X : Cx} {pins : List (Addr × Obj)} {σ : St} {H : Hp} {s : Shared} {a : Addr} {y : V} {o : Option V} (I : Inv X pins σ H s) (g : DGet H a y o) : s.TypeIs (.ref a) "dict" := by
  rcases g with ⟨kvs, k, e, _, _⟩ | ⟨kvs, k, b, e, _, _, _⟩
  · obtain ⟨_, _, vs, _, dd⟩ := dk_rd I.hok e
    exact dd.typeIs
  · obtain ⟨_, _, xs, _, dd⟩ := dt_rd I.hok e
    exact dd.typeIs
def tDGet (td ty : TE) : TE := fun σ H Q => td σ H fun x H1 => ty σ H1 fun y H2 => ∃ a v, x = .ref a ∧ DGet H2 a y (some v) ∧ Q v H2
def tDIn (ty td : TE) : TE := fun σ H Q => ty σ H fun y H1 => td σ H1 fun x H2 => ∃ a o, x = .ref a ∧ DGet H2 a y o ∧ Q (.bl o.isSome) H2
def tDNotIn (ty td : TE) : TE := fun σ H Q => ty σ H fun y H1 => td σ H1 fun x H2 => ∃ a o, x = .ref a ∧ DGet H2 a y o ∧ Q (.bl (!o.isSome)) H2
def sDPut (td ty tv : TE) : TS := fun D σ H => tv σ H fun v H1 => td σ H1 fun x H2 => ty σ H2 fun y H3 => ∃ a H4, x = .ref a ∧ DPut H3 a y v H4 ∧ D.nx σ H4
section
variable {X : Cx} {o i e value : Expr} {pos pos' tpos : Pos} {td ty tv : TE}
theorem pe_dget (hu : X.A.units + 1 < cLine) (ho : PE X o td) (hi : PE X i ty) (hs : NoSl i) : PE X (.Subscript o i pos) (tDGet td ty) := by
  intro pins s σ H Q I h
  refine subD_of PySem.F.slot_dict_getitem.lookup hs (thn (ho pins s σ H _ I h) fun u s1 ⟨x, H1, I1, rx, q1⟩ => thn (hi pins s1 σ H1 _ I1 q1) fun iv s2 ⟨y, H2, I2, ry, a, v, ex, g, q2⟩ => ?_)
  subst ex
  obtain rfl : u = Value.ref a := rx
  exact ⟨dict_typeIs I2 g, d_getItem hu I2 g ry fun w' s3 I3 rw' => ⟨v, H2, I3, rw', q2⟩⟩
theorem pc_din (hu : X.A.units + 1 < cLine) (hi : PE X i ty) (ho : PE X o td) : PC X .In i o (tDIn ty td) := by
  intro pins s σ H Q I h
  refine thn (hi pins s σ H _ I h) fun iv s1 ⟨y, H1, I1, ry, q1⟩ => thn (ho pins s1 σ H1 _ I1 q1) fun u s2 ⟨x, H2, I2, rx, a, ov, ex, g, q2⟩ => ?_
  subst ex
  obtain rfl : u = Value.ref a := rx
  exact d_in hu I2 g ry fun s3 I3 => ⟨.bl ov.isSome, H2, I3, rfl, q2⟩
theorem pc_dnotin (hu : X.A.units + 1 < cLine) (hi : PE X i ty) (ho : PE X o td) : PC X .NotIn i o (tDNotIn ty td) := by
  intro pins s σ H Q I h
  refine thn (hi pins s σ H _ I h) fun iv s1 ⟨y, H1, I1, ry, q1⟩ => thn (ho pins s1 σ H1 _ I1 q1) fun u s2 ⟨x, H2, I2, rx, a, ov, ex, g, q2⟩ => ?_
  subst ex
  obtain rfl : u = Value.ref a := rx
  exact d_notIn hu I2 g ry fun s3 I3 => ⟨.bl (!ov.isSome), H2, I3, rfl, q2⟩
theorem ps_dput (hu : X.A.units + 1 < cLine) (ho : PE X o td) (hi : PE X i ty) (hv : PE X value tv) (hs : swapsWith value (some (.Subscript o i pos')) pos.line X.env = pure false) :
    PS X (.Assign [.Subscript o i pos'] value pos) (sDPut td ty tv) := by
  intro pins s σ H D I h
  refine wpAny_Assign_Subscript (thn (hv pins s σ H _ I h) fun r s1 ⟨v, H1, I1, rv, q1⟩ => thn (ho pins s1 σ H1 _ I1 q1) fun u s2 ⟨x, H2, I2, rx, q2⟩ => thn (hi pins s2 σ H2 _ I2 q2) fun iv s3 ⟨y, H3, I3, ry, a, H4, ex, g, q3⟩ => ?_) hs
  subst ex
  obtain rfl : u = Value.ref a := rx
  exact d_setItem hu I3 g ry rv fun s4 I4 => ⟨σ, H4, I4, q3⟩
end
theorem dk_empty {P : Program} {w : World} {H : Hp} (h : Heap) (hb : sysModules < h.objs.size) : ObjOk P w H (h.push { cls := .type "dict", data := .dict #[] }) h.objs.size (.dK []) :=
  ⟨Nat.zero_le _, beq_eq_false_iff_ne.mpr (Ne.symm (Nat.ne_of_lt hb)), [], .nil, Heap.DictOf.new h⟩
theorem dt_empty {P : Program} {w : World} {H : Hp} (h : Heap) (hb : sysModules < h.objs.size) : ObjOk P w H (h.push { cls := .type "dict", data := .dict #[] }) h.objs.size (.dT []) :=
  ⟨Nat.zero_le _, beq_eq_false_iff_ne.mpr (Ne.symm (Nat.ne_of_lt hb)), [], .nil, _, #[], 0, Heap.get?_push_size _ rfl, ⟨rfl, rfl, rfl⟩, rfl, rfl, List.nodup_nil⟩
def tDNewK : TE := fun _ H Q => ∀ p, H p = none → Q (.ref p) (upd H p (.dK []))
def tDNewT : TE := fun _ H Q => ∀ p, H p = none → Q (.ref p) (upd H p (.dT []))
section
variable {X : Cx} {pos : Pos}
theorem pe_dnewK : PE X (.Dict [] [] pos) tDNewK := fun pins s σ H Q I h =>
  wpAny_Dict_empty ⟨.ref s.heap.objs.size, _, I.laid (a := s.heap.objs.size) (o := .dK []) (t' := s.toks) (fun _ _ q => Heap.get?_push_of_some _ q) (Nat.le_refl _) (dk_empty s.heap I.big), rfl, h _ (I.hok.fresh (Nat.le_refl _))⟩
theorem pe_dnewT : PE X (.Dict [] [] pos) tDNewT := fun pins s σ H Q I h =>
  wpAny_Dict_empty ⟨.ref s.heap.objs.size, _, I.laid (a := s.heap.objs.size) (o := .dT []) (t' := s.toks) (fun _ _ q => Heap.get?_push_of_some _ q) (Nat.le_refl _) (dt_empty s.heap I.big), rfl, h _ (I.hok.fresh (Nat.le_refl _))⟩
end
def mergeK (kvs more : List (Key × V)) : List (Key × V) := more.foldl (fun acc kv => putK acc kv.1 kv.2) kvs
theorem KV.merge : ∀ {more : List (Key × V)} {rs : List (Key × Value)} {kvs : List (Key × V)} {vs : List (Key × Value)}, KV more rs → KV kvs vs → KV (mergeK kvs more) (merged vs rs) := by
  intro more rs kvs vs r
  unfold KV at r
  induction r generalizing kvs vs with
  | nil => intro q; exact q
  | @cons p q ps qs h t ih =>
    intro r0
    have e : KV (putK kvs p.1 p.2) (stored vs q.1 q.2) := by
      have := r0.put p.1 h.2
      rw [← h.1]; exact this
    exact ih e
theorem length_mergeK : ∀ (more kvs : List (Key × V)), (mergeK kvs more).length ≤ kvs.length + more.length
  | [], kvs => by show kvs.length ≤ kvs.length + 0; omega
  | p :: r, kvs => by
    have h1 := length_mergeK r (putK kvs p.1 p.2)
    have h2 := length_putK kvs p.1 p.2
    show (mergeK (putK kvs p.1 p.2) r).length ≤ _
    rw [List.length_cons]; omega
structure M2 (X : Cx) (o : Expr) (m : Str) (apos : Pos) (e f : Expr) (cpos : Pos) : Prop where
  base : attributeBase o m X.env (eval o X.env) = eval o X.env
  few : ((backTo cpos (starEach [e, f] X.env)).all (fun x => !x.1) && (backToKw cpos (keywordEach [] X.env)).all (fun x => x.1.isSome)
    && decide (([e, f] : List Expr).length + ([] : List Keyword).length + (if ([] : List Keyword).isEmpty then 0 else 1) < 30)) = true
  line : (apos.endLine == cpos.line) = true
  trees : backTo cpos (starEach [e, f] X.env) = [(false, eval e X.env), (false, eval f X.env)]
def IsD (H : Hp) (a : Addr) : Prop := (∃ kvs, Rd H a (.dK kvs)) ∨ ∃ kvs, Rd H a (.dT kvs)
theorem isD_at {X : Cx} {pins : List (Addr × Obj)} {σ : St} {H : Hp} {s : Shared} {a : Addr} (I : Inv X pins σ H s) (d : IsD H a) :
    s.TypeIs (.ref a) "dict" ∧ (∀ b, Value.ref a = .ref b → ∃ ob, s.heap.get? b = some ob ∧ ob.dict = none) ∧ (a == sysModules) = false := by
  rcases d with ⟨kvs, e⟩ | ⟨kvs, e⟩
  · obtain ⟨_, hd, vs, _, dd⟩ := dk_rd I.hok e
    refine ⟨dd.typeIs, fun b q => ?_, hd⟩
    cases q
    obtain ⟨ob, _, _, h1, h2, _⟩ := dd
    exact ⟨ob, h1, h2.2.1⟩
  · obtain ⟨_, hd, xs, _, dd⟩ := dt_rd I.hok e
    refine ⟨dd.typeIs, fun b q => ?_, hd⟩
    cases q
    obtain ⟨ob, _, _, h1, h2, _⟩ := dd
    exact ⟨ob, h1, h2.2.1⟩
section
variable {X : Cx} {pins : List (Addr × Obj)} {σ : St} {H : Hp} {s : Shared} {a : Addr} {y d : V} {u r : Value} {o : Option V} {A : Around} {E : Value → Shared → Prop}
theorem d_get2 {Q : Value → Shared → Prop} (hu : A.units + 1 < cLine) (I : Inv X pins σ H s) (g : DGet H a y o) (ry : RelV y u) (rd : RelV d r) (h : ∀ w' s', Inv X pins σ H s' → RelV (o.getD d) w' → Q w' s') :
    wpAny (model X.prog X.w) A (call (.builtin "dict.get") [.ref a, u, r]) Q E s := by
  rcases g with ⟨kvs, k, e, ey, l⟩ | ⟨kvs, k, b, e, ey, eb, l⟩
  · subst ey
    obtain ⟨z, hd, vs, rel, dd⟩ := dk_rd I.hok e
    refine call_meetsIn PySem.F.slot_dict_get dd.typeIs PySem.F.entry_dict_get (PySem.F.args_dict_get_3 _ _ _) (meets_dict_get_default (mixKind X.prog X.w) a (kV_is ry) hd r) ⟨_, dd.mapOf, h _ _ (I.tok _) ?_⟩
    rw [l]
    exact (rel.val k).getD rd
  · subst ey
    cases (show u = Value.ref b from ry)
    obtain ⟨z, hd, xs, rel, dd⟩ := dt_rd I.hok e
    refine call_meetsIn PySem.F.slot_dict_get dd.typeIs PySem.F.entry_dict_get (PySem.F.args_dict_get_3 _ _ _) (meetsH_dict_get_default (tupleKind (mixKind X.prog X.w)) a b hd r) ⟨tupleKind_room_in1 hu, k, xs, key_of I.hok eb, dd, h _ _ (I.tok _) ?_⟩
    rw [l]
    exact (rel.val k).getD rd
end
def tDGet2 (td ty tx : TE) : TE := fun σ H Q => td σ H fun x H1 => ∃ a, x = .ref a ∧ IsD H1 a ∧ ty σ H1 fun y H2 => tx σ H2 fun z H3 => ∃ o, DGet H3 a y o ∧ Q (o.getD z) H3
section
variable {X : Cx} {o e f : Expr} {apos cpos : Pos} {td ty tx : TE}
theorem pe_dget2 (hu : X.A.units + 1 < cLine) (ho : PE X o td) (he : PE X e ty) (hf : PE X f tx) (m : M2 X o "get" apos e f cpos) : PE X (.Call (.Attribute o "get" apos) [e, f] [] cpos) (tDGet2 td ty tx) := by
  intro pins s σ H Q I h
  refine wpAny_Call_method m.base m.few m.line PySem.F.plainAttrs_dict PySem.F.slot_dict_get PySem.F.type_dict_get (thn (ho pins s σ H _ I h) fun u s1 ⟨x, H1, I1, rx, a, ex, d, q1⟩ => ?_)
  subst ex
  obtain rfl : u = Value.ref a := rx
  obtain ⟨t1, t2, _⟩ := isD_at I1 d
  refine ⟨t1, t2, ?_⟩
  rw [m.trees]
  refine Calls.callWith_builtin rfl (Calls.evalArgs_plain (Calls.spliced_cons (thn (he pins s1 σ H1 _ I1 q1) fun iv s2 ⟨y, H2, I2, ry, q2⟩ =>
    Calls.spliced_cons (thn (hf pins s2 σ H2 _ I2 q2) fun fv s3 ⟨z, H3, I3, rz, ov, g, q3⟩ => Calls.spliced_nil ?_))))
  exact d_get2 hu I3 g ry rz fun w' s4 I4 rw' => ⟨_, H3, I4, rw', q3⟩
end
end L2
namespace L2
open PySem PySem.Spec PyProof.Rows
section
variable {X : Cx} {pins : List (Addr × Obj)} {σ : St} {H : Hp} {s : Shared} {h' : Heap}
theorem Inv.turnedL {t' : Nat} {ch : List Addr} (I : Inv X pins σ H s) (k : ∀ b o, b ∉ ch → s.heap.get? b = some o → h'.get? b = some o) (hf : ∀ b ∈ ch, FpOk X pins H b) : Inv X pins σ H { s with heap := h', toks := t' } := by
  have nit : ∀ b u, H b = some u → b ∉ ch := fun b u e z => by
    have q := (hf b z).1
    rw [q] at e; cases e
  refine I.step (g' := s.gens) (d' := s.drawn) (ch := ch) (fun b hb => ⟨(hf b hb).2.2.2.1, (hf b hb).2.1, (hf b hb).2.2.2.2.1, (hf b hb).2.2.2.2.2⟩) (fun b o _ _ hc e _ => k b o hc e) (fun b o _ _ hc e _ => ⟨o.slots, k b o hc e⟩)
    (fun _ _ _ _ n => n) (fun b o hc e => ⟨o, k b o hc e⟩) (fun _ _ e => e) (fun _ _ _ e => e) (fun b ps e => ⟨#[], by rw [e]; simp⟩) (fun m hm => ?_) (fun b u e => ?_) I.bare
  · obtain ⟨o, es, ep, ho, r⟩ := hm
    exact ⟨o, es, ep, k _ o (fun z => (hf _ z).2.1 rfl) ho, r⟩
  · refine (I.hok b u e).stay (fun c v hc q => k c v ?_ q) (fun _ q => q) fun _ _ q => q
    rcases hc with z | z
    · rw [z]; exact nit b u e
    · exact nit c _ z
theorem Inv.turnedNew {t' : Nat} {ch : List Addr} {T : Addr} {ob : HO} (I : Inv X pins σ H s) (k : ∀ b o, b ∉ ch → s.heap.get? b = some o → h'.get? b = some o) (hf : ∀ b ∈ ch, FpOk X pins H b) (hT : s.heap.objs.size ≤ T)
    (new : ObjOk X.prog X.w (upd H T ob) h' T ob) : Inv X pins σ (upd H T ob) { s with heap := h', toks := t' } := by
  have hn : H T = none := I.hok.fresh hT
  have nit : ∀ b u, H b = some u → b ∉ ch := fun b u e z => by
    have q := (hf b z).1
    rw [q] at e; cases e
  refine I.step (g' := s.gens) (d' := s.drawn) (ch := ch) (fun b hb => ⟨(hf b hb).2.2.2.1, (hf b hb).2.1, (hf b hb).2.2.2.2.1, (hf b hb).2.2.2.2.2⟩) (fun b o _ _ hc e _ => k b o hc e) (fun b o _ _ hc e _ => ⟨o.slots, k b o hc e⟩)
    (fun b o _ e n => ?_) (fun b o hc e => ⟨o, k b o hc e⟩) (fun b xs e => ?_) (fun b o u e => ?_) (fun b ps e => ⟨#[], ?_⟩) (fun m hm => ?_) (fun b u e => ?_) I.bare
  · rw [upd_ne (Nat.ne_of_lt (Nat.lt_of_lt_of_le (Heap.lt_size e) hT))]; exact n
  · rw [upd_ne (ne_of_none e hn)]; exact e
  · rw [upd_ne (ne_of_none e hn)]; exact e
  · rw [upd_ne (ne_of_none e hn), e]; simp
  · obtain ⟨o, es, ep, ho, r⟩ := hm
    exact ⟨o, es, ep, k _ o (fun z => (hf _ z).2.1 rfl) ho, r⟩
  · by_cases hb : b = T
    · subst hb
      rw [upd_same] at e
      cases e
      exact new
    · rw [upd_ne hb] at e
      refine (I.hok b u e).stay (fun c v hc q => k c v ?_ q) (fun c q => by rw [upd_ne (ne_of_none q hn)]; exact q) fun c xs q => by rw [upd_ne (ne_of_none q hn)]; exact q
      rcases hc with z | z
      · rw [z]; exact nit b u e
      · exact nit c _ z
theorem Inv.lock {d : Addr} {u : HO} (I : Inv X pins σ H s) (h : H d = some u) (mu : Mut (some u)) : ∃ od, Inv X pins σ (upd H d (.frz od u)) s := by
  have x := I.hok d u h
  have ex : ∃ od, s.heap.get? d = some od := by
    cases u with
    | lst xs => obtain ⟨_, _, _, _, e⟩ := x; exact ⟨_, e⟩
    | dK kvs => obtain ⟨_, _, _, _, o, _, _, e, _⟩ := x; exact ⟨o, e⟩
    | dT kvs => obtain ⟨_, _, _, _, o, _, _, e, _⟩ := x; exact ⟨o, e⟩
    | set S n => obtain ⟨o, _, _, _, e, _⟩ := x; exact ⟨o, e⟩
    | ins C dx fs => obtain ⟨_, _, _, e, _⟩ := x; exact ⟨_, e⟩
    | ext φ => obtain ⟨_, ⟨_, e⟩, _⟩ := x; exact ⟨_, e⟩
    | _ => exact False.elim mu
  obtain ⟨od, e⟩ := ex
  have new : ObjOk X.prog X.w (upd H d (.frz od u)) s.heap d (.frz od u) := by
    refine ⟨e, x.stay (fun b v _ q => q) (fun b q => ?_) fun b xs q => ?_⟩
    · rw [upd_ne (fun z => by rw [z, h] at q; cases q; exact mu)]; exact q
    · rw [upd_ne (fun z => by rw [z, h] at q; cases q; exact mu)]; exact q
  exact ⟨od, I.write (x := d) (e := d) (t' := s.toks) (h' := s.heap) (by rw [h]; exact mu) (.inl rfl) (fun b v _ q => q) ⟨od, e⟩ new⟩
theorem Inv.nofrz {d : Addr} {u : HO} (I : Inv X pins σ H s) (h : H d = some u) (mu : Mut (some u)) : ∀ o' u', X.H_0 d ≠ some (.frz o' u') := fun o' u' e => by
  have q := I.base.frzs d o' u' e
  rw [h] at q
  cases q
  exact mu
theorem Inv.unlock {d : Addr} {od : Obj} {u : HO} (I : Inv X pins σ H s) (h : H d = some (.frz od u)) (hn : ∀ o' u', X.H_0 d ≠ some (.frz o' u')) : Inv X pins σ (upd H d u) s := by
  have neH : ∀ b o, H b = some o → (∀ o' u', o ≠ .frz o' u') → b ≠ d := fun b o e hne z => by
    rw [z, h] at e
    cases e
    exact hne _ _ rfl
  have neN : ∀ b, H b = none → b ≠ d := fun b e z => by rw [z, h] at e; cases e
  refine ⟨I.ok, I.os, I.bare, ⟨I.base.keep, I.base.slot, fun b o e n hx => ?_, I.base.there, fun b xs e => ?_, fun b o x e => ?_, fun b ps e => ?_⟩, I.loc, I.cell, ?_, fun x c e => ?_, fun p hp => ?_, fun b o e => ?_, I.len⟩
  · rw [upd_ne (neN b (I.base.free b o e n hx))]; exact I.base.free b o e n hx
  · have q := I.base.tups b xs e
    rw [upd_ne (neH b _ q (fun _ _ z => nomatch z))]; exact q
  · have q := I.base.frzs b o x e
    rw [upd_ne (fun z => by rw [z] at e; exact hn _ _ e)]; exact q
  · obtain ⟨m, q⟩ := I.base.tbls b ps e
    exact ⟨m, by rw [upd_ne (neH b _ q (fun _ _ z => nomatch z))]; exact q⟩
  · rw [upd_ne (neN _ I.free)]; exact I.free
  · rw [upd_ne (neN c (I.freeC x c e))]; exact I.freeC x c e
  · obtain ⟨e, n, r⟩ := I.pin p hp
    exact ⟨e, by rw [upd_ne (neN _ n)]; exact n, r⟩
  · by_cases hb : b = d
    · rw [hb, upd_same] at e
      cases e
      rw [hb]
      obtain ⟨_, x⟩ := I.hok d _ h
      exact x.stay (fun c v _ q => q) (fun c q => by rw [upd_ne (neH c _ q (fun _ _ z => nomatch z))]; exact q) fun c xs q => by rw [upd_ne (neH c _ q (fun _ _ z => nomatch z))]; exact q
    · rw [upd_ne hb] at e
      exact (I.hok b o e).stay (fun c v _ q => q) (fun c q => by rw [upd_ne (neH c _ q (fun _ _ z => nomatch z))]; exact q) fun c xs q => by rw [upd_ne (neH c _ q (fun _ _ z => nomatch z))]; exact q
end
def tLock (t : TS) : TS := fun D σ H => ∃ d u, H d = some u ∧ Mut (some u) ∧ ∀ od, t ⟨fun σ' H' => H' d = some (.frz od u) ∧ D.nx σ' (upd H' d u), fun v H' => H' d = some (.frz od u) ∧ D.rt v (upd H' d u), fun σ' H' => H' d = some (.frz od u) ∧ D.bk σ' (upd H' d u), fun σ' H' => H' d = some (.frz od u) ∧ D.ct σ' (upd H' d u)⟩ σ (upd H d (.frz od u))
def tLockE (t : TE) : TE := fun σ H Q => ∃ d u, H d = some u ∧ Mut (some u) ∧ ∀ od, t σ (upd H d (.frz od u)) fun v H' => H' d = some (.frz od u) ∧ Q v (upd H' d u)
section
variable {X : Cx}
theorem ps_lock {st : Stmt} {t : TS} (h : PS X st t) : PS X st (tLock t) := by
  intro pins s σ H D I hw
  obtain ⟨d, u, hd, mu, hw⟩ := hw
  obtain ⟨od, I1⟩ := I.lock hd mu
  refine thn (h pins s σ _ _ I1 (hw od)) fun f s1 q => ?_
  cases f with
  | next => obtain ⟨σ', H', I2, e, q⟩ := q; exact ⟨σ', _, I2.unlock e (I.nofrz hd mu), q⟩
  | brk => obtain ⟨σ', H', I2, e, q⟩ := q; exact ⟨σ', _, I2.unlock e (I.nofrz hd mu), q⟩
  | cont => obtain ⟨σ', H', I2, e, q⟩ := q; exact ⟨σ', _, I2.unlock e (I.nofrz hd mu), q⟩
  | ret v => obtain ⟨x, σ', H', I2, r, e, q⟩ := q; exact ⟨x, σ', _, I2.unlock e (I.nofrz hd mu), r, q⟩
theorem pe_lock {e : Expr} {t : TE} (h : PE X e t) : PE X e (tLockE t) := by
  intro pins s σ H Q I hw
  obtain ⟨d, u, hd, mu, hw⟩ := hw
  obtain ⟨od, I1⟩ := I.lock hd mu
  refine thn (h pins s σ _ _ I1 (hw od)) fun v s1 ⟨x, H1, I2, r, e2, q⟩ => ?_
  exact ⟨x, _, I2.unlock e2 (I.nofrz hd mu), r, q⟩
theorem pi_one {tg : Expr} {pins : List (Addr × Obj)} {σ : St} {H : Hp} {s : Shared} {R : It → Hp → Prop} {J : It} {tn : Nat → Heap → Prop} {tk : Nat} (I : Inv X pins σ H s) (o : Obj)
    (T : Turn X.prog X.w X.K tg J [s.heap.objs.size] s.heap.objs.size tn) (st : tn 0 (s.heap.push o)) (q : R J H) : PIE X pins σ tg R (.ref s.heap.objs.size) { s with heap := s.heap.push o, toks := tk } := by
  refine ⟨s.heap.objs.size, [s.heap.objs.size], tn, J, H, rfl, I.kept fun b ob e => Heap.get?_push_of_some _ e, T, st, fun b hb => ?_, q⟩
  have e : b = s.heap.objs.size := by simpa using hb
  subst e
  exact I.fpOk (Nat.le_refl _) (I.hok.fresh (Nat.le_refl _))
end
section
variable {prog : Program} {w : World} {A : Around} {E : Value → Shared → Prop} {s : Shared}
theorem iter_keys {d : Addr} {o : Obj} {es : Array DictEntry} {ep : Nat} {Q : Value → Shared → Prop} (hd : (d == sysModules) = false) (ho : s.heap.get? d = some o) (hc : o.ExactDict) (hdat : o.data = .dict es ep)
    (hQ : Q (.ref s.heap.objs.size) { s with heap := s.heap.push { cls := .type "dict_keyiterator", data := .fields #[.ref d, .int 0 0, .int es.size 0, .int ep 0] } }) :
    wpAny (model prog w) A (pyIter (.ref d)) Q E s := by
  have hT : s.TypeIs (.ref d) "dict" := ⟨o, ho, hc.1⟩
  refine wpAny_pyIter_slot hT F.slot_dict_iter (wpAny_call_entry F.slot_dict_iter hT F.entry_dict_iter ?_ (F.args_dict_iter_1 _))
  unfold Builtin.«dict.__iter__»
  refine wpAny_bind ?_
  unfold Builtin.Dict.dictSlotNone
  refine wpAny_bind (wpAny_notOrdered_dict hT ?_)
  show wpAny _ _ (pure (Value.ref d)) _ _ s
  refine wpAny_pure ?_
  show wpAny _ _ (Builtin.Dict.showsAll d >>= _) _ _ s
  unfold Builtin.Dict.showsAll
  rw [if_neg (by rw [hd]; exact Bool.false_ne_true)]
  refine wpAny_bind (wpAny_pure ?_)
  refine wpAny_bind (wpAny_dictEntries ho hdat ?_)
  refine wpAny_bind (wpAny_dictEpoch ho hdat ?_)
  refine wpAny_bind (wpAny_newObj_type (wpAny_pure ⟨_, rfl, "dict_keyiterator", _, ⟨_, Heap.get?_push_size _ rfl, rfl⟩, F.slot_dict_keyiterator_next.lookup, ?_⟩))
  simpa [rawInt] using hQ
theorem next_key_item {it d : Addr} {i n ep : Nat} {od : Obj} {es : Array DictEntry} {en : DictEntry} {Q : Option Value → Shared → Prop} (hit : s.heap.IsKeyIter it d i n ep) (hod : s.heap.get? d = some od) (hdd : od.data = .dict es ep)
    (hsz : es.size = n) (hx : es[i]? = some en) (hQ : ∀ h', h'.IsKeyIter it d (i + 1) n ep → Heap.SameBut it s.heap h' → Q (some en.key) { s with heap := h' }) : wpAny (model prog w) A (pyNext (.ref it)) Q E s := by
  obtain ⟨o, ho, hc, hd⟩ := id hit
  unfold pyNext
  refine wpAny_bind (wpAny_attempt (wpAny_callSpecial?_slot (name := Str.ofString "__next__") hit.typeIs F.slot_dict_keyiterator_next
    (wpAny_call_entry F.slot_dict_keyiterator_next hit.typeIs F.entry_dict_keyiterator_next ?_ (F.args_dict_keyiterator_next_1 _))))
  refine wpAny_bind (wpAny_pure ?_)
  refine wpAny_bind ?_
  refine wpAny_bind ?_
  first | refine wpAny_bind (wpAny_typeNameOfWhole_keyiter hit.typeIs (wpAny_pure ?_)) | refine wpAny_bind (wpAny_typeNameOf_keyiter hit.typeIs (wpAny_pure ?_))
  refine wpAny_bind (wpAny_fieldsOf ho hd ?_)
  have hown : Builtin.Dict_items.ownsTuple "dict_keyiterator" = false := by decide
  simp only [hown, Bool.false_eq_true, if_false]
  show wpAny _ _ (if (Value.ref d == Value.none) = true then _ else _) _ _ s
  rw [if_neg (show ¬ ((Value.ref d == Value.none) = true) from Bool.false_ne_true)]
  refine wpAny_bind (wpAny_pure ?_)
  refine wpAny_bind (wpAny_dictEntries hod hdd ?_)
  rw [if_neg (by rw [hsz]; simp)]
  refine wpAny_bind (wpAny_pure ?_)
  refine wpAny_bind (wpAny_dictEpoch hod hdd ?_)
  rw [if_neg (by simp)]
  refine wpAny_pure ?_
  obtain ⟨hlt', hen⟩ := Array.getElem?_eq_some_iff.mp hx
  simp only [show ¬ ((i : Int) < 0) from by omega, if_false, Int.toNat_natCast, Array.getElem?_eq_getElem hlt']
  refine wpAny_bind ?_
  first | refine wpAny_bind (wpAny_typeNameOfWhole_keyiter hit.typeIs (wpAny_pure ?_)) | refine wpAny_bind (wpAny_typeNameOf_keyiter hit.typeIs (wpAny_pure ?_))
  refine wpAny_bind (wpAny_isOneOf_keyiter hit.typeIs ?_)
  show wpAny _ _ (setField (.ref it) 1 (rawInt ((i : Int) + 1)) >>= _) _ _ s
  refine wpAny_bind (wpAny_setField ho hd (by simp) ?_)
  have hit' : (s.heap.update it (Obj.mapFields (·.setIfInBounds 1 (rawInt ((i : Int) + 1))))).IsKeyIter it d (i + 1) n ep :=
    ⟨_, Heap.get?_update_self _ ho (Obj.isFreed_of_fields (Obj.data_mapFields hd _)), (Obj.cls_mapFields ..).trans hc, by rw [Obj.data_mapFields hd]; simp [rawInt]⟩
  refine wpAny_bind (wpAny_holding ?_)
  refine wpAny_bind (wpAny_isOneOf_keyiter (s := { s with heap := s.heap.update it (Obj.mapFields (·.setIfInBounds 1 (rawInt ((i : Int) + 1)))) }) hit'.typeIs ?_)
  show wpAny _ _ (pure es[i].key) _ _ _
  rw [hen]
  exact wpAny_pure (wpAny_pure ⟨_, rfl, wpAny_pure (hQ _ hit' (Heap.SameBut.update ..))⟩)
theorem next_key_end {it d : Addr} {i n ep : Nat} {od : Obj} {es : Array DictEntry} {Q : Option Value → Shared → Prop} (hh : A.handled = none) (hit : s.heap.IsKeyIter it d i n ep) (hod : s.heap.get? d = some od) (hdd : od.data = .dict es ep)
    (hsz : es.size = n) (hge : n ≤ i) (hQ : ∀ h', Heap.ExtBut it s.heap h' → Q none { s with heap := h' }) : wpAny (model prog w) A (pyNext (.ref it)) Q E s := by
  obtain ⟨o, ho, hc, hd⟩ := id hit
  unfold pyNext
  refine wpAny_bind (wpAny_attempt (wpAny_callSpecial?_slot (name := Str.ofString "__next__") hit.typeIs F.slot_dict_keyiterator_next
    (wpAny_call_entry F.slot_dict_keyiterator_next hit.typeIs F.entry_dict_keyiterator_next ?_ (F.args_dict_keyiterator_next_1 _))))
  refine wpAny_bind (wpAny_pure ?_)
  refine wpAny_bind ?_
  refine wpAny_bind ?_
  first | refine wpAny_bind (wpAny_typeNameOfWhole_keyiter hit.typeIs (wpAny_pure ?_)) | refine wpAny_bind (wpAny_typeNameOf_keyiter hit.typeIs (wpAny_pure ?_))
  refine wpAny_bind (wpAny_fieldsOf ho hd ?_)
  have hown : Builtin.Dict_items.ownsTuple "dict_keyiterator" = false := by decide
  simp only [hown, Bool.false_eq_true, if_false]
  show wpAny _ _ (if (Value.ref d == Value.none) = true then _ else _) _ _ s
  rw [if_neg (show ¬ ((Value.ref d == Value.none) = true) from Bool.false_ne_true)]
  refine wpAny_bind (wpAny_pure ?_)
  refine wpAny_bind (wpAny_dictEntries hod hdd ?_)
  rw [if_neg (by rw [hsz]; simp)]
  refine wpAny_bind (wpAny_pure ?_)
  refine wpAny_bind (wpAny_dictEpoch hod hdd ?_)
  rw [if_neg (by simp)]
  refine wpAny_pure ?_
  have hge' : es.size ≤ i := by rw [hsz]; exact hge
  simp only [show ¬ ((i : Int) < 0) from by omega, if_false, Int.toNat_natCast, Array.getElem?_eq_none hge']
  refine wpAny_bind ?_
  first | refine wpAny_bind (wpAny_typeNameOfWhole_keyiter hit.typeIs (wpAny_pure ?_)) | refine wpAny_bind (wpAny_typeNameOf_keyiter hit.typeIs (wpAny_pure ?_))
  show wpAny _ _ (setField (.ref it) 0 .none >>= _) _ _ s
  refine wpAny_bind (wpAny_setField ho hd (by simp) ?_)
  show wpAny _ _ (newExc (.type "StopIteration") [] >>= _) _ _ _
  refine wpAny_bind ?_
  simp only [newExc, newTuple]
  refine wpAny_bind (wpAny_newObj_type ?_ (by size_fits))
  refine wpAny_bind (m := firstArgMember _ _) (wpAny_of_eq (a := Value.none) (by first | rfl | (simp only [firstArgMember]; rfl)) ?_)
  refine wpAny_newObj_type ?_ (by size_fits)
  simp only [raiseNew]
  refine wpAny_bind (wpAny_handled ?_)
  rw [show A.in1.handled = none from hh]
  refine wpAny_bind (wpAny_pure (wpAny_throw ?_))
  refine wpAny_bind (wpAny_isInstance (T := "StopIteration") (b := true) ⟨_, Heap.get?_push_size _ rfl, rfl⟩ isSubtype_stop ?_)
  exact wpAny_pure (hQ _ (((Heap.SameBut.update ..).extBut.push _).push _))
end
theorem kv_get {κ : Type} {kvs : List (κ × V)} {vs : List (κ × Value)} (h : KV kvs vs) : ∀ {i : Nat} {k : κ} {v : V}, kvs[i]? = some (k, v) → ∃ u, vs[i]? = some (k, u) ∧ RelV v u := by
  unfold KV at h
  induction h with
  | nil => intro i k v e; simp at e
  | @cons a b l₁ l₂ r t ih =>
    intro i k v e
    cases i with
    | zero =>
      simp only [List.getElem?_cons_zero, Option.some.injEq] at e
      subst e
      refine ⟨b.2, ?_, r.2⟩
      simp only [List.getElem?_cons_zero]
      exact congrArg some (Prod.ext r.1.symm rfl)
    | succ j =>
      simp only [List.getElem?_cons_succ] at e ⊢
      exact ih e
theorem paired_get {α β : Type} {G : α → β → Prop} {l₁ : List α} {l₂ : List β} (h : Paired G l₁ l₂) : ∀ {i : Nat} {a : α}, l₁[i]? = some a → ∃ b, l₂[i]? = some b ∧ G a b := by
  induction h with
  | nil => intro i a e; simp at e
  | @cons a b l₁ l₂ r t ih =>
    intro i a' e
    cases i with
    | zero =>
      simp only [List.getElem?_cons_zero, Option.some.injEq] at e
      subst e
      exact ⟨b, rfl, r⟩
    | succ j =>
      simp only [List.getElem?_cons_succ] at e ⊢
      exact ih e
theorem relV_key {k : Key} {u : Value} (h : keyIs k u = true) : RelV (kV k) u := by
  rcases keyIs_shape h with ⟨i, t, rfl, rfl⟩ | ⟨x, t, rfl, rfl⟩
  · exact ⟨t, rfl⟩
  · exact ⟨t, rfl⟩
section
variable {X : Cx} {pins : List (Addr × Obj)} {σ : St} {H : Hp} {s : Shared} {d : Addr} {o : Obj}
theorem Inv.frzK {kvs : List (Key × V)} (I : Inv X pins σ H s) (h : H d = some (.frz o (.dK kvs))) :
    (d == sysModules) = false ∧ s.heap.get? d = some o ∧ o.ExactDict ∧ ∃ (es : Array DictEntry) (ep : Nat) (vs : List (Key × Value)), o.data = .dict es ep ∧ es.size = kvs.length ∧ KV kvs vs ∧ s.heap.DictAt (mixKind X.prog X.w) d vs ep := by
  obtain ⟨hd, z, hs, vs, kv, o', es, ep, ho, hx, hdt, r⟩ := I.hok d _ h
  rw [hd] at ho
  cases ho
  refine ⟨hs, hd, hx, es, ep, vs, hdt, ?_, kv, o, es, hd, hx, hdt, r⟩
  have l1 := r.2.1.length
  have l2 : kvs.length = vs.length := Paired.length kv
  rw [Array.length_toList] at l1
  omega
theorem Inv.frzT {kvs : List (List Key × V)} (I : Inv X pins σ H s) (h : H d = some (.frz o (.dT kvs))) :
    (d == sysModules) = false ∧ s.heap.get? d = some o ∧ o.ExactDict ∧ ∃ (es : Array DictEntry) (ep : Nat), o.data = .dict es ep ∧ es.size = kvs.length ∧
      ∀ (i : Nat) (k : List Key) (v : V), kvs[i]? = some (k, v) → ∃ (en : DictEntry) (q : Addr), es[i]? = some en ∧ en.key = .ref q ∧ H q = some (.tup (k.map kV)) := by
  obtain ⟨hd, z, hs, xs, pr, o', es, ep, ho, hx, hdt, he, _⟩ := I.hok d _ h
  rw [hd] at ho
  cases ho
  refine ⟨hs, hd, hx, es, ep, hdt, ?_, fun i k v e => ?_⟩
  · have l1 : es.size = xs.length := size_of_entries he
    have l2 : kvs.length = xs.length := Paired.length pr
    omega
  · obtain ⟨b, hb, e1, e2, _⟩ := paired_get pr e
    have q := entry_at he i
    rw [hb] at q
    exact ⟨_, b.2.1, q, rfl, e2⟩
end
def Itk (d : Addr) (o : Obj) (kvs : List (Key × V)) : It :=
  ⟨fun i H => H d = some (.frz o (.dK kvs)) ∧ i < kvs.length, fun i H x H' => H' = H ∧ ∃ k v, kvs[i]? = some (k, v) ∧ x = kV k, fun i H => H d = some (.frz o (.dK kvs)) ∧ kvs.length ≤ i⟩
def Itkt (d : Addr) (o : Obj) (kvs : List (List Key × V)) : It :=
  ⟨fun i H => H d = some (.frz o (.dT kvs)) ∧ i < kvs.length, fun i H x H' => H' = H ∧ ∃ (k : List Key) (v : V) (q : Addr), kvs[i]? = some (k, v) ∧ x = .ref q ∧ H q = some (.tup (k.map kV)), fun i H => H d = some (.frz o (.dT kvs)) ∧ kvs.length ≤ i⟩
def Itd (d : Addr) (o : Obj) (kvs : List (Key × V)) : It :=
  ⟨fun i H => H d = some (.frz o (.dK kvs)) ∧ i < kvs.length, fun i H x H' => H' = H ∧ ∃ k, kvs[i]? = some (k, x), fun i H => H d = some (.frz o (.dK kvs)) ∧ kvs.length ≤ i⟩
theorem dict_ep {o : Obj} {es es' : Array DictEntry} {ep ep' : Nat} (h : o.data = .dict es ep) (h' : o.data = .dict es' ep') : es' = es ∧ ep' = ep := by
  rw [h] at h'
  cases h'
  exact ⟨rfl, rfl⟩
section
variable {P : Program} {w : World} {K : PySem.W.Frag} {tg : Expr} {d : Addr} {o : Obj} {es : Array DictEntry} {ep : Nat}
theorem turn_keys {kvs : List (Key × V)} (it : Addr) (hod : o.data = .dict es ep) : Turn P w K tg (Itk d o kvs) [it] it (fun i h => h.IsKeyIter it d i kvs.length ep) where
  mem := by simp
  obj := fun i h st b hb => by
    have e : b = it := by simpa using hb
    subst e
    obtain ⟨oi, e, c, dd⟩ := st
    exact ⟨oi, e, fun v z => by rw [dd] at z; cases z⟩
  keep := fun i h h' st k => st.at fun oi e => k it (by simp) oi e
  item := by
    intro X hP hw hK hc i pins s σ H E I hf st hg
    subst hP hw hK
    obtain ⟨hd, hi⟩ := hg
    obtain ⟨f0, f1, f2, f3, f4, f5⟩ := hf it (by simp)
    obtain ⟨hs, hgd, hx, es', ep', vs, hdt, hsz, kv, hm⟩ := I.frzK hd
    obtain ⟨rfl, rfl⟩ := dict_ep hod hdt
    obtain ⟨⟨k, v⟩, hkv⟩ : ∃ p, kvs[i]? = some p := ⟨kvs[i], List.getElem?_eq_getElem hi⟩
    obtain ⟨u, hu, ru⟩ := kv_get kv hkv
    have hl : kvs.length = vs.length := Paired.length kv
    rw [hl] at st
    refine wpAny_pyNext_dict_item st hm hu fun key h' hkey st' sb => ?_
    have I1 : Inv X pins σ H { s with heap := h' } := I.turned (t' := s.toks) (fun b ob hb e => (sb.2 b hb).trans e) f0 f1 f3 f4 f5
    obtain ⟨oi, e, c, dd⟩ := id st'
    refine ⟨key, rfl, go_of (s := { s with heap := h' }) e c dd (by decide) ⟨kV k, H, I1, relV_key (show keyIs k key = true from hkey), ⟨rfl, k, v, hkv, rfl⟩, ?_, fun b hb => (hf b hb).1⟩⟩
    show h'.IsKeyIter it d (i + 1) kvs.length _
    rw [hl]
    exact st'
  done := by
    intro X hP hw hK hc i pins s σ H E I hf st hg
    subst hP hw hK
    obtain ⟨hd, hi⟩ := hg
    obtain ⟨f0, f1, f2, f3, f4, f5⟩ := hf it (by simp)
    obtain ⟨hs, hgd, hx, es', ep', vs, hdt, hsz, kv, hm⟩ := I.frzK hd
    obtain ⟨rfl, rfl⟩ := dict_ep hod hdt
    exact next_key_end (I.ok.hd hc) st hgd hdt hsz hi fun h' eb => ⟨rfl, I.turned (t' := s.toks) (fun b ob hb e => eb b ob hb e) f0 f1 f3 f4 f5⟩
  self := fun A i s Q E st h => wpAny_pyIter_keyiter st h
theorem turn_keysT {kvs : List (List Key × V)} (it : Addr) (hod : o.data = .dict es ep) : Turn P w K tg (Itkt d o kvs) [it] it (fun i h => h.IsKeyIter it d i kvs.length ep) where
  mem := by simp
  obj := fun i h st b hb => by
    have e : b = it := by simpa using hb
    subst e
    obtain ⟨oi, e, c, dd⟩ := st
    exact ⟨oi, e, fun v z => by rw [dd] at z; cases z⟩
  keep := fun i h h' st k => st.at fun oi e => k it (by simp) oi e
  item := by
    intro X hP hw hK hc i pins s σ H E I hf st hg
    subst hP hw hK
    obtain ⟨hd, hi⟩ := hg
    obtain ⟨f0, f1, f2, f3, f4, f5⟩ := hf it (by simp)
    obtain ⟨hs, hgd, hx, es', ep', hdt, hsz, ent⟩ := I.frzT hd
    obtain ⟨rfl, rfl⟩ := dict_ep hod hdt
    obtain ⟨⟨k, v⟩, hkv⟩ : ∃ p, kvs[i]? = some p := ⟨kvs[i], List.getElem?_eq_getElem hi⟩
    obtain ⟨en, q, hen, hkey, hq⟩ := ent i k v hkv
    refine next_key_item st hgd hdt hsz hen fun h' st' sb => ?_
    have I1 : Inv X pins σ H { s with heap := h' } := I.turned (t' := s.toks) (fun b ob hb e => (sb.2 b hb).trans e) f0 f1 f3 f4 f5
    obtain ⟨oi, e, c, dd⟩ := id st'
    exact ⟨en.key, rfl, go_of (s := { s with heap := h' }) e c dd (by decide) ⟨.ref q, H, I1, hkey, ⟨rfl, k, v, q, hkv, rfl, hq⟩, st', fun b hb => (hf b hb).1⟩⟩
  done := by
    intro X hP hw hK hc i pins s σ H E I hf st hg
    subst hP hw hK
    obtain ⟨hd, hi⟩ := hg
    obtain ⟨f0, f1, f2, f3, f4, f5⟩ := hf it (by simp)
    obtain ⟨hs, hgd, hx, es', ep', hdt, hsz, ent⟩ := I.frzT hd
    obtain ⟨rfl, rfl⟩ := dict_ep hod hdt
    exact next_key_end (I.ok.hd hc) st hgd hdt hsz hi fun h' eb => ⟨rfl, I.turned (t' := s.toks) (fun b ob hb e => eb b ob hb e) f0 f1 f3 f4 f5⟩
  self := fun A i s Q E st h => by
    refine wpAny_pyIter_slot st.typeIs F.slot_dict_keyiterator_iter (wpAny_call_entry F.slot_dict_keyiterator_iter st.typeIs F.entry_dict_keyiterator_iter ?_ (F.args_dict_keyiterator_iter_1 _))
    show wpAny _ _ (ret (.ref it)) _ _ s
    exact wpAny_pure ⟨_, rfl, "dict_keyiterator", _, st.typeIs, F.slot_dict_keyiterator_next.lookup, h⟩
theorem turn_vals {kvs : List (Key × V)} (it : Addr) (hod : o.data = .dict es ep) : Turn P w K tg (Itd d o kvs) [it] it (fun i h => h.IsValIter it d i kvs.length ep) where
  mem := by simp
  obj := fun i h st b hb => by
    have e : b = it := by simpa using hb
    subst e
    obtain ⟨oi, e, c, dd⟩ := st
    exact ⟨oi, e, fun v z => by rw [dd] at z; cases z⟩
  keep := fun i h h' st k => st.at fun oi e => k it (by simp) oi e
  item := by
    intro X hP hw hK hc i pins s σ H E I hf st hg
    subst hP hw hK
    obtain ⟨hd, hi⟩ := hg
    obtain ⟨f0, f1, f2, f3, f4, f5⟩ := hf it (by simp)
    obtain ⟨hs, hgd, hx, es', ep', vs, hdt, hsz, kv, hm⟩ := I.frzK hd
    obtain ⟨rfl, rfl⟩ := dict_ep hod hdt
    obtain ⟨⟨k, v⟩, hkv⟩ : ∃ p, kvs[i]? = some p := ⟨kvs[i], List.getElem?_eq_getElem hi⟩
    obtain ⟨u, hu, ru⟩ := kv_get kv hkv
    have hl : kvs.length = vs.length := Paired.length kv
    rw [hl] at st
    refine wpAny_pyNext_values_item st hm hu fun h' st' sb => ?_
    have I1 : Inv X pins σ H { s with heap := h' } := I.turned (t' := s.toks) (fun b ob hb e => (sb.2 b hb).trans e) f0 f1 f3 f4 f5
    obtain ⟨oi, e, c, dd⟩ := id st'
    refine ⟨u, rfl, go_of (s := { s with heap := h' }) e c dd (by decide) ⟨v, H, I1, ru, ⟨rfl, k, hkv⟩, ?_, fun b hb => (hf b hb).1⟩⟩
    show h'.IsValIter it d (i + 1) kvs.length _
    rw [hl]
    exact st'
  done := by
    intro X hP hw hK hc i pins s σ H E I hf st hg
    subst hP hw hK
    obtain ⟨hd, hi⟩ := hg
    obtain ⟨f0, f1, f2, f3, f4, f5⟩ := hf it (by simp)
    obtain ⟨hs, hgd, hx, es', ep', vs, hdt, hsz, kv, hm⟩ := I.frzK hd
    obtain ⟨rfl, rfl⟩ := dict_ep hod hdt
    have hl : kvs.length = vs.length := Paired.length kv
    rw [hl] at st
    exact wpAny_pyNext_values_end (I.ok.hd hc) st hm (List.getElem?_eq_none (by omega)) fun h' eb => ⟨rfl, I.turned (t' := s.toks) (fun b ob hb e => eb b ob hb e) f0 f1 f3 f4 f5⟩
  self := fun A i s Q E st h => wpAny_pyIter_valiter st h
end
def iKeys (td : TE) : TI := fun σ H R => td σ H fun x H1 => ∃ d o, x = .ref d ∧ ((∃ kvs, H1 d = some (.frz o (.dK kvs)) ∧ R (Itk d o kvs) H1) ∨ ∃ kvs, H1 d = some (.frz o (.dT kvs)) ∧ R (Itkt d o kvs) H1)
def iVals (td : TE) : TI := fun σ H R => td σ H fun x H1 => ∃ d o kvs, x = .ref d ∧ H1 d = some (.frz o (.dK kvs)) ∧ R (Itd d o kvs) H1
section
variable {X : Cx} {tg e : Expr} {td : TE} {apos cpos : Pos}
theorem pi_keys (he : PE X e td) : PI X tg e (iKeys td) := by
  intro pins s σ H R I h
  refine thn (he pins s σ H _ I h) fun u s1 ⟨x, H1, I1, rx, d, o, ex, q⟩ => ?_
  subst ex
  obtain rfl : u = Value.ref d := rx
  rcases q with ⟨kvs, hd, q⟩ | ⟨kvs, hd, q⟩
  · obtain ⟨hs, hgd, hx, es, ep, vs, hdt, hsz, kv, hm⟩ := I1.frzK hd
    refine iter_keys hs hgd hx hdt (pi_one (tk := s1.toks) I1 _ (turn_keys _ hdt) ⟨_, Heap.get?_push_size _ rfl, rfl, ?_⟩ q)
    rw [hsz] <;> rfl
  · obtain ⟨hs, hgd, hx, es, ep, hdt, hsz, ent⟩ := I1.frzT hd
    refine iter_keys hs hgd hx hdt (pi_one (tk := s1.toks) I1 _ (turn_keysT _ hdt) ⟨_, Heap.get?_push_size _ rfl, rfl, ?_⟩ q)
    rw [hsz] <;> rfl
theorem pi_values (he : PE X e td) (hbase : attributeBase e "values" X.env (eval e X.env) = eval e X.env := by rfl) (hline : (apos.endLine == cpos.line) = true := by rfl) : PI X tg (.Call (.Attribute e "values" apos) [] [] cpos) (iVals td) := by
  intro pins s σ H R I h
  refine wpAny_Call_method (T := "dict") (id := "dict.values") hbase rfl hline F.plainAttrs_dict F.slot_dict_values F.type_dict_values (thn (he pins s σ H _ I h) fun u s1 ⟨x, H1, I1, rx, d, o, kvs, ex, hd, q⟩ => ?_)
  subst ex
  obtain rfl : u = Value.ref d := rx
  obtain ⟨hs, hgd, hx, es, ep, vs, hdt, hsz, kv, hm⟩ := I1.frzK hd
  have hl : kvs.length = vs.length := Paired.length kv
  refine ⟨hm.dictOf.typeIs, hm.dictOf.mapOf.noDict, ?_⟩
  have I2 : Inv X pins σ H1 { s1 with heap := s1.heap.push { cls := .type "dict_values", data := .fields #[.ref d] } } := I1.kept (t' := s1.toks) fun b ob q => Heap.get?_push_of_some _ q
  have fin : wpAny (model X.prog X.w) X.A (pyIter (.ref s1.heap.objs.size)) (PIE X pins σ tg R) X.xe { s1 with heap := s1.heap.push { cls := .type "dict_values", data := .fields #[.ref d] } } := by
    refine wpAny_pyIter_values (d := d) (knd := mixKind X.prog X.w) ⟨_, Heap.get?_push_size _ rfl, rfl, rfl⟩ (hm.push _) (pi_one (tk := s1.toks) I2 _ (turn_vals _ hdt) ⟨_, Heap.get?_push_size _ rfl, rfl, ?_⟩ q)
    rw [hl] <;> rfl
  show wpAny _ _ (callWith cpos (.builtin "dict.values") [.ref d] [] []) _ X.xe s1
  exact method_meetsIn F.slot_dict_values F.entry_dict_values rfl (PySem.evalArgs_none ⟨rfl, hm.dictOf.typeIs, F.args_dict_values_1 _, _, meets_dict_values (mixKind X.prog X.w) d hs, ⟨vs, hm.dictOf⟩, fin⟩)
end
def Ite (K : PySem.W.Frag) (a : Addr) : It :=
  ⟨fun i H => ∃ (xs : List V) (x : V), SqL K H a xs ∧ xs[i]? = some x, fun i H v H' => ∃ T x, v = .ref T ∧ H T = none ∧ H' = upd H T (.tup [.int (i : Nat), x]) ∧ ∀ xs, SqL K H a xs → xs[i]? = some x, fun i H => ∃ xs : List V, SqL K H a xs ∧ xs.length ≤ i⟩
theorem turn_enum {P : Program} {w : World} {K : PySem.W.Frag} {elts : List Expr} {kk : Nat} {tpos : Pos} (a e it : Addr) :
    Turn P w K (.Tuple elts kk tpos) (Ite K a) [e, it] e (fun i h => (∃ old, IsEnum h e it ((i : Nat) : Int) old) ∧ h.IsListIter it a i ∧ e ≠ it) where
  mem := by simp
  obj := fun i h st b hb => by
    obtain ⟨⟨old, he⟩, ⟨o, ho, hc, hd⟩, _⟩ := st
    have e' : b = e ∨ b = it := by simpa using hb
    rcases e' with z | z
    · rw [z]; exact ⟨_, he, fun v q => nomatch q⟩
    · rw [z]; exact ⟨o, ho, fun v q => by rw [hd] at q; cases q⟩
  keep := fun i h h' st k => let ⟨⟨old, he⟩, hi, hne⟩ := st; ⟨⟨old, k e (by simp) _ he⟩, hi.at fun o q => k it (by simp) o q, hne⟩
  item := by
    intro X hP hw hK hc i pins s σ H E I hf st hg
    subst hP hw hK
    obtain ⟨⟨old, he⟩, hit, hne⟩ := st
    obtain ⟨xs, x, hq, hx⟩ := hg
    obtain ⟨its, rv, p, hz⟩ := I.list hq
    obtain ⟨u, hu, ru⟩ := rv.get hx
    have hel : e < s.heap.objs.size := Heap.lt_size he
    have hil : it < s.heap.objs.size := by obtain ⟨_, q, _⟩ := hit; exact Heap.lt_size q
    refine wpAny_pyNext_enum_item he hit p.isList (x := u) (by simpa using hu) hne fun h' ho hit' hT hsz hk => ?_
    refine ⟨_, rfl, wpAny_letOwnedTupleGo_enum (s := { s with heap := h', toks := s.toks + 1 }) ho fun h'' he' sb => ?_⟩
    have hT2 : h''.get? s.heap.objs.size = some { cls := .type "tuple", data := .seq #[.int i s.toks, u] } := (sb.2 _ (Nat.ne_of_gt hel)).trans hT
    have new : ObjOk X.prog X.w (upd H s.heap.objs.size (.tup [.int (i : Nat), x])) h'' s.heap.objs.size (.tup [.int (i : Nat), x]) :=
      ⟨by show 2 ≤ sizeLine; decide, [.int i s.toks, u], .cons ⟨_, rfl⟩ (.cons ru .nil), ⟨_, hT2, rfl, _, rfl⟩⟩
    have I1 : Inv X pins σ (upd H s.heap.objs.size (.tup [.int (i : Nat), x])) { s with heap := h'', toks := s.toks + 1 } :=
      I.turnedNew (ch := [e, it]) (fun b ob hb q => (sb.2 b (fun z => hb (by simp [z]))).trans (hk b ob (fun z => hb (by simp [z])) (fun z => hb (by simp [z])) q)) hf (Nat.le_refl _) new
    refine ⟨.ref s.heap.objs.size, _, I1, rfl, ⟨_, x, rfl, I.hok.fresh (Nat.le_refl _), rfl, fun ys hy => by rw [I.list_inj hy hq]; exact hx⟩, ⟨⟨u, ?_⟩, hit'.at fun o q => (sb.2 it (Ne.symm hne)).trans q, hne⟩, fun b hb => ?_⟩
    · have e1 : ((i + 1 : Nat) : Int) = (i : Int) + 1 := by omega
      rw [e1]; exact he'
    · have hb' : b < s.heap.objs.size := by
        have e' : b = e ∨ b = it := by simpa using hb
        rcases e' with z | z
        · rw [z]; exact hel
        · rw [z]; exact hil
      rw [upd_ne (Nat.ne_of_lt hb')]
      exact (hf b hb).1
  done := by
    intro X hP hw hK hc i pins s σ H E I hf st hg
    subst hP hw hK
    obtain ⟨⟨old, he⟩, hit, hne⟩ := st
    obtain ⟨xs, hq, hx⟩ := hg
    obtain ⟨its, rv, p, hz⟩ := I.list hq
    obtain ⟨f0, f1, f2, f3, f4, f5⟩ := hf it (by simp)
    have hl := rv.length
    exact wpAny_pyNext_enum_end (I.ok.hd hc) he hit p.isList (by simp; omega) fun h' eb => ⟨rfl, I.turned (t' := s.toks) (fun b o hb q => eb b o hb q) f0 f1 f3 f4 f5⟩
  self := fun A i s Q E st h => let ⟨⟨_, he⟩, _⟩ := st; wpAny_pyIter_enum he h
def iEnum (K : PySem.W.Frag) (ta : TA) : TI := fun σ H R => ta σ H fun vs H1 => ∃ a xs, vs = [.ref a] ∧ SqL K H1 a xs ∧ R (Ite K a) H1
theorem pi_enum {X : Cx} {e : Expr} {ta : TA} {p pos tpos : Pos} {elts : List Expr} {kk : Nat} (hg : Gl X "enumerate") (hm : X.mg "enumerate" = none) (ha : PA X [e] ta) (hs : starEach [e] X.env = [(false, eval e X.env)] := by rfl) :
    PI X (.Tuple elts kk tpos) (.Call (.Name "enumerate" p) [e] [] pos) (iEnum X.K ta) := by
  intro pins s σ H R I h
  refine Call_ (ld_blt I hg hm boot_enumerate (PyProof.Rows.callWith_type1 (thn (ha pos pins s σ H _ I h) fun us s1 ⟨vs, H1, I1, r1, q1⟩ => ?_) hs rfl))
  obtain ⟨a, xs, ex, hq, q⟩ := q1
  subst ex
  cases r1 with
  | cons r rr =>
    cases rr
    cases r
    obtain ⟨its, rv, p', hz⟩ := I1.list hq
    refine call_enumerate_list p'.isList fun h' he hit hsz hk => wpAny_pyIter_enum he ?_
    have I2 : Inv X pins σ H1 { s1 with heap := h' } := I1.kept (t' := s1.toks) hk
    refine ⟨s1.heap.objs.size + 1, [s1.heap.objs.size + 1, s1.heap.objs.size], _, _, H1, rfl, I2, turn_enum a (s1.heap.objs.size + 1) s1.heap.objs.size, ⟨⟨.none, he⟩, hit, Nat.succ_ne_self _⟩, fun b hb => ?_, q⟩
    have e' : b = s1.heap.objs.size + 1 ∨ b = s1.heap.objs.size := by simpa using hb
    have hle : s1.heap.objs.size ≤ b := by
      rcases e' with z | z
      · rw [z]; exact Nat.le_add_right _ _
      · rw [z]; exact Nat.le_refl _
    exact I1.fpOk hle (I1.hok.fresh hle)
theorem boot_zip5 : bootBuiltins "zip" = some (.type "zip") := by decide +kernel
end L2
section 
end 
section 
end 
namespace Att
open PySem PySem.W PySem.Calls PyProof.Rows
section
variable {prog : Program} {w : World} {A : Around} {E : Value → Shared → Prop} {s : Shared} {K : Frag}
theorem call_fn {R : Result → Shared → Prop} {name qual : Str} {params : Arguments} {body : List Stmt} {scope : Scope} {dV kV doc pm cdv ct oc : Value} {an od : Option Addr} {osl : Array (Option Value)} {f : Addr} {args : Args} {binds : List (Str × Value)}
    (X : K.In s.heap) (hlim : s.heap.NoLimit) (ho : K.lookup f = some ⟨oc, od, .func (fnOf name qual params body scope dV kV doc pm an cdv ct), osl⟩) (hcd : codeIn K cdv qual = true) (hroom : A.depth < recursionLimit)
    (hbind : BindsTo s (fnOf name qual params body scope dV kV doc pm an cdv ct) args binds)
    (hkind : (binds.all fun y => scope.names.lookup y.1 == some .local || scope.names.lookup y.1 == some .cell) = true)
    (h : ∀ s₁, InCallC s s.heap.objs.size (bindL (envOfC qual scope s.heap.objs.size f cdv).kindOf binds fun _ => none) (cellsFrom (s.heap.objs.size + 1) scope.names [])
        (bindC (envOfC qual scope s.heap.objs.size f cdv).kindOf binds fun _ => none) s₁ →
      wpAny (model prog w) (A.deeper (envOfC qual scope s.heap.objs.size f cdv)) (execs body (envOfC qual scope s.heap.objs.size f cdv))
        (fun fl s' => R (.ok (.ret (match fl with | .ret v => v | _ => .none))) s')
        (fun e s' => wpAny (model prog w) (A.deeper (envOfC qual scope s.heap.objs.size f cdv)) (leaving (envOfC qual scope s.heap.objs.size f cdv) e) (fun _ s'' => R (.error e) s'') (fun e' s'' => R (.error e') s'') s') s₁)
    (hco : scope.isCoroutine = false) (hgen : scope.isGenerator = false) (hk : scope.kind = .function) : codeAny (model prog w) A (.call (.ref f) args) R s := by
  refine codeAny_call_function hroom (X _ _ ho) rfl hco hgen rfl (codeRec_of X hcd) (hbind _ _ _ _ ?_)
  refine wpAny_newFunctionEnv_cells hk (kindsX hkind _) fun env he s₁ x => ?_
  subst he
  exact ⟨hlim.keeps x.toInCall.keep, codeAny_func (h s₁ x)⟩
end
end Att
namespace L2
open PySem PySem.Spec PyProof.Rows
abbrev KOf {K : PySem.W.Frag} {h : Heap} (_ : K.In h) : PySem.W.Frag := K
end L2
namespace L2
open PySem PySem.Spec PyProof.Rows
def inClass (s : Stmt) (j : Nat) : Stmt := match s with
  | .ClassDef _ _ _ body _ _ _ _ _ _ _ => body.getD j (.Pass ⟨0, 0, 0, 0⟩)
  | _ => .Pass ⟨0, 0, 0, 0⟩
def defArgs (s : Stmt) : Arguments := match s with
  | .FunctionDef _ a _ _ _ _ _ _ _ _ => a
  | _ => { posonlyargs := [], args := [], vararg := none, kwonlyargs := [], kw_defaults := [], kwarg := none, defaults := [] }
def defBody (s : Stmt) : List Stmt := match s with
  | .FunctionDef _ _ b _ _ _ _ _ _ _ => b
  | _ => []
def defScope (s : Stmt) : Scope := match s with
  | .FunctionDef _ _ _ _ _ _ sc _ _ _ => sc
  | _ => { kind := .function, names := [], isGenerator := false, isCoroutine := false }
abbrev CX0 : CXT := fun _ _ _ _ _ _ => False
abbrev E0 : XK := fun _ _ _ => False
theorem pass0 {X : Cx} : Passes CX0 X E0 := fun _ _ _ _ _ _ _ h => h.elim
structure Fun (K : PySem.W.Frag) (x qual : Str) (st : Stmt) (f : Addr) (fd : FuncData) : Prop where
  ex : ∃ (oc : Value) (od : Option Addr) (kV doc pm : Value) (an : Option Addr) (cdv ct : Value) (osl : Array (Option Value)),
    fd = PySem.W.fnOf x qual (defArgs st) (defBody st) (defScope st) .none kV doc pm an cdv ct ∧ K.lookup f = some ⟨oc, od, .func fd, osl⟩ ∧ PySem.W.codeIn K cdv qual = true
  kp : PySem.W.keepIn K (.ref f) = true
section
variable {P : Program} {w : World} {K : PySem.W.Frag} {mg : Str → Option Value} {base : Heap}
theorem Fun.ok {x qual : Str} {st : Stmt} {f : Addr} {fd : FuncData} {N ps : List Str} {k : Nat} {sp : Sp} (F : Fun K x qual st f fd) (S : FnScope N ps (defScope st)) (len : ∀ vs H Q E, sp vs H Q E → vs.length = ps.length)
    (hbody : ∀ (cdv : Value) (A : Around) (outer : List Env) (s : Shared) (H : Hp) (vs : List V) (Q : VK) (E : XK), Room k (A.deeper (envOfC qual (defScope st) s.heap.objs.size f cdv)) → sp vs H Q E →
      ∃ t, PSs (cxOf CX0 P w K mg base N qual (defScope st) f cdv A outer s H E).nox (defBody st) t ∧ t { nx := fun _ H' => Q .non H', rt := Q } (start N vs) H) : FnOk P w K mg base CX0 (k + 1) f fd ps sp := by
  obtain ⟨oc, od, kV, doc, pm, an, cdv, ct, osl, rfl, lk, hcd⟩ := F.ex
  refine fn_of lk hcd S len fun A outer s H vs Q E hr hsp => ?_
  obtain ⟨t, h, q⟩ := hbody cdv A outer s H vs Q E hr hsp
  exact ⟨t, h.nox, q⟩
theorem Fun.binds {x qual : Str} {st : Stmt} {f : Addr} {fd : FuncData} {ps : List Str} (F : Fun K x qual st f fd)
    (h : ∀ (kV doc pm : Value) (an : Option Addr) (cdv ct : Value) (us : List Value), us.length = ps.length → bindArgs (PySem.W.fnOf x qual (defArgs st) (defBody st) (defScope st) .none kV doc pm an cdv ct) ⟨us, []⟩ = pure (ps.zip us)) : Binds K fd ps [] := by
  obtain ⟨oc, od, kV, doc, pm, an, cdv, ct, osl, rfl, lk, hcd⟩ := F.ex
  exact .all (h kV doc pm an cdv ct)
theorem fun_mk {x qual : Str} {st : Stmt} {f : Addr} {oc : Value} {od an : Option Addr} {osl : Array (Option Value)} {kV doc pm cdv ct : Value} (l : K.lookup f = some ⟨oc, od, .func (PySem.W.fnOf x qual (defArgs st) (defBody st) (defScope st) .none kV doc pm an cdv ct), osl⟩)
    (c : PySem.W.codeIn K cdv qual = true) (k : PySem.W.keepIn K (.ref f) = true) : Fun K x qual st f (PySem.W.fnOf x qual (defArgs st) (defBody st) (defScope st) .none kV doc pm an cdv ct) := ⟨⟨oc, od, kV, doc, pm, an, cdv, ct, osl, rfl, l, c⟩, k⟩
end
theorem hu_of {A : Around} {k : Nat} (hr : Room k A) : A.units + 1 < cLine := Nat.lt_of_le_of_lt (Nat.add_le_add_left (by decide : 1 ≤ 64) _) hr.units
section
variable {X : Cx}
theorem pv (i : Nat) {x : Str} {pos : Pos} (hN : X.N[i]? = some x := by rfl) (hv : Vis X.env.scope x := by first | exact Or.inl rfl | exact Or.inr (Or.inl rfl) | exact Or.inr (Or.inr rfl)) (hd : (x == ("__debug__" : Str)) = false := by decide)
    (hcd : (x == ("__classdict__" : Str)) = false := by decide) : PE X (.Name x pos) (tVar i) := pe_var hN hv hd hcd
theorem call_lenD : CallR X (.builtin "len") (fun xs H Q => ∃ a kvs, xs = [V.ref a] ∧ H a = some (.dK kvs) ∧ Q (.int kvs.length) H) := by
  intro pins s σ H xs us Q I r h
  obtain ⟨a, kvs, rfl, ha, q⟩ := h
  obtain ⟨u, rfl, ru⟩ := vals1 r
  cases ru
  exact d_len I (.inl ha) fun t s' I' => ⟨.int kvs.length, H, I', ⟨t, rfl⟩, q⟩
end
theorem iteF {A B : Prop} (h : B) : if false = true then A else B := by
  rw [if_neg Bool.false_ne_true]
  exact h
theorem iteT {A B : Prop} (h : A) : if true = true then A else B := by
  rw [if_pos rfl]
  exact h
theorem ite2 {c A B : Prop} [Decidable c] (h1 : c → A) (h2 : ¬ c → B) : if c then A else B := by
  by_cases h : c
  · rw [if_pos h]
    exact h1 h
  · rw [if_neg h]
    exact h2 h
def Same (H H' : Hp) : Prop := ∀ b o, H b = some o → H' b = some o
theorem Same.refl (H : Hp) : Same H H := fun _ _ h => h
theorem Same.trans {H H1 H2 : Hp} (a : Same H H1) (b : Same H1 H2) : Same H H2 := fun c o h => b c o (a c o h)
theorem Same.free {H H' : Hp} (e : Same H H') {l : Addr} (h : H' l = Option.none) : H l = Option.none := by
  cases q : H l with
  | none => rfl
  | some o =>
    rw [e l o q] at h
    cases h
theorem Same.seq {K : PySem.W.Frag} {H H' : Hp} {a : Addr} {xs : List V} (e : Same H H') (h : SqL K H a xs) : SqL K H' a xs := by
  rcases h with (h | ⟨o, h⟩) | h
  · exact .inl (.inl (e _ _ h))
  · exact .inl (.inr ⟨o, e _ _ h⟩)
  · exact .inr h
section
variable {κ : Type} [DecidableEq κ]
theorem nd_snoc : ∀ {l : List κ} {k : κ}, l.Nodup → ¬ k ∈ l → (l ++ [k]).Nodup
  | [], k, _, _ => by simp
  | a :: r, k, h, hk => by
    obtain ⟨h1, h2⟩ := List.nodup_cons.mp h
    show (a :: (r ++ [k])).Nodup
    refine List.nodup_cons.mpr ⟨fun m => ?_, nd_snoc h2 fun m => hk (List.mem_cons.mpr (Or.inr m))⟩
    rcases List.mem_append.mp m with q | q
    · exact h1 q
    · exact hk (List.mem_cons.mpr (Or.inl (List.mem_singleton.mp q).symm))
end
theorem at_of {xs : List V} {z : Int} {j : Nat} {v : V} (e : z = (j : Int)) (h : xs[j]? = some v) : atI xs z = some v := by
  rw [e]
  exact atI_nat h
theorem nd_ix {α : Type} {l : List α} (hN : l.Nodup) {i j : Nat} {x : α} (a : l[i]? = some x) (b : l[j]? = some x) : i = j := by
  obtain ⟨h1, e1⟩ := List.getElem?_eq_some_iff.mp a
  obtain ⟨h2, e2⟩ := List.getElem?_eq_some_iff.mp b
  exact (List.getElem_inj hN).mp (e1.trans e2.symm)
theorem Same.made {H H1 : Hp} {x dx C : Addr} (nx : H x = Option.none) (nd : H dx = Option.none) (k : ∀ b o, (upd (upd H dx (.own x)) x (.ins C dx [])) b = some o → b ≠ x → H1 b = some o) : Same H H1 := fun b o e =>
  k b o (by rw [upd_ne (ne_of_none e nx), upd_ne (ne_of_none e nd)]; exact e) (ne_of_none e nx)
end L2
namespace L2
open PySem PySem.Spec PyProof.Rows
open PySem.W (WData Codec OpenSpec Well WellAll ReadsW ReadsAllW)
mutual
inductive Dw (K : PySem.W.Frag) (H : Hp) : V → WData → Prop
  | non : Dw K H .non .none
  | bl (b : Bool) : Dw K H (.bl b) (.bool b)
  | int (i : Int) : Dw K H (.int i) (.int i)
  | str (x : Str) : Dw K H (.str x) (.str x)
  | byt (b : Array UInt8) : Dw K H (.byt b) (.bytes b.toList)
  | lst {a : Addr} {xs : List V} {ds : List WData} : SqL K H a xs → DwAll K H xs ds → Dw K H (.ref a) (.list ds)
  | tup {a : Addr} {xs : List V} {ds : List WData} : SqT K H a xs → DwAll K H xs ds → Dw K H (.ref a) (.tuple ds)
inductive DwAll (K : PySem.W.Frag) (H : Hp) : List V → List WData → Prop
  | nil : DwAll K H [] []
  | cons {v : V} {vs : List V} {d : WData} {ds : List WData} : Dw K H v d → DwAll K H vs ds → DwAll K H (v :: vs) (d :: ds)
end
theorem dw_ints {K : PySem.W.Frag} {H : Hp} : ∀ ns : List Int, DwAll K H (ns.map V.int) (ns.map WData.int)
  | [] => .nil
  | n :: r => .cons (.int n) (dw_ints r)
theorem ints_dw {K : PySem.W.Frag} {H : Hp} : ∀ (ns : List Int) (xs : List V), DwAll K H xs (ns.map WData.int) → xs = ns.map V.int
  | [], xs, h => by
    cases h
    rfl
  | n :: r, xs, h => by
    cases h with
    | cons h1 h2 =>
      cases h1
      rw [ints_dw r _ h2] <;> rfl
section
variable {P : Program} {w : World} {K : PySem.W.Frag} {H : Hp} {h : Heap} {R : PySem.W.WRecords} {cl : Str → Option Addr}
theorem sqL_at {a : Addr} {xs : List V} (hok : HOk P w H h) (KX : K.In h) (q : SqL K H a xs) : ∃ (its : List Value) (o : Obj) (n : Nat), Vals xs its ∧ h.get? a = some o ∧ o.cls = .type "list" ∧ o.data = .seq its.toArray n := by
  rcases q with q | ⟨o, its, n, e, hc, _, hd, _, hv⟩
  · obtain ⟨_, its, n, hv, e⟩ := (show ObjOk P w H h a (.lst xs) from q.ok hok)
    exact ⟨its, _, n, hv, e, rfl, rfl⟩
  · exact ⟨its.toList, o, n, hv, KX _ _ e, hc, by simp [hd]⟩
theorem sqT_at {a : Addr} {xs : List V} (hok : HOk P w H h) (KX : K.In h) (q : SqT K H a xs) : ∃ (its : List Value) (o : Obj) (n : Nat), Vals xs its ∧ h.get? a = some o ∧ o.cls = .type "tuple" ∧ o.data = .seq its.toArray n := by
  rcases q with q | ⟨o, its, n, e, hc, hd, _, hv⟩
  · obtain ⟨_, its, hv, o, e, hc, n, hd⟩ := (show ObjOk P w H h a (.tup xs) from q.ok hok)
    exact ⟨its, o, n, hv, e, hc, hd⟩
  · exact ⟨its.toList, o, n, hv, KX _ _ e, hc, by simp [hd]⟩
mutual
theorem Dw.reads (hok : HOk P w H h) (KX : K.In h) : ∀ (d : WData) (v : V) (u : Value), Dw K H v d → RelV v u → ∃ as, ReadsW R cl h u d as
  | .none, _, _, x, r => by
    cases x
    cases r
    exact ⟨_, ReadsW.none⟩
  | .bool b, _, _, x, r => by
    cases x
    cases r
    exact ⟨_, ReadsW.bool b⟩
  | .int i, _, _, x, r => by
    cases x
    obtain ⟨t, rfl⟩ := r
    exact ⟨_, ReadsW.int i t⟩
  | .str s, _, _, x, r => by
    cases x
    obtain ⟨t, rfl⟩ := r
    exact ⟨_, ReadsW.str s t⟩
  | .bytes b, _, _, x, r => by
    cases x
    obtain ⟨t, rfl⟩ := r
    exact ⟨_, ReadsW.bytes _ t⟩
  | .list ds, _, _, x, r => by
    cases x with
    | lst hs ha =>
      cases r
      obtain ⟨its, o, n, rv, ho, hc, hd⟩ := sqL_at hok KX hs
      obtain ⟨as, hr⟩ := Dw.readsAll hok KX ds _ its ha rv
      exact ⟨_, ReadsW.list ho hc hd hr⟩
  | .tuple ds, _, _, x, r => by
    cases x with
    | tup hs ha =>
      cases r
      obtain ⟨its, o, n, rv, ho, hc, hd⟩ := sqT_at hok KX hs
      obtain ⟨as, hr⟩ := Dw.readsAll hok KX ds _ its ha rv
      exact ⟨_, ReadsW.tuple ho hc hd hr⟩
  | .float _, _, _, x, _ => by cases x
  | .dict _, _, _, x, _ => by cases x
  | .bytearray _, _, _, x, _ => by cases x
  | .set _, _, _, x, _ => by cases x
  | .frozenset _, _, _, x, _ => by cases x
  | .obj _ _, _, _, x, _ => by cases x
theorem Dw.readsAll (hok : HOk P w H h) (KX : K.In h) : ∀ (ds : List WData) (vs : List V) (us : List Value), DwAll K H vs ds → Vals vs us → ∃ as, ReadsAllW R cl h us ds as
  | [], _, _, x, r => by
    cases x
    cases r
    exact ⟨_, ReadsAllW.nil⟩
  | d :: ds, _, _, x, r => by
    cases x with
    | cons h1 h2 =>
      cases r with
      | cons r1 r2 =>
        obtain ⟨as, q1⟩ := Dw.reads hok KX d _ _ h1 r1
        obtain ⟨bs, q2⟩ := Dw.readsAll hok KX ds _ _ h2 r2
        exact ⟨_, ReadsAllW.cons q1 q2⟩
end
end
mutual
def plW : WData → Bool
  | .none => true
  | .bool _ => true
  | .int _ => true
  | .str _ => true
  | .bytes _ => true
  | .list xs => plWs xs
  | .tuple xs => plWs xs
  | _ => false
def plWs : List WData → Bool
  | [] => true
  | x :: r => plW x && plWs r
end
theorem plWs_map {α : Type} {f : α → WData} (h : ∀ a, plW (f a) = true) : ∀ l : List α, plWs (l.map f) = true
  | [] => rfl
  | x :: r => by
    show (plW (f x) && plWs (r.map f)) = true
    rw [h x, plWs_map h r] <;> rfl
theorem pl_enc : ∀ (c : Codec) (a : c.denote), plW (c.enc a) = true
  | .unit, _ => rfl
  | .bool, _ => rfl
  | .int _ _, _ => rfl
  | .nat _ _, _ => rfl
  | .u8, _ => rfl
  | .bytes _ _, _ => rfl
  | .text _ _ _ _, _ => rfl
  | .list _ _ c, a => plWs_map (fun x => pl_enc c x) a
  | .pair c d, a => by
    show (plW (c.enc a.1) && (plW (d.enc a.2) && true)) = true
    rw [pl_enc c a.1, pl_enc d a.2] <;> rfl
  | .triple c d e, a => by
    show (plW (c.enc a.1) && (plW (d.enc a.2.1) && (plW (e.enc a.2.2) && true))) = true
    rw [pl_enc c a.1, pl_enc d a.2.1, pl_enc e a.2.2] <;> rfl
  | .option c, none => rfl
  | .option c, some x => pl_enc c x
theorem pl_encAll : ∀ (cs : List Codec) (a : Codec.denoteAll cs), plWs (Codec.encAll cs a) = true
  | [], _ => rfl
  | c :: cs, a => by
    show (plW (c.enc a.1) && plWs (Codec.encAll cs a.2)) = true
    rw [pl_enc c a.1, pl_encAll cs a.2] <;> rfl
theorem weight_mem : ∀ {xs : List WData} {d : WData}, d ∈ xs → d.weight ≤ WData.weightAll xs
  | [], d, h => absurd h (by simp)
  | x :: r, d, h => by
    show d.weight ≤ x.weight + 1 + WData.weightAll r
    rcases List.mem_cons.mp h with e | m
    · rw [e]
      omega
    · have z := weight_mem m
      omega
def toV : Value → V
  | .none => .non
  | .bool b => .bl b
  | .int i _ => .int i
  | .str x _ => .str x
  | .bytes b _ => .byt b
  | .ref a => .ref a
  | _ => .non
def OkU (A : List Addr) : Value → Prop
  | .none => True
  | .bool _ => True
  | .int _ _ => True
  | .str _ _ => True
  | .bytes _ _ => True
  | .ref a => a ∈ A
  | _ => False
theorem OkU.mono {A B : List Addr} (h : ∀ a ∈ A, a ∈ B) : ∀ {u : Value}, OkU A u → OkU B u := fun {u} x => by
  cases u with
  | ref a => exact h a x
  | none => trivial
  | bool b => trivial
  | int i t => trivial
  | str s t => trivial
  | bytes b t => trivial
  | _ => exact False.elim x
theorem relV_toV {A : List Addr} {u : Value} (x : OkU A u) : RelV (toV u) u := by
  cases u with
  | ref a => rfl
  | none => rfl
  | bool b => rfl
  | int i t => exact ⟨t, rfl⟩
  | str s t => exact ⟨t, rfl⟩
  | bytes b t => exact ⟨t, rfl⟩
  | _ => exact False.elim x
theorem vals_toV {A : List Addr} : ∀ {vs : List Value}, (∀ u ∈ vs, OkU A u) → Vals (vs.map toV) vs
  | [], _ => .nil
  | u :: r, h => .cons (relV_toV (h u (List.mem_cons_self ..))) (vals_toV fun x hx => h x (List.mem_cons_of_mem _ hx))
def ArgOb (h : Heap) (A : List Addr) (a : Addr) : Prop := ∃ vs : List Value, vs.length ≤ sizeLine ∧ (∀ u ∈ vs, OkU A u) ∧
  (h.get? a = some { cls := .type "list", data := .seq vs.toArray } ∨ h.get? a = some { cls := .type "tuple", data := .seq vs.toArray })
theorem ArgOb.mono {h : Heap} {A B : List Addr} {a : Addr} (k : ∀ a ∈ A, a ∈ B) (x : ArgOb h A a) : ArgOb h B a := by
  obtain ⟨vs, h1, h2, h3⟩ := x
  exact ⟨vs, h1, fun u hu => (h2 u hu).mono k, h3⟩
theorem wellAll_len {P : Params} {h : Heap} : ∀ {vs : List Value} {ds : List WData}, WellAll P h vs ds → vs.length = ds.length
  | _, _, .nil => rfl
  | _, _, .cons _ b => by
    show _ + 1 = _ + 1
    rw [wellAll_len b]
theorem well_list {P : Params} {h : Heap} {v : Value} {ds : List WData} (x : Well P h v (.list ds)) : ∃ (a : Addr) (vs : List Value), v = .ref a ∧ h.get? a = some { cls := .type "list", data := .seq vs.toArray } ∧ WellAll P h vs ds := by
  cases x with
  | list ho hall => exact ⟨_, _, rfl, ho, hall⟩
theorem well_tuple {P : Params} {h : Heap} {v : Value} {ds : List WData} (x : Well P h v (.tuple ds)) : ∃ (a : Addr) (vs : List Value), v = .ref a ∧ h.get? a = some { cls := .type "tuple", data := .seq vs.toArray } ∧ WellAll P h vs ds := by
  cases x with
  | tuple ho hall => exact ⟨_, _, rfl, ho, hall⟩
theorem well_cons {P : Params} {h : Heap} {us : List Value} {d : WData} {ds : List WData} (x : WellAll P h us (d :: ds)) : ∃ (v : Value) (vs : List Value), us = v :: vs ∧ Well P h v d ∧ WellAll P h vs ds := by
  cases x with
  | cons a b => exact ⟨_, _, rfl, a, b⟩
theorem line_of {n : Nat} (h : n ≤ 1048576) : n ≤ sizeLine := Nat.le_trans h (by decide)
section
variable {P : Params} {h : Heap}
mutual
theorem area_one : ∀ (d : WData) (v : Value), Well P h v d → plW d = true → d.weight ≤ 1048576 → ∃ A : List Addr, OkU A v ∧ ∀ a ∈ A, ArgOb h A a
  | .none, _, x, _, _ => by
    cases x
    exact ⟨[], trivial, fun a m => absurd m (by simp)⟩
  | .bool b, _, x, _, _ => by
    cases x
    exact ⟨[], trivial, fun a m => absurd m (by simp)⟩
  | .int i, _, x, _, _ => by
    cases x
    exact ⟨[], trivial, fun a m => absurd m (by simp)⟩
  | .str s, _, x, _, _ => by
    cases x
    exact ⟨[], trivial, fun a m => absurd m (by simp)⟩
  | .bytes b, _, x, _, _ => by
    cases x
    exact ⟨[], trivial, fun a m => absurd m (by simp)⟩
  | .list ds, _, x, p, z => by
    obtain ⟨a, vs, rfl, ho, hall⟩ := well_list x
    have z2 : WData.weightAll ds ≤ 1048576 := z
    obtain ⟨A, h1, h2⟩ := area_all ds _ hall p fun d hd => Nat.le_trans (weight_mem hd) z2
    have k : ∀ b ∈ A, b ∈ a :: A := fun b hb => List.mem_cons_of_mem _ hb
    refine ⟨a :: A, List.mem_cons_self .., fun b hb => ?_⟩
    rcases List.mem_cons.mp hb with e | m
    · rw [e]
      exact ⟨vs, line_of (by rw [wellAll_len hall]; exact Nat.le_trans (PySem.W.length_le_weightAllW ds) z2), fun u hu => (h1 u hu).mono k, .inl ho⟩
    · exact (h2 b m).mono k
  | .tuple ds, _, x, p, z => by
    obtain ⟨a, vs, rfl, ho, hall⟩ := well_tuple x
    have z2 : WData.weightAll ds ≤ 1048576 := z
    obtain ⟨A, h1, h2⟩ := area_all ds _ hall p fun d hd => Nat.le_trans (weight_mem hd) z2
    have k : ∀ b ∈ A, b ∈ a :: A := fun b hb => List.mem_cons_of_mem _ hb
    refine ⟨a :: A, List.mem_cons_self .., fun b hb => ?_⟩
    rcases List.mem_cons.mp hb with e | m
    · rw [e]
      exact ⟨vs, line_of (by rw [wellAll_len hall]; exact Nat.le_trans (PySem.W.length_le_weightAllW ds) z2), fun u hu => (h1 u hu).mono k, .inr ho⟩
    · exact (h2 b m).mono k
  | .float _, _, _, p, _ => Bool.noConfusion (show false = true from p)
  | .dict _, _, _, p, _ => Bool.noConfusion (show false = true from p)
  | .bytearray _, _, _, p, _ => Bool.noConfusion (show false = true from p)
  | .set _, _, _, p, _ => Bool.noConfusion (show false = true from p)
  | .frozenset _, _, _, p, _ => Bool.noConfusion (show false = true from p)
  | .obj _ _, _, _, p, _ => Bool.noConfusion (show false = true from p)
theorem area_all : ∀ (ds : List WData) (vs : List Value), WellAll P h vs ds → plWs ds = true → (∀ d ∈ ds, d.weight ≤ 1048576) → ∃ A : List Addr, (∀ u ∈ vs, OkU A u) ∧ ∀ a ∈ A, ArgOb h A a
  | [], _, x, _, _ => by
    cases x
    exact ⟨[], fun u m => absurd m (by simp), fun a m => absurd m (by simp)⟩
  | d :: ds, _, x, p, z => by
    obtain ⟨v, vs, rfl, x1, x2⟩ := well_cons x
    have q : plW d = true ∧ plWs ds = true := Bool.and_eq_true_iff.mp p
    obtain ⟨A, a1, a2⟩ := area_one d v x1 q.1 (z d (List.mem_cons_self ..))
    obtain ⟨B, b1, b2⟩ := area_all ds vs x2 q.2 fun e he => z e (List.mem_cons_of_mem _ he)
    have kA : ∀ b ∈ A, b ∈ A ++ B := fun b hb => List.mem_append.mpr (.inl hb)
    have kB : ∀ b ∈ B, b ∈ A ++ B := fun b hb => List.mem_append.mpr (.inr hb)
    refine ⟨A ++ B, fun u hu => ?_, fun b hb => ?_⟩
    · rcases List.mem_cons.mp hu with e | m
      · rw [e]
        exact a1.mono kA
      · exact (b1 u m).mono kB
    · rcases List.mem_append.mp hb with m | m
      · exact (a2 b m).mono kA
      · exact (b2 b m).mono kB
end
end
def hoOf (o : Obj) : Option HO := match o.data with
  | .seq vs _ => if (o.cls == Value.type "list") = true then some (.frz o (.lst (vs.toList.map toV))) else some (.frz o (.tup (vs.toList.map toV)))
  | _ => none
def argH (K : PySem.W.Frag) (h : Heap) (A : List Addr) : Hp := fun b => if b ∈ A then (if (K.lookup b).isNone = true then (h.get? b).bind hoOf else none) else none
def OnlyF (H : Hp) : Prop := ∀ b, H b = none ∨ ∃ o u, H b = some (.frz o u)
theorem hoOf_lst (vs : List Value) : hoOf { cls := .type "list", data := .seq vs.toArray } = some (.frz { cls := .type "list", data := .seq vs.toArray } (.lst (vs.map toV))) := by
  show (if (Value.type "list" == Value.type "list") = true then some (HO.frz { cls := .type "list", data := .seq vs.toArray } (.lst (vs.toArray.toList.map toV))) else some (HO.frz { cls := .type "list", data := .seq vs.toArray } (.tup (vs.toArray.toList.map toV)))) = _
  rw [if_pos (beq_self_eq_true _)]
theorem hoOf_tup (vs : List Value) : hoOf { cls := .type "tuple", data := .seq vs.toArray } = some (.frz { cls := .type "tuple", data := .seq vs.toArray } (.tup (vs.map toV))) := by
  show (if (Value.type "tuple" == Value.type "list") = true then some (HO.frz { cls := .type "tuple", data := .seq vs.toArray } (.lst (vs.toArray.toList.map toV))) else some (HO.frz { cls := .type "tuple", data := .seq vs.toArray } (.tup (vs.toArray.toList.map toV)))) = _
  rw [if_neg (by decide)]
section
variable {P : Program} {w : World} {K : PySem.W.Frag} {h : Heap} {A : List Addr}
theorem argH_at {b : Addr} {o : Obj} (hb : b ∈ A) (hk : K.lookup b = none) (e : h.get? b = some o) : argH K h A b = hoOf o := by
  unfold argH
  rw [if_pos hb, hk, if_pos (show (none : Option Obj).isNone = true from rfl), e] <;> rfl
theorem of_argH {b : Addr} {u : HO} (q : argH K h A b = some u) : b ∈ A ∧ K.lookup b = none := by
  unfold argH at q
  by_cases hb : b ∈ A
  · rw [if_pos hb] at q
    cases hk : K.lookup b with
    | none => exact ⟨hb, rfl⟩
    | some o =>
      rw [hk, if_neg (by simp)] at q
      cases q
  · rw [if_neg hb] at q
    cases q
theorem argH_is (ar : ∀ a ∈ A, ArgOb h A a) {b : Addr} {u : HO} (q : argH K h A b = some u) : K.lookup b = none ∧ ∃ vs : List Value, vs.length ≤ sizeLine ∧ (∀ u ∈ vs, OkU A u) ∧
    ((h.get? b = some { cls := .type "list", data := .seq vs.toArray } ∧ u = .frz { cls := .type "list", data := .seq vs.toArray } (.lst (vs.map toV))) ∨
     (h.get? b = some { cls := .type "tuple", data := .seq vs.toArray } ∧ u = .frz { cls := .type "tuple", data := .seq vs.toArray } (.tup (vs.map toV)))) := by
  obtain ⟨hb, hk⟩ := of_argH q
  obtain ⟨vs, h1, h2, h3⟩ := ar b hb
  refine ⟨hk, vs, h1, h2, ?_⟩
  rcases h3 with e | e
  · rw [argH_at hb hk e, hoOf_lst] at q
    exact .inl ⟨e, (Option.some.inj q).symm⟩
  · rw [argH_at hb hk e, hoOf_tup] at q
    exact .inr ⟨e, (Option.some.inj q).symm⟩
theorem argH_only (ar : ∀ a ∈ A, ArgOb h A a) : OnlyF (argH K h A) := fun b => by
  cases q : argH K h A b with
  | none => exact .inl rfl
  | some u =>
    obtain ⟨_, vs, _, _, ⟨_, e⟩ | ⟨_, e⟩⟩ := argH_is ar q
    · exact .inr ⟨_, _, by rw [e]⟩
    · exact .inr ⟨_, _, by rw [e]⟩
theorem seq_inj {c c' : Value} {vs us : List Value} (e : (some { cls := c, data := .seq vs.toArray } : Option Obj) = some { cls := c', data := .seq us.toArray }) : c = c' ∧ vs = us := by
  have e1 := Option.some.inj e
  have e2 : c = c' := congrArg Obj.cls e1
  have e3 : Data.seq vs.toArray = Data.seq us.toArray := congrArg Obj.data e1
  injection e3 with e4
  refine ⟨e2, ?_⟩
  have e5 := congrArg Array.toList e4
  simpa using e5
theorem argL (KX : K.In h) (ar : ∀ a ∈ A, ArgOb h A a) {a : Addr} {vs : List Value} (ha : a ∈ A) (e : h.get? a = some { cls := .type "list", data := .seq vs.toArray }) : (∀ u ∈ vs, OkU A u) ∧ SqL K (argH K h A) a (vs.map toV) := by
  obtain ⟨us, h1, h2, h3⟩ := ar a ha
  have hu : us = vs := by
    rcases h3 with q | q
    · rw [e] at q
      exact (seq_inj q).2.symm
    · rw [e] at q
      exact absurd (Value.type.inj (seq_inj q).1) (by decide)
  subst hu
  refine ⟨h2, ?_⟩
  cases hk : K.lookup a with
  | none => exact .inl (.inr ⟨_, by rw [argH_at ha hk e, hoOf_lst]⟩)
  | some o =>
    have e2 := KX a o hk
    rw [e] at e2
    obtain rfl := Option.some.inj e2
    exact .inr ⟨_, us.toArray, _, hk, rfl, rfl, rfl, by rw [List.size_toArray]; exact h1, by simpa using vals_toV h2⟩
theorem argT (KX : K.In h) (ar : ∀ a ∈ A, ArgOb h A a) {a : Addr} {vs : List Value} (ha : a ∈ A) (e : h.get? a = some { cls := .type "tuple", data := .seq vs.toArray }) : (∀ u ∈ vs, OkU A u) ∧ SqT K (argH K h A) a (vs.map toV) := by
  obtain ⟨us, h1, h2, h3⟩ := ar a ha
  have hu : us = vs := by
    rcases h3 with q | q
    · rw [e] at q
      exact absurd (Value.type.inj (seq_inj q).1) (by decide)
    · rw [e] at q
      exact (seq_inj q).2.symm
  subst hu
  refine ⟨h2, ?_⟩
  cases hk : K.lookup a with
  | none => exact .inl (.inr ⟨_, by rw [argH_at ha hk e, hoOf_tup]⟩)
  | some o =>
    have e2 := KX a o hk
    rw [e] at e2
    obtain rfl := Option.some.inj e2
    exact .inr ⟨_, us.toArray, _, hk, rfl, rfl, by rw [List.size_toArray]; exact h1, by simpa using vals_toV h2⟩
mutual
theorem dw_one {Pm : Params} (KX : K.In h) (ar : ∀ a ∈ A, ArgOb h A a) : ∀ (d : WData) (v : Value), Well Pm h v d → plW d = true → OkU A v → Dw K (argH K h A) (toV v) d
  | .none, _, x, _, _ => by
    cases x
    exact .non
  | .bool b, _, x, _, _ => by
    cases x
    exact .bl b
  | .int i, _, x, _, _ => by
    cases x
    exact .int i
  | .str s, _, x, _, _ => by
    cases x
    exact .str s
  | .bytes b, _, x, _, _ => by
    cases x
    have z := Dw.byt (K := K) (H := argH K h A) b.toArray
    exact z
  | .list ds, _, x, p, hu => by
    obtain ⟨a, vs, rfl, ho, hall⟩ := well_list x
    obtain ⟨h2, hs⟩ := argL KX ar hu ho
    exact .lst hs (dw_all KX ar ds _ hall p h2)
  | .tuple ds, _, x, p, hu => by
    obtain ⟨a, vs, rfl, ho, hall⟩ := well_tuple x
    obtain ⟨h2, hs⟩ := argT KX ar hu ho
    exact .tup hs (dw_all KX ar ds _ hall p h2)
  | .float _, _, _, p, _ => Bool.noConfusion (show false = true from p)
  | .dict _, _, _, p, _ => Bool.noConfusion (show false = true from p)
  | .bytearray _, _, _, p, _ => Bool.noConfusion (show false = true from p)
  | .set _, _, _, p, _ => Bool.noConfusion (show false = true from p)
  | .frozenset _, _, _, p, _ => Bool.noConfusion (show false = true from p)
  | .obj _ _, _, _, p, _ => Bool.noConfusion (show false = true from p)
theorem dw_all {Pm : Params} (KX : K.In h) (ar : ∀ a ∈ A, ArgOb h A a) : ∀ (ds : List WData) (vs : List Value), WellAll Pm h vs ds → plWs ds = true → (∀ u ∈ vs, OkU A u) → DwAll K (argH K h A) (vs.map toV) ds
  | [], _, x, _, _ => by
    cases x
    exact .nil
  | d :: ds, _, x, p, hu => by
    obtain ⟨v, vs, rfl, x1, x2⟩ := well_cons x
    have q : plW d = true ∧ plWs ds = true := Bool.and_eq_true_iff.mp p
    exact .cons (dw_one KX ar d v x1 q.1 (hu _ (List.mem_cons_self ..))) (dw_all KX ar ds vs x2 q.2 fun u m => hu u (List.mem_cons_of_mem _ m))
end
end
theorem layable_weight {ds : List WData} (h : WData.layableAll ds = true) : ∀ d ∈ ds, d.weight ≤ 1048576 := fun d hd =>
  (PySem.W.layableW_iff.mp (List.all_eq_true.mp h d hd)).2.2
theorem encAll_len : ∀ (cs : List Codec) (a : Codec.denoteAll cs), (Codec.encAll cs a).length = cs.length
  | [], _ => rfl
  | c :: cs, a => by
    show (Codec.encAll cs a.2).length + 1 = cs.length + 1
    rw [encAll_len cs a.2]
end L2
namespace KX
open PySem
abbrev xObj (C : Addr) (od : Option Addr) (vs : Array Value) : Obj := { cls := .ref C, dict := od, data := .fields vs }
def TbOk (h : Heap) (e : Addr) (vs : Array Value) : Prop :=
  vs[1]? = some .none ∨ ∃ T oT ts, vs[1]? = some (.ref T) ∧ T ≠ e ∧ h.get? T = some oT ∧ oT.data = .fields ts ∧ 3 < ts.size
structure Chg (fs ex : List Addr) (h h' : Heap) : Prop where
  keep : ∀ b o, h.get? b = some o → b ∉ fs → b ∉ ex → h'.get? b = some o
  slot : ∀ b o, h.get? b = some o → b ∉ ex → ∃ sl, h'.get? b = some { o with slots := sl }
  there : ∀ b o, h.get? b = some o → ∃ o', h'.get? b = some o'
theorem Chg.refl {fs ex : List Addr} {h : Heap} : Chg fs ex h h := ⟨fun _ _ q _ _ => q, fun _ o q _ => ⟨o.slots, q⟩, fun _ o q => ⟨o, q⟩⟩
theorem Chg.trans {fs ex : List Addr} {h1 h2 h3 : Heap} (a : Chg fs ex h1 h2) (b : Chg fs ex h2 h3) : Chg fs ex h1 h3 :=
  ⟨fun c o q n m => b.keep c o (a.keep c o q n m) n m, fun c o q m => by
    obtain ⟨sl, e⟩ := a.slot c o q m
    obtain ⟨sl', e'⟩ := b.slot c _ e m
    exact ⟨sl', e'⟩, fun c o q => by
    obtain ⟨o', e⟩ := a.there c o q
    exact b.there c o' e⟩
theorem Chg.mono {fs fs' ex ex' : List Addr} {h h' : Heap} (a : Chg fs ex h h') (s1 : ∀ b ∈ fs, b ∈ fs') (s2 : ∀ b ∈ ex, b ∈ ex') : Chg fs' ex' h h' :=
  ⟨fun c o q n m => a.keep c o q (fun z => n (s1 c z)) (fun z => m (s2 c z)), fun c o q m => a.slot c o q fun z => m (s2 c z), a.there⟩
theorem chg_cell {h : Heap} {e : Addr} {o : Obj} {vs : Array Value} (he : h.get? e = some o) (hd : o.data = .fields vs) (i : Nat) (v : Value) :
    Chg [] [e] h (h.update e (Obj.mapFields (·.setIfInBounds i v))) ∧ (h.update e (Obj.mapFields (·.setIfInBounds i v))).get? e = some { o with data := .fields (vs.setIfInBounds i v) } := by
  have hd' := Obj.data_mapFields hd (·.setIfInBounds i v)
  have self : (h.update e (Obj.mapFields (·.setIfInBounds i v))).get? e = some (o.mapFields (·.setIfInBounds i v)) := Heap.get?_update_self _ he (Obj.isFreed_of_fields hd')
  refine ⟨⟨fun b ob q _ m => ?_, fun b ob q m => ⟨ob.slots, ?_⟩, fun b ob q => ?_⟩, ?_⟩
  · rw [Heap.get?_update_other _ _ fun z => m (by rw [z]; exact List.mem_singleton.mpr rfl)]; exact q
  · rw [Heap.get?_update_other _ _ fun z => m (by rw [z]; exact List.mem_singleton.mpr rfl)]; exact q
  · by_cases hb : b = e
    · subst hb; exact ⟨_, self⟩
    · exact ⟨ob, by rw [Heap.get?_update_other _ _ (Ne.symm hb)]; exact q⟩
  · rw [self]
    obtain ⟨c, d, dt, sl⟩ := o
    simp only at hd
    subst hd
    rfl
theorem chg_push {h : Heap} (o : Obj) : Chg [] [] h (h.push o) :=
  ⟨fun b ob q _ _ => Heap.get?_push_of_some _ q, fun b ob q _ => ⟨ob.slots, Heap.get?_push_of_some _ q⟩, fun b ob q => ⟨ob, Heap.get?_push_of_some _ q⟩⟩
theorem chg_slots {S : List Addr} {h h' : Heap} (x : Heap.SlotsOnly S h h') : Chg S [] h h' :=
  ⟨fun b o q n _ => (x.2.1 b n).trans q, fun b o q _ => x.2.2 b o q, fun b o q => let ⟨sl, e⟩ := x.2.2 b o q; ⟨_, e⟩⟩
section
variable {M : Model} {A : Around} {E : Value → Shared → Prop} {s : Shared}
theorem x_entry {base : Heap} {env : Env} {outer : List Env} {L e C : Addr} {od : Option Addr} {vs : Array Value} {head : Value} {had : Bool} {Q : Unit → Shared → Prop}
    (hfr : A.frames = some (env :: outer)) (hl : s.heap.FunFrames base (env :: outer)) (hf : env.frame = some L) (he : s.heap.get? e = some (xObj C od vs)) (hz : 1 < vs.size)
    (k : ∀ h' T oT ts, Chg ((env :: outer).filterMap (·.frame)) [e] s.heap h' → h'.get? e = some (xObj C od (vs.setIfInBounds 1 (.ref T))) → T ≠ e → s.heap.get? T = none → h'.get? T = some oT → oT.data = .fields ts → 3 < ts.size → Q () { s with heap := h' }) :
    wpAny M A (do let a ← frameOf env; let pl ← entryPlaceOf L had; let b ← EntryCells.newEntry head a .none (rawInt L) .none pl; setField (.ref e) 1 b) Q E s := by
  have nin : e ∉ (env :: outer).filterMap (·.frame) := fun hm => by
    obtain ⟨_, o, ho, hn⟩ := hl.mem hm
    rw [he] at ho
    cases ho
    exact hn vs rfl
  refine wpAny_bind (wpAny_frameOf_fun hfr hl hf fun h1 hs1 => ?_)
  refine wpAny_bind (wpAny_entryPlaceOf fun pl hpl => ?_)
  unfold EntryCells.newEntry newFields
  refine wpAny_bind (wpAny_newObj_type ?_ (hpl.sizeOk5 _ _ _ _ _))
  have c1 := chg_slots hs1
  have e1 : h1.get? e = some (xObj C od vs) := c1.keep e _ he nin (by simp)
  have e2 := Heap.get?_push_of_some (h := h1) { cls := .type "traceback", dict := none, data := .fields ([head, .ref L, .none, rawInt L, .none] ++ (if pl.isEmpty then List.replicate 6 Value.none else pl)).toArray } e1
  obtain ⟨c3, e3⟩ := chg_cell e2 rfl 1 (Value.ref h1.objs.size)
  have ne : h1.objs.size ≠ e := Nat.ne_of_gt (Heap.lt_size e1)
  have fresh : s.heap.get? h1.objs.size = none := by rw [hs1.1]; exact Heap.get?_none_of_le (Nat.le_refl _)
  refine wpAny_setField e2 rfl hz (k _ h1.objs.size _ _ ?_ e3 ne fresh (c3.keep _ _ (Heap.get?_push_size h1 rfl) (by simp) (by simpa using ne)) rfl ?_)
  · exact ((c1.mono (fun _ z => z) (fun b z => absurd z (by simp))).trans ((chg_push _).mono (fun b z => absurd z (by simp)) (fun b z => absurd z (by simp)))).trans (c3.mono (fun b z => absurd z (by simp)) fun _ z => z)
  · simp only [List.size_toArray, List.length_append, List.length_cons, List.length_nil]
    omega
theorem x_note {base : Heap} {env : Env} {outer : List Env} {L e C : Addr} {od : Option Addr} {vs : Array Value} {Q : Unit → Shared → Prop}
    (hfr : A.frames = some (env :: outer)) (hl : s.heap.FunFrames base (env :: outer)) (hf : env.frame = some L) (he : s.heap.get? e = some (xObj C od vs)) (hz : vs.size = 6) (tb : TbOk s.heap e vs)
    (k : ∀ h' vs' T oT ts, (∀ ex : List Addr, e ∈ ex → (∀ T0, vs[1]? = some (.ref T0) → T0 ∈ ex) → Chg ((env :: outer).filterMap (·.frame)) ex s.heap h') → h'.get? e = some (xObj C od vs') → vs'.size = 6 → vs'[2]? = vs[2]? → vs'[1]? = some (.ref T) → T ≠ e →
      (s.heap.get? T = none ∨ vs[1]? = some (.ref T)) → h'.get? T = some oT → oT.data = .fields ts → 3 < ts.size → Q () { s with heap := h' }) :
    wpAny M A (noteFrame (.ref e) env) Q E s := by
  unfold noteFrame
  simp only [hf]
  have set1 : ∀ T : Addr, (vs.setIfInBounds 1 (Value.ref T)).size = 6 ∧ (vs.setIfInBounds 1 (Value.ref T))[2]? = vs[2]? ∧ (vs.setIfInBounds 1 (Value.ref T))[1]? = some (.ref T) := fun T =>
    ⟨by rw [Array.size_setIfInBounds]; exact hz, by rw [Array.getElem?_setIfInBounds_ne (by decide)], by rw [Array.getElem?_setIfInBounds_self_of_lt (by omega)]⟩
  rcases tb with h1 | ⟨T, oT, ts, h1, ne, hT, hdT, hzT⟩
  · refine wpAny_bind (wpAny_field he rfl h1 ?_)
    rw [if_neg (by decide)]
    refine x_entry hfr hl hf he (by omega) fun h' T oT ts c1 c2 c3 c4 c5 c6 c7 => ?_
    obtain ⟨z1, z2, z3⟩ := set1 T
    exact k h' _ T oT ts (fun ex m _ => c1.mono (fun _ z => z) fun b z => by rw [List.mem_singleton.mp z]; exact m) c2 z1 z2 z3 c3 (.inl c4) c5 c6 c7
  · refine wpAny_bind (wpAny_field he rfl h1 ?_)
    rw [if_pos (show (Value.ref T != Value.none) = true from by simp)]
    obtain ⟨fl, h3⟩ : ∃ fl, ts[3]? = some fl := ⟨ts[3], Array.getElem?_eq_getElem hzT⟩
    refine wpAny_bind (wpAny_field hT hdT h3 ?_)
    by_cases hq : (fl == rawInt L) = true
    · rw [if_pos hq]
      exact wpAny_pure (k s.heap vs T oT ts (fun ex _ _ => .refl) he hz rfl h1 ne (.inr h1) hT hdT hzT)
    · rw [if_neg hq]
      refine wpAny_bind (wpAny_setField hT hdT hzT ?_)
      obtain ⟨d1, d2⟩ := chg_cell hT hdT 3 Value.none
      have he' := d1.keep e _ he (by simp) (by simpa using Ne.symm ne)
      refine x_entry hfr (hl.of_keeps fun b o hb hn => ⟨o, d1.keep b o hb (by simp) (fun z => ?_), rfl⟩) hf he' (by omega) fun h' T' oT' ts' c1 c2 c3 c4 c5 c6 c7 => ?_
      · have : b = T := List.mem_singleton.mp z
        subst this
        rw [hT] at hb; cases hb
        exact hn ts hdT
      · obtain ⟨z1, z2, z3⟩ := set1 T'
        refine k h' _ T' oT' ts' (fun ex m m' => (d1.mono (fun b z => absurd z (by simp)) fun b z => by rw [List.mem_singleton.mp z]; exact m' T h1).trans (c1.mono (fun _ z => z) fun b z => by rw [List.mem_singleton.mp z]; exact m)) c2 z1 z2 z3 c3 (.inl ?_) c5 c6 c7
        cases hq' : s.heap.get? T' with
        | none => rfl
        | some o' =>
          obtain ⟨o2, e2⟩ := d1.there T' o' hq'
          rw [c4] at e2; cases e2
theorem x_flight {e C : Addr} {od fr : Option Addr} {vs : Array Value} {Q : Unit → Shared → Prop} (he : s.heap.get? e = some (xObj C od vs)) (tb : TbOk s.heap e vs)
    (k : ∀ h', (∀ ex : List Addr, (∀ T0, vs[1]? = some (.ref T0) → T0 ∈ ex) → Chg [] ex s.heap h') → h'.get? e = some (xObj C od vs) → TbOk h' e vs → Q () { s with heap := h' }) :
    wpAny M A (setFlight (.ref e) fr) Q E s := by
  unfold setFlight
  rcases tb with h1 | ⟨T, oT, ts, h1, ne, hT, hdT, hzT⟩
  · refine wpAny_bind (wpAny_field he rfl h1 ?_)
    rw [if_neg (by decide)]
    exact wpAny_pure (k _ (fun _ _ => .refl) he (.inl h1))
  · refine wpAny_bind (wpAny_field he rfl h1 ?_)
    rw [if_pos (show (Value.ref T != Value.none) = true from by simp)]
    refine wpAny_setField hT hdT hzT ?_
    obtain ⟨d1, d2⟩ := chg_cell hT hdT 3 (fr.elim Value.none fun f => rawInt f)
    refine k _ (fun ex m => d1.mono (fun _ z => z) fun b z => by rw [List.mem_singleton.mp z]; exact m T h1) (d1.keep e _ he (by simp) (by simpa using Ne.symm ne)) (.inr ⟨T, _, _, h1, ne, d2, rfl, ?_⟩)
    rw [Array.size_setIfInBounds]
    exact hzT
end
end KX
namespace KX
open PySem
abbrev newCells (t : Value) : Array Value := #[t, .none, .none, .none, .bool false, .none]
section
variable {M : Model} {A : Around} {E : Value → Shared → Prop} {env : Env}
variable {nm q : Str} {C N : Addr} {bs bm : List Value} {hdct : Bool} {sn : List Str} {sub : List Value} {ab : Bool} {col : Option Bool} {dd : Option Addr} {k0 k1 k2 k3 k5 : Option Value} {newId : String}
theorem x_raise {s : Shared} {x : Sem Value} {Q : Flow → Shared → Prop} (hb : bm.contains (.type "BaseException") = true) (hh : A.handled = none)
    (k : wpAny M A x (fun v s1 => ∃ e t od, v = .ref e ∧ s1.heap.get? C = some (excClassObj nm q C N bs bm hdct sn sub ab col dd k0 k1 k2 k3 k5 newId) ∧ s1.heap.get? e = some (xObj C od (newCells t)) ∧ E (.ref e) s1) E s) :
    wpAny M A (raiseStmt env (some x) none) Q E s := by
  have hin : (Value.ref C :: bm).contains (.type "BaseException") = true := by rw [List.contains_cons, hb, Bool.or_true]
  unfold raiseStmt
  refine wpAny_bind (wpAny_mono k (fun v s1 z => ?_) fun _ _ z => z)
  obtain ⟨e, t, od, rfl, cC, ce, hE⟩ := z
  obtain ⟨h1, g1, d1, t1, o1⟩ := s1
  repeat (first | with_reducible refine wpAny_loadPart_at ce ?_ | with_reducible refine wpAny_loadPart_at cC ?_ | (with_reducible refine wpAny_isSubtype_exc cC ?_; rw [hin]) | wp_step)
  exact wpAny_raiseNew_none hh hE
end
theorem entry_unchain : entryFor table "proto.unchain" = some Builtin.«proto.unchain» := entryFor_of_tree (by kernel_rfl)
section
variable {prog : Program} {w : World} {A : Around} {E : Value → Shared → Prop} {env : Env}
variable {nm q : Str} {C N : Addr} {bs bm : List Value} {hdct : Bool} {sn : List Str} {sub : List Value} {ab : Bool} {col : Option Bool} {dd : Option Addr} {k0 k1 k2 k3 k5 : Option Value} {newId : String}
theorem raiseNew_held {α : Type} {s : Shared} {e h : Addr} {oh oe : Obj} {vh ve : Array Value} {Q : α → Shared → Prop} (hh : A.handled = some (.ref h)) (ne : h ≠ e) (ch : s.heap.get? h = some oh) (dh : oh.data = .fields vh) (z : vh[2]? = some .none)
    (ce : s.heap.get? e = some oe) (de : oe.data = .fields ve) (hz : 2 < ve.size) (k : E (.ref e) { s with heap := s.heap.update e (Obj.mapFields (·.setIfInBounds 2 (.ref h))) }) :
    wpAny (model prog w) A (raiseNew (.ref e) : Sem α) Q E s := by
  unfold raiseNew
  refine wpAny_bind (wpAny_handled ?_)
  rw [hh]
  have hne : (Value.ref h != Value.ref e) = true := by rw [bne_iff_ne]; intro y; cases y; exact ne rfl
  dsimp only
  rw [if_pos hne]
  refine wpAny_bind (wpAny_holding (wpAny_runValue (codeAny_builtin entry_unchain ?_)))
  unfold Builtin.«proto.unchain»
  dsimp only
  refine wpAny_bind (wpAny_field ch dh z ?_)
  rw [if_pos (by decide)]
  refine wpAny_bind (wpAny_pure (wpAny_pure ?_))
  exact wpAny_bind (wpAny_setField ce de hz (wpAny_throw k))
theorem x_raiseFrom {s : Shared} {x c : Sem Value} {h : Addr} {Q : Flow → Shared → Prop} (hb : bm.contains (.type "BaseException") = true) (hh : A.handled = some (.ref h)) (hc : ∀ (R : Value → Shared → Prop) (s : Shared), R .none s → wpAny (model prog w) A c R E s)
    (k : wpAny (model prog w) A x (fun v s1 => ∃ e t od oh vh, v = .ref e ∧ h ≠ e ∧ s1.heap.get? C = some (excClassObj nm q C N bs bm hdct sn sub ab col dd k0 k1 k2 k3 k5 newId) ∧ C ≠ e ∧ s1.heap.get? h = some oh ∧ oh.data = .fields vh ∧ vh[2]? = some .none ∧
      s1.heap.get? e = some (xObj C od (newCells t)) ∧ ∀ h', Chg [] [e] s1.heap h' → h'.get? e = some (xObj C od #[t, .none, .ref h, .none, .bool true, .none]) → E (.ref e) { s1 with heap := h' }) E s) :
    wpAny (model prog w) A (raiseStmt env (some x) (some c)) Q E s := by
  have hin : (Value.ref C :: bm).contains (.type "BaseException") = true := by rw [List.contains_cons, hb, Bool.or_true]
  unfold raiseStmt
  refine wpAny_bind (wpAny_mono k (fun v s1 z => ?_) fun _ _ z => z)
  obtain ⟨e, t, od, oh, vh, rfl, ne, cC, neC, ch, dh, zh, ce, hE⟩ := z
  obtain ⟨h1, g1, d1, t1, o1⟩ := s1
  refine wpAny_bind (wpAny_holding (hc _ _ (wpAny_bind (wpAny_pure ?_))))
  dsimp only at cC ch ce
  obtain ⟨a1, a2⟩ := chg_cell ce rfl 3 Value.none
  obtain ⟨b1, b2⟩ := chg_cell a2 rfl 4 (Value.bool true)
  obtain ⟨c1, c2⟩ := chg_cell b2 rfl 2 (Value.ref h)
  have cC2 := b1.keep C _ (a1.keep C _ cC (by simp) (by simpa using neC)) (by simp) (by simpa using neC)
  have ch2 := b1.keep h _ (a1.keep h _ ch (by simp) (by simpa using ne)) (by simp) (by simpa using ne)
  repeat (first | with_reducible refine wpAny_loadPart_at ce ?_ | with_reducible refine wpAny_loadPart_at cC ?_ | (with_reducible refine wpAny_isSubtype_exc cC ?_; rw [hin]) | wp_step)
  exact raiseNew_held hh ne ch2 dh zh b2 rfl (by show 2 < 6; decide) (hE _ ((a1.trans b1).trans c1) c2)
end
end KX
namespace KX
open PySem Builtin Builtin.ObjectAttr
abbrev bmX : List Value := [.type "Exception", .type "BaseException", .type "object"]
section
variable {prog : Program} {w : World} {A : Around} {E : Value → Shared → Prop} {h : Heap} {g : Array GenState} {d : Drawn} {t : Nat} {os : OsState}
variable {nm q : Str} {C N x : Addr} {bs : List Value} {sn : List Str} {sub : List Value} {ab : Bool} {col : Option Bool} {dd : Option Addr} {k0 k1 k2 k3 k5 : Option Value} {newId : String}
  {mN mA : Str → Option Value} {name : Str} {v : Value}
end
theorem lk_row : typeLookup (.type "Exception") "row" = pure none := by rw [typeLookup_type, builtinLookup_eq_fast]; kernel_rfl
end KX
namespace KX
open PySem Builtin Builtin.ObjectAttr
structure Hold (p : Prop) : Prop where
  it : p
section
variable {prog : Program} {w : World} {A : Around} {E : Value → Shared → Prop} {h : Heap} {g : Array GenState} {d : Drawn} {t : Nat} {os : OsState}
variable {nm q : Str} {C N x : Addr} {bs : List Value} {sn : List Str} {sub : List Value} {ab : Bool} {col : Option Bool} {dd : Option Addr} {k0 k1 k2 k3 k5 : Option Value} {newId : String}
  {mN mA : Str → Option Value} {name : Str} {v : Value} {vs : Array Value}
theorem x_store_entry {tk : Tok} {Q : Fin → Shared → Prop} (cC : h.get? C = some (excClassObj nm q C N bs bmX true sn sub ab col dd k0 k1 k2 k3 k5 newId)) (hn : h.Ns N mN) (hna : mN name = none)
    (hB : typeLookup (.type "Exception") name = pure none) (cx : h.get? x = some (xObj C none vs))
    (k : ∀ h' tk', h'.get? x = some (xObj C (some h.objs.size) vs) → h'.Ns1 h.objs.size (fun y => if y = name then some v else none) → (∀ b o, b ≠ x → h.get? b = some o → h'.get? b = some o) → Q (.done (.ret .none)) ⟨h', g, d, tk', os⟩) :
    wpAny (model prog w) A (Builtin.«object.__setattr__» ⟨[.ref x, .str name tk, v], []⟩) Q E ⟨h, g, d, t, os⟩ := by
  have SF := F.store_Exception
  have pass := SF.passes (.ref x)
  have c1 : (h.push { cls := .type "dict", data := .dict #[] }).get? x = some (xObj C none vs) := Heap.get?_push_of_some _ cx
  have ne : x ≠ h.objs.size := Nat.ne_of_lt (Heap.lt_size cx)
  have c2 := Heap.get?_update_self (fun o => { cls := o.cls, dict := some h.objs.size, data := o.data, slots := o.slots }) c1 rfl
  have c3 : ((h.push { cls := .type "dict", data := .dict #[] }).update x fun o => { cls := o.cls, dict := some h.objs.size, data := o.data, slots := o.slots }).get? h.objs.size = some { cls := .type "dict", data := .dict #[] } := by
    rw [Heap.get?_update_other _ _ ne]
    exact Heap.get?_push_size h rfl
  have c4 : ((h.push { cls := .type "dict", data := .dict #[] }).update x fun o => { cls := o.cls, dict := some h.objs.size, data := o.data, slots := o.slots }).Ns h.objs.size (fun _ => none) :=
    ⟨_, #[], _, c3, rfl, fun z hz => absurd hz (by simp), fun _ => rfl⟩
  unfold Builtin.«object.__setattr__»
  repeat (first | rw [refuse_eq] | (rw [refuseLoop_ref, pass]) | (with_reducible refine wpAny_nsSet1 (m := fun _ => none) ?_ (fun h' n' sb => Hold.it ?_)) | with_reducible refine wpAny_loadPart_at cx ?_ | with_reducible refine wpAny_mroOf_exc cC ?_ | (with_reducible refine wpAny_typeLookup_exc cC hn SF.mro hB ?_; rw [hna]) | wp_step)
  · exact Heap.Ns1.of_empty c4
  refine ⟨?_⟩
  obtain ⟨oD, esD, epD, e1, e2, e3⟩ := n'.count (Within.cons name v Within.nil)
  refine wpAny_bind (wpAny_lookBehind e1 (by rw [e2]; exact pastItsLine_dict (Nat.le_trans e3 (by rw [List.length_cons, List.length_nil, sizeLine_eq]; omega))) ?_)
  refine wpAny_pure (k h' _ ((sb.2 x ne).trans c2) n' fun b o nb e => ?_)
  rw [sb.2 b (Nat.ne_of_lt (Heap.lt_size e)), Heap.get?_update_other _ _ (Ne.symm nb)]
  exact Heap.get?_push_of_some _ e
theorem x_store_call {tk : Tok} {sa owner : String} {R : Result → Shared → Prop} (SF : StoreFacts "Exception" bmX sa owner) (cC : h.get? C = some (excClassObj nm q C N bs bmX true sn sub ab col dd k0 k1 k2 k3 k5 newId)) (hn : h.Ns N mN) (hna : mN name = none)
    (hB : typeLookup (.type "Exception") name = pure none) (cx : h.get? x = some (xObj C none vs))
    (k : ∀ h' tk', h'.get? x = some (xObj C (some h.objs.size) vs) → h'.Ns1 h.objs.size (fun y => if y = name then some v else none) → (∀ b o, b ≠ x → h.get? b = some o → h'.get? b = some o) → R (.ok (.ret .none)) ⟨h', g, d, tk', os⟩) :
    codeAny (model prog w) A (.call (.builtin sa) ⟨[.ref x, .str name tk, v], []⟩) R ⟨h, g, d, t, os⟩ :=
  codeAny_call_builtin SF.slot.plain SF.entry (wpAny_check_sa SF cC cx rfl (x_store_entry cC hn hna hB cx k))
theorem x_store {Q : Unit → Shared → Prop} (cC : h.get? C = some (excClassObj nm q C N bs bmX true sn sub ab col dd k0 k1 k2 k3 k5 newId)) (hn : h.Ns N mN) (hns : mN "__setattr__" = none) (hna : mN name = none)
    (hB : typeLookup (.type "Exception") name = pure none) (cx : h.get? x = some (xObj C none vs))
    (k : ∀ h' tk', h'.get? x = some (xObj C (some h.objs.size) vs) → h'.Ns1 h.objs.size (fun y => if y = name then some v else none) → (∀ b o, b ≠ x → h.get? b = some o → h'.get? b = some o) → Q () ⟨h', g, d, tk', os⟩) :
    wpAny (model prog w) A (setAttr (.ref x) name v) Q E ⟨h, g, d, t, os⟩ := by
  have SF := F.store_Exception
  have f3 := SF.slot.bind (.ref x)
  unfold setAttr callSpecial? specialOf
  repeat (any_goals (first | assumption | with_reducible refine wpAny_loadPart_at cx ?_ | (with_reducible refine wpAny_typeLookup_exc cC hn SF.mro SF.slot.lookup ?_; rw [hns]) | wp_step))
  refine x_store_call SF cC hn hna hB cx fun h' tk' a1 a2 a3 => ?_
  repeat (any_goals (first | assumption | wp_step))
  exact k h' tk' a1 a2 a3
end
end KX
namespace L2
open PySem PySem.Spec PyProof.Rows KX
theorem ObjOk.held {P : Program} {w : World} {H : Hp} {h : Heap} {a : Addr} {o : HO} (x : ObjOk P w H h a o) : ∃ ob, h.get? a = some ob := by
  cases o with
  | lst xs => obtain ⟨_, _, _, _, e⟩ := x; exact ⟨_, e⟩
  | tup xs => obtain ⟨_, _, _, ob, e, _⟩ := x; exact ⟨_, e⟩
  | dK kvs => obtain ⟨_, _, _, _, ob, _, _, e, _⟩ := x; exact ⟨_, e⟩
  | dT kvs => obtain ⟨_, _, _, _, ob, _, _, e, _⟩ := x; exact ⟨_, e⟩
  | set S n => obtain ⟨ob, _, _, _, e, _⟩ := x; exact ⟨_, e⟩
  | ins C dx fs => obtain ⟨_, _, _, e, _⟩ := x; exact ⟨_, e⟩
  | own y => exact x
  | xd fs => obtain ⟨_, ⟨ob, _, _, e, _⟩, _⟩ := x; exact ⟨_, e⟩
  | rng lo hi => obtain ⟨_, _, _, e⟩ := x; exact ⟨_, e⟩
  | frz ob u => exact ⟨_, x.1⟩
  | tbl ps => exact ⟨_, x⟩
  | met f y => exact ⟨_, x⟩
  | ext φ => exact x.2.1
theorem HOk.none_of {P : Program} {w : World} {H : Hp} {h : Heap} {a : Addr} (ok : HOk P w H h) (e : h.get? a = none) : H a = none := by
  cases q : H a with
  | none => rfl
  | some o =>
    obtain ⟨ob, z⟩ := (ok a o q).held
    rw [e] at z; cases z
theorem Un.chg {fs fs' ex : List Addr} {H0 H : Hp} {old h h' : Heap} (u : Un fs [] H0 H old h) (c : Chg fs' ex h h') (hf : ∀ b ∈ fs', b ∈ fs ∨ old.get? b = none) (hx : ∀ b ∈ ex, old.get? b = none) : Un fs [] H0 H old h' where
  keep := fun b o q n hb he => c.keep b o (u.keep b o q n hb he) (fun z => (hf b z).elim hb fun y => by rw [q] at y; cases y) fun z => by rw [hx b z] at q; cases q
  slot := fun b o q n hb he => by
    obtain ⟨sl, e⟩ := u.slot b o q n hb he
    obtain ⟨sl', e'⟩ := c.slot b _ e fun z => by rw [hx b z] at q; cases q
    exact ⟨sl', e'⟩
  free := u.free
  there := fun b o q he => by
    obtain ⟨o', e⟩ := u.there b o q he
    exact c.there b o' e
  tups := u.tups
  frzs := u.frzs
  tbls := u.tbls
theorem HOk.chg {P : Program} {w : World} {fs ex : List Addr} {H : Hp} {h h' : Heap} (ok : HOk P w H h) (c : Chg fs ex h h') (hf : ∀ b ∈ fs, H b = none) (hx : ∀ b ∈ ex, H b = none) : HOk P w H h' := fun a o e =>
  (ok a o e).stay (fun b u hb q => c.keep b u q
    (fun z => by
      rcases hb with y | y
      · rw [y] at z; rw [hf a z] at e; cases e
      · rw [hf b z] at y; cases y)
    fun z => by
      rcases hb with y | y
      · rw [y] at z; rw [hx a z] at e; cases e
      · rw [hx b z] at y; cases y) (fun _ q => q) fun _ _ q => q
def XAt (old : Heap) (H : Hp) (h : Heap) (e C : Addr) (od : Option Addr) : Prop :=
  ∃ vs, h.get? e = some (xObj C od vs) ∧ vs.size = 6 ∧ TbOk h e vs ∧ H e = none ∧ old.get? e = none ∧ (∀ T, vs[1]? = some (.ref T) → H T = none ∧ old.get? T = none) ∧ (od = none → vs[2]? = some .none)
theorem XAt.old {old old' : Heap} {H : Hp} {h : Heap} {e C : Addr} {od : Option Addr} (x : XAt old H h e C od) (k : ∀ b o, old'.get? b = some o → ∃ o', old.get? b = some o') : XAt old' H h e C od := by
  have no : ∀ b, old.get? b = none → old'.get? b = none := fun b e => by
    cases q : old'.get? b with
    | none => rfl
    | some o => obtain ⟨o', z⟩ := k b o q; rw [e] at z; cases z
  obtain ⟨vs, a1, a2, a3, a4, a5, a6, a7⟩ := x
  exact ⟨vs, a1, a2, a3, a4, no _ a5, fun T q => ⟨(a6 T q).1, no _ (a6 T q).2⟩, a7⟩
def Tbd (h : Heap) (e : Addr) : Prop := ∃ o vs T, h.get? e = some o ∧ o.data = .fields vs ∧ vs[1]? = some (.ref T)
def exOf (e : Addr) (vs : Array Value) : List Addr := e :: (match (vs[1]? : Option Value) with | some (Value.ref T) => [T] | _ => [])
theorem mem_exOf {e b : Addr} {vs : Array Value} (h : b ∈ exOf e vs) : b = e ∨ vs[1]? = some (.ref b) := by
  unfold exOf at h
  rcases List.mem_cons.mp h with h | h
  · exact .inl h
  · split at h
    · rename_i T q
      rw [List.mem_singleton.mp h]
      exact .inr q
    · exact absurd h List.not_mem_nil
theorem exOf_e {e : Addr} {vs : Array Value} : e ∈ exOf e vs := List.mem_cons_self
theorem exOf_t {e T : Addr} {vs : Array Value} (q : vs[1]? = some (.ref T)) : T ∈ exOf e vs := by
  unfold exOf
  rw [q]
  exact List.mem_cons_of_mem _ (List.mem_singleton.mpr rfl)
section
variable {P : Program} {w : World} {M : Model} {A : Around} {Ex : Value → Shared → Prop} {s : Shared} {old base : Heap} {H0 H : Hp} {fs : List Addr} {env : Env} {outer : List Env} {L e C : Addr} {od fr : Option Addr} {Q : Unit → Shared → Prop}
theorem funs_chg {h h' : Heap} {fs' ex : List Addr} {l : List Env} (hl : h.FunFrames base l) (c : Chg fs' ex h h') (hx : ∀ b ∈ ex, ∀ o, h.get? b = some o → ∃ vs, o.data = .fields vs) : h'.FunFrames base l :=
  hl.of_keeps fun b o hb hn => by
    obtain ⟨sl, q⟩ := c.slot b o hb fun z => by
      obtain ⟨vs, y⟩ := hx b z o hb
      exact hn vs y
    exact ⟨_, q, rfl⟩
theorem exOf_fields {h : Heap} {vs : Array Value} (he : h.get? e = some (xObj C od vs)) (tb : TbOk h e vs) : ∀ b ∈ exOf e vs, ∀ o, h.get? b = some o → ∃ ws, o.data = .fields ws := fun b hb o q => by
  rcases mem_exOf hb with z | z
  · subst z
    rw [he] at q
    cases q
    exact ⟨vs, rfl⟩
  · rcases tb with y | ⟨T, oT, ts, y, _, hT, hd, _⟩
    · rw [y] at z; cases z
    · rw [y] at z
      cases z
      rw [hT] at q
      cases q
      exact ⟨ts, hd⟩
structure Psd (fs : List Addr) (h h' : Heap) : Prop where
  keep : ∀ b o, h.get? b = some o → (∀ vs, o.data ≠ .fields vs) → b ∉ fs → h'.get? b = some o
  slot : ∀ b o, h.get? b = some o → (∀ vs, o.data ≠ .fields vs) → ∃ sl, h'.get? b = some { o with slots := sl }
theorem Psd.of {fs' ex : List Addr} {h h' : Heap} (c : Chg fs' ex h h') (hx : ∀ b ∈ ex, ∀ o, h.get? b = some o → ∃ vs, o.data = .fields vs) : Psd fs' h h' :=
  ⟨fun b o q n m => c.keep b o q m fun z => (by obtain ⟨vs, y⟩ := hx b z o q; exact n vs y), fun b o q n => c.slot b o q fun z => (by obtain ⟨vs, y⟩ := hx b z o q; exact n vs y)⟩
theorem Psd.trans {fs' : List Addr} {h1 h2 h3 : Heap} (a : Psd fs' h1 h2) (b : Psd fs' h2 h3) : Psd fs' h1 h3 :=
  ⟨fun c o q n m => b.keep c o (a.keep c o q n m) n m, fun c o q n => by
    obtain ⟨sl, e1⟩ := a.slot c o q n
    obtain ⟨sl', e2⟩ := b.slot c _ e1 n
    exact ⟨sl', e2⟩⟩
theorem Psd.mono {fs1 fs2 : List Addr} {h1 h2 : Heap} (a : Psd fs1 h1 h2) (m : ∀ b ∈ fs1, b ∈ fs2) : Psd fs2 h1 h2 := ⟨fun b o q n k => a.keep b o q n fun z => k (m b z), a.slot⟩
theorem note_ok (hfr : A.frames = some (env :: outer)) (hl : s.heap.FunFrames base (env :: outer)) (hf : env.frame = some L) (x : XAt old H s.heap e C od) (u : Un fs [] H0 H old s.heap) (ok : HOk P w H s.heap)
    (hn : ∀ b ∈ frs (env :: outer), H b = none) (ho : ∀ b ∈ frs (env :: outer), b ∈ fs ∨ old.get? b = none)
    (k : ∀ h', XAt old H h' e C od → Tbd h' e → Un fs [] H0 H old h' → HOk P w H h' → h'.FunFrames base (env :: outer) → Psd (frs (env :: outer)) s.heap h' → Q () { s with heap := h' }) : wpAny M A (noteFrame (.ref e) env) Q Ex s := by
  obtain ⟨vs, a1, a2, a3, a4, a5, a6, a7⟩ := x
  have oldx : ∀ b ∈ exOf e vs, old.get? b = none ∧ H b = none := fun b hb => by
    rcases mem_exOf hb with z | z
    · rw [z]; exact ⟨a5, a4⟩
    · exact ⟨(a6 b z).2, (a6 b z).1⟩
  refine x_note hfr hl hf a1 a2 a3 fun h' vs' T oT ts c c1 c2 c3 c4 c5 c6 c7 c8 c9 => ?_
  have c := c (exOf e vs) exOf_e fun T0 q => exOf_t q
  have nT : H T = none ∧ old.get? T = none := by
    rcases c6 with z | z
    · refine ⟨ok.none_of z, ?_⟩
      cases q : old.get? T with
      | none => rfl
      | some o =>
        obtain ⟨o', y⟩ := u.there T o q (by simp)
        rw [z] at y; cases y
    · exact a6 T z
  refine k h' ⟨vs', c1, c2, .inr ⟨T, oT, ts, c4, c5, c7, c8, c9⟩, a4, a5, fun T' q => ?_, fun z => by rw [c3]; exact a7 z⟩ ⟨_, vs', T, c1, rfl, c4⟩ (u.chg c ho fun b hb => (oldx b hb).1) (ok.chg c hn fun b hb => (oldx b hb).2) (funs_chg hl c (exOf_fields a1 a3)) (Psd.of c (exOf_fields a1 a3))
  rw [c4] at q
  cases q
  exact nT
theorem flight_ok {l : List Env} (hl : s.heap.FunFrames base l) (x : XAt old H s.heap e C od) (tb : Tbd s.heap e) (u : Un fs [] H0 H old s.heap) (ok : HOk P w H s.heap)
    (k : ∀ h', XAt old H h' e C od → Tbd h' e → Un fs [] H0 H old h' → HOk P w H h' → h'.FunFrames base l → Psd [] s.heap h' → Q () { s with heap := h' }) : wpAny M A (setFlight (.ref e) fr) Q Ex s := by
  obtain ⟨vs, a1, a2, a3, a4, a5, a6, a7⟩ := x
  have oldx : ∀ b ∈ exOf e vs, old.get? b = none ∧ H b = none := fun b hb => by
    rcases mem_exOf hb with z | z
    · rw [z]; exact ⟨a5, a4⟩
    · exact ⟨(a6 b z).2, (a6 b z).1⟩
  refine x_flight a1 a3 fun h' c c1 c2 => ?_
  have c := c (exOf e vs) fun T0 q => exOf_t q
  obtain ⟨o, vs2, T, q1, q2, q3⟩ := tb
  rw [a1] at q1
  cases q1
  cases q2
  exact k h' ⟨vs, c1, a2, c2, a4, a5, a6, a7⟩ ⟨_, vs, T, c1, rfl, q3⟩ (u.chg c (fun b hb => absurd hb List.not_mem_nil) fun b hb => (oldx b hb).1) (ok.chg c (fun b hb => absurd hb List.not_mem_nil) fun b hb => (oldx b hb).2) (funs_chg hl c (exOf_fields a1 a3)) (Psd.of c (exOf_fields a1 a3))
end
def CXo (P : Program) (w : World) : CXT := fun outer H s E ev s' => ∃ e C od H', ev = .ref e ∧ s'.os = s.os ∧ AllBare s'.gens ∧ Un (frs outer) [] H H' s.heap s'.heap ∧ HOk P w H' s'.heap ∧ XAt s.heap H' s'.heap e C od ∧ E (.ref C) od H'
def Throws (X : Cx) (E : XK) : Prop := ∀ (pins : List (Addr × Obj)) (σ : St) (H : Hp) (s : Shared) (e C : Addr) (od : Option Addr), Inv X pins σ H s → XAt X.s_0.heap H s.heap e C od → E (.ref C) od H → X.xe (.ref e) s
theorem passes_of {X : Cx} {E : XK} (t : Throws X E) (hx : X.ex = []) : Passes (CXo X.prog X.w) X E := fun pins σ H s ev s' I h => by
  obtain ⟨e, C, od, H', rfl, os, bare, u, ok, x, q⟩ := h
  exact t pins σ H' s' e C od (I.call' os u ok bare fun b z => absurd z List.not_mem_nil) (x.old fun b o z => I.base.there b o z (by rw [hx]; simp)) q
section
variable {P : Program} {w : World} {K : PySem.W.Frag} {mg : Str → Option Value} {base : Heap}
theorem throws_body {N : List Str} {qual : Str} {scope : Scope} {f : Addr} {cd : Value} {A : Around} {outer : List Env} {s : Shared} {H : Hp} {E : XK} : Throws (cxOf (CXo P w) P w K mg base N qual scope f cd A outer s H E) E := by
  intro pins σ H1 s1 e C od I x q
  show wpAny (model P w) (A.deeper (envOfC qual scope s.heap.objs.size f cd)) (leaving (envOfC qual scope s.heap.objs.size f cd) (.ref e)) _ _ s1
  unfold leaving
  have fsub : ∀ b ∈ frs (envOfC qual scope s.heap.objs.size f cd :: outer), b ∈ frs outer ∨ s.heap.get? b = none := fun b hb => by
    rcases List.mem_cons.mp (show b ∈ s.heap.objs.size :: frs outer from hb) with z | z
    · rw [z]; exact .inr (Heap.get?_none_of_le (Nat.le_refl _))
    · exact .inl z
  refine wpAny_bind (note_ok (P := P) (w := w) (base := base) (fs := frs outer) (H0 := H) (L := s.heap.objs.size) I.ok.frames I.stack rfl x I.base I.hok I.stkFree fsub fun h1 x1 t1 u1 ok1 hl1 _ => ?_)
  refine flight_ok (P := P) (w := w) (base := base) (fs := frs outer) (H0 := H) (s := { s1 with heap := h1 }) hl1 x1 t1 u1 ok1 fun h2 x2 t2 u2 ok2 hl2 _ => ?_
  exact ⟨e, C, od, H1, rfl, I.os, I.bare, u2, ok2, x2, q⟩
end
end L2
namespace L2
open PySem PySem.Spec PyProof.Rows KX
def nsStr (K : PySem.W.Frag) (C : Addr) : Bool := match K.lookup C with
  | some ⟨_, _, .cls cd, _⟩ => (match K.lookup cd.ns with
      | some ⟨_, _, .dict es _, _⟩ => es.toList.all fun e => match e.key with | .str _ _ => true | _ => false
      | _ => false)
  | _ => false
structure XCls (K : PySem.W.Frag) (C : Addr) : Prop where
  ex : ∃ nm q N bs sn sub ab col dd k0 k1 k2 k3 k5, K.lookup C = some (excClassObj nm q C N bs bmX true sn sub ab col dd k0 k1 k2 k3 k5 "Exception.__new__")
  st : nsStr K C = true
  kp : PySem.W.keepIn K (.ref C) = true
theorem XCls.find {K : PySem.W.Frag} {C : Addr} {h : Heap} (c : XCls K C) (KX : K.In h) :
    ∃ nm q N bs sn sub ab col dd k0 k1 k2 k3 k5 mN, h.get? C = some (excClassObj nm q C N bs bmX true sn sub ab col dd k0 k1 k2 k3 k5 "Exception.__new__") ∧ h.Ns N mN ∧ ∀ name r, PySem.W.ownIn K name (.ref C) = some r → mN name = r := by
  obtain ⟨nm, q, N, bs, sn, sub, ab, col, dd, k0, k1, k2, k3, k5, e⟩ := c.ex
  have st := c.st
  unfold nsStr at st
  rw [e] at st
  dsimp only at st
  split at st
  · rename_i oc od es ep sl eN
    refine ⟨nm, q, N, bs, sn, sub, ab, col, dd, k0, k1, k2, k3, k5, nsFind es, KX _ _ e, ⟨_, es, ep, KX _ _ eN, rfl, fun z hz => ?_, fun _ => rfl⟩, fun name r hr => ?_⟩
    · have y := List.all_eq_true.mp st z (Array.mem_toList_iff.mpr hz)
      cases kz : z.key <;> rw [kz] at y <;> first | exact ⟨_, _, rfl⟩ | cases y
    · unfold PySem.W.ownIn at hr
      dsimp only at hr
      rw [e] at hr
      dsimp only at hr
      unfold PySem.W.nsIn at hr
      rw [eN] at hr
      dsimp only at hr
      unfold nsFind findBy
      rw [← Array.find?_toList]
      split at hr
      · rename_i en he
        rw [he]
        exact Option.some.inj hr
      · rename_i he
        rw [he]
        split at hr
        · cases hr
        · exact Option.some.inj hr
  · cases st
theorem Inv.laidN {X : Cx} {pins : List (Addr × Obj)} {σ : St} {H : Hp} {s : Shared} {h' : Heap} {a : Addr} {o : HO} {t' : Nat} (I : Inv X pins σ H s) (k : ∀ b u, s.heap.get? b = some u → h'.get? b = some u) (hp : s.heap.get? a = none) (new : ObjOk X.prog X.w (upd H a o) h' a o) :
    Inv X pins σ (upd H a o) { s with heap := h', toks := t' } := by
  have hn : H a = none := I.hok.none_of hp
  have ne : ∀ b u, s.heap.get? b = some u → b ≠ a := fun b u q z => by rw [z, hp] at q; cases q
  refine I.un ⟨fun b u q _ _ _ => k b u q, fun b u q _ _ _ => ⟨u.slots, k b u q⟩, fun b u q n _ => by rw [upd_ne (ne b u q)]; exact n, fun b u q _ => ⟨u, k b u q⟩, fun b xs q => by rw [upd_ne (ne_of_none q hn)]; exact q,
    fun b u xs q => by rw [upd_ne (ne_of_none q hn)]; exact q, fun b ps q => ⟨#[], by rw [upd_ne (ne_of_none q hn), q]; simp⟩⟩ fun b u e => ?_
  by_cases hb : b = a
  · subst hb; rw [upd_same] at e; cases e; exact new
  · rw [upd_ne hb] at e
    exact (I.hok b u e).stay (fun c v _ q => k c v q) (fun c q => by rw [upd_ne (ne_of_none q hn)]; exact q) fun c xs q => by rw [upd_ne (ne_of_none q hn)]; exact q
section
variable {X : Cx} {E : XK} {x : Str} {C : Addr} {np cpos pos : Pos}
theorem fresh_entry {pins : List (Addr × Obj)} {σ : St} {H : Hp} {s : Shared} (I : Inv X pins σ H s) (hx : X.ex = []) {e : Addr} (n : s.heap.get? e = none) : X.s_0.heap.get? e = none := by
  cases q : X.s_0.heap.get? e with
  | none => rfl
  | some o =>
    obtain ⟨o', z⟩ := I.base.there e o q (by rw [hx]; simp)
    rw [n] at z; cases z
theorem ps_raise0 (c : XCls X.K C) (ni : PySem.W.ownIn X.K "__init__" (.ref C) = some none) (hg : Gl X x) (hm : X.mg x = some (.ref C)) (hc : X.calm = true) (hx : X.ex = []) (ht : Throws X E) (hd : (x == ("__debug__" : Str)) = false := by decide) :
    PS X (.Raise (some (.Call (.Name x np) [] [] cpos)) none pos) (fun _ _ H => E (.ref C) none H) := by
  intro pins s σ H D I h
  obtain ⟨nm, q, N, bs, sn, sub, ab, col, dd, k0, k1, k2, k3, k5, mN, cC, hN, own⟩ := c.find I.kIn
  rw [arm_exec_Raise]
  refine wpAny_bind (wpAny_standAt ?_)
  show wpAny _ _ (raiseStmt X.env (some (do let v ← eval (.Call (.Name x np) [] [] cpos) X.env; standAt pos; pure v)) none) _ _ s
  refine x_raise (C := C) (nm := nm) (q := q) (N := N) (bs := bs) (bm := bmX) (hdct := true) (sn := sn) (sub := sub) (ab := ab) (col := col) (dd := dd) (k0 := k0) (k1 := k1) (k2 := k2) (k3 := k3) (k5 := k5) (newId := "Exception.__new__") (by decide) (I.ok.hd hc) (wpAny_bind (wpAny_mono (wpAny_Call_Name_kw (ld_glob I hg hm ?_ hd)) (fun v s3 h3 => wpAny_bind (wpAny_standAt (wpAny_pure h3))) fun _ _ z => z))
  refine PySem.W.callWith_K0 I.kIn c.kp ?_
  obtain ⟨hp, g, d, tk, os⟩ := s
  refine wpAny_call_exc_sub F.excBase_Exception cC hN (own _ _ ni) fun h' e made => ?_
  obtain ⟨t, he, _, _⟩ := made.there
  have I' := I.kept (t' := tk) made.keeps
  exact ⟨e, _, none, rfl, made.keeps _ _ cC, he, ht pins σ H _ e C none I' ⟨_, he, rfl, .inl rfl, I.hok.none_of made.new, fresh_entry I hx made.new, fun T z => (by cases z), fun _ => rfl⟩ h⟩
end
structure XInit (K : PySem.W.Frag) (C fI : Addr) (row : Str) : Prop where
  own : PySem.W.ownIn K "__init__" (.ref C) = some (some (.ref fI))
  nset : PySem.W.ownIn K "__setattr__" (.ref C) = some none
  nrow : PySem.W.ownIn K row (.ref C) = some none
  fn : PySem.W.isFn K (.ref fI) = true
  lk : typeLookup (.type "Exception") row = pure none
  ex : ∃ (oc : Value) (od : Option Addr) (name qual : Str) (params : Arguments) (p1 p2 p3 p4 : Pos) (scope : Scope) (dV kV doc pm cdv ct : Value) (an : Option Addr) (osl : Array (Option Value)),
    K.lookup fI = some ⟨oc, od, .func (PySem.W.fnOf name qual params [.Assign [.Attribute (.Name "self" p1) row p2] (.Name row p3) p4] scope dV kV doc pm an cdv ct), osl⟩ ∧ PySem.W.codeIn K cdv qual = true ∧
    (∀ u v : Value, bindArgs (PySem.W.fnOf name qual params [.Assign [.Attribute (.Name "self" p1) row p2] (.Name row p3) p4] scope dV kV doc pm an cdv ct) ⟨[u, v], []⟩ = pure [(("self" : Str), u), (row, v)]) ∧
    scope.kind = .function ∧ scope.isCoroutine = false ∧ scope.isGenerator = false ∧ scope.names.lookup ("self" : Str) = some NameKind.local ∧ scope.names.lookup row = some NameKind.local ∧ (row == ("__debug__" : Str)) = false ∧ row ≠ "self" ∧
    (∀ env : Env, swapsWith (.Name row p3) (some (.Attribute (.Name "self" p1) row p2)) p4.line env = pure false)
section
variable {X : Cx} {pins : List (Addr × Obj)} {σ : St} {H : Hp} {s : Shared} {A : Around} {C fI : Addr} {row : Str} {Ex : Value → Shared → Prop}
theorem x_make1 {u : Value} {v : V} {Q : Value → Shared → Prop} (I : Inv X pins σ H s) (c : XCls X.K C) (i : XInit X.K C fI row) (hdep : A.depth + 2 < recursionLimit) (r : RelV v u)
    (k : ∀ e dx t h3 tk3, Inv X pins σ (upd H dx (.xd [(row, v)])) { s with heap := h3, toks := tk3 } → (∀ b o, s.heap.get? b = some o → h3.get? b = some o) → h3.get? e = some (xObj C (some dx) (newCells t)) → s.heap.get? e = none → s.heap.get? dx = none → e ≠ dx → Q (.ref e) { s with heap := h3, toks := tk3 }) :
    wpAny (model X.prog X.w) A (call (.ref C) [u]) Q Ex s := by
  obtain ⟨nm, q, N, bs, sn, sub, ab, col, dd, k0, k1, k2, k3, k5, mN, cC, hN, own⟩ := c.find I.kIn
  obtain ⟨oc, od, name, qual, params, p1, p2, p3, p4, scope, dV, kV, doc, pm, cdv, ct, an, osl, lk, hcd, hbind, hk, hco, hgen, hself, hrow, hdb, hne, hsw⟩ := i.ex
  have hoc : oc = .type "function" := by
    have z := i.fn
    unfold PySem.W.isFn PySem.W.typeIn at z
    dsimp only at z
    rw [lk] at z
    have y : (some oc == some (Value.type "function")) = true := z
    exact Option.some.inj (beq_iff_eq.mp y)
  have KX := I.kIn
  have lim := I.nolimit
  have I0 := I
  obtain ⟨hp, g, d, tk, os⟩ := s
  refine wpAny_call_exc_init F.excBase_Exception cC hN (own _ _ i.own) (KX _ _ lk) hoc fun h1 e made => ?_
  have KX1 : X.K.In h1 := KX.keeps made.keeps
  refine wpAny_call (Att.call_fn (s := ⟨h1, g, d, tk, os⟩) (binds := [(("self" : Str), .ref e), (row, u)]) KX1 (lim.keeps made.keeps) lk hcd (by rw [make_depth]; omega) (.of_eq (hbind _ _)) (by simp [hself, hrow]) (fun s1 y => ?_) hco hgen hk)
  obtain ⟨h2, tk2, rfl, kp2⟩ := y.done
  have ns2 := y.toInCall.ns
  have hs1 : (envOfC qual scope h1.objs.size fI cdv).kindOf "self" = some .local := hself
  have hr1 : (envOfC qual scope h1.objs.size fI cdv).kindOf row = some .local := hrow
  have b1 : bindL (envOfC qual scope h1.objs.size fI cdv).kindOf [(("self" : Str), .ref e), (row, u)] (fun _ => none) "self" = some (.ref e) := by
    unfold bindL; unfold bindL; unfold bindL
    rw [if_pos hs1, if_pos hr1]
    simp [Ne.symm hne]
  have b2 : bindL (envOfC qual scope h1.objs.size fI cdv).kindOf [(("self" : Str), .ref e), (row, u)] (fun _ => none) row = some u := by
    unfold bindL; unfold bindL; unfold bindL
    rw [if_pos hs1, if_pos hr1]
    simp
  refine wpAny_execs_cons (plainObj_wpAny_Assign_Attribute ?_ (hsw _))
  refine wpAny_Name (wpAny_loadName_local hk hr1 ns2 b2 ?_) hdb
  refine wpAny_Name (wpAny_loadName_local hk hs1 ns2 b1 ?_) (by decide)
  obtain ⟨t, he, _, _⟩ := made.there
  have keep2 : ∀ b o, hp.get? b = some o → h2.get? b = some o := fun b o z => kp2 b o (made.keeps b o z)
  have cC2 := keep2 _ _ cC
  have hN2 : h2.Ns N mN := hN.keeps keep2
  refine x_store cC2 hN2 (own _ _ i.nset) (own _ _ i.nrow) i.lk (kp2 _ _ he) fun h3 tk3 e3 n3 kp3 => ?_
  refine wpAny_execs_nil ⟨rfl, ?_⟩
  have ne_e : ∀ b o, hp.get? b = some o → b ≠ e := fun b o z y => by rw [y, made.new] at z; cases z
  have keep3 : ∀ b o, hp.get? b = some o → h3.get? b = some o := fun b o z => kp3 b o (ne_e b o z) (keep2 b o z)
  have dn : hp.get? h2.objs.size = none := by
    cases z : hp.get? h2.objs.size with
    | none => rfl
    | some o => exact absurd (Heap.lt_size (keep2 _ _ z)) (Nat.lt_irrefl _)
  have ed : e ≠ h2.objs.size := Nat.ne_of_lt (Heap.lt_size (kp2 _ _ he))
  refine k e h2.objs.size _ h3 tk3 (I0.laidN (t' := tk3) keep3 dn ⟨_, n3, fun f => ?_⟩) keep3 e3 made.new dn ed
  show RelO (List.lookup f [(row, v)]) (if f = row then some u else none)
  by_cases z : f = row
  · subst z
    rw [if_pos rfl]
    have y : List.lookup f [(f, v)] = some v := by simp [List.lookup]
    rw [y]
    exact r
  · rw [if_neg z]
    have hb : (f == row) = false := beq_eq_false_iff_ne.mpr z
    have y : List.lookup f [(row, v)] = none := by simp [List.lookup, hb]
    rw [y]
    trivial
end
section
variable {X : Cx} {E : XK} {x : Str} {C fI : Addr} {row : Str} {np cpos pos : Pos} {e1 : Expr} {t : TA}
def tRaise1 (C : Addr) (row : Str) (E : XK) (t : TA) : TS := fun _ σ H => t σ H fun vs H1 => ∃ v, vs = [v] ∧ ∀ dx, H1 dx = none → E (.ref C) (some dx) (upd H1 dx (.xd [(row, v)]))
theorem ps_raise1 (c : XCls X.K C) (i : XInit X.K C fI row) (hg : Gl X x) (hm : X.mg x = some (.ref C)) (hc : X.calm = true) (hx : X.ex = []) (hr : Room 1 X.A) (ht : Throws X E) (ha : PA X [e1] t) (hd : (x == ("__debug__" : Str)) = false := by decide)
    (hs : starEach [e1] X.env = [(false, eval e1 X.env)] := by rfl) : PS X (.Raise (some (.Call (.Name x np) [e1] [] cpos)) none pos) (tRaise1 C row E t) := by
  intro pins s σ H D I h
  obtain ⟨nm, q, N, bs, sn, sub, ab, col, dd, k0, k1, k2, k3, k5, lkC⟩ := c.ex
  rw [arm_exec_Raise]
  refine wpAny_bind (wpAny_standAt ?_)
  show wpAny _ _ (raiseStmt X.env (some (do let v ← eval (.Call (.Name x np) [e1] [] cpos) X.env; standAt pos; pure v)) none) _ _ s
  refine x_raise (C := C) (nm := nm) (q := q) (N := N) (bs := bs) (bm := bmX) (hdct := true) (sn := sn) (sub := sub) (ab := ab) (col := col) (dd := dd) (k0 := k0) (k1 := k1) (k2 := k2) (k3 := k3) (k5 := k5) (newId := "Exception.__new__") (by decide) (I.ok.hd hc) (wpAny_bind (wpAny_mono (wpAny_Call_Name_kw (ld_glob I hg hm ?_ hd)) (fun v s3 h3 => wpAny_bind (wpAny_standAt (wpAny_pure h3))) fun _ _ z => z))
  refine PySem.W.callWith_K (h₀ := X.base) I.ok.mod.kin c.kp (thn (ha cpos pins s σ H _ I h) fun us s1 ⟨vs, H1, I1, rv, v, ev, k⟩ => ⟨I1.kIn, ?_⟩) hs rfl
  subst ev
  obtain ⟨u, rfl, ru⟩ := vals1 rv
  refine x_make1 I1 c i (by have := hr.dp; omega) ru fun e dx tt h3 tk3 I' keep ce ne nd ned => ?_
  exact ⟨e, tt, some dx, rfl, I'.kIn _ _ lkC, ce, ht pins σ _ _ e C (some dx) I' ⟨_, ce, rfl, .inl rfl, (by rw [upd_ne ned]; exact I1.hok.none_of ne), fresh_entry I1 hx ne, fun T z => (by cases z), fun z => (by cases z)⟩ (k dx (I1.hok.none_of nd))⟩
end
abbrev Cx.inH (X : Cx) (e : Addr) (o : Obj) (W : Value → Shared → Prop) : Cx := { X with A := X.A.mark (some (.ref e)), calm := false, pn := X.pn ++ [(e, o)], xe := W }
def Wof (X : Cx) (e : Addr) : Value → Shared → Prop := notedBy (model X.prog X.w) (X.A.mark (some (.ref e))) X.env (cameBackBy (model X.prog X.w) X.A X.env X.xe)
theorem mark_frames {A : Around} {h : Option Value} : (A.mark h).frames = A.frames := by first | rfl | (cases h <;> rfl)
theorem Cx.Ok.inH {X : Cx} (ok : X.Ok) (e : Addr) (o : Obj) (W : Value → Shared → Prop) : (X.inH e o W).Ok :=
  ⟨ok.mod, ok.kind, ok.glob, ok.blt, ok.above, ok.inj, ok.has, ok.cab, fun z => (by cases z), (by rw [show (X.inH e o W).A.frames = X.A.frames from mark_frames]; exact ok.frames), ok.stk, ok.exf, ok.bs, ok.bsz, ok.noex, ok.exfs, ok.funs, ok.frf⟩
section
variable {X : Cx} {pins : List (Addr × Obj)} {σ : St} {H : Hp} {s : Shared} {e : Addr} {o : Obj} {W : Value → Shared → Prop}
theorem Inv.inH (I : Inv X pins σ H s) (he : s.heap.get? e = some o) (hn : H e = none) (hL : e ≠ X.env.locals) (hf : e ∉ X.fs) (hd : ∀ v, o.data ≠ .cell v) : Inv (X.inH e o W) pins σ H s :=
  ⟨I.ok.inH e o W, I.os, I.bare, I.base, I.loc, I.cell, I.free, I.freeC, fun p hp => by
    rcases List.mem_append.mp hp with z | z
    · rcases List.mem_append.mp (show p ∈ X.pn ++ [(e, o)] from z) with y | y
      · exact I.pin p (List.mem_append_left _ y)
      · rw [List.mem_singleton.mp y]; exact ⟨he, hn, hL, hf, hd⟩
    · exact I.pin p (List.mem_append_right _ z), I.hok, I.len⟩
theorem Inv.outH (I : Inv (X.inH e o W) pins σ H s) (ok : X.Ok) : Inv X pins σ H s :=
  ⟨ok, I.os, I.bare, I.base, I.loc, I.cell, I.free, I.freeC, fun p hp => I.pin p (by
    rcases List.mem_append.mp hp with z | z
    · exact List.mem_append_left _ (List.mem_append_left _ z)
    · exact List.mem_append_right _ z), I.hok, I.len⟩
theorem SP.outH {D : Ends} {f : Flow} {s' : Shared} (ok : X.Ok) (h : SP (X.inH e o W) pins D f s') : SP X pins D f s' := by
  cases f with
  | next => obtain ⟨σ', H', I, q⟩ := h; exact ⟨σ', H', I.outH ok, q⟩
  | brk => obtain ⟨σ', H', I, q⟩ := h; exact ⟨σ', H', I.outH ok, q⟩
  | cont => obtain ⟨σ', H', I, q⟩ := h; exact ⟨σ', H', I.outH ok, q⟩
  | ret u => obtain ⟨v, σ', H', I, r, q⟩ := h; exact ⟨v, σ', H', I.outH ok, r, q⟩
structure Fst (X : Cx) : Prop where
  st : X.stack = X.env :: X.outer
  fr : X.env.frame = some X.env.locals
  ex : X.ex = []
theorem fst_sub (F : Fst X) : ∀ b ∈ frs (X.env :: X.outer), b = X.env.locals ∨ b ∈ X.fs := fun b hb => by
  unfold frs at hb
  rw [List.filterMap_cons, F.fr] at hb
  rcases List.mem_cons.mp hb with z | z
  · exact .inl z
  · exact .inr z
theorem Inv.passed {fs' : List Addr} {h' : Heap} (I : Inv X [] σ H s) (hp : X.pn = []) (u : Un X.fs X.ex X.H_0 H X.s_0.heap h') (ok : HOk X.prog X.w H h') (p : Psd fs' s.heap h') : Inv X [] σ H { s with heap := h' } := by
  refine ⟨I.ok, I.os, I.bare, u, ?_, fun y c z => ?_, I.free, I.freeC, fun q hq => ?_, ok, I.len⟩
  · obtain ⟨m, ⟨o, es, ep, ho, hd, r⟩, l⟩ := I.loc
    obtain ⟨sl, e1⟩ := p.slot _ o ho (fun vs z => by rw [hd] at z; cases z)
    refine ⟨m, ⟨_, es, ep, e1, hd, r⟩, fun i y v a1 a2 a3 => ?_⟩
    obtain ⟨w', r', q⟩ := l i y v a1 a2 a3
    refine ⟨w', r', ?_⟩
    rcases q with q | ⟨k, c, e2, oc, hc, hcd⟩
    · exact .inl q
    · obtain ⟨sl2, e3⟩ := p.slot _ oc hc (fun vs z => by rw [hcd] at z; cases z)
      exact .inr ⟨k, c, e2, _, e3, hcd⟩
  · obtain ⟨v, oc, hc, hcd⟩ := I.cell y c z
    obtain ⟨sl2, e3⟩ := p.slot _ oc hc (fun vs z => by rw [hcd] at z; cases z)
    exact ⟨v, _, e3, hcd⟩
  · rw [hp] at hq
    exact absurd hq List.not_mem_nil
theorem throws_inH {E : XK} (F : Fst X) (hpn : X.pn = []) (t : Throws X E) (ok : X.Ok) : Throws (X.inH e o (Wof X e)) E := by
  intro pins σ H s e1 C od I x q
  have I0 : Inv X [] σ H s := (I.outH ok).pins_of fun p z => absurd z List.not_mem_nil
  have hst : s.heap.FunFrames X.base (X.env :: X.outer) := by rw [← F.st]; exact I0.stack
  have hfree : ∀ b ∈ frs (X.env :: X.outer), H b = none := by rw [← F.st]; exact I0.stkFree
  show wpAny (model X.prog X.w) (X.A.mark (some (.ref e))) (noteFrame (.ref e1) X.env) (fun _ s'' => cameBackBy (model X.prog X.w) X.A X.env X.xe (.ref e1) s'') _ s
  have fsub : ∀ b ∈ frs (X.env :: X.outer), b ∈ X.fs ∨ X.s_0.heap.get? b = none := fun b hb => by
    rcases fst_sub F b hb with z | z
    · rw [z]; exact .inr (Heap.get?_none_of_le ok.above)
    · exact .inl z
  have ub : Un X.fs [] X.H_0 H X.s_0.heap s.heap := by have := I0.base; rwa [F.ex] at this
  have ef : (X.A.mark (some (.ref e))).frames = some (X.env :: X.outer) := by rw [mark_frames, ← F.st]; exact ok.frames
  refine note_ok (P := X.prog) (w := X.w) (base := X.base) (fs := X.fs) (H0 := X.H_0) (L := X.env.locals) ef hst F.fr x ub I0.hok hfree fsub fun h1 x1 t1 u1 ok1 hl1 p1 => ?_
  unfold cameBackBy
  obtain ⟨o1, vs1, T1, g1, g2, g3⟩ := id t1
  refine wpAny_bind (wpAny_field g1 g2 g3 ?_)
  rw [if_neg (show ¬ ((Value.ref T1 == Value.none) = true) from by simp)]
  refine flight_ok (P := X.prog) (w := X.w) (base := X.base) (fs := X.fs) (H0 := X.H_0) (s := { s with heap := h1 }) hl1 x1 t1 u1 ok1 fun h2 x2 t2 u2 ok2 hl2 p2 => ?_
  exact t [] σ H _ e1 C od (I0.passed hpn (by rw [F.ex]; exact u2) ok2 (p1.trans (p2.mono fun b z => absurd z List.not_mem_nil))) x2 q
end
end L2
namespace L2
open PySem PySem.Spec PyProof.Rows KX
section
variable {X : Cx} {E : XK} {x : Str} {C fI : Addr} {row : Str} {np cpos pos p2 : Pos} {e1 : Expr} {t : TA} {j : Nat} {e0 : Addr} {o0 : Obj} {vs0 : Array Value}
theorem ps_raiseFrom (hh : X.A.handled = some (.ref e0)) (hp : (e0, o0) ∈ X.pn) (h0 : o0.data = .fields vs0) (hz : vs0[2]? = some .none) (c : XCls X.K C) (i : XInit X.K C fI row) (hg : Gl X x) (hm : X.mg x = some (.ref C)) (hx : X.ex = []) (hdep : X.A.depth + 2 < recursionLimit)
    (ht : X.Ok → Throws X E) (ha : PA X [e1] t) (hd : (x == ("__debug__" : Str)) = false := by decide) (hs : starEach [e1] X.env = [(false, eval e1 X.env)] := by rfl) :
    PS X (.Raise (some (.Call (.Name x np) [e1] [] cpos)) (some (.Constant .none j p2)) pos) (tRaise1 C row E t) := by
  intro pins s σ H D I h
  obtain ⟨nm, q, N, bs, sn, sub, ab, col, dd, k0, k1, k2, k3, k5, lkC⟩ := c.ex
  rw [arm_exec_Raise]
  refine wpAny_bind (wpAny_standAt ?_)
  show wpAny _ _ (raiseStmt X.env (some (do let v ← eval (.Call (.Name x np) [e1] [] cpos) X.env; standAt pos; pure v)) (some (do let v ← eval (.Constant .none j p2) X.env; standAt pos; pure v))) _ _ s
  refine x_raiseFrom (C := C) (nm := nm) (q := q) (N := N) (bs := bs) (bm := bmX) (hdct := true) (sn := sn) (sub := sub) (ab := ab) (col := col) (dd := dd) (k0 := k0) (k1 := k1) (k2 := k2) (k3 := k3) (k5 := k5) (newId := "Exception.__new__") (by decide) hh (fun R s' r => wpAny_bind (Constant_none (wpAny_bind (wpAny_standAt (wpAny_pure r))))) (wpAny_bind (wpAny_mono (wpAny_Call_Name_kw (ld_glob I hg hm ?_ hd)) (fun v s3 h3 => wpAny_bind (wpAny_standAt (wpAny_pure h3))) fun _ _ z => z))
  refine PySem.W.callWith_K (h₀ := X.base) I.ok.mod.kin c.kp (thn (ha cpos pins s σ H _ I h) fun us s1 ⟨vs, H1, I1, rv, v, ev, k⟩ => ⟨I1.kIn, ?_⟩) hs rfl
  subst ev
  obtain ⟨u, rfl, ru⟩ := vals1 rv
  have P0 := (I1.pin (e0, o0) (List.mem_append_left _ hp)).1
  refine x_make1 I1 c i hdep ru fun e dx tt h3 tk3 I' keep ce ne nd ned => ?_
  have n1 : e0 ≠ e := fun z => by
    have P1 : s1.heap.get? e0 = some o0 := P0
    rw [z, ne] at P1; cases P1
  have n2 : C ≠ e := fun z => by
    have P1 := I1.kIn _ _ lkC
    rw [z, ne] at P1; cases P1
  refine ⟨e, tt, some dx, o0, vs0, rfl, n1, I'.kIn _ _ lkC, n2, keep _ _ P0, h0, hz, ce, fun h4 cg ce4 => ?_⟩
  have He : upd H1 dx (.xd [(row, v)]) e = none := by rw [upd_ne ned]; exact I1.hok.none_of ne
  have keep4 : ∀ b o, s1.heap.get? b = some o → h4.get? b = some o := fun b o z => cg.keep b o (keep b o z) (by simp) (fun y => by rw [List.mem_singleton.mp y, ne] at z; cases z)
  have I4 := I1.laidN (t' := tk3) (o := .xd [(row, v)]) keep4 nd ((I'.hok dx _ upd_same).stay (fun b u' hb z => cg.keep b u' z (by simp) (fun y => by
    have yb : b = e := List.mem_singleton.mp y
    rcases hb with hb | hb
    · exact ned (yb.symm.trans hb)
    · rw [yb, He] at hb; cases hb)) (fun _ z => z) fun _ _ z => z)
  exact ht I.ok pins σ _ _ e C (some dx) I4 ⟨_, ce4, rfl, .inl rfl, He, fresh_entry I1 hx ne, fun T z => (by cases z), fun z => (by cases z)⟩ (k dx (I1.hok.none_of nd))
end
section
variable {X : Cx} {k : Nat} {f CU : Addr} {fd : FuncData} {ps : List Str} {sp : Sp} {g xU : Str} {p cpos epos pos np hpos : Pos} {a1 : Expr} {as : List Expr} {t : TA} {b0 : Stmt} {suite : List Stmt} {ts : TS}
theorem run_try {pins : List (Addr × Obj)} {σ : St} {H : Hp} {s : Shared} {W : Value → Shared → Prop} {D : Ends} {E1 : XK} (F : FnOk X.prog X.w X.K X.mg X.base (CXo X.prog X.w) k f fd ps sp) (hr : Room k X.A) (hg : Gl X g) (hm : X.mg g = some (.ref f)) (hk : PySem.W.keepIn X.K (.ref f) = true) (hb : Binds X.K fd ps [])
    (ha : PA (X.wish W) (a1 :: as) t) (I : Inv X pins σ H s) (h : t σ H fun vs H1 => sp vs H1 (fun _ H2 => D.nx σ H2) E1)
    (hw : ∀ H1 s1 ev s', Inv X pins σ H1 s1 → CXo X.prog X.w X.stack H1 s1 E1 ev s' → W ev s')
    (hdb : (g == ("__debug__" : Str)) = false) (he : starEach (a1 :: as) X.env = (false, eval a1 X.env) :: starEach as X.env) (hpl : (backTo cpos (starEach as X.env)).any (·.1) = false) (hsw : swapsWith (.Call (.Name g p) (a1 :: as) [] cpos) none epos.line X.env = pure false) :
    wpAny (model X.prog X.w) X.A (execs [.Expr (.Call (.Name g p) (a1 :: as) [] cpos) epos] X.env) (SP X pins D) W s := by
  refine wpAny_execs_cons (wpAny_Expr_any (wpAny_Call_Name_kw (ld_glob I hg hm ?_ hdb)) I.quiet hsw)
  refine PySem.W.callWith_K (h₀ := X.base) I.ok.mod.kin hk (thn (ha cpos pins s σ H _ (I.wish W) h) fun us s1 ⟨vs, H1, I1, r, q⟩ => ⟨I1.unwish.kIn, ?_⟩) he hpl
  have J := I1.unwish
  have hl : us.length = ps.length := by rw [← r.length]; exact F.len _ _ _ _ q
  have hb' : BindsTo s1 fd ⟨us, []⟩ (ps.zip us) := by
    have := hb s1 us J.kIn (by rw [List.append_nil]; exact hl)
    rwa [List.append_nil] at this
  refine wpAny_call (codeAny_mono (F.run X.A X.stack s1 H1 ⟨us, []⟩ us vs _ E1 hr J.env0 hb' r q) fun r s' hq => ?_)
  cases r with
  | error e => exact hw H1 s1 e s' J hq
  | ok fl =>
    cases fl with
    | ret u =>
      obtain ⟨v, H', I', _, q'⟩ := J.after hq
      exact wpAny_execs_nil ⟨σ, H', I', q'⟩
    | next => exact False.elim hq
    | brk => exact False.elim hq
    | cont => exact False.elim hq
theorem at_handlers {pins : List (Addr × Obj)} {σ : St} {H1 : Hp} {s1 s' : Shared} {ev : Value} {E1 : XK} {hs : List ExceptHandler} {Q : Flow → Shared → Prop} (F : Fst X) (I1 : Inv X pins σ H1 s1) (hc : CXo X.prog X.w X.stack H1 s1 E1 ev s')
    (k : ∀ e C od H' h3, ev = .ref e → E1 (.ref C) od H' → Inv X pins σ H' { s' with heap := h3 } → XAt s1.heap H' h3 e C od → Tbd h3 e → Un (frs X.stack) [] H1 H' s1.heap h3 → wpAny (model X.prog X.w) X.A (handleBy ev X.env hs) Q X.xe { s' with heap := h3 }) :
    wpAny (model X.prog X.w) X.A (noteFrame ev X.env) (fun _ s2 => wpAny (model X.prog X.w) X.A (setFlight ev none) (fun _ s3 => wpAny (model X.prog X.w) X.A (handleBy ev X.env hs) Q X.xe s3) X.xe s2) X.xe s' := by
  obtain ⟨e, C, od, H', rfl, os, bare, u, ok, x, q⟩ := hc
  have I' := I1.call' os u ok bare fun b z => absurd z List.not_mem_nil
  have hst : s'.heap.FunFrames X.base (X.env :: X.outer) := by rw [← F.st]; exact I'.stack
  have hfree : ∀ b ∈ frs (X.env :: X.outer), H' b = none := by rw [← F.st]; exact I'.stkFree
  have ef : X.A.frames = some (X.env :: X.outer) := by rw [← F.st]; exact I'.ok.frames
  refine note_ok (P := X.prog) (w := X.w) (base := X.base) (fs := frs X.stack) (H0 := H1) (L := X.env.locals) ef hst F.fr x u ok hfree (fun b hb => .inl (by rw [F.st]; exact hb)) fun h1 x1 t1 u1 ok1 hl1 _ => ?_
  refine flight_ok (P := X.prog) (w := X.w) (base := X.base) (fs := frs X.stack) (H0 := H1) (s := { s' with heap := h1 }) hl1 x1 t1 u1 ok1 fun h2 x2 t2 u2 ok2 hl2 _ => ?_
  exact k e C od H' h2 rfl q (I1.call' (s' := { s' with heap := h2 }) os u2 ok2 bare fun b z => absurd z List.not_mem_nil) x2 t2 u2
structure Hld (C : Addr) (od : Option Addr) (o : Obj) : Prop where
  ex : ∃ vs, o = xObj C od vs ∧ (od = none → vs[2]? = some .none)
def tTry0 (sp : Sp) (C : Addr) (t : TA) (ts : TS) : TS := fun D σ H => t σ H fun vs H1 => sp vs H1 (fun _ H2 => D.nx σ H2) (fun c od H2 => c = .ref C ∧ od = none ∧ ts D σ H2)
theorem ps_try0 (F : Fst X) (G : FnOk X.prog X.w X.K X.mg X.base (CXo X.prog X.w) k f fd ps sp) (hr : Room k X.A) (hg : Gl X g) (hm : X.mg g = some (.ref f)) (hk : PySem.W.keepIn X.K (.ref f) = true) (hb : Binds X.K fd ps []) (ha : ∀ W, PA (X.wish W) (a1 :: as) t)
    (c : XCls X.K CU) (hgU : Gl X xU) (hmU : X.mg xU = some (.ref CU)) (hs : ∀ e o, Hld CU none o → PSs (X.inH e o (Wof X e)) (b0 :: suite) ts)
    (hdb : (g == ("__debug__" : Str)) = false := by decide) (he : starEach (a1 :: as) X.env = (false, eval a1 X.env) :: starEach as X.env := by rfl) (hpl : (backTo cpos (starEach as X.env)).any (·.1) = false := by rfl) (hsw : swapsWith (.Call (.Name g p) (a1 :: as) [] cpos) none epos.line X.env = pure false := by rfl)
    (hdU : (xU == ("__debug__" : Str)) = false := by decide) :
    PS X (.Try [.Expr (.Call (.Name g p) (a1 :: as) [] cpos) epos] [.ExceptHandler (some (.Name xU np)) none (b0 :: suite) hpos] [] [] pos) (tTry0 sp CU t ts) := by
  intro pins s σ H D I h
  refine wpAny_Try_except (wpAny_mono (run_try (D := D) (W := fun e s1 => wpAny (model X.prog X.w) X.A (noteFrame e X.env) (fun _ s2 => wpAny (model X.prog X.w) X.A (setFlight e none) (fun _ s3 => wpAny (model X.prog X.w) X.A (handleBy e X.env [.ExceptHandler (some (.Name xU np)) none (b0 :: suite) hpos]) (SP X pins D) X.xe s3) X.xe s2) X.xe s1) G hr hg hm hk hb (ha _) I h (fun H1 s1 ev s' I1 hc => ?_) hdb he hpl hsw) (fun fl s2 q => ?_) fun _ _ z => z)
  · refine at_handlers F I1 hc fun e C od H' h3 ee q I3 x3 t3 u3 => ?_
    subst ee
    obtain ⟨q1, rfl, q3⟩ := q
    cases q1
    obtain ⟨nm, qq, N, bs, sn, sub, ab, col, dd, k0, k1, k2, k3, k5, lkC⟩ := c.ex
    obtain ⟨vs, a1', a2', a3', a4', a5', a6', a7'⟩ := id x3
    refine wpAny_handleBy_cons (codeAny_handlers_test ?_) (by intro z; cases z)
    have J : Inv (X.inH e (xObj CU none vs) (Wof X e)) pins σ H' { s' with heap := h3 } := I3.inH a1' a4' (fun z => by
        obtain ⟨m, ⟨o, _, _, ho, _⟩, _⟩ := I1.loc
        rw [← z, a5'] at ho; cases ho) (fun z => by
        obtain ⟨_, o, ho, _⟩ := I1.funs.mem z
        rw [a5'] at ho; cases ho) (fun v z => by cases z)
    refine ld_glob J hgU hmU ?_ hdU
    show wpAny _ _ (excMatches (.ref e) (.ref CU)) _ _ _
    refine wpAny_excMatches_sub_self (I3.kIn _ _ lkC) a1' rfl (by decide) ?_
    refine codeAny_handlers_suite ?_
    refine flight_ok (P := X.prog) (w := X.w) (base := X.base) (fs := frs X.stack) (H0 := H1) (s := { s' with heap := h3 }) (l := X.stack) I3.stack x3 t3 u3 I3.hok fun h4 x4 t4 u4 ok4 hl4 _ => ?_
    obtain ⟨vs4, b1, b2, b3, b4, b5, b6, b7⟩ := id x4
    have I4 : Inv X pins σ H' { s' with heap := h4 } := I1.call' (s' := { s' with heap := h4 }) (I3.os.trans I1.os.symm) u4 ok4 I3.bare fun b z => absurd z List.not_mem_nil
    have J4 : Inv (X.inH e (xObj CU none vs4) (Wof X e)) pins σ H' { s' with heap := h4 } := I4.inH b1 b4 (fun z => by
        obtain ⟨m, ⟨o, _, _, ho, _⟩, _⟩ := I1.loc
        rw [← z, a5'] at ho; cases ho) (fun z => by
        obtain ⟨_, o, ho, _⟩ := I1.funs.mem z
        rw [a5'] at ho; cases ho) (fun v z => by cases z)
    exact wpAny_mono (hs e _ ⟨vs4, rfl, b7⟩ pins _ σ H' D J4 q3) (fun f s5 z => SP.outH I1.ok z) fun _ _ z => z
  · cases fl with
    | next => exact wpAny_execs_nil q
    | ret v => exact q
    | brk => exact q
    | cont => exact q
end
end L2
namespace Kf
open Sf52
theorem split_yes {p : UInt8 → Bool} {c : UInt8} (h : p c = true) (r w : Bytes) : split p (c :: r) w = w :: split p r [] := by
  rw [split, if_pos h]
theorem split_no {p : UInt8 → Bool} {c : UInt8} (h : p c = false) (r w : Bytes) : split p (c :: r) w = split p r (w ++ [c]) := by
  rw [split, if_neg (by rw [h]; exact Bool.false_ne_true)]
theorem split_head (p : UInt8 → Bool) : ∀ (b w : Bytes), ∃ l, split p b w = (w ++ b.takeWhile fun c => !p c) :: l
  | [], w => ⟨[], by simp [split]⟩
  | c :: r, w => by
    cases h : p c with
    | true => exact ⟨_, by rw [split_yes h]; simp [List.takeWhile_cons, h]; rfl⟩
    | false =>
      obtain ⟨l, e⟩ := split_head p r (w ++ [c])
      exact ⟨l, by rw [split_no h, e]; simp [List.takeWhile_cons, h]⟩
theorem split_len (p : UInt8 → Bool) : ∀ (b w : Bytes), (split p b w).length ≤ b.length + 1
  | [], w => by simp [split]
  | c :: r, w => by
    cases h : p c with
    | true => rw [split_yes h]; have := split_len p r []; simp; omega
    | false => rw [split_no h]; have := split_len p r (w ++ [c]); simp; omega
theorem split_lens (p : UInt8 → Bool) : ∀ (b w l : Bytes), l ∈ split p b w → l.length ≤ w.length + b.length
  | [], w, l, h => by
    simp [split] at h; subst h; simp
  | c :: r, w, l, h => by
    cases hc : p c with
    | true =>
      rw [split_yes hc] at h
      rcases List.mem_cons.mp h with h | h
      · subst h; simp
      · have := split_lens p r [] l h; simp at this ⊢; omega
    | false =>
      rw [split_no hc] at h
      have := split_lens p r (w ++ [c]) l h
      simp at this ⊢; omega
def addD (n : Nat) (c : UInt8) : Nat := 10 * n + (c.toNat - 48)
theorem value_eq (b : Bytes) : value b = b.foldl addD 0 := rfl
theorem value_snoc (b : Bytes) (c : UInt8) : value (b ++ [c]) = 10 * value b + (c.toNat - 48) := by
  rw [value_eq, List.foldl_append]; rfl
theorem digit_iff (c : UInt8) : digit c = true ↔ 48 ≤ c.toNat ∧ c.toNat ≤ 57 := by
  unfold digit; rw [Bool.and_eq_true, decide_eq_true_iff, decide_eq_true_iff]
theorem fold_bounds : ∀ (b : Bytes) (n : Nat), b.all digit = true → n * 10 ^ b.length ≤ b.foldl addD n ∧ b.foldl addD n < (n + 1) * 10 ^ b.length
  | [], n, _ => by simp
  | c :: r, n, h => by
    rw [List.all_cons, Bool.and_eq_true] at h
    obtain ⟨h1, h2⟩ := h
    have hd := (digit_iff c).mp h1
    obtain ⟨a, b⟩ := fold_bounds r (addD n c) h2
    have e1 : 10 * n ≤ addD n c := by unfold addD; omega
    have e2 : addD n c + 1 ≤ 10 * (n + 1) := by unfold addD; omega
    rw [List.foldl_cons, List.length_cons, Nat.pow_succ]
    constructor
    · refine Nat.le_trans ?_ a
      have := Nat.mul_le_mul_right (10 ^ r.length) e1
      have e3 : n * (10 ^ r.length * 10) = 10 * n * 10 ^ r.length := by
        rw [Nat.mul_comm (10 ^ r.length) 10, ← Nat.mul_assoc, Nat.mul_comm n 10]
      omega
    · refine Nat.lt_of_lt_of_le b ?_
      have := Nat.mul_le_mul_right (10 ^ r.length) e2
      have e3 : (n + 1) * (10 ^ r.length * 10) = 10 * (n + 1) * 10 ^ r.length := by
        rw [Nat.mul_comm (10 ^ r.length) 10, ← Nat.mul_assoc, Nat.mul_comm (n + 1) 10]
      omega
theorem number_ok {w : Bytes} (h0 : w ≠ []) (ha : w.all digit = true) (hz : ¬ w.head? = some 48) (hv : value w ≤ 9999) : number w = some (value w) := by
  unfold number
  rw [if_pos]
  refine ⟨h0, ?_, ha, hz⟩
  cases w with
  | nil => exact absurd rfl h0
  | cons c r =>
    rw [List.all_cons, Bool.and_eq_true] at ha
    have hd := (digit_iff c).mp ha.1
    have hc : c.toNat ≠ 48 := fun e => hz (by
      rw [List.head?_cons]
      exact congrArg some (UInt8.toNat_inj.mp (by rw [e]; rfl)))
    have b := (fold_bounds r (addD 0 c) ha.2).1
    have e : value (c :: r) = r.foldl addD (addD 0 c) := rfl
    have e1 : 1 ≤ addD 0 c := by unfold addD; omega
    by_cases hl : r.length ≤ 3
    · rw [List.length_cons]; omega
    · have h4 : 10 ^ 4 ≤ 10 ^ r.length := Nat.pow_le_pow_right (by omega) (by omega)
      have : 1 * 10 ^ r.length ≤ addD 0 c * 10 ^ r.length := Nat.mul_le_mul_right _ e1
      omega
theorem number_inv {w : Bytes} {n : Nat} (h : number w = some n) : w ≠ [] ∧ w.length ≤ 4 ∧ w.all digit = true ∧ w.head? ≠ some 48 ∧ n = value w := by
  unfold number at h
  split at h
  · rename_i c
    exact ⟨c.1, c.2.1, c.2.2.1, c.2.2.2, (Option.some.inj h).symm⟩
  · cases h
theorem number_bounds {w : Bytes} {n : Nat} (h : number w = some n) : 1 ≤ n ∧ n ≤ 9999 := by
  obtain ⟨h0, hl, ha, hz, rfl⟩ := number_inv h
  cases w with
  | nil => exact absurd rfl h0
  | cons c r =>
    rw [List.all_cons, Bool.and_eq_true] at ha
    have hd := (digit_iff c).mp ha.1
    have hc : c.toNat ≠ 48 := fun e => hz (by
      rw [List.head?_cons]
      exact congrArg some (UInt8.toNat_inj.mp (by rw [e]; rfl)))
    obtain ⟨b1, b2⟩ := fold_bounds r (addD 0 c) ha.2
    have e : value (c :: r) = r.foldl addD (addD 0 c) := rfl
    have e1 : 1 ≤ addD 0 c := by unfold addD; omega
    have e2 : addD 0 c + 1 ≤ 10 := by unfold addD; omega
    rw [List.length_cons] at hl
    have h3 : 10 ^ r.length ≤ 10 ^ 3 := Nat.pow_le_pow_right (by omega) (by omega)
    have p1 : 1 ≤ 10 ^ r.length := Nat.one_le_pow _ _ (by omega)
    have m1 : 1 * 10 ^ r.length ≤ addD 0 c * 10 ^ r.length := Nat.mul_le_mul_right _ e1
    have m2 : (addD 0 c + 1) * 10 ^ r.length ≤ 10 * 10 ^ r.length := Nat.mul_le_mul_right _ e2
    have m3 : 10 * 10 ^ r.length ≤ 10 * 10 ^ 3 := Nat.mul_le_mul_left _ h3
    omega
theorem number_none {w : Bytes} (h : w.all digit = false ∨ w.head? = some 48 ∨ ¬ value w ≤ 9999) : number w = none := by
  cases e : number w with
  | none => rfl
  | some n =>
    obtain ⟨_, _, a, b, c⟩ := number_inv e
    have := number_bounds e
    rcases h with h | h | h
    · rw [h] at a; cases a
    · exact absurd h b
    · omega
theorem part_q (k lo hi : Nat) : part [63] k lo hi = some none := by unfold part; rw [if_pos rfl]
theorem part_no {w : Bytes} {k lo hi : Nat} (h : w ≠ [63]) (g : w.length ≠ k ∨ w.all digit = false ∨ ¬ (lo ≤ value w ∧ value w ≤ hi)) : part w k lo hi = none := by
  unfold part
  rw [if_neg h, if_neg]
  rintro ⟨a, b, c⟩
  rcases g with g | g | g
  · exact g a
  · rw [g] at b; cases b
  · exact g c
theorem part_yes {w : Bytes} {k lo hi : Nat} (h : w ≠ [63]) (a : w.length = k) (b : w.all digit = true) (c : lo ≤ value w) (d : value w ≤ hi) : part w k lo hi = some (some (value w)) := by
  unfold part
  rw [if_neg h, if_pos ⟨a, b, c, d⟩]
theorem part_bounds {w : Bytes} {k lo hi n : Nat} (h : part w k lo hi = some (some n)) : lo ≤ n ∧ n ≤ hi := by
  unfold part at h
  split at h
  · cases h
  · split at h
    · rename_i c
      cases h
      exact ⟨c.2.2.1, c.2.2.2⟩
    · cases h
structure DayOk (d : Day) : Prop where
  y : d.y ≠ some 0
  m : d.m ≠ some 0
  d : d.d ≠ some 0
def dayOf (y m d : Option Nat) : Option Day :=
  if (y.isNone = true → m.isNone = true) ∧ (m.isNone = true → d.isNone = true) then (match y, m, d with
    | some y1, some m1, some d1 => if d1 ≤ daysIn y1 m1 then some ⟨some y1, some m1, some d1⟩ else none
    | y, m, d => some ⟨y, m, d⟩) else none
theorem day_three {w a b c : Bytes} (h : split (fun c => c == 45) w [] = [a, b, c]) :
    day w = (part a 4 1000 9999).bind fun y => (part b 2 1 12).bind fun m => (part c 2 1 31).bind fun d => dayOf y m d := by
  unfold day
  rw [h]
  rfl
theorem day_not {w : Bytes} (h : (split (fun c => c == 45) w []).length ≠ 3) : day w = none := by
  unfold day
  split
  · rename_i e; rw [e] at h; exact absurd rfl h
  · rfl
theorem dayOf_eq {y m d : Option Nat} {x : Day} (h : dayOf y m d = some x) : x = ⟨y, m, d⟩ := by
  unfold dayOf at h
  split at h
  · split at h
    · split at h
      · exact (Option.some.inj h).symm
      · cases h
    · exact (Option.some.inj h).symm
  · cases h
theorem day_ok {w : Bytes} {x : Day} (h : day w = some x) : DayOk x := by
  unfold day at h
  split at h
  · rename_i a b c e
    obtain ⟨y, hy, h⟩ := Option.bind_eq_some_iff.mp h
    obtain ⟨m, hm, h⟩ := Option.bind_eq_some_iff.mp h
    obtain ⟨d, hd, h⟩ := Option.bind_eq_some_iff.mp h
    have e := dayOf_eq (show dayOf y m d = some x from h)
    subst e
    refine ⟨fun z => ?_, fun z => ?_, fun z => ?_⟩
    · have z' : y = some 0 := z
      subst z'; have := part_bounds hy; omega
    · have z' : m = some 0 := z
      subst z'; have := part_bounds hm; omega
    · have z' : d = some 0 := z
      subst z'; have := part_bounds hd; omega
  · cases h
end Kf
namespace Kf
open Sf52
theorem leap_eq (y : Nat) : leap y = (y % 400 == 0 || (y % 4 == 0 && y % 100 != 0)) := by
  unfold leap
  by_cases h4 : y % 400 = 0
  · have h1 : y % 4 = 0 := by omega
    have h2 : y % 100 = 0 := by omega
    rw [h4, h1, h2]; rfl
  · have b4 : (y % 400 == 0) = false := beq_eq_false_iff_ne.mpr h4
    rw [b4, Bool.or_false, Bool.false_or]
def monthTab : List Nat := [31, 28, 31, 30, 31, 30, 31, 31, 30, 31, 30, 31]
theorem daysIn_eq {y m : Nat} (h1 : 1 ≤ m) (h2 : m ≤ 12) : daysIn y m = if m = 2 ∧ leap y = true then 29 else monthTab.getD (m - 1) 0 := by
  unfold daysIn monthTab
  have hm : m = 1 ∨ m = 2 ∨ m = 3 ∨ m = 4 ∨ m = 5 ∨ m = 6 ∨ m = 7 ∨ m = 8 ∨ m = 9 ∨ m = 10 ∨ m = 11 ∨ m = 12 := by omega
  rcases hm with rfl | rfl | rfl | rfl | rfl | rfl | rfl | rfl | rfl | rfl | rfl | rfl <;> first | rfl | (cases leap y <;> rfl)
def told (o : Option Nat) : Nat := o.getD 0
theorem told_zero {o : Option Nat} (h : o ≠ some 0) : told o = 0 ↔ o = none := by
  cases o with
  | none => simp [told]
  | some n =>
    have : n ≠ 0 := fun e => h (by rw [e])
    simp [told, this]
def before : List (Nat × Nat) → Bool
  | [] => true
  | (a, b) :: r => if a = 0 ∨ b = 0 then true else if a ≠ b then decide (a < b) else before r
def parts (d : Day) : List Nat := [told d.y, told d.m, told d.d]
theorem mayBefore_eq {a b : Day} (ha : DayOk a) (hb : DayOk b) : mayBefore a b = before ((parts a).zip (parts b)) := by
  obtain ⟨y, m, d⟩ := a
  obtain ⟨y', m', d'⟩ := b
  have h1 := ha.y; have h2 := ha.m; have h3 := ha.d
  have g1 := hb.y; have g2 := hb.m; have g3 := hb.d
  simp only at h1 h2 h3 g1 g2 g3
  unfold mayBefore parts
  simp only [List.zip_cons_cons, List.zip_nil_right, before]
  cases y with
  | none => simp [told]
  | some u =>
    cases y' with
    | none => simp [told]
    | some v =>
      have hu : u ≠ 0 := fun e => h1 (by rw [e])
      have hv : v ≠ 0 := fun e => g1 (by rw [e])
      have e1 : told (some u) = u := rfl
      have e2 : told (some v) = v := rfl
      simp only [e1, e2]
      rw [if_neg (by omega)]
      by_cases huv : u = v
      · subst huv
        simp only [Nat.lt_irrefl, decide_false, Bool.false_or, beq_self_eq_true, Bool.true_and, ne_eq, not_true_eq_false, if_false]
        cases m with
        | none => simp [told]
        | some p =>
          cases m' with
          | none => simp [told]
          | some q =>
            have hp : p ≠ 0 := fun e => h2 (by rw [e])
            have hq : q ≠ 0 := fun e => g2 (by rw [e])
            have e3 : told (some p) = p := rfl
            have e4 : told (some q) = q := rfl
            simp only [e3, e4]
            rw [if_neg (by omega)]
            by_cases hpq : p = q
            · subst hpq
              simp only [Nat.lt_irrefl, decide_false, Bool.false_or, beq_self_eq_true, Bool.true_and, ne_eq, not_true_eq_false, if_false]
              cases d with
              | none => simp [told]
              | some i =>
                cases d' with
                | none => simp [told]
                | some j =>
                  have hi : i ≠ 0 := fun e => h3 (by rw [e])
                  have hj : j ≠ 0 := fun e => g3 (by rw [e])
                  have e5 : told (some i) = i := rfl
                  have e6 : told (some j) = j := rfl
                  simp only [e5, e6]
                  rw [if_neg (by omega)]
                  by_cases hij : i = j
                  · subst hij; simp
                  · rw [if_pos hij]
                    by_cases hl : i < j
                    · rw [decide_eq_true hl, decide_eq_true (Nat.le_of_lt hl)]
                    · rw [decide_eq_false hl, decide_eq_false (by omega)]
            · have hb : (p == q) = false := beq_eq_false_iff_ne.mpr hpq
              rw [if_pos hpq, hb, Bool.false_and, Bool.or_false]
      · have hb : (u == v) = false := beq_eq_false_iff_ne.mpr huv
        rw [if_pos huv, hb, Bool.false_and, Bool.or_false]
def bornTo (c p : Nat) : Bool := if c = 0 ∨ p = 0 then true else decide ((10 : Int) ≤ (c : Int) - (p : Int))
theorem bornTo_eq {q p : Day} (hq : DayOk q) (hp : DayOk p) : (mayBefore q p && apartYears q p) = bornTo (told p.y) (told q.y) := by
  unfold mayBefore apartYears bornTo
  have h1 := hq.y; have h2 := hp.y
  cases e : q.y with
  | none => simp [told]
  | some u =>
    cases e' : p.y with
    | none => simp [told]
    | some v =>
      rw [e] at h1; rw [e'] at h2
      have hu : u ≠ 0 := fun z => h1 (by rw [z])
      have hv : v ≠ 0 := fun z => h2 (by rw [z])
      have e1 : told (some u) = u := rfl
      have e2 : told (some v) = v := rfl
      rw [e1, e2, if_neg (by omega)]
      dsimp only
      by_cases hl : u + 10 ≤ v
      · have : u < v := by omega
        rw [decide_eq_true hl, decide_eq_true (by omega : (10 : Int) ≤ (v : Int) - (u : Int))]
        simp [this]
      · rw [decide_eq_false hl, decide_eq_false (by omega : ¬ (10 : Int) ≤ (v : Int) - (u : Int)), Bool.and_false]
def tail (r : List Bytes) : Option (Option Nat × Option Nat) :=
  let n := r.takeWhile fun w => w != [60]
  if n = [] ∨ n.any (fun w => w.contains 60) = true then none
  else match r.drop n.length with
    | [] => some (none, none)
    | [_, f, m] => (parent f).bind fun f => (parent m).map fun m => (f, m)
    | _ => none
theorem person_four {a s b d : Bytes} {r : List Bytes} (id : Nat) (bi de : Day) (f m : Option Nat) (h1 : number a = some id) (h2 : day b = some bi) (h3 : day d = some de) (h4 : s = [102] ∨ s = [109]) (h5 : tail r = some (f, m)) :
    person (a :: s :: b :: d :: r) = some ⟨id, s == [102], bi, de, f, m⟩ := by
  have t1 : txt "f" = [102] := by decide
  have t2 : txt "m" = [109] := by decide
  unfold person
  simp only [h1, h2, h3, Option.bind_some, t1, t2]
  rw [if_pos h4]
  unfold tail at h5
  simp only at h5
  split at h5
  · cases h5
  · rename_i hc
    rw [if_neg hc]
    split at h5
    · rename_i e
      cases h5
      rw [e]
    · rename_i e
      rw [e]
      obtain ⟨f', hf, h5⟩ := Option.bind_eq_some_iff.mp h5
      obtain ⟨m', hm, h5⟩ := Option.map_eq_some_iff.mp h5
      cases h5
      simp only [hf, hm, Option.bind_some, Option.map_some]
    · cases h5
theorem person_none {a s b d : Bytes} {r : List Bytes} (h : number a = none ∨ day b = none ∨ day d = none ∨ ¬ (s = [102] ∨ s = [109]) ∨ tail r = none) : person (a :: s :: b :: d :: r) = none := by
  have t1 : txt "f" = [102] := by decide
  have t2 : txt "m" = [109] := by decide
  unfold person
  simp only [t1, t2]
  cases e1 : number a with
  | none => rfl
  | some id =>
    cases e2 : day b with
    | none => rfl
    | some bi =>
      cases e3 : day d with
      | none => rfl
      | some de =>
        simp only [Option.bind_some]
        by_cases h4 : s = [102] ∨ s = [109]
        · rw [if_pos h4]
          have h5 : tail r = none := by
            rcases h with h | h | h | h | h
            · rw [e1] at h; cases h
            · rw [e2] at h; cases h
            · rw [e3] at h; cases h
            · exact absurd h4 h
            · exact h
          unfold tail at h5
          simp only at h5
          split at h5
          · rename_i hc; rw [if_pos hc]
          · rename_i hc
            rw [if_neg hc]
            split at h5
            · cases h5
            · rename_i e
              rw [e]
              rename_i f m
              cases e4 : parent f with
              | none => simp only [e4, Option.bind_none]
              | some f' =>
                cases e5 : parent m with
                | none => simp only [e4, e5, Option.bind_some, Option.map_none]
                | some m' => rw [e4, e5] at h5; cases h5
            · rename_i g1 g2
              split
              · rename_i e; exact absurd e (by intro z; exact g1 z)
              · rename_i e; exact absurd e (by intro z; exact g2 _ _ _ z)
              · rfl
        · rw [if_neg h4]
theorem person_few {l : List Bytes} (h : l.length < 5) : person l = none := by
  match l, h with
  | [], _ => rfl
  | [_], _ => rfl
  | [_, _], _ => rfl
  | [_, _, _], _ => rfl
  | [a, s, b, d], _ => exact person_none (.inr (.inr (.inr (.inr rfl))))
  | _ :: _ :: _ :: _ :: _ :: _, h => simp at h; omega
theorem takeWhile_all {α : Type} {p : α → Bool} : ∀ {l : List α}, (∀ x ∈ l, p x = true) → l.takeWhile p = l
  | [], _ => rfl
  | x :: r, h => by
    rw [List.takeWhile_cons, if_pos (h x (List.mem_cons_self)), takeWhile_all fun y hy => h y (List.mem_cons_of_mem _ hy)]
theorem takeWhile_pre {α : Type} {p : α → Bool} : ∀ {l : List α} {x : α} {r : List α}, (∀ y ∈ l, p y = true) → p x = false → (l ++ x :: r).takeWhile p = l
  | [], x, r, _, hx => by simp [List.takeWhile_cons, hx]
  | a :: l, x, r, h, hx => by
    rw [List.cons_append, List.takeWhile_cons, if_pos (h a (List.mem_cons_self)), takeWhile_pre (fun y hy => h y (List.mem_cons_of_mem _ hy)) hx]
theorem first_lt : ∀ (r : List Bytes), (∀ w ∈ r, (w != [60]) = true) ∨ ∃ n q, r = n ++ [60] :: q ∧ ∀ w ∈ n, (w != [60]) = true
  | [] => .inl fun w h => absurd h List.not_mem_nil
  | a :: r => by
    by_cases ha : a = [60]
    · exact .inr ⟨[], r, by rw [ha]; rfl, fun w h => absurd h List.not_mem_nil⟩
    · have hb : (a != [60]) = true := bne_iff_ne.mpr ha
      rcases first_lt r with h | ⟨n, q, e, h⟩
      · exact .inl fun w hw => by
          rcases List.mem_cons.mp hw with z | z
          · rw [z]; exact hb
          · exact h w z
      · refine .inr ⟨a :: n, q, by rw [e]; rfl, fun w hw => ?_⟩
        rcases List.mem_cons.mp hw with z | z
        · rw [z]; exact hb
        · exact h w z
theorem any_mem {l : List Bytes} {w : Bytes} (h : w ∈ l) (hc : w.contains 60 = true) : l.any (fun w => w.contains 60) = true := List.any_eq_true.mpr ⟨w, h, hc⟩
theorem tail_plain {r : List Bytes} (h : ¬ ∃ n f m, r = n ++ [[60], f, m]) : tail r = if r = [] ∨ r.any (fun w => w.contains 60) = true then none else some (none, none) := by
  unfold tail
  simp only
  rcases first_lt r with g | ⟨n, q, e, g⟩
  · rw [takeWhile_all g]
    split
    · rfl
    · rw [List.drop_length]
  · have t : r.takeWhile (fun w => w != [60]) = n := by
      rw [e]; exact takeWhile_pre g rfl
    have hr : r.any (fun w => w.contains 60) = true := any_mem (w := [60]) (by rw [e]; simp) rfl
    rw [t, if_pos (.inr hr : r = [] ∨ _)]
    split
    · rfl
    · have d : r.drop n.length = [60] :: q := by rw [e, List.drop_left]
      rw [d]
      match q, e with
      | [], _ => rfl
      | [_], _ => rfl
      | [f, m], e => exact absurd ⟨n, f, m, e⟩ h
      | _ :: _ :: _ :: _, _ => rfl
theorem tail_lt (n : List Bytes) (f m : Bytes) : tail (n ++ [[60], f, m]) = if n = [] ∨ n.any (fun w => w.contains 60) = true then none else (parent f).bind fun f => (parent m).map fun m => (f, m) := by
  unfold tail
  simp only
  rcases first_lt n with g | ⟨n', q, e, g⟩
  · have t : (n ++ [[60], f, m]).takeWhile (fun w => w != [60]) = n := takeWhile_pre g rfl
    rw [t]
    split
    · rfl
    · rw [List.drop_left]
  · have t : (n ++ [[60], f, m]).takeWhile (fun w => w != [60]) = n' := by
      rw [e, List.append_assoc]; exact takeWhile_pre g rfl
    have hr : n.any (fun w => w.contains 60) = true := any_mem (w := [60]) (by rw [e]; simp) rfl
    rw [t, if_pos (.inr hr : n = [] ∨ _)]
    split
    · rfl
    · have d : (n ++ [[60], f, m]).drop n'.length = [60] :: (q ++ [[60], f, m]) := by rw [e, List.append_assoc, List.drop_left]; rfl
      rw [d]
      match q with
      | [] => rfl
      | [_] => rfl
      | [_, _] => rfl
      | _ :: _ :: _ :: _ => rfl
theorem parent_dash : parent [45] = some none := by unfold parent; rw [if_pos rfl]
theorem parent_num {w : Bytes} (h : w ≠ [45]) : parent w = (number w).map some := by unfold parent; rw [if_neg h]
end Kf
namespace Kf
open Sf52 Sf91
theorem reads_nil_end : ∀ (l : List Bytes) (k : Nat) (x : Families), reads k x (l ++ [[]]) = reads k x l
  | [], k, x => by
    show reads k x [[]] = reads k x []
    unfold reads
    rw [if_neg (by simp), if_pos (by rfl)]
    unfold reads
    rfl
  | b :: r, k, x => by
    rw [List.cons_append]
    unfold reads
    split
    · rfl
    · split
      · exact reads_nil_end r _ _
      · split
        · rfl
        · split
          · rfl
          · exact reads_nil_end r _ _
theorem lines_split : ∀ (t w : Bytes), split (fun c => c == 10) t w = linesOf t w ∨ split (fun c => c == 10) t w = linesOf t w ++ [[]]
  | [], [] => .inr rfl
  | [], _ :: _ => .inl rfl
  | c :: r, w => by
    by_cases h : c = 10
    · have hb : (fun c : UInt8 => c == 10) c = true := beq_iff_eq.mpr h
      rw [split_yes (p := fun c => c == 10) (c := c) hb]
      unfold linesOf
      rw [if_pos h]
      rcases lines_split r [] with e | e
      · exact .inl (by rw [e])
      · exact .inr (by rw [e]; rfl)
    · have hb : (fun c : UInt8 => c == 10) c = false := beq_eq_false_iff_ne.mpr h
      rw [split_no (p := fun c => c == 10) (c := c) hb]
      unfold linesOf
      rw [if_neg h]
      exact lines_split r (w ++ [c])
theorem reads_lines (t : Bytes) : reads 1 [] (linesOf t []) = reads 1 [] (split (fun c => c == 10) t []) := by
  rcases lines_split t [] with e | e
  · rw [e]
  · rw [e, reads_nil_end]
structure PersonOk (p : Person) : Prop where
  id1 : 1 ≤ p.id
  id2 : p.id ≤ 9999
  birth : DayOk p.birth
  death : DayOk p.death
  father : p.father ≠ some 0
  mother : p.mother ≠ some 0
theorem parent_ok {w : Bytes} {o : Option Nat} (h : parent w = some o) : o ≠ some 0 := by
  unfold parent at h
  split at h
  · cases h; exact fun z => nomatch z
  · obtain ⟨n, hn, e⟩ := Option.map_eq_some_iff.mp h
    subst e
    have := number_bounds hn
    intro z
    have : n = 0 := Option.some.inj z
    omega
theorem tail_ok {r : List Bytes} {f m : Option Nat} (h : tail r = some (f, m)) : f ≠ some 0 ∧ m ≠ some 0 := by
  unfold tail at h
  simp only at h
  split at h
  · cases h
  · split at h
    · cases h; exact ⟨(fun z => nomatch z), (fun z => nomatch z)⟩
    · obtain ⟨f', hf, h⟩ := Option.bind_eq_some_iff.mp h
      obtain ⟨m', hm, h⟩ := Option.map_eq_some_iff.mp h
      cases h
      exact ⟨parent_ok hf, parent_ok hm⟩
    · cases h
theorem person_inv {l : List Bytes} {p : Person} (h : person l = some p) : ∃ a s b d r id bi de f m, l = a :: s :: b :: d :: r ∧ number a = some id ∧ day b = some bi ∧ day d = some de ∧ (s = [102] ∨ s = [109]) ∧ tail r = some (f, m) ∧ p = ⟨id, s == [102], bi, de, f, m⟩ := by
  match l, h with
  | [], h => cases h
  | [_], h => cases h
  | [_, _], h => cases h
  | [_, _, _], h => cases h
  | a :: s :: b :: d :: r, h =>
    cases e1 : number a with
    | none => rw [person_none (.inl e1)] at h; cases h
    | some id =>
      cases e2 : day b with
      | none => rw [person_none (.inr (.inl e2))] at h; cases h
      | some bi =>
        cases e3 : day d with
        | none => rw [person_none (.inr (.inr (.inl e3)))] at h; cases h
        | some de =>
          by_cases e4 : s = [102] ∨ s = [109]
          · cases e5 : tail r with
            | none => rw [person_none (.inr (.inr (.inr (.inr e5))))] at h; cases h
            | some fm =>
              obtain ⟨f, m⟩ := fm
              rw [person_four id bi de f m e1 e2 e3 e4 e5] at h
              exact ⟨a, s, b, d, r, id, bi, de, f, m, rfl, e1, e2, e3, e4, e5, (Option.some.inj h).symm⟩
          · rw [person_none (.inr (.inr (.inr (.inl e4))))] at h; cases h
theorem person_ok {l : List Bytes} {p : Person} (h : person l = some p) : PersonOk p := by
  obtain ⟨a, s, b, d, r, id, bi, de, f, m, _, h1, h2, h3, _, h5, rfl⟩ := person_inv h
  have t := tail_ok h5
  exact ⟨(number_bounds h1).1, (number_bounds h1).2, day_ok h2, day_ok h3, t.1, t.2⟩
structure FamOk (x : Families) : Prop where
  nd : (ids x).Nodup
  ok : ∀ p ∈ x, PersonOk p.2
  len : x.length ≤ 1024
theorem FamOk.nil : FamOk [] := ⟨List.nodup_nil, fun p h => absurd h List.not_mem_nil, Nat.zero_le _⟩
theorem get_none {x : Families} {n : Nat} : x.get n = none ↔ n ∉ ids x := by
  unfold Families.get ids
  rw [Option.map_eq_none_iff, List.find?_eq_none, List.mem_map]
  constructor
  · rintro h ⟨p, hp, e⟩
    exact h p hp (beq_iff_eq.mpr e)
  · intro h p hp e
    exact h ⟨p, hp, beq_iff_eq.mp e⟩
theorem get_mem {x : Families} {n : Nat} {q : Person} (h : x.get n = some q) : q.id = n ∧ ∃ k, (k, q) ∈ x := by
  unfold Families.get at h
  obtain ⟨p, hp, e⟩ := Option.map_eq_some_iff.mp h
  subst e
  have hq : (p.2.id == n) = true := List.find?_some (p := fun p : Nat × Person => p.2.id == n) hp
  exact ⟨beq_iff_eq.mp hq, p.1, List.mem_of_find?_eq_some hp⟩
theorem get_isSome {x : Families} {n : Nat} : (x.get n).isSome = true ↔ n ∈ ids x := by
  cases e : x.get n with
  | none => have := get_none.mp e; simp [this]
  | some q =>
    obtain ⟨h1, k, h2⟩ := get_mem e
    have : n ∈ ids x := List.mem_map.mpr ⟨_, h2, h1⟩
    simp [this]
theorem get_of_mem {x : Families} (h : (ids x).Nodup) {p : Nat × Person} (hp : p ∈ x) : x.get p.2.id = some p.2 := by
  induction x with
  | nil => exact absurd hp List.not_mem_nil
  | cons a r ih =>
    have h' : (a.2.id :: ids r).Nodup := h
    obtain ⟨h1, h2⟩ := List.nodup_cons.mp h'
    unfold Families.get
    rw [List.find?_cons]
    rcases List.mem_cons.mp hp with e | e
    · subst e; simp
    · have ne : a.2.id ≠ p.2.id := fun z => h1 (by rw [z]; exact List.mem_map.mpr ⟨p, e, rfl⟩)
      have hb : (a.2.id == p.2.id) = false := beq_eq_false_iff_ne.mpr ne
      rw [hb]
      exact ih h2 e
theorem FamOk.snoc {x : Families} {k : Nat} {p : Person} (F : FamOk x) (hp : PersonOk p) (hn : ¬ ((x.get p.id).isSome = true ∨ 1024 ≤ x.length)) : FamOk (x ++ [(k, p)]) := by
  have h1 : p.id ∉ ids x := fun z => hn (.inl (get_isSome.mpr z))
  refine ⟨?_, fun q hq => ?_, ?_⟩
  · unfold ids
    rw [List.map_append]
    refine List.nodup_append.mpr ⟨F.nd, by simp, fun a ha b hb => ?_⟩
    simp at hb
    subst hb
    exact fun z => h1 (by rw [← z]; exact ha)
  · rcases List.mem_append.mp hq with z | z
    · exact F.ok q z
    · rw [List.mem_singleton.mp z]; exact hp
  · rw [List.length_append]
    show x.length + 1 ≤ 1024
    have : ¬ 1024 ≤ x.length := fun z => hn (.inr z)
    omega
theorem len_le_of_sub : ∀ {l m : List Nat}, l.Nodup → (∀ a ∈ l, a ∈ m) → l.length ≤ m.length
  | [], _, _, _ => Nat.zero_le _
  | a :: r, m, h, s => by
    obtain ⟨h1, h2⟩ := List.nodup_cons.mp h
    have hm := s a List.mem_cons_self
    have ih := len_le_of_sub (l := r) (m := m.erase a) h2 fun b hb => (List.mem_erase_of_ne (fun z => h1 (by rw [← z]; exact hb))).mpr (s b (List.mem_cons_of_mem _ hb))
    rw [List.length_erase_of_mem hm] at ih
    have : 0 < m.length := List.length_pos_of_mem hm
    rw [List.length_cons]; omega
theorem mem_once {b : Nat} : ∀ {l : List Nat}, b ∈ once l ↔ b ∈ l
  | [] => by simp [once]
  | a :: r => by
    unfold once
    by_cases h : r.contains a = true
    · rw [if_pos h, mem_once (l := r)]
      have ha : a ∈ r := List.contains_iff_mem.mp h
      constructor
      · exact List.mem_cons_of_mem _
      · intro z
        rcases List.mem_cons.mp z with e | e
        · rw [e]; exact ha
        · exact e
    · rw [if_neg h, List.mem_cons, List.mem_cons, mem_once (l := r)]
theorem nodup_once : ∀ (l : List Nat), (once l).Nodup
  | [] => List.nodup_nil
  | a :: r => by
    unfold once
    by_cases h : r.contains a = true
    · rw [if_pos h]; exact nodup_once r
    · rw [if_neg h]
      exact List.nodup_cons.mpr ⟨fun z => h (List.contains_iff_mem.mpr (mem_once.mp z)), nodup_once r⟩
inductive Anc (x : Families) (a : Nat) : Nat → Prop
  | one {b : Nat} : b ∈ parentsOf x a → Anc x a b
  | more {b c : Nat} : Anc x a b → c ∈ parentsOf x b → Anc x a c
def Closed (x : Families) : Prop := ∀ a b, b ∈ parentsOf x a → b ∈ ids x
structure Srch (x : Families) (a : Nat) (todo known : List Nat) : Prop where
  anc : ∀ n ∈ known, Anc x a n
  fr : ∀ t ∈ todo, t = a ∨ t ∈ known
  cl : ∀ n, n = a ∨ n ∈ known → n ∈ todo ∨ ∀ b ∈ parentsOf x n, b ∈ known
  nd : known.Nodup
  sub : ∀ n ∈ known, n ∈ ids x
theorem Srch.start (x : Families) (a : Nat) : Srch x a [a] [] :=
  ⟨fun n h => absurd h List.not_mem_nil, fun t h => .inl (List.mem_singleton.mp h), fun n h => .inl (by
    rcases h with h | h
    · rw [h]; exact List.mem_singleton.mpr rfl
    · exact absurd h List.not_mem_nil), List.nodup_nil, fun n h => absurd h List.not_mem_nil⟩
theorem Srch.done {x : Families} {a : Nat} {known : List Nat} (S : Srch x a [] known) (n : Nat) : n ∈ known ↔ Anc x a n := by
  have cl : ∀ n, n = a ∨ n ∈ known → ∀ b ∈ parentsOf x n, b ∈ known := fun n h => (S.cl n h).resolve_left List.not_mem_nil
  refine ⟨S.anc n, fun h => ?_⟩
  induction h with
  | one h => exact cl a (.inl rfl) _ h
  | more _ h ih => exact cl _ (.inr ih) _ h
theorem Srch.len {x : Families} {a : Nat} {todo known : List Nat} (S : Srch x a todo known) : known.length ≤ x.length := by
  have := len_le_of_sub S.nd S.sub
  unfold ids at this
  rwa [List.length_map] at this
theorem gather_srch {x : Families} {a : Nat} (C : Closed x) : ∀ (f : Nat) (todo known : List Nat), Srch x a todo known → todo.length + (x.length - known.length) ≤ f → ∃ l, gather x f todo known = l ∧ Srch x a [] l
  | 0, [], known, S, _ => ⟨known, rfl, S⟩
  | 0, t :: r, known, S, h => by simp at h
  | f + 1, [], known, S, _ => ⟨known, rfl, S⟩
  | f + 1, t :: r, known, S, h => by
    have e : gather x (f + 1) (t :: r) known = gather x f ((once (parentsOf x t)).filter (fun b => !known.contains b) ++ r) ((once (parentsOf x t)).filter (fun b => !known.contains b) ++ known) := rfl
    have mem : ∀ b, b ∈ (once (parentsOf x t)).filter (fun b => !known.contains b) ↔ b ∈ parentsOf x t ∧ b ∉ known := fun b => by
      rw [List.mem_filter, mem_once]
      simp
    have nt := S.fr t List.mem_cons_self
    have S' : Srch x a ((once (parentsOf x t)).filter (fun b => !known.contains b) ++ r) ((once (parentsOf x t)).filter (fun b => !known.contains b) ++ known) := by
      refine ⟨fun n hn => ?_, fun n hn => ?_, fun n hn => ?_, ?_, fun n hn => ?_⟩
      · rcases List.mem_append.mp hn with z | z
        · have hb := ((mem n).mp z).1
          rcases nt with e | e
          · exact .one (by rw [← e]; exact hb)
          · exact .more (S.anc t e) hb
        · exact S.anc n z
      · rcases List.mem_append.mp hn with z | z
        · exact .inr (List.mem_append_left _ z)
        · rcases S.fr n (List.mem_cons_of_mem _ z) with e | e
          · exact .inl e
          · exact .inr (List.mem_append_right _ e)
      · by_cases hk : n = a ∨ n ∈ known
        · rcases S.cl n hk with z | z
          · rcases List.mem_cons.mp z with e | e
            · refine .inr fun b hb => ?_
              by_cases hbk : b ∈ known
              · exact List.mem_append_right _ hbk
              · exact List.mem_append_left _ ((mem b).mpr ⟨by rw [← e]; exact hb, hbk⟩)
            · exact .inl (List.mem_append_right _ e)
          · exact .inr fun b hb => List.mem_append_right _ (z b hb)
        · rcases hn with e | e
          · exact absurd (.inl e) hk
          · rcases List.mem_append.mp e with z | z
            · exact .inl (List.mem_append_left _ z)
            · exact absurd (.inr z) hk
      · refine List.nodup_append.mpr ⟨(nodup_once _).sublist List.filter_sublist, S.nd, fun b hb c hc z => ?_⟩
        subst z
        exact ((mem b).mp hb).2 hc
      · rcases List.mem_append.mp hn with z | z
        · exact C t n ((mem n).mp z).1
        · exact S.sub n z
    have hl := S'.len
    rw [List.length_append] at hl
    rw [e]
    refine gather_srch C f _ _ S' ?_
    rw [List.length_append, List.length_append]
    rw [List.length_cons] at h
    omega
theorem mem_ancestors {x : Families} (C : Closed x) (a n : Nat) : n ∈ ancestors x a ↔ Anc x a n := by
  obtain ⟨l, e, S⟩ := gather_srch C (x.length + 2) [a] [] (Srch.start x a) (by simp; omega)
  unfold ancestors
  rw [e]
  exact S.done n
def absorb : List Nat → List Nat × List Nat → List Nat × List Nat
  | [], q => q
  | b :: r, q => absorb r (if b ∈ q.2 then q else (q.1 ++ [b], q.2 ++ [b]))
theorem absorb_snoc : ∀ (l : List Nat) (b : Nat) (q : List Nat × List Nat), absorb (l ++ [b]) q = (if b ∈ (absorb l q).2 then absorb l q else ((absorb l q).1 ++ [b], (absorb l q).2 ++ [b]))
  | [], _, _ => rfl
  | a :: l, b, q => absorb_snoc l b _
theorem absorb_mem : ∀ (l : List Nat) (q : List Nat × List Nat), (∀ n, n ∈ (absorb l q).2 ↔ n ∈ l ∨ n ∈ q.2) ∧ (∀ n, n ∈ (absorb l q).1 → n ∈ q.1 ∨ n ∈ l) ∧ (∀ n, n ∈ q.1 → n ∈ (absorb l q).1) ∧
    (∀ n, n ∈ l → n ∈ q.2 ∨ n ∈ (absorb l q).1) ∧ (q.2.Nodup → (absorb l q).2.Nodup) ∧ (absorb l q).1.length + q.2.length = q.1.length + (absorb l q).2.length
  | [], q => ⟨fun n => by simp [absorb], fun n h => .inl h, fun n h => h, fun n h => absurd h List.not_mem_nil, fun h => h, rfl⟩
  | b :: r, q => by
    by_cases hb : b ∈ q.2
    · have e : absorb (b :: r) q = absorb r q := by show absorb r (if b ∈ q.2 then _ else _) = _; rw [if_pos hb]
      obtain ⟨h1, h2, h3, h4, h5, h6⟩ := absorb_mem r q
      rw [e]
      refine ⟨fun n => ?_, fun n h => ?_, h3, fun n h => ?_, h5, h6⟩
      · rw [h1, List.mem_cons]
        constructor
        · rintro (z | z)
          · exact .inl (.inr z)
          · exact .inr z
        · rintro ((z | z) | z)
          · exact .inr (by rw [z]; exact hb)
          · exact .inl z
          · exact .inr z
      · rcases h2 n h with z | z
        · exact .inl z
        · exact .inr (List.mem_cons_of_mem _ z)
      · rcases List.mem_cons.mp h with z | z
        · exact .inl (by rw [z]; exact hb)
        · exact h4 n z
    · have e : absorb (b :: r) q = absorb r (q.1 ++ [b], q.2 ++ [b]) := by show absorb r (if b ∈ q.2 then _ else _) = _; rw [if_neg hb]
      obtain ⟨h1, h2, h3, h4, h5, h6⟩ := absorb_mem r (q.1 ++ [b], q.2 ++ [b])
      rw [e]
      refine ⟨fun n => ?_, fun n h => ?_, fun n h => h3 n (List.mem_append_left _ h), fun n h => ?_, fun nd => h5 ?_, ?_⟩
      · rw [h1, List.mem_cons, List.mem_append, List.mem_singleton]
        constructor
        · rintro (z | z | z)
          · exact .inl (.inr z)
          · exact .inr z
          · exact .inl (.inl z)
        · rintro ((z | z) | z)
          · exact .inr (.inr z)
          · exact .inl z
          · exact .inr (.inl z)
      · rcases h2 n h with z | z
        · rcases List.mem_append.mp z with y | y
          · exact .inl y
          · exact .inr (by rw [List.mem_singleton.mp y]; exact List.mem_cons_self)
        · exact .inr (List.mem_cons_of_mem _ z)
      · rcases List.mem_cons.mp h with z | z
        · exact .inr (h3 n (by rw [z]; exact List.mem_append_right _ (List.mem_singleton.mpr rfl)))
        · rcases h4 n z with y | y
          · rcases List.mem_append.mp y with u | u
            · exact .inl u
            · exact .inr (h3 n (by rw [List.mem_singleton.mp u]; exact List.mem_append_right _ (List.mem_singleton.mpr rfl)))
          · exact .inr y
      · refine List.nodup_append.mpr ⟨nd, by simp, fun u hu v hv z => ?_⟩
        rw [List.mem_singleton.mp hv] at z
        exact hb (by rw [← z]; exact hu)
      · have h6' : (absorb r (q.1 ++ [b], q.2 ++ [b])).1.length + (q.2 ++ [b]).length = (q.1 ++ [b]).length + (absorb r (q.1 ++ [b], q.2 ++ [b])).2.length := h6
        rw [List.length_append, List.length_append] at h6'
        have e1 : ([b] : List Nat).length = 1 := rfl
        omega
theorem Srch.turn {x : Families} {a t : Nat} {todo known : List Nat} (C : Closed x) (S : Srch x a (todo ++ [t]) known) : Srch x a (absorb (parentsOf x t) (todo, known)).1 (absorb (parentsOf x t) (todo, known)).2 := by
  obtain ⟨h1, h2, h3, h4, h5, _⟩ := absorb_mem (parentsOf x t) (todo, known)
  have ht := S.fr t (List.mem_append_right _ (List.mem_singleton.mpr rfl))
  refine ⟨fun n hn => ?_, fun n hn => ?_, fun n hn => ?_, h5 S.nd, fun n hn => ?_⟩
  · rcases (h1 n).mp hn with z | z
    · rcases ht with e | e
      · exact .one (by rw [← e]; exact z)
      · exact .more (S.anc t e) z
    · exact S.anc n z
  · rcases h2 n hn with z | z
    · rcases S.fr n (List.mem_append_left _ z) with e | e
      · exact .inl e
      · exact .inr ((h1 n).mpr (.inr e))
    · exact .inr ((h1 n).mpr (.inl z))
  · by_cases hk : n = a ∨ n ∈ known
    · rcases S.cl n hk with z | z
      · rcases List.mem_append.mp z with y | y
        · exact .inl (h3 n y)
        · refine .inr fun b hb => (h1 b).mpr (.inl ?_)
          rw [← List.mem_singleton.mp y]; exact hb
      · exact .inr fun b hb => (h1 b).mpr (.inr (z b hb))
    · rcases hn with e | e
      · exact absurd (.inl e) hk
      · rcases (h1 n).mp e with z | z
        · rcases h4 n z with y | y
          · exact absurd (.inr y) hk
          · exact .inl y
        · exact absurd (.inr z) hk
  · rcases (h1 n).mp hn with z | z
    · exact C t n z
    · exact S.sub n z
theorem turn_less {x : Families} {a t : Nat} {todo known : List Nat} (C : Closed x) (S : Srch x a (todo ++ [t]) known) :
    (absorb (parentsOf x t) (todo, known)).1.length + (x.length - (absorb (parentsOf x t) (todo, known)).2.length) < (todo ++ [t]).length + (x.length - known.length) := by
  obtain ⟨_, _, _, _, _, h6⟩ := absorb_mem (parentsOf x t) (todo, known)
  have h6' : (absorb (parentsOf x t) (todo, known)).1.length + known.length = todo.length + (absorb (parentsOf x t) (todo, known)).2.length := h6
  have l1 := (S.turn C).len
  have l2 := S.len
  rw [List.length_append]
  have e1 : ([t] : List Nat).length = 1 := rfl
  omega
theorem tall_sub (x : Families) : ∀ k a, a ∈ tall x k → a ∈ ids x
  | 0, a, h => h
  | k + 1, a, h => (List.mem_filter.mp h).1
theorem tall_down (x : Families) : ∀ k a, a ∈ tall x (k + 1) → a ∈ tall x k
  | 0, a, h => tall_sub x 1 a h
  | k + 1, a, h => by
    obtain ⟨h1, h2⟩ := List.mem_filter.mp h
    refine List.mem_filter.mpr ⟨h1, ?_⟩
    obtain ⟨b, hb, hc⟩ := List.any_eq_true.mp h2
    exact List.any_eq_true.mpr ⟨b, hb, List.contains_iff_mem.mpr (tall_down x k b (List.contains_iff_mem.mp hc))⟩
theorem tall_step (x : Families) (k : Nat) : (tall x k).filter (fun a => (parentsOf x a).any fun b => (tall x k).contains b) = tall x (k + 1) := by
  have e : ∀ l : List Nat, (∀ a, a ∈ l → (((parentsOf x a).any fun b => (tall x k).contains b) = true → a ∈ tall x k)) → True := fun _ _ => trivial
  cases k with
  | zero => rfl
  | succ k =>
    have key : ∀ a, (((parentsOf x a).any fun b => (tall x (k + 1)).contains b) = true) → ((parentsOf x a).any fun b => (tall x k).contains b) = true := fun a h => by
      obtain ⟨b, hb, hc⟩ := List.any_eq_true.mp h
      exact List.any_eq_true.mpr ⟨b, hb, List.contains_iff_mem.mpr (tall_down x k b (List.contains_iff_mem.mp hc))⟩
    show ((ids x).filter fun a => (parentsOf x a).any fun b => (tall x k).contains b).filter (fun a => (parentsOf x a).any fun b => (tall x (k + 1)).contains b) = (ids x).filter fun a => (parentsOf x a).any fun b => (tall x (k + 1)).contains b
    rw [List.filter_filter]
    refine List.filter_congr fun a _ => ?_
    cases h : (parentsOf x a).any fun b => (tall x (k + 1)).contains b with
    | false => rfl
    | true => rw [key a h]; rfl
end Kf
namespace L2
open PySem PySem.Spec PyProof.Rows KX
def Def (K : PySem.W.Frag) (mg : Str → Option Value) (x : Str) (ps : List Str) (st : Stmt) : Prop :=
  ∃ f fd, mg x = some (.ref f) ∧ Fun K x x st f fd ∧ Binds K fd ps []
structure Prom (P : Program) (w : World) (K : PySem.W.Frag) (mg : Str → Option Value) (base : Heap) (CX : CXT) (k : Nat) (x : Str) (ps : List Str) (sp : Sp) : Prop where
  ex : ∃ f fd, mg x = some (.ref f) ∧ PySem.W.keepIn K (.ref f) = true ∧ Binds K fd ps [] ∧ FnOk P w K mg base CX k f fd ps sp
section
variable {P : Program} {w : World} {K : PySem.W.Frag} {mg : Str → Option Value} {base : Heap} {CX : CXT} {k j : Nat} {x : Str} {ps N : List Str} {sp sp' : Sp} {st : Stmt}
theorem Def.calm (d : Def K mg x ps st) (S : FnScope N ps (defScope st)) (len : ∀ vs H Q E, sp vs H Q E → vs.length = ps.length)
    (hbody : ∀ (f : Addr) (cdv : Value) (A : Around) (outer : List Env) (s : Shared) (H : Hp) (vs : List V) (Q : VK) (E : XK), Room k (A.deeper (envOfC x (defScope st) s.heap.objs.size f cdv)) → sp vs H Q E →
      ∃ t, PSs (cxOf CX0 P w K mg base N x (defScope st) f cdv A outer s H E).nox (defBody st) t ∧ t { nx := fun _ H' => Q .non H', rt := Q } (start N vs) H) : Prom P w K mg base CX0 (k + 1) x ps sp := by
  obtain ⟨f, fd, a, F, b⟩ := d
  exact ⟨f, fd, a, F.kp, b, F.ok S len fun cdv A outer s H vs Q E hr h => hbody f cdv A outer s H vs Q E hr h⟩
theorem Def.wild (d : Def K mg x ps st) (S : FnScope N ps (defScope st)) (len : ∀ vs H Q E, sp vs H Q E → vs.length = ps.length)
    (hbody : ∀ (f : Addr) (cdv : Value) (A : Around) (outer : List Env) (s : Shared) (H : Hp) (vs : List V) (Q : VK) (E : XK), Room k (A.deeper (envOfC x (defScope st) s.heap.objs.size f cdv)) → sp vs H Q E →
      ∃ t, PSs (cxOf (CXo P w) P w K mg base N x (defScope st) f cdv A outer s H E) (defBody st) t ∧ t { nx := fun _ H' => Q .non H', rt := Q } (start N vs) H) : Prom P w K mg base (CXo P w) (k + 1) x ps sp := by
  obtain ⟨f, fd, a, F, b⟩ := d
  refine ⟨f, fd, a, F.kp, b, ?_⟩
  obtain ⟨oc, od, kV, doc, pm, an, cdv, ct, osl, rfl, lk, hcd⟩ := F.ex
  exact fn_of lk hcd S len fun A outer s H vs Q E hr hsp => hbody f cdv A outer s H vs Q E hr hsp
end
section
variable {X : Cx} {CX : CXT} {k : Nat} {ps : List Str} {sp : Sp} {E : XK} {x : Str} {p pos : Pos} {e : Expr} {es : List Expr} {t : TA} {i : Int}
theorem pe_gi (h : ∃ t, X.mg x = some (.int i t)) (hg : Gl X x := by rfl) (hd : (x == ("__debug__" : Str)) = false := by decide) : PE X (.Name x pos) (tC (.int i)) := by
  obtain ⟨t, h⟩ := h
  exact pe_glob hg h ⟨t, rfl⟩ hd
theorem pe_f (O : Prom X.prog X.w X.K X.mg X.base CX k x ps sp) (hr : Room k X.A) (hx : Passes CX X E) (ha : PA X (e :: es) t) (hg : Gl X x := by rfl) (hdb : (x == ("__debug__" : Str)) = false := by decide)
    (he : starEach (e :: es) X.env = (false, eval e X.env) :: starEach es X.env := by rfl) (hpl : (backTo pos (starEach es X.env)).any (·.1) = false := by rfl) : PE X (.Call (.Name x p) (e :: es) [] pos) (tCall sp [] E t) := by
  obtain ⟨f, fd, a, b, c, d⟩ := O.ex
  exact pe_call d hr hg a b c .nil hx ha hdb he hpl
theorem pe_fc (O : Prom X.prog X.w X.K X.mg X.base CX0 k x ps sp) (hr : Room k X.A) (ha : PA X (e :: es) t) (hg : Gl X x := by rfl) (hdb : (x == ("__debug__" : Str)) = false := by decide)
    (he : starEach (e :: es) X.env = (false, eval e X.env) :: starEach es X.env := by rfl) (hpl : (backTo pos (starEach es X.env)).any (·.1) = false := by rfl) : PE X (.Call (.Name x p) (e :: es) [] pos) (tCall sp [] E0 t) :=
  pe_f O hr pass0 ha hg hdb he hpl
end
section
variable {X : Cx} (K : PySem.W.Frag)
def rLen : List V → Hp → VK → Prop := fun xs H Q => ∃ p ys, xs = [V.ref p] ∧ (SqL K H p ys ∨ SqT K H p ys) ∧ Q (.int ys.length) H
theorem lenK (h : X.K = K) : CallR X (.builtin "len") (rLen K) := by subst h; exact call_len_seq
theorem inK (h : X.K = K) : OpR X (compareOp .In) (rIn K false) := by subst h; exact op_in_seq
theorem fldK {e : Expr} {ta : TE} {f : Str} {pos : Pos} (h : X.K = K) (he : PE X e ta) (hb : attributeBase e f X.env (eval e X.env) = eval e X.env := by rfl) : PE X (.Attribute e f pos) (tFld K ta f) := by subst h; exact pe_fld he hb
end
theorem lcS {X : Cx} {N ps : List Str} {sc : Scope} {elt tg iter : Expr} {ifs : List Expr} {scope : Scope} (own : List (Str × Nat)) {pos : Pos} {wi : TI} {g : TG} {tt : TT} {te : TE} (S : FnScope N ps sc) (eN : X.N = N) (es : X.env.scope = sc) (hc : X.calm = true) (hi : PI X tg iter wi)
    (hg : ∀ (s : Shared) (H : Hp) (C : Addr) (cl : List (Str × Addr)) (fp : List Addr), PG (X.blk s H scope (compEnvC scope cl C X.env) fp) tg g) (ht : ∀ (s : Shared) (H : Hp) (C : Addr) (cl : List (Str × Addr)) (fp : List Addr), PTs (X.blk s H scope (compEnvC scope cl C X.env) fp) ifs tt)
    (he : ∀ (s : Shared) (H : Hp) (C : Addr) (cl : List (Str × Addr)) (fp : List Addr), PE (X.blk s H scope (compEnvC scope cl C X.env) fp) elt te) (ok : blkC N sc scope own = true := by decide +kernel) (hs : ∀ x, foldedSetIterable iter X.env x = pure x := by intro _; rfl) :
    PE X (.ListComp elt [⟨tg, iter, ifs, 0⟩] scope pos) (tLc wi g tt te (own.map (·.2))) :=
  pe_lc hc (by rw [eN]; exact S.nd) hi (blkOk_by (by rw [eN, es]; exact ok)) hg ht he hs
theorem Same.tup {K : PySem.W.Frag} {H H' : Hp} {a : Addr} {xs : List V} (e : Same H H') (h : SqT K H a xs) : SqT K H' a xs := by
  rcases h with (h | ⟨o, h⟩) | h
  · exact .inl (.inl (e _ _ h))
  · exact .inl (.inr ⟨o, e _ _ h⟩)
  · exact .inr h
theorem Same.new {H : Hp} {a : Addr} {o : HO} (n : H a = none) : Same H (upd H a o) := fun b u h => by rw [upd_ne (ne_of_none h n)]; exact h
theorem Same.young {H H1 : Hp} {a : Addr} {o : HO} (s : Same H H1) (n : H a = none) : Same H (upd H1 a o) := fun b u h => by rw [upd_ne (ne_of_none h n)]; exact s b u h
end L2
namespace Kf
open PySem PySem.Spec PyProof.Rows L2 KX
open Sf52 (Bytes)
def top (i : Nat) : Stmt := PySem.Challenge.pw_kinfolk_s03_kinship.main.body.getD i (.Pass ⟨0, 0, 0, 0⟩)
def bv (b : Bytes) : List V := b.map fun c => V.int (c.toNat : Int)
theorem bv_len (b : Bytes) : (bv b).length = b.length := List.length_map ..
theorem bv_get {b : Bytes} {i : Nat} {v : V} (h : (bv b)[i]? = some v) : ∃ c, b[i]? = some c ∧ v = .int (c.toNat : Int) := by
  unfold bv at h
  rw [List.getElem?_map] at h
  cases e : b[i]? with
  | none => rw [e] at h; cases h
  | some c => rw [e] at h; exact ⟨c, rfl, (Option.some.inj h).symm⟩
theorem bv_snoc (b : Bytes) (c : UInt8) : bv (b ++ [c]) = bv b ++ [.int (c.toNat : Int)] := by simp [bv]
def LL (K : PySem.W.Frag) (H : Hp) (a : Addr) (ws : List Bytes) : Prop := ∃ as : List Addr, SqL K H a (as.map V.ref) ∧ Paired (fun q w => SqL K H q (bv w)) as ws
theorem sz {n : Nat} (h : n ≤ 4100) : n < sizeLine := Nat.lt_of_le_of_lt h (by decide)
theorem pd_imp {α β : Type} {F G : α → β → Prop} {l : List α} {m : List β} (h : Paired F l m) (f : ∀ a b, a ∈ l → F a b → G a b) : Paired G l m := by
  induction h with
  | nil => exact .nil
  | cons x r ih => exact .cons (f _ _ List.mem_cons_self x) (ih fun a b m => f a b (List.mem_cons_of_mem _ m))
theorem pd_snoc {α β : Type} {F : α → β → Prop} {l : List α} {m : List β} {a : α} {b : β} (h : Paired F l m) (x : F a b) : Paired F (l ++ [a]) (m ++ [b]) := by
  induction h with
  | nil => exact .cons x .nil
  | cons y r ih => exact .cons y ih
theorem pd_len {α β : Type} {F : α → β → Prop} {l : List α} {m : List β} (h : Paired F l m) : l.length = m.length := by
  induction h with
  | nil => rfl
  | cons y r ih => simp [ih]
theorem pd_mem {α β : Type} {F : α → β → Prop} {l : List α} {m : List β} {a : α} (h : Paired F l m) (x : a ∈ l) : ∃ b, F a b := by
  induction h with
  | nil => simp at x
  | cons y r ih =>
    rcases List.mem_cons.mp x with e | z
    · exact ⟨_, e ▸ y⟩
    · exact ih z
theorem ne_mem {α : Type} {l : List α} {a b : α} (h : a ∈ l) (n : b ∉ l) : a ≠ b := fun e => n (e ▸ h)
theorem get_take_drop {α : Type} {l : List α} {i : Nat} {x : α} (h : l[i]? = some x) : l.drop i = x :: l.drop (i + 1) := by
  obtain ⟨h1, e⟩ := List.getElem?_eq_some_iff.mp h
  rw [List.drop_eq_getElem_cons h1, e]
def spSplit (K : PySem.W.Frag) : Sp := fun vs H Q _ => ∃ (a m : Addr) (b : Bytes) (ms : List Int) (p : UInt8 → Bool), vs = [.ref a, .ref m] ∧ SqL K H a (bv b) ∧ SqT K H m (ms.map V.int) ∧
  (∀ c, p c = ms.any fun z => z == (c.toNat : Int)) ∧ b.length ≤ 4000 ∧ ∀ (H' : Hp) (q : Addr), Same H H' → LL K H' q (Sf52.split p b []) → Q (.ref q) H'
abbrev sSplit : Stmt := top 4
theorem scSplit : FnScope ["values", "marks", "runs", "run", "value"] ["values", "marks"] (defScope sSplit) := ⟨rfl, rfl, rfl, by decide +kernel, rfl, by decide +kernel, by decide +kernel⟩
section
variable {P : Program} {w : World} {K : PySem.W.Frag} {mg : Str → Option Value} {base : Heap}
theorem flat_ints (ms : List Int) : (ms.map V.int).all flatV = true := by
  induction ms with
  | nil => rfl
  | cons a r ih => simp [flatV, ih]
theorem inV_ints (z : Int) (ms : List Int) : inV (.int z) (ms.map V.int) = ms.any fun y => y == z := by
  unfold inV
  induction ms with
  | nil => rfl
  | cons a r ih => simp only [List.map_cons, List.any_cons, ih]; rfl
theorem ok_split (d : Def K mg "split_at" ["values", "marks"] sSplit) : Prom P w K mg base CX0 1 "split_at" ["values", "marks"] (spSplit K) := by
  refine d.calm scSplit (fun vs H Q E h => ?_) (fun f cdv A outer s H vs Q E hr h => ?_)
  · obtain ⟨a, m, b, ms, p, rfl, _⟩ := h
    rfl
  · obtain ⟨a, m, b, ms, p, rfl, hA, hM, hp, hl, k⟩ := h
    refine ⟨_, pss_cons (ps_set (i := 2) scSplit.nd rfl (Or.inl rfl) (pe_lst pa_nil))
      (pss_cons (ps_set (i := 3) scSplit.nd rfl (Or.inl rfl) (pe_lst pa_nil))
      (pss_cons (ps_for PassesOwn.never rfl (pi_list (pv 0)) (pg_name (i := 4) scSplit.nd rfl (Or.inl rfl))
        (pss_one (ps_if (pt_cmpR op_in_seq (pv 4) (pv 1) (by with_unfolding_all rfl))
          (pss_cons (ps_expr (pe_bm PySem.F.plainAttrs_list PySem.F.slot_list_append PySem.F.type_list_append mt_append (pv 2) (pa_cons (pv 3) pa_nil)))
            (pss_one (ps_set (i := 3) scSplit.nd rfl (Or.inl rfl) (pe_lst pa_nil))))
          (pss_one (ps_expr (pe_bm PySem.F.plainAttrs_list PySem.F.slot_list_append PySem.F.type_list_append mt_append (pv 3) (pa_cons (pv 4) pa_nil)))))))
      (pss_cons (ps_expr (pe_bm PySem.F.plainAttrs_list PySem.F.slot_list_append PySem.F.type_list_append mt_append (pv 2) (pa_cons (pv 3) pa_nil)))
      (pss_one (ps_ret (pv 2)))))), ?_⟩
    refine ⟨Nat.zero_le _, fun R hR => ⟨Nat.zero_le _, fun r0 hr0 => ?_⟩⟩
    have s0 : Same H (upd (upd H R (.lst [])) r0 (.lst [])) := (Same.new hR).trans (Same.new hr0)
    have nR : r0 ≠ R := fun e => by rw [e, upd_same] at hr0; cases hr0
    refine ⟨_, rfl, a, rfl, ⟨_, s0.seq hA⟩, for_list (K := K) (a := a) (xs := bv b) (fun i σ H' => ∃ (v : Option V) (r : Addr) (as : List Addr) (done : List Bytes) (u : Bytes), σ = [some (.ref a), some (.ref m), some (.ref R), some (.ref r), v] ∧ Same H H' ∧
        H R = none ∧ H r = none ∧ H' R = some (.lst (as.map V.ref)) ∧ H' r = some (.lst (bv u)) ∧ r ≠ R ∧ r ∉ as ∧ R ∉ as ∧ Paired (fun q w => H' q = some (.lst (bv w))) as done ∧ (∀ q ∈ as, H q = none) ∧ done.length ≤ i ∧ u.length ≤ i ∧ Sf52.split p b [] = done ++ Sf52.split p (b.drop i) u)
      ⟨none, r0, [], [], [], rfl, s0, hR, (by rw [upd_ne nR] at hr0; exact hr0), (by rw [upd_ne (Ne.symm nR), upd_same]; rfl), upd_same, nR, by simp, by simp, .nil, by simp, Nat.le_refl _, Nat.le_refl _, rfl⟩
      (fun i σ H' _ ⟨_, _, _, _, _, _, s5, _⟩ => s5.seq hA) ?_ ?_⟩
    · rintro i y σ H' hi ⟨v, r, as, done, u, rfl, s5, nR0, nr0, hR', hr', ne, n1, n2, pd, old, l1, l2, eq⟩
      obtain ⟨c, hc, rfl⟩ := bv_get hi
      have ilt : i < b.length := (List.getElem?_eq_some_iff.mp hc).1
      have dl : as.length = done.length := pd_len pd
      refine ⟨_, rfl, _, rfl, m, _, rfl, .inr (s5.tup hM), rfl, flat_ints ms, _, rfl, ?_⟩
      rw [if_neg (by simp), inV_ints, ← hp c]
      rw [get_take_drop hc] at eq
      refine ite2 (fun hy => ?_) (fun hn => ?_)
      · rw [split_yes hy] at eq
        refine ⟨_, rfl, .inl ⟨rfl, _, SqL.of hR'⟩, _, rfl, R, _, _, rfl, rfl, hR', (by rw [List.length_map, dl]; exact sz (by omega)), ?_⟩
        refine ⟨Nat.zero_le _, fun r1 hr1 => ?_⟩
        have e1 : r1 ≠ R := fun e => by rw [e, upd_same] at hr1; cases hr1
        rw [upd_ne e1] at hr1
        have e2 : r1 ≠ r := fun e => by rw [e, hr'] at hr1; cases hr1
        have H1 : H r1 = none := s5.free hr1
        refine ⟨_, r1, as ++ [r], done ++ [u], [], rfl, ((s5.young nR0).young H1), nR0, H1, ?_, upd_same, e1, ?_, ?_, ?_, ?_, ?_, Nat.zero_le _, ?_⟩
        · rw [upd_ne (Ne.symm e1), upd_same, List.map_append]; rfl
        · intro z
          rcases List.mem_append.mp z with z | z
          · obtain ⟨w', hw⟩ := pd_mem pd z
            rw [hw] at hr1; cases hr1
          · exact e2 (List.mem_singleton.mp z)
        · intro z
          rcases List.mem_append.mp z with z | z
          · exact n2 z
          · exact ne (List.mem_singleton.mp z).symm
        · refine pd_snoc (pd_imp pd fun q w' hq hw => ?_) ?_
          · rw [upd_ne (fun e => by rw [e] at hw; rw [hw] at hr1; cases hr1), upd_ne (ne_mem hq n2)]; exact hw
          · rw [upd_ne (Ne.symm e2), upd_ne ne]; exact hr'
        · intro q hq
          rcases List.mem_append.mp hq with z | z
          · exact old q z
          · rw [List.mem_singleton.mp z]; exact nr0
        · rw [List.length_append]; simp; omega
        · rw [eq, List.append_assoc]; rfl
      · rw [split_no (by simpa using hn)] at eq
        refine ⟨_, rfl, .inl ⟨rfl, _, SqL.of hr'⟩, _, rfl, r, _, _, rfl, rfl, hr', (by rw [bv_len]; exact sz (by omega)), ?_⟩
        refine ⟨_, r, as, done, u ++ [c], rfl, s5.young nr0, nR0, nr0, ?_, ?_, ne, n1, n2, ?_, old, by omega, by rw [List.length_append]; simp; omega, eq⟩
        · rw [upd_ne (Ne.symm ne)]; exact hR'
        · rw [upd_same, bv_snoc]
        · exact pd_imp pd fun q w' hq hw => by rw [upd_ne (ne_mem hq n1)]; exact hw
    · rintro σ H' ⟨v, r, as, done, u, rfl, s5, nR0, nr0, hR', hr', ne, n1, n2, pd, old, l1, l2, eq⟩
      rw [bv_len] at l1 l2 eq
      have dl : as.length = done.length := pd_len pd
      refine ⟨_, rfl, .inl ⟨rfl, _, SqL.of hR'⟩, _, rfl, R, _, _, rfl, rfl, hR', (by rw [List.length_map, dl]; exact sz (by omega)), ?_⟩
      refine ⟨_, rfl, k _ R (s5.young nR0) ⟨as ++ [r], SqL.of (by rw [upd_same, List.map_append]; rfl), ?_⟩⟩
      rw [eq, List.drop_length]
      exact pd_snoc (pd_imp pd fun q w' hq hw => SqL.of (by rw [upd_ne (ne_mem hq n2)]; exact hw)) (SqL.of (by rw [upd_ne ne]; exact hr'))
end
end Kf
namespace Kf
open PySem PySem.Spec PyProof.Rows L2 KX
open Sf52 (Bytes)
structure Txt (K : PySem.W.Frag) (mg : Str → Option Value) (CU CN fN CP fP : Addr) : Prop where
  zero : ∃ t, mg "ZERO" = some (.int 48 t)
  nine : ∃ t, mg "NINE" = some (.int 57 t)
  hyph : ∃ t, mg "HYPHEN" = some (.int 45 t)
  ques : ∃ t, mg "QUESTION_MARK" = some (.int 63 t)
  unt : ∃ t, mg "UNTOLD" = some (.int 0 t)
  feb : ∃ t, mg "FEBRUARY" = some (.int 2 t)
  yrs : ∃ t, mg "YEARS_TO_A_CHILD" = some (.int 10 t)
  lf : ∃ t, mg "LINE_FEED" = some (.int 10 t)
  hash : ∃ t, mg "HASH" = some (.int 35 t)
  less : ∃ t, mg "LESS_THAN" = some (.int 60 t)
  fem : ∃ t, mg "FEMALE" = some (.int 102 t)
  male : ∃ t, mg "MALE" = some (.int 109 t)
  notk : ∃ t, mg "NOT_KNOWN" = some (.int 45 t)
  nobo : ∃ t, mg "NOBODY" = some (.int 0 t)
  grea : ∃ t, mg "GREATEST_NUMBER" = some (.int 9999 t)
  mosP : ∃ t, mg "MOST_PERSONS" = some (.int 1024 t)
  long : ∃ t, mg "LONGEST_LINE" = some (.int 255 t)
  mosS : ∃ t, mg "MOST_STEPS" = some (.int 30 t)
  mon : ∃ a, mg "LENGTHS_OF_MONTHS" = some (.ref a) ∧ ∀ H, SqT K H a (monthTab.map fun (n : Nat) => V.int (n : Int))
  bla : ∃ a, mg "BLANKS" = some (.ref a) ∧ ∀ H, SqT K H a ([32, 9].map V.int)
  len : mg "len" = none
  any : mg "any" = none
  zip : mg "zip" = none
  enum : mg "enumerate" = none
  range : mg "range" = none
  uC : XCls K CU
  uI : PySem.W.ownIn K "__init__" (.ref CU) = some none
  uM : mg "Unreadable" = some (.ref CU)
  nC : XCls K CN
  nI : XInit K CN fN "row"
  nM : mg "NotFamilies" = some (.ref CN)
  nGa : PySem.W.ownIn K "__getattribute__" (.ref CN) = some none
  nGt : PySem.W.ownIn K "__getattr__" (.ref CN) = some none
  pC : Cls K CP
  pK : Mk K CP fP
  pM : mg "Person" = some (.ref CP)
  pr : NoAttr K CP "row"
  pn : NoAttr K CP "number"
  ps : NoAttr K CP "sex"
  pb : NoAttr K CP "birth"
  pd : NoAttr K CP "death"
  pp : NoAttr K CP "parents"
def Res (CU : Addr) (H : Hp) (Q : VK) (E : XK) {α : Type} (r : Option α) (val : α → Hp → V → Prop) : Prop :=
  (∀ x, r = some x → ∀ H' v, Same H H' → val x H' v → Q v H') ∧ (r = none → ∀ H', Same H H' → E (.ref CU) none H')
theorem dp_ints {K : PySem.W.Frag} {H : Hp} : ∀ ns : List Int, DpAll K H (ns.map V.int) (ns.map PyData.int)
  | [] => .nil
  | n :: r => .cons (.int n) (dp_ints r)
theorem lay_ints : ∀ ns : List Int, PyData.canLayAll0 (ns.map PyData.int) = true
  | [] => by simp [PyData.canLayAll0]
  | n :: r => by simp [PyData.canLayAll0, PyData.canLay0, lay_ints r]
theorem depth_ints : ∀ ns : List Int, PyData.depthAll (ns.map PyData.int) ≤ 1
  | [] => by simp [PyData.depthAll]
  | n :: r => by
    have := depth_ints r
    simp [PyData.depthAll, PyData.depth, this]
theorem shaped_ints (ns : List Int) : SeqAt.shaped (.list (ns.map PyData.int)) = true := by
  have h := depth_ints ns
  unfold SeqAt.shaped
  rw [Bool.and_eq_true]
  refine ⟨by simp [PyData.canLay0, lay_ints], decide_eq_true ?_⟩
  simp only [PyData.depth]
  omega
theorem bv_ints (b : Bytes) : bv b = (b.map fun c => (c.toNat : Int)).map V.int := by simp [bv, Function.comp_def]
theorem toNat_inj {b c : Bytes} (h : (b.map fun x => (x.toNat : Int)) = c.map fun x => (x.toNat : Int)) : b = c := by
  induction b generalizing c with
  | nil => cases c with
    | nil => rfl
    | cons y s => simp at h
  | cons x r ih => cases c with
    | nil => simp at h
    | cons y s =>
      simp only [List.map_cons, List.cons.injEq] at h
      have e : x = y := UInt8.toNat_inj.mp (by omega)
      rw [e, ih h.2]
theorem eq_bv {K : PySem.W.Frag} {H : Hp} {a p : Addr} {b : Bytes} {c : Bytes} {Q : VK} (ha : SqL K H a (bv b)) (hp : SqL K H p (bv c)) (q : Q (.bl (decide (b = c))) H) : rEqD K (.ref a) (.ref p) H Q := by
  refine ⟨_, _, .lst ha (by rw [bv_ints]; exact dp_ints _), .lst hp (by rw [bv_ints]; exact dp_ints _), shaped_ints _, shaped_ints _, ?_⟩
  have e : PyData.eqv (.list ((b.map fun c => (c.toNat : Int)).map PyData.int)) (.list ((c.map fun c => (c.toNat : Int)).map PyData.int)) = decide (b = c) := by
    rw [PyData.eqv, PySem.W.ked_eqvAll]
    by_cases h : b = c
    · subst h; simp
    · rw [decide_eq_false h, decide_eq_false fun z => h (toNat_inj z)]
  rw [e]; exact q
theorem ne_bv {K : PySem.W.Frag} {H : Hp} {a p : Addr} {b : Bytes} {c : Bytes} {Q : VK} (ha : SqL K H a (bv b)) (hp : SqL K H p (bv c)) (q : Q (.bl (!decide (b = c))) H) : rNeD K (.ref a) (.ref p) H Q := by
  refine ⟨_, _, .lst ha (by rw [bv_ints]; exact dp_ints _), .lst hp (by rw [bv_ints]; exact dp_ints _), shaped_ints _, shaped_ints _, ?_⟩
  have e : PyData.eqv (.list ((b.map fun c => (c.toNat : Int)).map PyData.int)) (.list ((c.map fun c => (c.toNat : Int)).map PyData.int)) = decide (b = c) := by
    rw [PyData.eqv, PySem.W.ked_eqvAll]
    by_cases h : b = c
    · subst h; simp
    · rw [decide_eq_false h, decide_eq_false fun z => h (toNat_inj z)]
  rw [e]; exact q
abbrev sDigits : Stmt := top 5
def spDigits (K : PySem.W.Frag) (CU : Addr) : Sp := fun vs H Q E => ∃ (a : Addr) (b : Bytes), vs = [.ref a] ∧ SqL K H a (bv b) ∧ b.length ≤ 4000 ∧ (b.all Sf52.digit = true → Q (.int (Sf52.value b : Int)) H) ∧ (b.all Sf52.digit = false → E (.ref CU) none H)
theorem scDigits : FnScope ["word", "number", "byte"] ["word"] (defScope sDigits) := ⟨rfl, rfl, rfl, by decide +kernel, rfl, by decide +kernel, by decide +kernel⟩
section
variable {P : Program} {w : World} {K : PySem.W.Frag} {mg : Str → Option Value} {base : Heap} {CU CN fN CP fP : Addr}
theorem all_take {b : Bytes} {i : Nat} {c : UInt8} (h : b[i]? = some c) : (b.take (i + 1)).all Sf52.digit = ((b.take i).all Sf52.digit && Sf52.digit c) := by
  rw [List.take_add_one, h]
  simp
theorem ok_digits (T : Txt K mg CU CN fN CP fP) (d : Def K mg "read_digits" ["word"] sDigits) : Prom P w K mg base (CXo P w) 1 "read_digits" ["word"] (spDigits K CU) := by
  refine d.wild scDigits (fun vs H Q E h => ?_) (fun f cdv A outer s H vs Q E hr h => ?_)
  · obtain ⟨a, b, rfl, _⟩ := h
    rfl
  · obtain ⟨a, b, rfl, hA, hl, k1, k2⟩ := h
    refine ⟨_, pss_cons (ps_set (i := 1) scDigits.nd rfl (Or.inl rfl) pe_int)
      (pss_cons (ps_for PassesOwn.leaving rfl (pi_list (pv 0)) (pg_name (i := 2) scDigits.nd rfl (Or.inl rfl))
        (pss_cons (ps_if (PW.pt (pw_or (pt_cmpR op_lt (pv 2) (pe_gi T.zero) (nomark _)) (pw_or1 (pt_cmpR op_gt (pv 2) (pe_gi T.nine) (nomark _)))))
          (pss_one (ps_raise0 T.uC T.uI rfl T.uM rfl rfl throws_body)) pss_nil)
        (pss_one (ps_set (i := 1) scDigits.nd rfl (Or.inl rfl) (pe_op op_sub (pe_op op_add (pe_op op_mul (pv 1) pe_int) (pv 2)) (pe_gi T.zero))))))
      (pss_one (ps_ret (pv 1)))), ?_⟩
    refine ⟨_, rfl, a, rfl, ⟨_, hA⟩, for_list (K := K) (a := a) (xs := bv b) (fun i σ H' => ∃ (v : Option V), σ = [some (.ref a), some (.int (Sf52.value (b.take i) : Int)), v] ∧ H' = H ∧ (b.take i).all Sf52.digit = true)
      ⟨none, rfl, rfl, rfl⟩ (fun i σ H' _ ⟨_, _, e, _⟩ => e ▸ hA) ?_ ?_⟩
    · rintro i y σ H' hi ⟨v, rfl, rfl, hd⟩
      obtain ⟨c, hc, rfl⟩ := bv_get hi
      have bad : Sf52.digit c = false → b.all Sf52.digit = false := fun h => by
        cases q : b.all Sf52.digit with
        | false => rfl
        | true =>
          rw [List.all_eq_true.mp q c (List.mem_of_getElem? hc)] at h
          cases h
      refine ⟨_, rfl, _, _, rfl, rfl, _, rfl, ?_⟩
      refine ite2 (fun h1 => ?_) (fun h1 => ?_)
      · refine iteT (k2 (bad ?_))
        have h1 := of_decide_eq_true h1
        cases q : Sf52.digit c with
        | false => rfl
        | true => have := (digit_iff c).mp q; omega
      · refine ⟨_, rfl, _, _, rfl, rfl, _, rfl, ?_⟩
        have h1 : ¬ (c.toNat : Int) < 48 := fun z => h1 (decide_eq_true z)
        refine ite2 (fun h2 => ?_) (fun h2 => ?_)
        · refine k2 (bad ?_)
          have h2 := of_decide_eq_true h2
          cases q : Sf52.digit c with
          | false => rfl
          | true => have := (digit_iff c).mp q; omega
        · have h2 : ¬ (57 : Int) < (c.toNat : Int) := fun z => h2 (decide_eq_true z)
          have dc : Sf52.digit c = true := (digit_iff c).mpr ⟨by omega, by omega⟩
          refine ⟨_, rfl, _, _, rfl, rfl, .inr ⟨by decide, by decide⟩, _, rfl, _, _, rfl, rfl, _, _, rfl, rfl, ?_⟩
          refine ⟨some (.int (c.toNat : Int)), ?_, rfl, by rw [all_take hc, hd, dc]; rfl⟩
          have e : b.take (i + 1) = b.take i ++ [c] := by rw [List.take_add_one, hc]; rfl
          rw [e, value_snoc]
          have g := (digit_iff c).mp dc
          have z : (Sf52.value (b.take i) : Int) * 10 + (c.toNat : Int) - 48 = ((10 * Sf52.value (b.take i) + (c.toNat - 48) : Nat) : Int) := by omega
          rw [← z]
          rfl
    · rintro σ H' ⟨v, rfl, rfl, hd⟩
      rw [bv_len, List.take_length] at *
      exact ⟨_, rfl, k1 hd⟩
end
end Kf
namespace Kf
open PySem PySem.Spec PyProof.Rows L2 KX
open Sf52 (Bytes)
section
variable {P : Program} {w : World} {K : PySem.W.Frag} {mg : Str → Option Value} {base : Heap} {CU CN fN CP fP : Addr}
abbrev sLeap : Stmt := top 16
def spLeap : Sp := fun vs H Q _ => ∃ y : Nat, vs = [.int (y : Int)] ∧ Q (.bl (Sf52.leap y)) H
theorem scLeap : FnScope ["year"] ["year"] (defScope sLeap) := ⟨rfl, rfl, rfl, by decide +kernel, rfl, by decide +kernel, by decide +kernel⟩
theorem mod_eq (y n : Nat) : decide (V.int ((y : Int) % (n : Int)) = V.int 0) = (y % n == 0) := by
  rw [dec_int]
  by_cases h : y % n = 0
  · have : (y : Int) % (n : Int) = 0 := by rw [← Int.natCast_emod, h]; rfl
    rw [this, h]; rfl
  · have : (y : Int) % (n : Int) ≠ 0 := by rw [← Int.natCast_emod]; omega
    rw [beq_eq_false_iff_ne.mpr this, beq_eq_false_iff_ne.mpr h]
theorem ok_leap (d : Def K mg "is_leap_year" ["year"] sLeap) : Prom P w K mg base CX0 1 "is_leap_year" ["year"] spLeap := by
  refine d.calm scLeap (fun vs H Q E h => ?_) (fun f cdv A outer s H vs Q E hr h => ?_)
  · obtain ⟨y, rfl, _⟩ := h
    rfl
  · obtain ⟨y, rfl, k⟩ := h
    refine ⟨_, pss_one (ps_ret (pe_or (pe_cmpR op_eq (pe_op op_mod (pv 0) pe_int) pe_int (nomark _)) (pe_one (pe_and (pe_cmpR op_eq (pe_op op_mod (pv 0) pe_int) pe_int (nomark _)) (pe_one (pe_cmpR op_ne (pe_op op_mod (pv 0) pe_int) pe_int (nomark _))))))), ?_⟩
    rw [leap_eq] at k
    refine ⟨_, rfl, _, _, rfl, rfl, (by show (0 : Int) < 400; decide), rfl, _, rfl, ?_⟩
    have e1 := mod_eq y 400
    have e2 := mod_eq y 4
    have e3 := mod_eq y 100
    refine ite2 (fun h => ?_) (fun h => ?_)
    · have h : (y % 400 == 0) = true := by rw [← e1]; exact h
      rw [h, Bool.true_or] at k
      exact k
    · have h : (y % 400 == 0) = false := by rw [← e1]; simpa using h
      rw [h, Bool.false_or] at k
      refine ⟨_, rfl, _, _, rfl, rfl, (by show (0 : Int) < 4; decide), rfl, _, rfl, ?_⟩
      refine ite2 (fun g => ?_) (fun g => ?_)
      · refine ⟨_, rfl, _, _, rfl, rfl, (by show (0 : Int) < 100; decide), rfl, ?_⟩
        have g : (y % 4 == 0) = true := by rw [← e2]; exact g
        rw [g, Bool.true_and, bne, ← e3] at k
        exact k
      · have g : (y % 4 == 0) = false := by rw [← e2]; simpa using g
        rw [g] at k
        exact k
abbrev sMonth : Stmt := top 15
def spMonth : Sp := fun vs H Q _ => ∃ y m : Nat, vs = [.int (y : Int), .int (m : Int)] ∧ 1 ≤ m ∧ m ≤ 12 ∧ Q (.int (Sf52.daysIn y m : Int)) H
theorem scMonth : FnScope ["year", "month"] ["year", "month"] (defScope sMonth) := ⟨rfl, rfl, rfl, by decide +kernel, rfl, by decide +kernel, by decide +kernel⟩
theorem ok_month (T : Txt K mg CU CN fN CP fP) (d : Def K mg "length_of_month" ["year", "month"] sMonth) (O : Prom P w K mg base CX0 1 "is_leap_year" ["year"] spLeap) : Prom P w K mg base CX0 2 "length_of_month" ["year", "month"] spMonth := by
  refine d.calm scMonth (fun vs H Q E h => ?_) (fun f cdv A outer s H vs Q E hr h => ?_)
  · obtain ⟨y, m, rfl, _⟩ := h
    rfl
  · obtain ⟨y, m, rfl, h1, h2, k⟩ := h
    obtain ⟨am, em, sm⟩ := T.mon
    refine ⟨_, pss_cons (ps_if (PW.pt (pw_and (pt_cmpR op_eq (pv 1) (pe_gi T.feb) (nomark _)) (pw_and1 (pt_val (pe_fc O hr (pa_cons (pv 0) pa_nil)))))) (pss_one (ps_ret pe_int)) pss_nil)
      (pss_one (ps_ret (pe_ix ix_tup (pe_glob (v := .ref am) rfl em rfl) (pe_op op_sub (pv 1) pe_int) (fun _ _ => rfl)))), ?_⟩
    rw [daysIn_eq h1 h2] at k
    refine ⟨_, rfl, rfl, _, rfl, ?_⟩
    have end_ : ¬ (m = 2 ∧ Sf52.leap y = true) → tOp (rIxT K) (tC (.ref am)) (tOp (rI0 fun i j => .int (i - j)) (tVar 1) (tC (.int 1))) [some (V.int (y : Int)), some (V.int (m : Int))] H Q := fun hn => by
      rw [if_neg hn] at k
      refine ⟨_, rfl, _, _, rfl, rfl, am, _, _, _, rfl, rfl, sm H, at_of (j := m - 1) (v := V.int (monthTab.getD (m - 1) 0 : Nat)) (by omega) ?_, k⟩
      rw [List.getElem?_map, List.getElem?_eq_getElem (by show m - 1 < 12; omega)]
      rw [List.getD_eq_getElem?_getD, List.getElem?_eq_getElem (by show m - 1 < 12; omega)]
      rfl
    refine ite2 (fun h => ?_) (fun h => ?_)
    · have h : m = 2 := by
        have := of_decide_eq_true h
        injection this with e
        omega
      refine ⟨_, rfl, y, rfl, _, rfl, ?_⟩
      refine ite2 (fun g => ?_) (fun g => ?_)
      · rw [if_pos ⟨h, g⟩] at k
        exact k
      · exact end_ fun z => g z.2
    · refine iteF (end_ fun z => h ?_)
      rw [z.1]
      exact decide_eq_true rfl
abbrev sPart : Stmt := top 14
def spPart (K : PySem.W.Frag) (CU : Addr) : Sp := fun vs H Q E => ∃ (a : Addr) (b : Bytes) (k lo hi : Nat), vs = [.ref a, .int (k : Int), .int (lo : Int), .int (hi : Int)] ∧ SqL K H a (bv b) ∧ b.length ≤ 4000 ∧ Res CU H Q E (Sf52.part b k lo hi) (fun o _ v => v = .int (told o : Int))
theorem scPart : FnScope ["part", "width", "least", "most", "number"] ["part", "width", "least", "most"] (defScope sPart) := ⟨rfl, rfl, rfl, by decide +kernel, rfl, by decide +kernel, by decide +kernel⟩
theorem ok_part (T : Txt K mg CU CN fN CP fP) (d : Def K mg "read_part" ["part", "width", "least", "most"] sPart) (O : Prom P w K mg base (CXo P w) 1 "read_digits" ["word"] (spDigits K CU)) : Prom P w K mg base (CXo P w) 2 "read_part" ["part", "width", "least", "most"] (spPart K CU) := by
  refine d.wild scPart (fun vs H Q E h => ?_) (fun f cdv A outer s H vs Q E hr h => ?_)
  · obtain ⟨a, b, k, lo, hi, rfl, _⟩ := h
    rfl
  · obtain ⟨a, b, k, lo, hi, rfl, hA, hl, k1, k2⟩ := h
    refine ⟨_, pss_cons (ps_if (pt_cmpR (op_eqD hr.units) (pv 0) (pe_lst (pa_cons (pe_gi T.ques) pa_nil)) (nomark _)) (pss_one (ps_ret (pe_gi T.unt))) pss_nil)
      (pss_cons (ps_if (pt_cmpR op_ne (pe_callB call_len_seq (by rfl) T.len PySem.boot_len (pa_cons (pv 0) pa_nil)) (pv 1) (nomark _)) (pss_one (ps_raise0 T.uC T.uI rfl T.uM rfl rfl throws_body)) pss_nil)
      (pss_cons (ps_set (i := 4) scPart.nd rfl (Or.inl rfl) (pe_f O hr (passes_of throws_body rfl) (pa_cons (pv 0) pa_nil)))
      (pss_cons (ps_if (PW.pt (pw_or (pt_cmpR op_lt (pv 4) (pv 2) (nomark _)) (pw_or1 (pt_cmpR op_gt (pv 4) (pv 3) (nomark _))))) (pss_one (ps_raise0 T.uC T.uI rfl T.uM rfl rfl throws_body)) pss_nil)
      (pss_one (ps_ret (pv 4)))))), ?_⟩
    refine ⟨_, rfl, Nat.le_of_lt (sz (by decide : 1 ≤ 4100)), fun p hp => ?_⟩
    have s1 : Same H (upd H p (.lst [.int 63])) := Same.new hp
    refine eq_bv (c := [63]) (s1.seq hA) (SqL.of upd_same) ⟨_, rfl, ite2 (fun h => ?_) (fun h => ?_)⟩
    · have h := of_decide_eq_true h
      subst h
      exact k1 none (part_q _ _ _) _ _ s1 rfl
    · have h : b ≠ [63] := fun z => h (decide_eq_true z)
      refine ⟨_, rfl, a, _, rfl, .inl (s1.seq hA), _, rfl, rfl, _, rfl, ?_⟩
      rw [bv_len]
      refine ite2 (fun g => ?_) (fun g => ?_)
      · refine k2 (part_no h (.inl fun z => ?_)) _ s1
        rw [z] at g
        simp at g
      · have g : b.length = k := by
          have g : decide (V.int (b.length : Int) = V.int (k : Int)) = true := by simpa using g
          have := of_decide_eq_true g
          injection this with e
          omega
        refine ⟨_, rfl, a, b, rfl, s1.seq hA, hl, fun ha => ?_, fun ha => k2 (part_no h (.inr (.inl ha))) _ s1⟩
        refine ⟨_, rfl, _, rfl, _, _, rfl, rfl, _, rfl, ite2 (fun l => ?_) (fun l => ?_)⟩
        · refine iteT (k2 (part_no h (.inr (.inr fun z => ?_))) _ s1)
          have := of_decide_eq_true l
          omega
        · refine ⟨_, rfl, _, rfl, _, _, rfl, rfl, _, rfl, ite2 (fun l2 => ?_) (fun l2 => ?_)⟩
          · refine k2 (part_no h (.inr (.inr fun z => ?_))) _ s1
            have := of_decide_eq_true l2
            omega
          · have l : ¬ (Sf52.value b : Int) < (lo : Int) := fun z => l (decide_eq_true z)
            have l2 : ¬ (hi : Int) < (Sf52.value b : Int) := fun z => l2 (decide_eq_true z)
            exact ⟨_, rfl, k1 (some (Sf52.value b)) (part_yes h g ha (by omega) (by omega)) _ _ s1 rfl⟩
end
end Kf
namespace Kf
open PySem PySem.Spec PyProof.Rows L2 KX
open Sf52 (Bytes)
theorem dayOf_bad {y m d : Option Nat} (hy : y ≠ some 0) (hm : m ≠ some 0) (hd : d ≠ some 0) (h : (told y = 0 ∧ told m ≠ 0) ∨ (told m = 0 ∧ told d ≠ 0)) : dayOf y m d = none := by
  rw [told_zero hy, told_zero hm] at h
  have nm := told_zero hm
  have nd := told_zero hd
  unfold dayOf
  rw [if_neg]
  rintro ⟨h1, h2⟩
  rcases h with ⟨a, b⟩ | ⟨a, b⟩
  · subst a
    exact b (by have := h1 rfl; rw [Option.isNone_iff_eq_none] at this; rw [this]; rfl)
  · subst a
    exact b (by have := h2 rfl; rw [Option.isNone_iff_eq_none] at this; rw [this]; rfl)
theorem dayOf_late {y m d : Option Nat} (hy : y ≠ some 0) (hm : m ≠ some 0) (hd : d ≠ some 0) (h : ¬ ((told y = 0 ∧ told m ≠ 0) ∨ (told m = 0 ∧ told d ≠ 0))) (h0 : told d ≠ 0) (g : Sf52.daysIn (told y) (told m) < told d) : dayOf y m d = none := by
  have hm0 : told m ≠ 0 := fun e => h (.inr ⟨e, h0⟩)
  have hy0 : told y ≠ 0 := fun e => h (.inl ⟨e, hm0⟩)
  cases y with
  | none => exact absurd rfl hy0
  | some y1 => cases m with
    | none => exact absurd rfl hm0
    | some m1 => cases d with
      | none => exact absurd rfl h0
      | some d1 =>
        unfold dayOf
        rw [if_pos ⟨fun z => (by cases z), fun z => (by cases z)⟩]
        dsimp only
        have g : Sf52.daysIn y1 m1 < d1 := g
        rw [if_neg (by omega)]
theorem dayOf_good {y m d : Option Nat} (hy : y ≠ some 0) (hm : m ≠ some 0) (hd : d ≠ some 0) (h : ¬ ((told y = 0 ∧ told m ≠ 0) ∨ (told m = 0 ∧ told d ≠ 0))) (g : told d ≠ 0 → ¬ Sf52.daysIn (told y) (told m) < told d) : dayOf y m d = some ⟨y, m, d⟩ := by
  unfold dayOf
  rw [if_pos]
  · split
    · rename_i y1 m1 d1
      have e : told (some d1) ≠ 0 := fun e => hd (by rw [show d1 = 0 from e])
      have g : ¬ Sf52.daysIn y1 m1 < d1 := g e
      rw [if_pos (by omega)]
    · rfl
  · refine ⟨fun z => ?_, fun z => ?_⟩
    · rw [Option.isNone_iff_eq_none] at z ⊢
      subst z
      cases m with
      | none => rfl
      | some m1 => exact absurd (Or.inl ⟨rfl, fun e => hm (by rw [show m1 = 0 from e])⟩) h
    · rw [Option.isNone_iff_eq_none] at z ⊢
      subst z
      cases d with
      | none => rfl
      | some d1 => exact absurd (Or.inr ⟨rfl, fun e => hd (by rw [show d1 = 0 from e])⟩) h
theorem byte_eq (n c : UInt8) : ((n.toNat : Int) == (c.toNat : Int)) = (c == n) := by
  by_cases h : c = n
  · subst h; simp
  · rw [beq_eq_false_iff_ne.mpr h, beq_eq_false_iff_ne.mpr]
    intro e; exact h (UInt8.toNat_inj.mp (by omega))
theorem mark1 (n c : UInt8) : (c == n) = [(n.toNat : Int)].any fun z => z == (c.toNat : Int) := by
  simp only [List.any_cons, List.any_nil, Bool.or_false, byte_eq]
theorem mark2 (c : UInt8) : Sf52.blank c = ([32, 9] : List Int).any fun z => z == (c.toNat : Int) := by
  have a := byte_eq 32 c
  have b := byte_eq 9 c
  show (c == 32 || c == 9) = ((((32 : UInt8).toNat : Int) == (c.toNat : Int)) || ((((9 : UInt8).toNat : Int) == (c.toNat : Int)) || false))
  rw [a, b, Bool.or_false]
def DayAt (H : Hp) (p : Addr) (x : Sf52.Day) : Prop := H p = some (.tup ((parts x).map fun (n : Nat) => V.int (n : Int)))
theorem dec_nat (a b : Nat) : decide (V.int (a : Int) = V.int (b : Int)) = decide (a = b) := by
  by_cases h : a = b
  · subst h; simp
  · rw [decide_eq_false h, decide_eq_false]
    intro e; injection e with e; exact h (by omega)
section
variable {P : Program} {w : World} {K : PySem.W.Frag} {mg : Str → Option Value} {base : Heap} {CU CN fN CP fP : Addr}
abbrev sDay : Stmt := top 13
def spDay (K : PySem.W.Frag) (CU : Addr) : Sp := fun vs H Q E => ∃ (a : Addr) (b : Bytes), vs = [.ref a] ∧ SqL K H a (bv b) ∧ b.length ≤ 4000 ∧ Res CU H Q E (Sf52.day b) (fun x H' v => ∃ p, v = .ref p ∧ DayAt H' p x)
theorem scDay : FnScope ["word", "parts", "year", "month", "day"] ["word"] (defScope sDay) := ⟨rfl, rfl, rfl, by decide +kernel, rfl, by decide +kernel, by decide +kernel⟩
theorem ok_day (T : Txt K mg CU CN fN CP fP) (d : Def K mg "read_day" ["word"] sDay) (O1 : Prom P w K mg base CX0 1 "split_at" ["values", "marks"] (spSplit K))
    (O2 : Prom P w K mg base (CXo P w) 2 "read_part" ["part", "width", "least", "most"] (spPart K CU)) (O3 : Prom P w K mg base CX0 2 "length_of_month" ["year", "month"] spMonth) : Prom P w K mg base (CXo P w) 3 "read_day" ["word"] (spDay K CU) := by
  refine d.wild scDay (fun vs H Q E h => ?_) (fun f cdv A outer s H vs Q E hr h => ?_)
  · obtain ⟨a, b, rfl, _⟩ := h
    rfl
  · obtain ⟨a, b, rfl, hA, hl, k1, k2⟩ := h
    have hr1 : Room 1 _ := hr.mono (by decide)
    refine ⟨_, pss_cons (ps_set (i := 1) scDay.nd rfl (Or.inl rfl) (pe_fc O1 hr1 (pa_cons (pv 0) (pa_cons (pe_tup (pa_cons (pe_gi T.hyph) pa_nil)) pa_nil))))
      (pss_cons (ps_if (pt_cmpR op_ne (pe_callB call_len_seq (by rfl) T.len PySem.boot_len (pa_cons (pv 1) pa_nil)) pe_int (nomark _)) (pss_one (ps_raise0 T.uC T.uI rfl T.uM rfl rfl throws_body)) pss_nil)
      (pss_cons (ps_set (i := 2) scDay.nd rfl (Or.inl rfl) (pe_f O2 hr (passes_of throws_body rfl) (pa_cons (pe_ix ix_list (pv 1) pe_int (fun _ _ => rfl)) (pa_cons pe_int (pa_cons pe_int (pa_cons pe_int pa_nil))))))
      (pss_cons (ps_set (i := 3) scDay.nd rfl (Or.inl rfl) (pe_f O2 hr (passes_of throws_body rfl) (pa_cons (pe_ix ix_list (pv 1) pe_int (fun _ _ => rfl)) (pa_cons pe_int (pa_cons pe_int (pa_cons pe_int pa_nil))))))
      (pss_cons (ps_set (i := 4) scDay.nd rfl (Or.inl rfl) (pe_f O2 hr (passes_of throws_body rfl) (pa_cons (pe_ix ix_list (pv 1) pe_int (fun _ _ => rfl)) (pa_cons pe_int (pa_cons pe_int (pa_cons pe_int pa_nil))))))
      (pss_cons (ps_if (PW.pt (pw_or (PW.pt (pw_and (pt_cmpR op_eq (pv 2) (pe_gi T.unt) (nomark _)) (pw_and1 (pt_cmpR op_ne (pv 3) (pe_gi T.unt) (nomark _)))))
          (pw_or1 (PW.pt (pw_and (pt_cmpR op_eq (pv 3) (pe_gi T.unt) (nomark _)) (pw_and1 (pt_cmpR op_ne (pv 4) (pe_gi T.unt) (nomark _)))))))) (pss_one (ps_raise0 T.uC T.uI rfl T.uM rfl rfl throws_body)) pss_nil)
      (pss_cons (ps_if (PW.pt (pw_and (pt_cmpR op_ne (pv 4) (pe_gi T.unt) (nomark _)) (pw_and1 (pt_cmpR op_gt (pv 4) (pe_fc O3 hr (pa_cons (pv 2) (pa_cons (pv 3) pa_nil))) (nomark _))))) (pss_one (ps_raise0 T.uC T.uI rfl T.uM rfl rfl throws_body)) pss_nil)
      (pss_one (ps_ret (pe_tup (pa_cons (pv 2) (pa_cons (pv 3) (pa_cons (pv 4) pa_nil)))))))))))), ?_⟩
    refine ⟨_, rfl, (by show 1 ≤ sizeLine; decide), fun t ht => ?_⟩
    have s0 : Same H (upd H t (.tup [.int 45])) := Same.new ht
    refine ⟨a, t, b, [45], fun c => c == 45, rfl, s0.seq hA, SqT.of upd_same, fun c => ?_, hl, fun H1 q s1 hq => ?_⟩
    · exact mark1 45 c
    · obtain ⟨as, hs, pd⟩ := hq
      have s01 := s0.trans s1
      have el := pd_len pd
      refine ⟨_, rfl, q, _, rfl, .inl hs, rfl, _, rfl, ?_⟩
      rw [List.length_map]
      refine ite2 (fun g => ?_) (fun g => ?_)
      · refine k2 (day_not fun e => ?_) _ s01
        rw [el, e] at g
        simp at g
      · have e3 : as.length = 3 := by
          have g : decide (V.int (as.length : Int) = V.int ((3 : Nat) : Int)) = true := by simpa using g
          rw [dec_nat] at g
          exact of_decide_eq_true g
        obtain ⟨x0, x1, x2, rfl⟩ : ∃ x0 x1 x2, as = [x0, x1, x2] := by
          match as, e3 with
          | [x, y, z], _ => exact ⟨x, y, z, rfl⟩
        generalize hsp : Sf52.split (fun c => c == 45) b [] = parts_ at pd el
        cases pd with
        | cons p0 pd => cases pd with
          | cons p1 pd => cases pd with
            | cons p2 pd =>
              cases pd
              rename_i w0 w1 w2
              have lens : ∀ l ∈ [w0, w1, w2], l.length ≤ 4000 := fun l hm => by
                have := split_lens (fun c => c == 45) b [] l (by rw [hsp]; exact hm)
                simp at this
                omega
              have hday := day_three hsp
              refine ⟨_, rfl, q, _, _, _, rfl, rfl, hs, atI_nat (j := 0) rfl, ?_⟩
              refine ⟨x0, w0, 4, 1000, 9999, rfl, p0, lens _ (by simp), fun y hy H2 v2 s2 ev => ?_, fun hn H2 s2 => k2 (by rw [hday, hn]; rfl) _ (s01.trans s2)⟩
              subst ev
              refine ⟨_, rfl, q, _, _, _, rfl, rfl, s2.seq hs, atI_nat (j := 1) rfl, ?_⟩
              refine ⟨x1, w1, 2, 1, 12, rfl, s2.seq p1, lens _ (by simp), fun m hm H3 v3 s3 ev => ?_, fun hn H3 s3 => k2 (by rw [hday, hy, hn]; rfl) _ ((s01.trans s2).trans s3)⟩
              subst ev
              refine ⟨_, rfl, q, _, _, _, rfl, rfl, (s2.trans s3).seq hs, atI_nat (j := 2) rfl, ?_⟩
              refine ⟨x2, w2, 2, 1, 31, rfl, (s2.trans s3).seq p2, lens _ (by simp), fun dd hd H4 v4 s4 ev => ?_, fun hn H4 s4 => k2 (by rw [hday, hy, hm, hn]; rfl) _ (((s01.trans s2).trans s3).trans s4)⟩
              subst ev
              have S4 := ((s01.trans s2).trans s3).trans s4
              have y0 : y ≠ some 0 := fun e => by subst e; have := part_bounds hy; omega
              have m0 : m ≠ some 0 := fun e => by subst e; have := part_bounds hm; omega
              have d0 : dd ≠ some 0 := fun e => by subst e; have := part_bounds hd; omega
              have hd2 : Sf52.day b = dayOf y m dd := by rw [hday, hy, hm, hd]; rfl
              have bad : (told y = 0 ∧ told m ≠ 0) ∨ (told m = 0 ∧ told dd ≠ 0) → E (.ref CU) none H4 := fun z => k2 (by rw [hd2]; exact dayOf_bad y0 m0 d0 z) _ S4
              have z0 : ∀ n : Nat, decide (V.int (n : Int) = V.int 0) = decide (n = 0) := fun n => dec_nat n 0
              have rest : ¬ ((told y = 0 ∧ told m ≠ 0) ∨ (told m = 0 ∧ told dd ≠ 0)) → tSeq (tIfS (tAnd (tTest (tOp rNe (tVar 4) (tC (.int 0)))) (tTest (tOp (rI0 fun i j => .bl (decide (j < i))) (tVar 4) (tCall spMonth [] E0 (tCons (tVar 2) (tCons (tVar 3) tNil)))))) (fun _ _ H => E (.ref CU) none H) tNext)
                  (tRet (tTup (tCons (tVar 2) (tCons (tVar 3) (tCons (tVar 4) tNil))))) { nx := fun _ H' => Q .non H', rt := Q } [some (.ref a), some (.ref q), some (.int (told y : Int)), some (.int (told m : Int)), some (.int (told dd : Int))] H4 := fun hg => by
                have fin : (told dd ≠ 0 → ¬ Sf52.daysIn (told y) (told m) < told dd) → tRet (tTup (tCons (tVar 2) (tCons (tVar 3) (tCons (tVar 4) tNil)))) { nx := fun _ H' => Q .non H', rt := Q } [some (.ref a), some (.ref q), some (.int (told y : Int)), some (.int (told m : Int)), some (.int (told dd : Int))] H4 := fun hok => by
                  refine ⟨_, rfl, _, rfl, _, rfl, (by show 3 ≤ sizeLine; decide), fun p hp => ?_⟩
                  exact k1 ⟨y, m, dd⟩ (by rw [hd2]; exact dayOf_good y0 m0 d0 hg hok) _ _ (S4.trans (Same.new hp)) ⟨p, rfl, upd_same⟩
                refine ⟨_, rfl, rfl, _, rfl, ?_⟩
                rw [z0]
                refine ite2 (fun h => ?_) (fun h => ?_)
                · have h : told dd ≠ 0 := by simpa using h
                  have hm1 : told m ≠ 0 := fun e => hg (.inr ⟨e, h⟩)
                  have mb : 1 ≤ told m ∧ told m ≤ 12 := by
                    cases m with
                    | none => exact absurd rfl hm1
                    | some m1 => exact part_bounds hm
                  refine ⟨_, rfl, _, rfl, _, rfl, told y, told m, rfl, mb.1, mb.2, _, _, rfl, rfl, _, rfl, ite2 (fun l => ?_) (fun l => ?_)⟩
                  · have l := of_decide_eq_true l
                    exact k2 (by rw [hd2]; exact dayOf_late y0 m0 d0 hg h (by omega)) _ S4
                  · exact fin fun _ z => l (decide_eq_true (by omega))
                · exact iteF (fin fun z => absurd (by simpa using z) h)
              refine ⟨_, rfl, rfl, _, rfl, ?_⟩
              rw [z0]
              refine ite2 (fun h => ?_) (fun h => ?_)
              · have h : told y = 0 := of_decide_eq_true h
                refine ⟨_, rfl, rfl, _, rfl, ?_⟩
                rw [z0]
                refine ite2 (fun g2 => ?_) (fun g2 => ?_)
                · exact iteT (bad (.inl ⟨h, by simpa using g2⟩))
                · have g2 : told m = 0 := by simpa using g2
                  refine ⟨_, rfl, rfl, _, rfl, ?_⟩
                  rw [z0]
                  refine ite2 (fun h3 => ?_) (fun h3 => absurd (decide_eq_true g2) h3)
                  refine ⟨_, rfl, rfl, _, rfl, ?_⟩
                  rw [z0]
                  refine ite2 (fun h4 => ?_) (fun h4 => ?_)
                  · exact bad (.inr ⟨g2, by simpa using h4⟩)
                  · have h4 : told dd = 0 := by simpa using h4
                    exact rest (by omega)
              · have h : told y ≠ 0 := fun z => h (decide_eq_true z)
                refine iteF ⟨_, rfl, rfl, _, rfl, ?_⟩
                rw [z0]
                refine ite2 (fun h3 => ?_) (fun h3 => ?_)
                · have h3 : told m = 0 := of_decide_eq_true h3
                  refine ⟨_, rfl, rfl, _, rfl, ?_⟩
                  rw [z0]
                  refine ite2 (fun h4 => ?_) (fun h4 => ?_)
                  · exact bad (.inr ⟨h3, by simpa using h4⟩)
                  · have h4 : told dd = 0 := by simpa using h4
                    exact rest (by omega)
                · have h3 : told m ≠ 0 := fun z => h3 (decide_eq_true z)
                  exact iteF (rest (by omega))
end
end Kf
namespace Kf
open PySem PySem.Spec PyProof.Rows L2 KX
open Sf52 (Bytes)
def sexOf (b : Bytes) : Option Bool := if b = [102] then some true else if b = [109] then some false else none
def sexV (f : Bool) : V := .int (if f = true then 102 else 109)
section
variable {P : Program} {w : World} {K : PySem.W.Frag} {mg : Str → Option Value} {base : Heap} {CU CN fN CP fP : Addr}
abbrev sNumber : Stmt := top 37
def spNumber (K : PySem.W.Frag) (CU : Addr) : Sp := fun vs H Q E => ∃ (a : Addr) (b : Bytes), vs = [.ref a] ∧ SqL K H a (bv b) ∧ b.length ≤ 4000 ∧ b ≠ [] ∧ Res CU H Q E (Sf52.number b) (fun n _ v => v = .int (n : Int))
theorem scNumber : FnScope ["word", "number"] ["word"] (defScope sNumber) := ⟨rfl, rfl, rfl, by decide +kernel, rfl, by decide +kernel, by decide +kernel⟩
theorem ok_number (T : Txt K mg CU CN fN CP fP) (d : Def K mg "read_number" ["word"] sNumber) (O : Prom P w K mg base (CXo P w) 1 "read_digits" ["word"] (spDigits K CU)) : Prom P w K mg base (CXo P w) 2 "read_number" ["word"] (spNumber K CU) := by
  refine d.wild scNumber (fun vs H Q E h => ?_) (fun f cdv A outer s H vs Q E hr h => ?_)
  · obtain ⟨a, b, rfl, _⟩ := h
    rfl
  · obtain ⟨a, b, rfl, hA, hl, h0, k1, k2⟩ := h
    refine ⟨_, pss_cons (ps_set (i := 1) scNumber.nd rfl (Or.inl rfl) (pe_f O hr (passes_of throws_body rfl) (pa_cons (pv 0) pa_nil)))
      (pss_cons (ps_if (PW.pt (pw_or (pt_cmpR op_eq (pe_ix ix_list (pv 0) pe_int (fun _ _ => rfl)) (pe_gi T.zero) (nomark _)) (pw_or1 (pt_cmpR op_gt (pv 1) (pe_gi T.grea) (nomark _))))) (pss_one (ps_raise0 T.uC T.uI rfl T.uM rfl rfl throws_body)) pss_nil)
      (pss_one (ps_ret (pv 1)))), ?_⟩
    refine ⟨_, rfl, a, b, rfl, hA, hl, fun ha => ?_, fun ha => k2 (number_none (.inl ha)) _ (Same.refl _)⟩
    obtain ⟨c, r, rfl⟩ : ∃ c r, b = c :: r := by
      cases b with
      | nil => exact absurd rfl h0
      | cons c r => exact ⟨c, r, rfl⟩
    refine ⟨_, rfl, a, _, _, _, rfl, rfl, hA, atI_nat (j := 0) (v := .int (c.toNat : Int)) rfl, rfl, _, rfl, ?_⟩
    have ec : decide (V.int (c.toNat : Int) = V.int 48) = decide (c = 48) := by
      rw [show (48 : Int) = ((48 : UInt8).toNat : Int) from rfl, dec_nat]
      by_cases h : c = 48
      · subst h; rfl
      · rw [decide_eq_false h, decide_eq_false fun z => h (UInt8.toNat_inj.mp z)]
    rw [ec]
    refine ite2 (fun h => ?_) (fun h => ?_)
    · have h := of_decide_eq_true h
      subst h
      exact iteT (k2 (number_none (.inr (.inl rfl))) _ (Same.refl _))
    · have h : c ≠ 48 := fun z => h (decide_eq_true z)
      refine ⟨_, rfl, _, _, rfl, rfl, _, rfl, ite2 (fun l => ?_) (fun l => ?_)⟩
      · have l := of_decide_eq_true l
        exact k2 (number_none (.inr (.inr (by omega)))) _ (Same.refl _)
      · have l : ¬ (9999 : Int) < (Sf52.value (c :: r) : Int) := fun z => l (decide_eq_true z)
        exact ⟨_, rfl, k1 _ (number_ok h0 ha (fun z => h (Option.some.inj z)) (by omega)) _ _ (Same.refl _) rfl⟩
abbrev sSex : Stmt := top 38
def spSex (K : PySem.W.Frag) (CU : Addr) : Sp := fun vs H Q E => ∃ (a : Addr) (b : Bytes), vs = [.ref a] ∧ SqL K H a (bv b) ∧ Res CU H Q E (sexOf b) (fun x _ v => v = sexV x)
theorem scSex : FnScope ["word"] ["word"] (defScope sSex) := ⟨rfl, rfl, rfl, by decide +kernel, rfl, by decide +kernel, by decide +kernel⟩
theorem ok_sex (T : Txt K mg CU CN fN CP fP) (d : Def K mg "read_sex" ["word"] sSex) : Prom P w K mg base (CXo P w) 1 "read_sex" ["word"] (spSex K CU) := by
  refine d.wild scSex (fun vs H Q E h => ?_) (fun f cdv A outer s H vs Q E hr h => ?_)
  · obtain ⟨a, b, rfl, _⟩ := h
    rfl
  · obtain ⟨a, b, rfl, hA, k1, k2⟩ := h
    refine ⟨_, pss_cons (ps_if (PW.pt (pw_and (pt_cmpR (op_neD hr.units) (pv 0) (pe_lst (pa_cons (pe_gi T.fem) pa_nil)) (nomark _)) (pw_and1 (pt_cmpR (op_neD hr.units) (pv 0) (pe_lst (pa_cons (pe_gi T.male) pa_nil)) (nomark _))))) (pss_one (ps_raise0 T.uC T.uI rfl T.uM rfl rfl throws_body)) pss_nil)
      (pss_one (ps_ret (pe_ix ix_list (pv 0) pe_int (fun _ _ => rfl)))), ?_⟩
    refine ⟨_, rfl, (by show 1 ≤ sizeLine; decide), fun p hp => ?_⟩
    have s1 : Same H (upd H p (.lst [.int 102])) := Same.new hp
    refine ne_bv (c := [102]) (s1.seq hA) (SqL.of upd_same) ⟨_, rfl, ite2 (fun h => ?_) (fun h => ?_)⟩
    · have h : b ≠ [102] := by simpa using h
      refine ⟨_, rfl, (by show 1 ≤ sizeLine; decide), fun p2 hp2 => ?_⟩
      have s2 : Same H (upd (upd H p (.lst [.int 102])) p2 (.lst [.int 109])) := s1.trans (Same.new hp2)
      refine ne_bv (c := [109]) (s2.seq hA) (SqL.of upd_same) ⟨_, rfl, ite2 (fun g => ?_) (fun g => ?_)⟩
      · have g : b ≠ [109] := by simpa using g
        exact k2 (by unfold sexOf; rw [if_neg h, if_neg g]) _ s2
      · have g : b = [109] := by simpa using g
        subst g
        refine ⟨_, rfl, a, _, _, _, rfl, rfl, s2.seq hA, atI_nat (j := 0) rfl, ?_⟩
        exact k1 false rfl _ _ s2 rfl
    · have h : b = [102] := by simpa using h
      subst h
      refine iteF ⟨_, rfl, a, _, _, _, rfl, rfl, s1.seq hA, atI_nat (j := 0) rfl, ?_⟩
      exact k1 true rfl _ _ s1 rfl
abbrev sParent : Stmt := top 40
def spParent (K : PySem.W.Frag) (CU : Addr) : Sp := fun vs H Q E => ∃ (a : Addr) (b : Bytes), vs = [.ref a] ∧ SqL K H a (bv b) ∧ b.length ≤ 4000 ∧ b ≠ [] ∧ Res CU H Q E (Sf52.parent b) (fun o _ v => v = .int (told o : Int))
theorem scParent : FnScope ["word"] ["word"] (defScope sParent) := ⟨rfl, rfl, rfl, by decide +kernel, rfl, by decide +kernel, by decide +kernel⟩
theorem ok_parent (T : Txt K mg CU CN fN CP fP) (d : Def K mg "read_parent" ["word"] sParent) (O : Prom P w K mg base (CXo P w) 2 "read_number" ["word"] (spNumber K CU)) : Prom P w K mg base (CXo P w) 3 "read_parent" ["word"] (spParent K CU) := by
  refine d.wild scParent (fun vs H Q E h => ?_) (fun f cdv A outer s H vs Q E hr h => ?_)
  · obtain ⟨a, b, rfl, _⟩ := h
    rfl
  · obtain ⟨a, b, rfl, hA, hl, h0, k1, k2⟩ := h
    refine ⟨_, pss_cons (ps_if (pt_cmpR (op_eqD hr.units) (pv 0) (pe_lst (pa_cons (pe_gi T.notk) pa_nil)) (nomark _)) (pss_one (ps_ret (pe_gi T.nobo))) pss_nil)
      (pss_one (ps_ret (pe_f O hr (passes_of throws_body rfl) (pa_cons (pv 0) pa_nil)))), ?_⟩
    refine ⟨_, rfl, (by show 1 ≤ sizeLine; decide), fun p hp => ?_⟩
    have s1 : Same H (upd H p (.lst [.int 45])) := Same.new hp
    refine eq_bv (c := [45]) (s1.seq hA) (SqL.of upd_same) ⟨_, rfl, ite2 (fun h => ?_) (fun h => ?_)⟩
    · have h := of_decide_eq_true h
      subst h
      exact k1 none parent_dash _ _ s1 rfl
    · have h : b ≠ [45] := fun z => h (decide_eq_true z)
      refine ⟨_, rfl, a, b, rfl, s1.seq hA, hl, h0, fun n hn H' v s' ev => ?_, fun hn H' s' => k2 (by rw [parent_num h, hn]; rfl) _ (s1.trans s')⟩
      subst ev
      exact k1 (some n) (by rw [parent_num h, hn]; rfl) _ _ (s1.trans s') rfl
abbrev sWords : Stmt := top 35
def spWords (K : PySem.W.Frag) : Sp := fun vs H Q _ => ∃ (a : Addr) (b : Bytes), vs = [.ref a] ∧ SqL K H a (bv b) ∧ b.length ≤ 4000 ∧ ∀ (H' : Hp) (q : Addr), Same H H' → LL K H' q (Sf52.words b) → Q (.ref q) H'
theorem scWords : FnScope ["content", "told", "word"] ["content"] (defScope sWords) := ⟨rfl, rfl, rfl, by decide +kernel, rfl, by decide +kernel, by decide +kernel⟩
theorem filter_take {ws : List Bytes} {i : Nat} {x : Bytes} (h : ws[i]? = some x) : (ws.take (i + 1)).filter (fun w => w != []) = (ws.take i).filter (fun w => w != []) ++ (if x = [] then [] else [x]) := by
  rw [List.take_add_one, h, List.filter_append]
  congr 1
  by_cases e : x = []
  · subst e; rfl
  · rw [if_neg e]
    show List.filter (fun w => w != []) [x] = [x]
    rw [List.filter_cons, if_pos (by simpa using e)]
    rfl
theorem ok_words (T : Txt K mg CU CN fN CP fP) (d : Def K mg "words_of" ["content"] sWords) (O : Prom P w K mg base CX0 1 "split_at" ["values", "marks"] (spSplit K)) : Prom P w K mg base CX0 2 "words_of" ["content"] (spWords K) := by
  refine d.calm scWords (fun vs H Q E h => ?_) (fun f cdv A outer s H vs Q E hr h => ?_)
  · obtain ⟨a, b, rfl, _⟩ := h
    rfl
  · obtain ⟨a, b, rfl, hA, hl, k⟩ := h
    obtain ⟨ab, eb, sb⟩ := T.bla
    refine ⟨_, pss_cons (ps_set (i := 1) scWords.nd rfl (Or.inl rfl) (pe_ix ix_list (pe_fc O hr (pa_cons (pv 0) (pa_cons (pe_tup (pa_cons (pe_gi T.hash) pa_nil)) pa_nil))) pe_int (fun _ _ => rfl)))
      (pss_one (ps_ret (lcS [("word", 2)] scWords rfl rfl rfl (pi_list (pe_fc O hr (pa_cons (pv 1) (pa_cons (pe_glob (v := .ref ab) rfl eb rfl) pa_nil))))
        (fun _ _ _ _ _ => pg_name (i := 2) scWords.nd rfl (Or.inl rfl)) (fun _ _ _ _ _ => pts_one (pt_cmpR op_gt (pe_callB (lenK K rfl) (by rfl) T.len PySem.boot_len (pa_cons (pv 2) pa_nil)) pe_int (nomark _))) (fun _ _ _ _ _ => pv 2)))), ?_⟩
    refine ⟨_, rfl, (by show 1 ≤ sizeLine; decide), fun t ht => ?_⟩
    have s0 : Same H (upd H t (.tup [.int 35])) := Same.new ht
    refine ⟨a, t, b, [35], fun c => c == 35, rfl, s0.seq hA, SqT.of upd_same, mark1 35, hl, fun H1 q s1 hq => ?_⟩
    obtain ⟨as, hs, pd⟩ := hq
    have s01 := s0.trans s1
    obtain ⟨l, el⟩ := split_head (fun c => c == 35) b []
    rw [el] at pd
    cases pd with
    | cons p0 pd =>
      rename_i x0 as
      rw [List.nil_append] at p0
      refine ⟨q, _, _, _, rfl, rfl, hs, atI_nat (j := 0) rfl, ?_⟩
      have hl2 : (b.takeWhile fun c => !(c == 35)).length ≤ 4000 := Nat.le_trans (List.takeWhile_prefix _).length_le hl
      refine ⟨_, rfl, x0, ab, b.takeWhile fun c => !(c == 35), [32, 9], Sf52.blank, rfl, p0, sb H1, mark2, hl2, fun H2 q2 s2 hq2 => ?_⟩
      obtain ⟨as2, hs2, pd2⟩ := hq2
      have S2 := s01.trans s2
      refine ⟨q2, rfl, ⟨_, hs2⟩, fun D hD => ?_⟩
      generalize hsp : Sf52.split Sf52.blank (b.takeWhile fun c => !(c == 35)) [] = ws at pd2
      have hw : Sf52.words b = ws.filter fun w => w != [] := by
        unfold Sf52.words
        rw [← hsp]
        rfl
      have wl : ws.length ≤ 4001 := by
        have := split_len Sf52.blank (b.takeWhile fun c => !(c == 35)) []
        rw [hsp] at this
        omega
      have el2 := pd_len pd2
      refine lc_list (K := K) (a := q2) (xs := as2.map V.ref) (fun i H' => ∃ bs : List Addr, H' D = some (.lst (bs.map V.ref)) ∧ Same H2 H' ∧ Paired (fun q w => SqL K H2 q (bv w)) bs ((ws.take i).filter fun w => w != []))
        ⟨[], upd_same, Same.new hD, .nil⟩ (fun i H' _ ⟨_, _, s3, _⟩ => s3.seq hs2) ?_ ?_
      · rintro i y H' hi ⟨bs, h1, s3, pb⟩
        rw [List.getElem?_map] at hi
        cases e : as2[i]? with
        | none => rw [e] at hi; cases hi
        | some r =>
          rw [e] at hi
          cases hi
          obtain ⟨u, hu, hr2⟩ := paired_get pd2 e
          have il : i < ws.length := (List.getElem?_eq_some_iff.mp hu).1
          have ft := filter_take hu
          refine ⟨rfl, _, rfl, r, _, rfl, .inl (s3.seq hr2), _, _, rfl, rfl, _, rfl, ?_⟩
          rw [bv_len]
          refine ite2 (fun g => ?_) (fun g => ?_)
          · have g := of_decide_eq_true g
            have g : u ≠ [] := fun z => by rw [z] at g; exact absurd g (by decide)
            rw [if_neg g] at ft
            refine ⟨_, rfl, _, h1, ?_, bs ++ [r], by rw [upd_same, List.map_append]; rfl, s3.young hD, ?_⟩
            · rw [List.length_map, pd_len pb]
              refine sz ?_
              have := List.length_filter_le (fun w : Bytes => w != []) (ws.take i)
              rw [List.length_take] at this
              omega
            · rw [ft]
              exact pd_snoc pb hr2
          · have g : u = [] := by
              cases u with
              | nil => rfl
              | cons x r => exact absurd (decide_eq_true (by simp only [List.length_cons]; omega)) g
            rw [if_pos g, List.append_nil] at ft
            exact ⟨bs, h1, s3, by rw [ft]; exact pb⟩
      · rintro H' ⟨bs, h1, s3, pb⟩
        rw [List.length_map, el2, List.take_length] at pb
        exact k H' D (S2.trans s3) ⟨bs, SqL.of h1, by rw [hw]; exact pd_imp pb fun q w _ hq => s3.seq hq⟩
end
end Kf
namespace Kf
open PySem PySem.Spec PyProof.Rows L2 KX
open Sf52 (Bytes)
theorem pd_app {α β : Type} {F : α → β → Prop} : ∀ {m1 m2 : List β} {l : List α}, Paired F l (m1 ++ m2) → ∃ l1 l2, l = l1 ++ l2 ∧ Paired F l1 m1 ∧ Paired F l2 m2
  | [], m2, l, h => ⟨[], l, rfl, .nil, h⟩
  | b :: m1, m2, l, h => by
    have h : Paired F l (b :: (m1 ++ m2)) := h
    cases h with
    | cons x r =>
      obtain ⟨l1, l2, e, a, c⟩ := pd_app r
      subst e
      exact ⟨_ :: l1, l2, rfl, .cons x a, c⟩
theorem last3 {α : Type} {l : List α} (h : 3 ≤ l.length) : ∃ n a b c, l = n ++ [a, b, c] := by
  have e := List.take_append_drop (l.length - 3) l
  have hl : (l.drop (l.length - 3)).length = 3 := by rw [List.length_drop]; omega
  match l.drop (l.length - 3), hl, e with
  | [a, b, c], _, e => exact ⟨_, a, b, c, e.symm⟩
theorem atI_neg {α : Type} {xs : List α} {k : Nat} {v : α} (h0 : 0 < k) (hk : k ≤ xs.length) (h : xs[xs.length - k]? = some v) : atI xs (-(k : Int)) = some v := by
  unfold atI ixN
  rw [if_neg (by omega), if_pos (by omega)]
  show xs[(-(k : Int) + (xs.length : Int)).toNat]? = some v
  rw [show (-(k : Int) + (xs.length : Int)).toNat = xs.length - k by omega]
  exact h
theorem cut_all3 (l : List V) (a b c : V) : cutV (l ++ [a, b, c]) none (some (-3)) = l := by
  unfold cutV
  have e0 : HT.sIx (l ++ [a, b, c]).length 0 none = 0 := rfl
  have e1 : HT.sIx (l ++ [a, b, c]).length (l ++ [a, b, c]).length (some (-3)) = l.length := by
    unfold HT.sIx
    dsimp only
    rw [if_pos (by decide), List.length_append]
    simp only [List.length_cons, List.length_nil]
    omega
  rw [e0, e1]
  simp
section
variable {P : Program} {w : World} {K : PySem.W.Frag} {mg : Str → Option Value} {base : Heap} {CU CN fN CP fP : Addr}
abbrev sName : Stmt := top 39
def ParAt (H : Hp) (p : Addr) (f m : Option Nat) : Prop := H p = some (.tup [.int (told f : Int), .int (told m : Int)])
def Wds (r : List Bytes) : Prop := (∀ u ∈ r, u ≠ [] ∧ u.length ≤ 4000) ∧ r.length ≤ 4001
def spName (K : PySem.W.Frag) (CU : Addr) : Sp := fun vs H Q E => ∃ (a : Addr) (r : List Bytes), vs = [.ref a] ∧ LL K H a r ∧ Wds r ∧ Res CU H Q E (tail r) (fun x H' v => ∃ p, v = .ref p ∧ ParAt H' p x.1 x.2)
theorem scName : FnScope ["words", "name", "parents", "word"] ["words"] (defScope sName) := ⟨rfl, rfl, rfl, by decide +kernel, rfl, by decide +kernel, by decide +kernel⟩
theorem any_take {ws : List Bytes} {i : Nat} {x : Bytes} (h : ws[i]? = some x) : (ws.take (i + 1)).map (fun w => w.contains 60) = (ws.take i).map (fun w => w.contains 60) ++ [x.contains 60] := by
  rw [List.take_add_one, h, List.map_append]; rfl
theorem cont60 (u : Bytes) : inV (.int 60) (bv u) = u.contains 60 := by
  unfold inV bv
  induction u with
  | nil => rfl
  | cons c r ih =>
    rw [List.map_cons, List.any_cons, ih, List.contains_cons]
    congr 1
    show ((c.toNat : Int) == (60 : Int)) = ((60 : UInt8) == c)
    have := byte_eq c 60
    exact this
theorem flat_bv (u : Bytes) : (bv u).all flatV = true := by rw [bv_ints]; exact flat_ints _
theorem ok_name (T : Txt K mg CU CN fN CP fP) (d : Def K mg "read_name_and_parents" ["words"] sName) (O : Prom P w K mg base (CXo P w) 3 "read_parent" ["word"] (spParent K CU)) : Prom P w K mg base (CXo P w) 4 "read_name_and_parents" ["words"] (spName K CU) := by
  refine d.wild scName (fun vs H Q E h => ?_) (fun f cdv A outer s H vs Q E hr h => ?_)
  · obtain ⟨a, r, rfl, _⟩ := h
    rfl
  · obtain ⟨a, r, rfl, ⟨as, hs, pd⟩, ⟨hw, hl⟩, k1, k2⟩ := h
    have el := pd_len pd
    obtain ⟨t, ht, rd⟩ : ∃ t, PSs (cxOf (CXo P w) P w K mg base ["words", "name", "parents", "word"] "read_name_and_parents" (defScope sName) f cdv A outer s H E) ((defBody sName).drop 3) t ∧
        ∀ (H1 : Hp) (nm tp : Addr) (n : List Bytes) (x : Option Nat × Option Nat), Same H H1 → LL K H1 nm n → n.length ≤ 4001 → ParAt H1 tp x.1 x.2 → (n = [] ∨ n.any (fun w => w.contains 60) = true → tail r = none) → (¬ (n = [] ∨ n.any (fun w => w.contains 60) = true) → tail r = some x) →
          t { nx := fun _ H' => Q .non H', rt := Q } [some (.ref a), some (.ref nm), some (.ref tp), none] H1 := by
      refine ⟨_, pss_cons (ps_if (PW.pt (pw_or (pt_cmpR op_eq (pe_callB call_len_seq (by rfl) T.len PySem.boot_len (pa_cons (pv 1) pa_nil)) pe_int (nomark _))
          (pw_or1 (pt_val (pe_callB (cr_any rfl) (by rfl) T.any PyProof.Rows.boot_any (pa_cons (lcS [("word", 3)] scName rfl rfl rfl (pi_list (pv 1)) (fun _ _ _ _ _ => pg_name (i := 3) scName.nd rfl (Or.inl rfl)) (fun _ _ _ _ _ => pts_nil)
            (fun _ _ _ _ _ => pe_cmpR (inK K rfl) (pe_gi T.less) (pv 3) (by with_unfolding_all rfl))) pa_nil)))))) (pss_one (ps_raise0 T.uC T.uI rfl T.uM rfl rfl throws_body)) pss_nil)
        (pss_one (ps_ret (pv 2))), fun H1 nm tp n x s1 ⟨an, hn, pn⟩ hnl hp kb kg => ?_⟩
      have eln := pd_len pn
      refine ⟨_, rfl, nm, _, rfl, .inl hn, rfl, _, rfl, ?_⟩
      rw [List.length_map, show ((0 : Int)) = ((0 : Nat) : Int) from rfl, dec_nat]
      refine ite2 (fun h => ?_) (fun h => ?_)
      · refine iteT (k2 (kb (.inl ?_)) _ s1)
        have h := of_decide_eq_true h
        rw [eln] at h
        exact List.length_eq_zero_iff.mp h
      · have h : n ≠ [] := fun e => h (decide_eq_true (by rw [eln, e]; rfl))
        refine ⟨_, rfl, nm, rfl, ⟨_, hn⟩, fun D hD => ?_⟩
        refine lc_list (K := K) (a := nm) (xs := an.map V.ref) (fun i H' => H' D = some (.lst (((n.take i).map fun w => w.contains 60).map V.bl)) ∧ Same H1 H')
          ⟨upd_same, Same.new hD⟩ (fun i H' _ ⟨_, s3⟩ => s3.seq hn) ?_ ?_
        · rintro i y H' hi ⟨h1, s3⟩
          rw [List.getElem?_map] at hi
          cases e : an[i]? with
          | none => rw [e] at hi; cases hi
          | some r =>
            rw [e] at hi
            cases hi
            obtain ⟨u, hu, hr2⟩ := paired_get pn e
            have il : i < n.length := (List.getElem?_eq_some_iff.mp hu).1
            refine ⟨rfl, ⟨_, rfl, r, _, rfl, .inl (s3.seq hr2), rfl, flat_bv u, _, h1, ?_, ?_, s3.young hD⟩⟩
            · rw [List.length_map, List.length_map, List.length_take]; exact sz (by omega)
            · rw [upd_same, any_take hu, List.map_append, if_neg (by simp), cont60]; rfl
        · rintro H' ⟨h1, s3⟩
          rw [List.length_map, eln, List.take_length] at h1
          refine ⟨D, _, rfl, SqL.of h1, _, rfl, ?_⟩
          have ea : (n.map fun w => w.contains 60).any id = n.any fun w => w.contains 60 := by rw [List.any_map]; rfl
          rw [ea]
          refine ite2 (fun g => ?_) (fun g => ?_)
          · exact k2 (kb (.inr g)) _ (s1.trans s3)
          · exact ⟨_, rfl, k1 x (kg fun z => z.elim h g) _ _ (s1.trans s3) ⟨tp, rfl, s3 _ _ hp⟩⟩
    refine ⟨_, pss_cons (ps_set (i := 1) scName.nd rfl (Or.inl rfl) (pv 0))
      (pss_cons (ps_set (i := 2) scName.nd rfl (Or.inl rfl) (pe_tup (pa_cons (pe_gi T.nobo) (pa_cons (pe_gi T.nobo) pa_nil))))
      (pss_cons (ps_if (PW.pt (pw_and (pt_cmpR op_ge (pe_callB call_len_seq (by rfl) T.len PySem.boot_len (pa_cons (pv 0) pa_nil)) pe_int (nomark _)) (pw_and1 (pt_cmpR (op_eqD hr.units) (pe_ix ix_list (pv 0) (pe_un un_neg pe_int) (fun _ _ => rfl)) (pe_lst (pa_cons (pe_gi T.less) pa_nil)) (nomark _)))))
        (pss_cons (ps_set (i := 1) scName.nd rfl (Or.inl rfl) (pe_slice sl_list (pv 0) po_none (po_some (pe_un un_neg pe_int))))
          (pss_one (ps_set (i := 2) scName.nd rfl (Or.inl rfl) (pe_tup (pa_cons (pe_f O hr (passes_of throws_body rfl) (pa_cons (pe_ix ix_list (pv 0) (pe_un un_neg pe_int) (fun _ _ => rfl)) pa_nil)) (pa_cons (pe_f O hr (passes_of throws_body rfl) (pa_cons (pe_ix ix_list (pv 0) (pe_un un_neg pe_int) (fun _ _ => rfl)) pa_nil)) pa_nil)))))) pss_nil)
      ht)), ?_⟩
    refine ⟨_, rfl, (by show 2 ≤ sizeLine; decide), fun tp htp => ?_⟩
    have s1 : Same H (upd H tp (.tup [.int 0, .int 0])) := Same.new htp
    have plain : (¬ ∃ n f m, r = n ++ [[60], f, m]) → ∀ H2, Same (upd H tp (.tup [.int 0, .int 0])) H2 → t { nx := fun _ H' => Q .non H', rt := Q } [some (.ref a), some (.ref a), some (.ref tp), none] H2 := fun hn H2 s2 => by
      have e := tail_plain hn
      exact rd H2 a tp r (none, none) (s1.trans s2) ⟨as, (s1.trans s2).seq hs, pd_imp pd fun q u _ hq => (s1.trans s2).seq hq⟩ hl (s2 _ _ upd_same) (fun z => by rw [e, if_pos z]) (fun z => by rw [e, if_neg z])
    refine ⟨_, rfl, a, _, rfl, .inl (s1.seq hs), _, _, rfl, rfl, _, rfl, ?_⟩
    rw [List.length_map, el]
    refine ite2 (fun h => ?_) (fun h => ?_)
    · have h := of_decide_eq_true h
      obtain ⟨n, w3, wf, wm, rfl⟩ := last3 (l := r) (by omega)
      obtain ⟨an, am, rfl, pn, pm⟩ := pd_app pd
      cases pm with
      | cons p3 pm => cases pm with
        | cons pf pm => cases pm with
          | cons pm pz =>
            cases pz
            rename_i x3 xf xm
            have len3 : (List.map V.ref (an ++ [x3, xf, xm])).length = an.length + 3 := by simp
            have at3 : ∀ (k : Nat) (v : Addr), 0 < k → k ≤ 3 → (an ++ [x3, xf, xm])[an.length + 3 - k]? = some v → atI (List.map V.ref (an ++ [x3, xf, xm])) (-(k : Int)) = some (.ref v) := fun k v h0 h3 hv =>
              atI_neg h0 (by rw [len3]; omega) (by rw [len3, List.getElem?_map, hv]; rfl)
            have i3 : (an ++ [x3, xf, xm])[an.length + 3 - 3]? = some x3 := by simp
            have i2 : (an ++ [x3, xf, xm])[an.length + 3 - 2]? = some xf := by rw [List.getElem?_append_right (by omega), show an.length + 3 - 2 - an.length = 1 by omega]; rfl
            have i1 : (an ++ [x3, xf, xm])[an.length + 3 - 1]? = some xm := by rw [List.getElem?_append_right (by omega), show an.length + 3 - 1 - an.length = 2 by omega]; rfl
            refine ⟨_, rfl, _, rfl, a, _, _, _, rfl, rfl, s1.seq hs, at3 3 x3 (by omega) (by omega) i3, (by show 1 ≤ sizeLine; decide), fun p hp => ?_⟩
            have s2 : Same (upd H tp (.tup [.int 0, .int 0])) (upd (upd H tp (.tup [.int 0, .int 0])) p (.lst [.int 60])) := Same.new hp
            refine eq_bv (c := [60]) ((s1.trans s2).seq p3) (SqL.of upd_same) ⟨_, rfl, ite2 (fun g => ?_) (fun g => ?_)⟩
            · have g := of_decide_eq_true g
              subst g
              refine ⟨_, rfl, _, rfl, _, rfl, a, _, rfl, (s1.trans s2).seq hs, fun q hq => ?_⟩
              have S2 := s1.trans s2
              have ecut : cutV (List.map V.ref (an ++ [x3, xf, xm])) none (some (-3)) = an.map V.ref := by rw [List.map_append]; exact cut_all3 _ _ _ _
              rw [ecut]
              generalize hH3 : upd (upd (upd H tp (.tup [.int 0, .int 0])) p (.lst [.int 60])) q (.lst (an.map V.ref)) = H3
              have s3 : Same H H3 := by rw [← hH3]; exact S2.trans (Same.new hq)
              have hq3 : H3 q = some (.lst (an.map V.ref)) := by rw [← hH3]; exact upd_same
              refine ⟨_, rfl, _, rfl, a, _, _, _, rfl, rfl, s3.seq hs, at3 2 xf (by omega) (by omega) i2, ?_⟩
              have et := tail_lt n wf wm
              have nx : ∀ nn : List Bytes, (tail (nn ++ [[60], wf, wm]) = if nn = [] ∨ nn.any (fun w => w.contains 60) = true then none else (Sf52.parent wf).bind fun f => (Sf52.parent wm).map fun m => (f, m)) := fun nn => tail_lt nn wf wm
              have wF := hw wf (by simp)
              have wM := hw wm (by simp)
              refine ⟨xf, wf, rfl, s3.seq pf, wF.2, wF.1, fun o ho H4 v4 s4 ev => ?_, fun hn H4 s4 => k2 (by rw [et, hn]; split <;> rfl) _ (s3.trans s4)⟩
              subst ev
              refine ⟨_, rfl, _, rfl, a, _, _, _, rfl, rfl, (s3.trans s4).seq hs, at3 1 xm (by omega) (by omega) i1, ?_⟩
              refine ⟨xm, wm, rfl, (s3.trans s4).seq pm, wM.2, wM.1, fun o2 ho2 H5 v5 s5 ev => ?_, fun hn H5 s5 => k2 (by rw [et, ho, hn]; split <;> rfl) _ ((s3.trans s4).trans s5)⟩
              subst ev
              refine ⟨(by show 2 ≤ sizeLine; decide), fun tq htq => ?_⟩
              have S5 := (s3.trans s4).trans s5
              have s6 : Same H5 (upd H5 tq (.tup [.int (told o : Int), .int (told o2 : Int)])) := Same.new htq
              refine rd _ q tq n (o, o2) (S5.trans s6) ⟨an, SqL.of (((s4.trans s5).trans s6) _ _ hq3), pd_imp pn fun z u _ hz => (S5.trans s6).seq hz⟩ (by rw [List.length_append] at hl; omega) upd_same (fun z => by rw [et, if_pos z]) (fun z => by rw [et, if_neg z, ho, ho2]; rfl)
            · have g : w3 ≠ [60] := fun z => g (decide_eq_true z)
              refine plain (fun ⟨n', f', m', e⟩ => g ?_) _ s2
              have e2 := congrArg List.reverse e
              simp at e2
              exact e2.2.2.1
    · refine iteF (plain (fun ⟨n', f', m', e⟩ => h ?_) _ (Same.refl _))
      rw [e]
      exact decide_eq_true (by simp only [List.length_append, List.length_cons, List.length_nil]; omega)
end
end Kf
namespace Kf
open PySem PySem.Spec PyProof.Rows L2 KX
open Sf52 (Bytes)
open Sf91 (ids)
theorem pd_cons {α β : Type} {F : α → β → Prop} {l : List α} {b : β} {m : List β} (h : Paired F l (b :: m)) : ∃ a l', l = a :: l' ∧ F a b ∧ Paired F l' m := by
  cases h with
  | cons x r => exact ⟨_, _, rfl, x, r⟩
def pf (r n s b d p : V) : List (Str × V) := putF "parents" p (putF "death" d (putF "birth" b (putF "sex" s (putF "number" n (putF "row" r [])))))
section
variable (r n s b d p : V)
theorem pf_row : (pf r n s b d p).lookup ("row" : Str) = some r := by
  unfold pf
  rw [lookup_putF, if_neg (by decide), lookup_putF, if_neg (by decide), lookup_putF, if_neg (by decide), lookup_putF, if_neg (by decide), lookup_putF, if_neg (by decide), lookup_putF, if_pos rfl]
theorem pf_number : (pf r n s b d p).lookup ("number" : Str) = some n := by
  unfold pf
  rw [lookup_putF, if_neg (by decide), lookup_putF, if_neg (by decide), lookup_putF, if_neg (by decide), lookup_putF, if_neg (by decide), lookup_putF, if_pos rfl]
theorem pf_sex : (pf r n s b d p).lookup ("sex" : Str) = some s := by
  unfold pf
  rw [lookup_putF, if_neg (by decide), lookup_putF, if_neg (by decide), lookup_putF, if_neg (by decide), lookup_putF, if_pos rfl]
theorem pf_birth : (pf r n s b d p).lookup ("birth" : Str) = some b := by
  unfold pf
  rw [lookup_putF, if_neg (by decide), lookup_putF, if_neg (by decide), lookup_putF, if_pos rfl]
theorem pf_death : (pf r n s b d p).lookup ("death" : Str) = some d := by
  unfold pf
  rw [lookup_putF, if_neg (by decide), lookup_putF, if_pos rfl]
theorem pf_parents : (pf r n s b d p).lookup ("parents" : Str) = some p := by
  unfold pf
  rw [lookup_putF, if_pos rfl]
end
theorem putF_few {f : Str} {v : V} {fs : List (Str × V)} {k : Nat} (h : fs.length ≤ k) : (putF f v fs).length ≤ k + 1 := Nat.le_trans (length_putF f v fs) (Nat.add_le_add_right h 1)
def PersonAt (CP : Addr) (H : Hp) (q : Addr) (row : Nat) (p : Sf52.Person) : Prop :=
  ∃ dx ab ad ap, H q = some (.ins CP dx (pf (.int (row : Int)) (.int (p.id : Int)) (sexV p.female) (.ref ab) (.ref ad) (.ref ap))) ∧ DayAt H ab p.birth ∧ DayAt H ad p.death ∧ ParAt H ap p.father p.mother
theorem PersonAt.same {CP : Addr} {H H' : Hp} {q : Addr} {row : Nat} {p : Sf52.Person} (x : PersonAt CP H q row p) (s : Same H H') : PersonAt CP H' q row p := by
  obtain ⟨dx, ab, ad, ap, a, b, c, d⟩ := x
  exact ⟨dx, ab, ad, ap, s _ _ a, s _ _ b, s _ _ c, s _ _ d⟩
section
variable {P : Program} {w : World} {K : PySem.W.Frag} {mg : Str → Option Value} {base : Heap} {CU CN fN CP fP : Addr}
abbrev sPInit : Stmt := inClass (top 32) 0
abbrev psP : List Str := ["self", "row", "number", "sex", "birth", "death", "parents"]
def spPInit (CP : Addr) : Sp := fun vs H Q _ => ∃ (x dx : Addr) (r n s b d p : V), vs = [.ref x, r, n, s, b, d, p] ∧ H x = some (.ins CP dx []) ∧ ∀ H' : Hp, H' x = some (.ins CP dx (pf r n s b d p)) → (∀ c o, H c = some o → c ≠ x → H' c = some o) → Q .non H'
theorem scPInit : FnScope psP psP (defScope sPInit) := ⟨rfl, rfl, rfl, by decide +kernel, rfl, by decide +kernel, by decide +kernel⟩
def DefP (K : PySem.W.Frag) (fP : Addr) : Prop := ∃ fd, Fun K "__init__" "Person.__init__" sPInit fP fd ∧ Binds K fd psP []
theorem ok_pinit (T : Txt K mg CU CN fN CP fP) {fd : FuncData} (F : Fun K "__init__" "Person.__init__" sPInit fP fd) : FnOk P w K mg base CX0 1 fP fd psP (spPInit CP) := by
  refine F.ok scPInit (fun vs H Q E h => ?_) (fun cdv A outer s H vs Q E hr h => ?_)
  · obtain ⟨x, dx, r, n, s', b, d, p, rfl, _⟩ := h
    rfl
  · obtain ⟨x, dx, r, n, s', b, d, p, rfl, hx, k⟩ := h
    refine ⟨_, pss_cons (ps_fld (pv 0) (pv 1) rfl) (pss_cons (ps_fld (pv 0) (pv 2) rfl) (pss_cons (ps_fld (pv 0) (pv 3) rfl) (pss_cons (ps_fld (pv 0) (pv 4) rfl) (pss_cons (ps_fld (pv 0) (pv 5) rfl) (pss_one (ps_fld (pv 0) (pv 6) rfl)))))), ?_⟩
    have l0 : ([] : List (Str × V)).length ≤ 0 := Nat.le_refl _
    have l1 := putF_few (f := "row") (v := r) l0
    have l2 := putF_few (f := "number") (v := n) l1
    have l3 := putF_few (f := "sex") (v := s') l2
    have l4 := putF_few (f := "birth") (v := b) l3
    have l5 := putF_few (f := "death") (v := d) l4
    refine ⟨_, rfl, _, rfl, x, CP, dx, [], rfl, hx, T.pC, T.pr, (by show 0 < 1000; decide), ?_⟩
    refine ⟨_, rfl, _, rfl, x, CP, dx, _, rfl, upd_same, T.pC, T.pn, Nat.lt_of_le_of_lt l1 (by decide), ?_⟩
    refine ⟨_, rfl, _, rfl, x, CP, dx, _, rfl, upd_same, T.pC, T.ps, Nat.lt_of_le_of_lt l2 (by decide), ?_⟩
    refine ⟨_, rfl, _, rfl, x, CP, dx, _, rfl, upd_same, T.pC, T.pb, Nat.lt_of_le_of_lt l3 (by decide), ?_⟩
    refine ⟨_, rfl, _, rfl, x, CP, dx, _, rfl, upd_same, T.pC, T.pd, Nat.lt_of_le_of_lt l4 (by decide), ?_⟩
    refine ⟨_, rfl, _, rfl, x, CP, dx, _, rfl, upd_same, T.pC, T.pp, Nat.lt_of_le_of_lt l5 (by decide), ?_⟩
    refine k _ upd_same fun c o e hc => ?_
    rw [upd_ne hc, upd_ne hc, upd_ne hc, upd_ne hc, upd_ne hc, upd_ne hc]
    exact e
abbrev sPerson : Stmt := top 36
def spPerson (K : PySem.W.Frag) (CU CP : Addr) : Sp := fun vs H Q E => ∃ (a : Addr) (ws : List Bytes) (row : Nat), vs = [.ref a, .int (row : Int)] ∧ LL K H a ws ∧ Wds ws ∧ Res CU H Q E (Sf52.person ws) (fun p H' v => ∃ q, v = .ref q ∧ PersonAt CP H' q row p)
theorem scPerson : FnScope ["words", "row", "number", "sex", "birth", "death", "parents"] ["words", "row"] (defScope sPerson) := ⟨rfl, rfl, rfl, by decide +kernel, rfl, by decide +kernel, by decide +kernel⟩
theorem sexOf_some {u : Bytes} {f : Bool} (h : sexOf u = some f) : (u = [102] ∨ u = [109]) ∧ f = (u == [102]) := by
  unfold sexOf at h
  split at h
  · rename_i e; cases h; subst e; exact ⟨.inl rfl, rfl⟩
  · split at h
    · rename_i e; cases h; subst e; exact ⟨.inr rfl, rfl⟩
    · cases h
theorem sexOf_none {u : Bytes} (h : sexOf u = none) : ¬ (u = [102] ∨ u = [109]) := by
  rintro (e | e) <;> (subst e; cases h)
theorem cut4 (a b c d : V) (l : List V) : cutV (a :: b :: c :: d :: l) (some 4) none = l := by
  unfold cutV
  have e0 : HT.sIx (a :: b :: c :: d :: l).length 0 (some 4) = 4 := by
    unfold HT.sIx
    dsimp only
    rw [if_neg (by decide)]
    simp only [List.length_cons]
    omega
  have e1 : HT.sIx (a :: b :: c :: d :: l).length (a :: b :: c :: d :: l).length none = (a :: b :: c :: d :: l).length := rfl
  rw [e0, e1]
  simp
theorem ok_person (T : Txt K mg CU CN fN CP fP) (d : Def K mg "read_person" ["words", "row"] sPerson) (DP : DefP K fP) (O1 : Prom P w K mg base (CXo P w) 2 "read_number" ["word"] (spNumber K CU)) (O2 : Prom P w K mg base (CXo P w) 1 "read_sex" ["word"] (spSex K CU))
    (O3 : Prom P w K mg base (CXo P w) 3 "read_day" ["word"] (spDay K CU)) (O4 : Prom P w K mg base (CXo P w) 4 "read_name_and_parents" ["words"] (spName K CU)) : Prom P w K mg base (CXo P w) 5 "read_person" ["words", "row"] (spPerson K CU CP) := by
  obtain ⟨fdI, FI, bI⟩ := DP
  have GI : FnOk P w K mg base CX0 1 fP fdI psP (spPInit CP) := ok_pinit T FI
  refine d.wild scPerson (fun vs H Q E h => ?_) (fun f cdv A outer s H vs Q E hr h => ?_)
  · obtain ⟨a, ws, row, rfl, _⟩ := h
    rfl
  · obtain ⟨a, ws, row, rfl, ⟨as, hs, pd⟩, ⟨hw, hl⟩, k1, k2⟩ := h
    have el := pd_len pd
    refine ⟨_, pss_cons (ps_if (pt_cmpR op_lt (pe_callB call_len_seq (by rfl) T.len PySem.boot_len (pa_cons (pv 0) pa_nil)) pe_int (nomark _)) (pss_one (ps_raise0 T.uC T.uI rfl T.uM rfl rfl throws_body)) pss_nil)
      (pss_cons (ps_set (i := 2) scPerson.nd rfl (Or.inl rfl) (pe_f O1 (hr.mono (by decide)) (passes_of throws_body rfl) (pa_cons (pe_ix ix_list (pv 0) pe_int (fun _ _ => rfl)) pa_nil)))
      (pss_cons (ps_set (i := 3) scPerson.nd rfl (Or.inl rfl) (pe_f O2 (hr.mono (by decide)) (passes_of throws_body rfl) (pa_cons (pe_ix ix_list (pv 0) pe_int (fun _ _ => rfl)) pa_nil)))
      (pss_cons (ps_set (i := 4) scPerson.nd rfl (Or.inl rfl) (pe_f O3 (hr.mono (by decide)) (passes_of throws_body rfl) (pa_cons (pe_ix ix_list (pv 0) pe_int (fun _ _ => rfl)) pa_nil)))
      (pss_cons (ps_set (i := 5) scPerson.nd rfl (Or.inl rfl) (pe_f O3 (hr.mono (by decide)) (passes_of throws_body rfl) (pa_cons (pe_ix ix_list (pv 0) pe_int (fun _ _ => rfl)) pa_nil)))
      (pss_cons (ps_set (i := 6) scPerson.nd rfl (Or.inl rfl) (pe_f O4 hr (passes_of throws_body rfl) (pa_cons (pe_slice sl_list (pv 0) (po_some pe_int) po_none) pa_nil)))
      (pss_one (ps_ret (pe_make T.pK GI (hr.mono (by decide)) rfl T.pM bI .nil pass0 (pa_cons (pv 1) (pa_cons (pv 2) (pa_cons (pv 3) (pa_cons (pv 4) (pa_cons (pv 5) (pa_cons (pv 6) pa_nil)))))))))))))), ?_⟩
    refine ⟨_, rfl, a, _, rfl, .inl hs, _, _, rfl, rfl, _, rfl, ?_⟩
    rw [List.length_map, el]
    refine ite2 (fun h => ?_) (fun h => ?_)
    · have h := of_decide_eq_true h
      exact k2 (person_few (by omega)) _ (Same.refl _)
    · have h : ¬ ((ws.length : Int) < 5) := fun z => h (decide_eq_true z)
      have h5 : 5 ≤ ws.length := by omega
      match ws, h5, pd, hw, k1, k2, hl, el with
      | wa :: wsx :: wb :: wd :: r, h5, pd, hw, k1, k2, hl, el =>
        obtain ⟨x0, xs, rfl, p0, pd⟩ := pd_cons pd
        obtain ⟨x1, xs, rfl, p1, pd⟩ := pd_cons pd
        obtain ⟨x2, xs, rfl, p2, pd⟩ := pd_cons pd
        obtain ⟨x3, xs, rfl, p3, pd⟩ := pd_cons pd
        have ha := hw wa (by simp)
        have hsx := hw wsx (by simp)
        have hb := hw wb (by simp)
        have hd := hw wd (by simp)
        refine ⟨_, rfl, a, _, _, _, rfl, rfl, hs, atI_nat (j := 0) rfl, x0, wa, rfl, p0, ha.2, ha.1, fun n hn H1 v1 s1 e1 => ?_, fun hn H1 s1 => k2 (person_none (.inl hn)) _ s1⟩
        subst e1
        refine ⟨_, rfl, a, _, _, _, rfl, rfl, s1.seq hs, atI_nat (j := 1) rfl, x1, wsx, rfl, s1.seq p1, fun fm hf H2 v2 s2 e2 => ?_, fun hf H2 s2 => k2 (person_none (.inr (.inr (.inr (.inl (sexOf_none hf)))))) _ (s1.trans s2)⟩
        subst e2
        have S2 := s1.trans s2
        refine ⟨_, rfl, a, _, _, _, rfl, rfl, S2.seq hs, atI_nat (j := 2) rfl, x2, wb, rfl, S2.seq p2, hb.2, fun bi hbi H3 v3 s3 e3 => ?_, fun hbi H3 s3 => k2 (person_none (.inr (.inl hbi))) _ (S2.trans s3)⟩
        obtain ⟨ab, rfl, db⟩ := e3
        have S3 := S2.trans s3
        refine ⟨_, rfl, a, _, _, _, rfl, rfl, S3.seq hs, atI_nat (j := 3) rfl, x3, wd, rfl, S3.seq p3, hd.2, fun de hde H4 v4 s4 e4 => ?_, fun hde H4 s4 => k2 (person_none (.inr (.inr (.inl hde)))) _ (S3.trans s4)⟩
        obtain ⟨ad, rfl, dd⟩ := e4
        have S4 := S3.trans s4
        refine ⟨_, rfl, _, rfl, a, _, rfl, S4.seq hs, fun q hq => ?_⟩
        have ec : cutV (List.map V.ref (x0 :: x1 :: x2 :: x3 :: xs)) (some 4) none = xs.map V.ref := cut4 _ _ _ _ _
        rw [ec]
        have s5 : Same H4 (upd H4 q (.lst (xs.map V.ref))) := Same.new hq
        have S5 := S4.trans s5
        refine ⟨q, r, rfl, ⟨xs, SqL.of upd_same, pd_imp pd fun z u _ hz => S5.seq hz⟩, ⟨fun u hu => hw u (by simp [hu]), by simp at hl; omega⟩, fun fm2 hfm H6 v6 s6 e6 => ?_, fun hfm H6 s6 => k2 (person_none (.inr (.inr (.inr (.inr hfm))))) _ (S5.trans s6)⟩
        obtain ⟨fa, mo⟩ := fm2
        obtain ⟨ap, rfl, dp⟩ := e6
        have S6 := S5.trans s6
        refine ⟨_, rfl, _, rfl, _, rfl, _, rfl, _, rfl, _, rfl, fun x dx nx ndx nex => ?_⟩
        refine ⟨x, dx, _, _, _, _, _, _, rfl, upd_same, fun H7 h7 kp => ⟨rfl, ?_⟩⟩
        have s7 : Same H6 H7 := Same.made nx ndx kp
        obtain ⟨sx1, sx2⟩ := sexOf_some hf
        refine k1 ⟨n, wsx == [102], bi, de, fa, mo⟩ (person_four n bi de fa mo hn hbi hde sx1 hfm) _ _ (S6.trans s7) ⟨x, rfl, dx, ab, ad, ap, ?_, (((s4.trans s5).trans s6).trans s7) _ _ db, ((s5.trans s6).trans s7) _ _ dd, s7 _ _ dp⟩
        rw [← sx2]
        exact h7
end
end Kf
namespace KE1
open PySem PyProof.Rows
open AutoSeq1 (wpAny_loadPart')
section
variable {prog : Program} {w : World} {A : Around} {E : Value → Shared → Prop} {s : Shared}
theorem next_item {e it l : Addr} {i : Nat} {c : Int} {xs : Array Value} {x o0 : Value} {R : Value → Shared → Prop}
    (p1 : IsEnum s.heap e it c o0) (p2 : s.heap.IsListIter it l i) (p3 : s.heap.IsList l xs) (p4 : xs[i]? = some x) (p5 : e ≠ it)
    (k : ∀ g, IsEnumOut g e it (c + 1) x s.heap.objs.size → g.IsListIter it l (i + 1) → g.get? s.heap.objs.size = some { cls := .type "tuple", data := .seq #[.int c s.toks, x] } →
      g.objs.size = s.heap.objs.size + 1 → (∀ b u, b ≠ e → b ≠ it → s.heap.get? b = some u → g.get? b = some u) → R (.ref s.heap.objs.size) { s with heap := g, toks := s.toks + 1 }) :
    wpAny (model prog w) A (Builtin.«enumerate.__next__» ⟨[.ref e], []⟩) (fun fin t => ∃ v, fin = .done (.ret v) ∧ R v t) E s := by
  obtain ⟨hp, gs, dr, tk, os⟩ := s
  show wpAny _ _ (field (.ref e) 2 >>= _) _ _ _
  refine wpAny_bind (wpAny_field p1 rfl (x := .ref it) rfl (wpAny_bind (wpAny_nextOf_list_item p2 p3 p4 fun g1 q1 m1 => ?_)))
  have m1 : Heap.SameBut it hp g1 := m1
  have r1 : IsEnum g1 e it c o0 := (m1.2 e p5).trans p1
  show wpAny _ _ (field (.ref e) 3 >>= _) _ _ ⟨g1, gs, dr, tk, os⟩
  refine wpAny_bind (wpAny_field r1 rfl (x := rawInt c) rfl ?_)
  show wpAny _ _ (field (.ref e) 4 >>= _) _ _ ⟨g1, gs, dr, tk, os⟩
  refine wpAny_bind (wpAny_field r1 rfl (x := .none) rfl ?_)
  show wpAny _ _ (mkInt c >>= _) _ _ ⟨g1, gs, dr, tk, os⟩
  refine wpAny_bind (wpAny_mkInt ?_)
  show wpAny _ _ (setField (.ref e) 3 (rawInt (c + 1)) >>= _) _ _ ⟨g1, gs, dr, tk + 1, os⟩
  refine wpAny_bind (wpAny_setField_rec r1 (by simp) fun g2 r2 m2 => ?_)
  have m2 : Heap.SameBut e g1 g2 := m2
  have r2 : IsEnum g2 e it (c + 1) o0 := r2
  show wpAny _ _ (setField (.ref e) 4 .none >>= _) _ _ ⟨g2, gs, dr, tk + 1, os⟩
  refine wpAny_bind (wpAny_setField_rec r2 (by simp) fun g3 r3 m3 => ?_)
  have m3 : Heap.SameBut e g2 g3 := m3
  have r3 : IsEnum g3 e it (c + 1) o0 := r3
  show wpAny _ _ (newTuple [.int c tk, x] >>= _) _ _ ⟨g3, gs, dr, tk + 1, os⟩
  refine wpAny_bind (wpAny_newTuple ?_)
  have z3 : g3.objs.size = hp.objs.size := by rw [m3.1, m2.1, m1.1]
  have le : e < hp.objs.size := Heap.lt_size p1
  have ne4 : hp.objs.size ≠ e := Nat.ne_of_gt le
  generalize w4 : g3.push { cls := .type "tuple", data := .seq #[.int c tk, x] } = g4
  have r4 : IsEnum g4 e it (c + 1) o0 := by rw [← w4]; exact Heap.get?_push_of_some _ r3
  have t4 : g4.get? hp.objs.size = some { cls := .type "tuple", data := .seq #[.int c tk, x] } := by rw [← w4, ← z3]; exact Heap.get?_push_size _ rfl
  have z4 : g4.objs.size = hp.objs.size + 1 := by rw [← w4, Heap.size_push, z3]
  have k4 : ∀ b u, b ≠ e → b ≠ it → hp.get? b = some u → g4.get? b = some u := fun b u n1 n2 q => by
    rw [← w4]; exact Heap.get?_push_of_some _ (m3.extBut b u n1 (m2.extBut b u n1 (m1.extBut b u n2 q)))
  have i4 : g4.IsListIter it l (i + 1) := by
    obtain ⟨o, ho, r⟩ := (q1.extBut m2.extBut (Ne.symm p5)).extBut m3.extBut (Ne.symm p5)
    exact ⟨o, by rw [← w4]; exact Heap.get?_push_of_some _ ho, r⟩
  rw [z3]
  show wpAny _ _ (Builtin.SmallTypes.ownedTupleIsFree (.ref e) >>= _) _ _ ⟨g4, gs, dr, tk + 1, os⟩
  refine wpAny_bind ?_
  unfold Builtin.SmallTypes.ownedTupleIsFree
  refine wpAny_bind (wpAny_field r4 rfl (x := .none) rfl (wpAny_pure ?_))
  simp only [if_true]
  refine wpAny_bind (wpAny_rule (wpAny_bind (wpAny_field r4 rfl (x := o0) rfl (wpAny_bind (wpAny_setField_rec r4 (by simp) fun g5 r5 m5 => ?_)))))
  have m5 : Heap.SameBut e g4 g5 := m5
  have r5 : IsEnum g5 e it (c + 1) x := r5
  show wpAny _ _ (Builtin.SmallTypes.ownedTupleHandOut (.ref e) (.ref hp.objs.size) >>= _) _ _ ⟨g5, gs, dr, tk + 1, os⟩
  refine wpAny_bind ?_
  unfold Builtin.SmallTypes.ownedTupleHandOut
  refine wpAny_bind (wpAny_setField_rec r5 (by simp) fun g6 r6 m6 => ?_)
  have m6 : Heap.SameBut e g5 g6 := m6
  have r6 : IsEnumOut g6 e it (c + 1) x hp.objs.size := r6
  refine wpAny_setField_rec r6 (by simp) fun g7 r7 m7 => ?_
  have m7 : Heap.SameBut e g6 g7 := m7
  have r7 : IsEnumOut g7 e it (c + 1) x hp.objs.size := r7
  have kk : ∀ b u, b ≠ e → g4.get? b = some u → g7.get? b = some u := fun b u n q => m7.extBut b u n (m6.extBut b u n (m5.extBut b u n q))
  refine wpAny_bind (wpAny_letGo (wpAny_pure ⟨_, rfl, k g7 r7 ?_ (kk _ _ ne4 t4) (by rw [m7.1, m6.1, m5.1, z4]) fun b u n1 n2 q => kk b u n1 (k4 b u n1 n2 q)⟩))
  exact i4.at fun o q => kk it o (Ne.symm p5) q
theorem pyNext_item {e it l : Addr} {i : Nat} {c : Int} {xs : Array Value} {x o0 : Value} {Q : Option Value → Shared → Prop}
    (p1 : IsEnum s.heap e it c o0) (p2 : s.heap.IsListIter it l i) (p3 : s.heap.IsList l xs) (p4 : xs[i]? = some x) (p5 : e ≠ it)
    (k : ∀ g, IsEnumOut g e it (c + 1) x s.heap.objs.size → g.IsListIter it l (i + 1) → g.get? s.heap.objs.size = some { cls := .type "tuple", data := .seq #[.int c s.toks, x] } →
      g.objs.size = s.heap.objs.size + 1 → (∀ b u, b ≠ e → b ≠ it → s.heap.get? b = some u → g.get? b = some u) → Q (some (.ref s.heap.objs.size)) { s with heap := g, toks := s.toks + 1 }) :
    wpAny (model prog w) A (pyNext (.ref e)) Q E s := by
  have ty : s.TypeIs (.ref e) "enumerate" := ⟨_, p1, rfl⟩
  unfold pyNext
  refine wpAny_bind (wpAny_attempt (wpAny_callSpecial?_slot (name := Str.ofString "__next__") ty F.slot_enumerate_next (wpAny_call_entry F.slot_enumerate_next ty F.entry_enumerate_next ?_ (F.args_enumerate_next_1 _))))
  exact next_item p1 p2 p3 p4 p5 fun g a b c d m => wpAny_pure (k g a b c d m)
theorem pyNext_end {e it l : Addr} {i : Nat} {c : Int} {xs : Array Value} {o0 : Value} {Q : Option Value → Shared → Prop} (hh : A.handled = none)
    (p1 : IsEnum s.heap e it c o0) (p2 : s.heap.IsListIter it l i) (p3 : s.heap.IsList l xs) (p4 : xs[i]? = none)
    (k : ∀ g, Heap.ExtBut it s.heap g → Q none { s with heap := g }) : wpAny (model prog w) A (pyNext (.ref e)) Q E s := by
  have ty : s.TypeIs (.ref e) "enumerate" := ⟨_, p1, rfl⟩
  unfold pyNext
  refine wpAny_bind (wpAny_attempt (wpAny_callSpecial?_slot (name := Str.ofString "__next__") ty F.slot_enumerate_next (wpAny_call_entry F.slot_enumerate_next ty F.entry_enumerate_next ?_ (F.args_enumerate_next_1 _))))
  show wpAny _ _ (field (.ref e) 2 >>= _) _ _ _
  refine wpAny_bind (wpAny_field p1 rfl (x := .ref it) rfl (wpAny_bind (wpAny_nextOf_list_end hh p2 p3 p4 fun g ex m1 m2 => ?_)))
  obtain ⟨o, ho, hc⟩ := m2
  exact wpAny_bind (wpAny_isInstance (T := "StopIteration") (b := true) ⟨o, ho, hc⟩ isSubtype_stop (wpAny_pure (k _ m1)))
end
abbrev enObj (it : Addr) (c : Int) : Obj := { cls := .type "enumerate", data := .fields #[.none, .bool false, .ref it, rawInt c, .none, .none] }
abbrev liObj (l : Addr) : Obj := { cls := .type "list_iterator", data := .fields #[.ref l, .int 0 0] }
theorem meets_new (l : Addr) (xs : Array Value) (n : Nat) (dct : Option Addr) (sl : Array (Option Value)) (t : Tok) :
    Meets (Builtin.«enumerate.__new__» ⟨[.type "enumerate", .ref l], [("start", .int 1 t)]⟩) (fun _ R s => s.heap.get? l = some { cls := .type "list", dict := dct, data := .seq xs n, slots := sl } ∧
      R (.ok (.ret (.ref (s.heap.push (liObj l)).objs.size))) { s with heap := (s.heap.push (liObj l)).push (enObj s.heap.objs.size 1) }) :=
  .of_wp fun prog w A R s h => by
    obtain ⟨hp, gs, dr, tk, os⟩ := s
    obtain ⟨hl, h⟩ := h
    have hsub := sub_enumerate
    have hL : Heap.IsList (Shared.heap ⟨hp, gs, dr, tk, os⟩) l xs := ⟨_, hl, rfl, n, rfl⟩
    wp_walk using wpAny_loadPart' hl
    refine wpAny_stack_any fun st => wpAny_pure ?_
    split
    · rename_i c _ _ _ _ _
      cases (c == Value.type "enumerate") <;> (wp_walk using wpAny_loadPart' hl, wpAny_pyIter_list hL) <;> exact ⟨_, rfl, h⟩
    · (wp_walk using wpAny_loadPart' hl, wpAny_pyIter_list hL)
      exact ⟨_, rfl, h⟩
end KE1
namespace KE1
open PySem PyProof.Rows
section
variable {prog : Program} {w : World} {A : Around} {E : Value → Shared → Prop} {s : Shared}
theorem checkT (l : Addr) (t : Tok) : checkTypeCall "enumerate" ⟨[.ref l], [("start", .int 1 t)]⟩ = pure () := by kernel_rfl
theorem checkN (l : Addr) (t : Tok) : checkBuiltinCall "enumerate.__new__" ⟨[.type "enumerate", .ref l], [("start", .int 1 t)]⟩ = pure () := by kernel_rfl
theorem okI (obj : Value) (l : Addr) (t : Tok) : argsOk "object.__init__" ⟨[obj, .ref l], [("start", .int 1 t)]⟩ := by
  unfold argsOk
  rw [signature?_of (id := "object.__init__") (n := ['_', '_', 't', 'i', 'n', 'i', '_', '_']) (o := ['t', 'c', 'e', 'j', 'b', 'o']) (by kernel_rfl) F.owner_object]
  kernel_rfl
theorem initK {self : Value} {l : Addr} {t : Tok} {T newId : String} (hl : typeLookup (.type T) "__init__" = pure (some (.builtin "object.__init__"))) (hm : Bind.madeBy (.type T) = pure (some newId)) (hne : (some newId != some "object.__new__") = true) :
    Meets (Builtin.«object.__init__» ⟨[self, .ref l], [("start", .int 1 t)]⟩) (fun _ R s => s.TypeIs self T ∧ R (.ok (.ret .none)) s) :=
  .of_wp fun prog w A R s ⟨hT, hq⟩ => by
    repeat (any_goals (first | assumption | wp_step))
    exact ⟨_, rfl, hq⟩
theorem callK {l : Addr} {t : Tok} {S : PySem.Spec} {Q : Value → Shared → Prop} (g : Meets (Builtin.«enumerate.__new__» ⟨[.type "enumerate", .ref l], [("start", .int 1 t)]⟩) S)
    (h : S A.in1 (wants (fun obj t1 => t1.TypeIs obj "enumerate" ∧ Q obj t1) E) s) : wpAny (model prog w) A (call (.type "enumerate") [.ref l] [("start", .int 1 t)]) Q E s := by
  have ft := F.called_enumerate
  obtain ⟨c, tl, hmro⟩ := ft.mro
  have hmade := ft.made
  have hsub := ft.sub
  have hct := checkT l t
  refine wpAny_call (codeAny_of_tree ?_)
  show wpAny _ _ (callAny (.type "enumerate") _) _ _ _
  refine wpAny_pure ⟨Code.quiet_builtin _ (by decide +kernel), codeAny_builtin F.entry_type_call ?_⟩
  rw [Around.under_plain (weight_type_call_type "enumerate" [.ref l] [("start", .int 1 t)]) (units_type_call_type "enumerate" [.ref l] [("start", .int 1 t)])]
  have h1 := ft.notType
  have h2 := ft.canCreate
  repeat (any_goals (first | assumption | wp_step))
  refine codeAny_mono (codeAny_call_builtin ft.plain F.entry_enumerate_new (wpAny_of_eq (checkN l t) (g prog w A.in1 _ s h))) fun r s1 hr => ?_
  cases r with
  | error e => exact hr
  | ok fl =>
    cases fl with
    | ret obj =>
      obtain ⟨hT, hq⟩ := hr
      have hli := ft.init.lookup
      have hbi := ft.init.bind obj
      repeat (any_goals (first | assumption | wp_step))
      refine codeAny_mono (codeAny_call_builtin ft.init.plain F.entry_object_init (ft.init.check _ _ _ _ _ _ _ _ hT (okI obj l t) (initK (T := "enumerate") ft.init.lookup ft.made (by decide) prog w A.in1 (wants (fun r s2 => r = .none ∧ Q obj s2) E) s1 ⟨hT, rfl, hq⟩))) fun r2 s2 hr2 => ?_
      cases r2 with
      | error e => exact hr2
      | ok fl2 =>
        cases fl2 with
        | ret r =>
          obtain ⟨rfl, hq2⟩ := hr2
          repeat (any_goals (first | assumption | wp_step))
        | _ => exact hr2.elim
    | _ => exact hr.elim
end
end KE1
namespace KE1
open PySem PyProof.Rows
section
variable {M : Model} {A : Around} {E : Value → Shared → Prop} {s : Shared} {env : Env}
theorem callWith_tyKw {pos : Pos} {T : String} {args : List (Bool × Sem Value)} {kws : List (Option Str × Sem Value)} {Q : Value → Shared → Prop} (h1 : args.any (·.1) = false) (h2 : kws.any (·.1.isNone) = false)
    (h : wpAny M A (evalArgs (.type T) true args kws) (fun a t => wpAny M A (call (.type T) a.pos a.kw) Q E t) E s) : wpAny M A (callWith pos (.type T) [] args kws) Q E s := by
  unfold callWith
  refine wpAny_bind (wpAny_holding (wpAny_mono h (fun a t q => wpAny_bind (wpAny_standAt ?_)) fun _ _ z => z))
  simp only [h1, h2, Bool.or_false]
  exact wpAny_bind (wpAny_pure (wpAny_bind (wpAny_mono q (fun r t2 hr => wpAny_bind (wpAny_holding (wpAny_point (wpAny_pure hr)))) fun _ _ z => z)))
end
section
variable {prog : Program} {w : World} {A : Around} {E : Value → Shared → Prop} {s : Shared}
theorem call_enum1 {l : Addr} {xs : Array Value} {t : Tok} {Q : Value → Shared → Prop} (hL : s.heap.IsList l xs)
    (k : ∀ g, IsEnum g (s.heap.objs.size + 1) s.heap.objs.size 1 .none → g.IsListIter s.heap.objs.size l 0 → (∀ b u, s.heap.get? b = some u → g.get? b = some u) → Q (.ref (s.heap.objs.size + 1)) { s with heap := g }) :
    wpAny (model prog w) A (call (.type "enumerate") [.ref l] [("start", .int 1 t)]) Q E s := by
  obtain ⟨⟨c, dct, dt, sl⟩, hl, hc, n, hd⟩ := hL
  have hc : c = .type "list" := hc
  have hd : dt = .seq xs n := hd
  subst hc hd
  refine callK (meets_new l xs n dct sl t) ⟨hl, ?_⟩
  have z1 : (s.heap.push (liObj l)).objs.size = s.heap.objs.size + 1 := Heap.size_push ..
  have he : IsEnum ((s.heap.push (liObj l)).push (enObj s.heap.objs.size 1)) (s.heap.objs.size + 1) s.heap.objs.size 1 .none := by
    have q := Heap.get?_push_size (s.heap.push (liObj l)) (o := enObj s.heap.objs.size 1) rfl
    rw [z1] at q
    exact q
  show _ ∧ _
  rw [z1]
  exact ⟨⟨_, he, rfl⟩, k _ he ⟨_, Heap.get?_push_of_some _ (Heap.get?_push_size _ rfl), rfl, rfl⟩ fun b u q => Heap.get?_push_of_some _ (Heap.get?_push_of_some _ q)⟩
end
end KE1
namespace L2
open PySem PySem.Spec PyProof.Rows
def Ite1 (K : PySem.W.Frag) (a : Addr) : It :=
  ⟨fun i H => ∃ (xs : List V) (x : V), SqL K H a xs ∧ xs[i]? = some x, fun i H v H' => ∃ T x, v = .ref T ∧ H T = none ∧ H' = upd H T (.tup [.int ((i : Nat) + 1), x]) ∧ ∀ xs, SqL K H a xs → xs[i]? = some x, fun i H => ∃ xs : List V, SqL K H a xs ∧ xs.length ≤ i⟩
theorem turn_enum1 {P : Program} {w : World} {K : PySem.W.Frag} {elts : List Expr} {kk : Nat} {tpos : Pos} (a e it : Addr) :
    Turn P w K (.Tuple elts kk tpos) (Ite1 K a) [e, it] e (fun i h => (∃ old, IsEnum h e it (((i : Nat) : Int) + 1) old) ∧ h.IsListIter it a i ∧ e ≠ it) where
  mem := by simp
  obj := fun i h st b hb => by
    obtain ⟨⟨old, he⟩, ⟨o, ho, hc, hd⟩, _⟩ := st
    have e' : b = e ∨ b = it := by simpa using hb
    rcases e' with z | z
    · rw [z]; exact ⟨_, he, fun v q => nomatch q⟩
    · rw [z]; exact ⟨o, ho, fun v q => by rw [hd] at q; cases q⟩
  keep := fun i h h' st k => let ⟨⟨old, he⟩, hi, hne⟩ := st; ⟨⟨old, k e (by simp) _ he⟩, hi.at fun o q => k it (by simp) o q, hne⟩
  item := by
    intro X hP hw hK hc i pins s σ H E I hf st hg
    subst hP hw hK
    obtain ⟨⟨old, he⟩, hit, hne⟩ := st
    obtain ⟨xs, x, hq, hx⟩ := hg
    obtain ⟨its, rv, p, hz⟩ := I.list hq
    obtain ⟨u, hu, ru⟩ := rv.get hx
    have hel : e < s.heap.objs.size := Heap.lt_size he
    have hil : it < s.heap.objs.size := by obtain ⟨_, q, _⟩ := hit; exact Heap.lt_size q
    refine KE1.pyNext_item he hit p.isList (x := u) (by simpa using hu) hne fun h' ho hit' hT hsz hk => ?_
    refine ⟨_, rfl, wpAny_letOwnedTupleGo_enum (s := { s with heap := h', toks := s.toks + 1 }) ho fun h'' he' sb => ?_⟩
    have hT2 : h''.get? s.heap.objs.size = some { cls := .type "tuple", data := .seq #[.int ((i : Int) + 1) s.toks, u] } := (sb.2 _ (Nat.ne_of_gt hel)).trans hT
    have new : ObjOk X.prog X.w (upd H s.heap.objs.size (.tup [.int ((i : Nat) + 1), x])) h'' s.heap.objs.size (.tup [.int ((i : Nat) + 1), x]) :=
      ⟨by show 2 ≤ sizeLine; decide, [.int ((i : Int) + 1) s.toks, u], .cons ⟨_, rfl⟩ (.cons ru .nil), ⟨_, hT2, rfl, _, rfl⟩⟩
    have I1 : Inv X pins σ (upd H s.heap.objs.size (.tup [.int ((i : Nat) + 1), x])) { s with heap := h'', toks := s.toks + 1 } :=
      I.turnedNew (ch := [e, it]) (fun b ob hb q => (sb.2 b (fun z => hb (by simp [z]))).trans (hk b ob (fun z => hb (by simp [z])) (fun z => hb (by simp [z])) q)) hf (Nat.le_refl _) new
    refine ⟨.ref s.heap.objs.size, _, I1, rfl, ⟨_, x, rfl, I.hok.fresh (Nat.le_refl _), rfl, fun ys hy => by rw [I.list_inj hy hq]; exact hx⟩, ⟨⟨u, ?_⟩, hit'.at fun o q => (sb.2 it (Ne.symm hne)).trans q, hne⟩, fun b hb => ?_⟩
    · have e1 : ((i + 1 : Nat) : Int) + 1 = (i : Int) + 1 + 1 := by omega
      rw [e1]; exact he'
    · have hb' : b < s.heap.objs.size := by
        have e' : b = e ∨ b = it := by simpa using hb
        rcases e' with z | z
        · rw [z]; exact hel
        · rw [z]; exact hil
      rw [upd_ne (Nat.ne_of_lt hb')]
      exact (hf b hb).1
  done := by
    intro X hP hw hK hc i pins s σ H E I hf st hg
    subst hP hw hK
    obtain ⟨⟨old, he⟩, hit, hne⟩ := st
    obtain ⟨xs, hq, hx⟩ := hg
    obtain ⟨its, rv, p, hz⟩ := I.list hq
    obtain ⟨f0, f1, f2, f3, f4, f5⟩ := hf it (by simp)
    have hl := rv.length
    exact KE1.pyNext_end (I.ok.hd hc) he hit p.isList (by simp; omega) fun h' eb => ⟨rfl, I.turned (t' := s.toks) (fun b o hb q => eb b o hb q) f0 f1 f3 f4 f5⟩
  self := fun A i s Q E st h => let ⟨⟨_, he⟩, _⟩ := st; wpAny_pyIter_enum he h
def iEnum1 (K : PySem.W.Frag) (ta tk : TA) : TI := fun σ H R => ta σ H fun vs H1 => tk σ H1 fun zs H2 => ∃ a xs, vs = [.ref a] ∧ zs = [.int 1] ∧ SqL K H2 a xs ∧ R (Ite1 K a) H2
theorem pi_enum1 {X : Cx} {e v : Expr} {ta tk : TA} {p pos tpos kp : Pos} {elts : List Expr} {kk : Nat} (hg : Gl X "enumerate") (hm : X.mg "enumerate" = none) (ha : PA X [e] ta) (hk : PK X [⟨some "start", v, kp⟩] tk) (hs : starEach [e] X.env = [(false, eval e X.env)] := by rfl)
    (hev : eval (.Call (.Name "enumerate" p) [e] [⟨some "start", v, kp⟩] pos) X.env = (do callWith pos (← eval (.Name "enumerate" p) X.env) [] (backTo pos (starEach [e] X.env)) (backToKw pos (keywordEach [⟨some "start", v, kp⟩] X.env))) := by rfl)
    (h1 : (backToKw pos (keywordEach [⟨some "start", v, kp⟩] X.env)).all (·.1.isSome) = true := by rfl) (h2 : (backToKw pos (keywordEach [⟨some "start", v, kp⟩] X.env)).any (·.1.isNone) = false := by rfl)
    (h3 : (backToKw pos (keywordEach [⟨some "start", v, kp⟩] X.env)).filterMap (·.1) = [("start" : Str)] := by rfl) :
    PI X (.Tuple elts kk tpos) (.Call (.Name "enumerate" p) [e] [⟨some "start", v, kp⟩] pos) (iEnum1 X.K ta tk) := by
  intro pins s σ H R I h
  obtain ⟨y, hb⟩ : ∃ y, backTo pos (starEach [e] X.env) = [(false, y)] := by rw [hs]; exact ⟨_, rfl⟩
  rw [hev]
  refine wpAny_bind (ld_blt I hg hm boot_enumerate (KE1.callWith_tyKw (by rw [hb]; rfl) h2 ?_))
  have key : wpAny (model X.prog X.w) X.A (spliced (backTo pos (starEach [e] X.env))) (fun vs s1 => wpAny (model X.prog X.w) X.A (evalAll ((backToKw pos (keywordEach [⟨some "start", v, kp⟩] X.env)).map (·.2)))
      (fun kvs s2 => wpAny (model X.prog X.w) X.A (call (.type "enumerate") vs (((backToKw pos (keywordEach [⟨some "start", v, kp⟩] X.env)).filterMap (·.1)).zip kvs)) (fun v s1 => wpAny (model X.prog X.w) X.A (pyIter v) (PIE X pins σ (.Tuple elts kk tpos) R) X.xe s1) X.xe s2) X.xe s1) X.xe s := by
    refine thn (ha pos pins s σ H _ I h) fun us s1 ⟨vs, H1, I1, r1, q1⟩ => thn (hk pos pins s1 σ H1 _ I1 q1) fun ws s2 ⟨zs, H2, I2, r2, a, xs, ea, ez, hq, q⟩ => ?_
    subst ea ez
    obtain ⟨u, rfl, ru⟩ := vals1 r1
    obtain ⟨u2, rfl, t, rfl⟩ := vals1 r2
    cases ru
    rw [h3]
    obtain ⟨its, rv, p', hz⟩ := I2.list hq
    refine KE1.call_enum1 p'.isList fun g he hit hk => wpAny_pyIter_enum he ?_
    have I3 : Inv X pins σ H2 { s2 with heap := g } := I2.kept (t' := s2.toks) hk
    refine ⟨s2.heap.objs.size + 1, [s2.heap.objs.size + 1, s2.heap.objs.size], _, _, H2, rfl, I3, turn_enum1 a (s2.heap.objs.size + 1) s2.heap.objs.size, ⟨⟨.none, he⟩, hit, Nat.succ_ne_self _⟩, fun b hb => ?_, q⟩
    have e' : b = s2.heap.objs.size + 1 ∨ b = s2.heap.objs.size := by simpa using hb
    have hle : s2.heap.objs.size ≤ b := by
      rcases e' with z | z
      · rw [z]; exact Nat.le_add_right _ _
      · rw [z]; exact Nat.le_refl _
    exact I2.fpOk hle (I2.hok.fresh hle)
  rw [hb] at key ⊢
  exact evalArgs_kwB h1 key
end L2
namespace KZ
open PySem PyProof.Rows
section
variable {prog : Program} {w : World} {A : Around} {E : Value → Shared → Prop} {s : Shared}
theorem nt_item {it t : Addr} {i : Nat} {xs : Array Value} {x : Value} {Q : Value → Shared → Prop} (p : s.heap.IsTupleIter it t i) (q : s.heap.IsTuple t xs) (hx : xs[i]? = some x)
    (k : ∀ g, g.IsTupleIter it t (i + 1) → Heap.SameBut it s.heap g → Q x { s with heap := g }) : wpAny (model prog w) A (Builtin.SmallTypes.nextOf (.ref it)) Q E s := by
  obtain ⟨o, ho, hc, hd⟩ := id p
  obtain ⟨ot, hot, _, nt, hdt⟩ := q
  unfold Builtin.SmallTypes.nextOf
  refine wpAny_bind (wpAny_callSpecial?_slot (name := Str.ofString "__next__") p.typeIs F.slot_tuple_iterator_next (wpAny_call_entry F.slot_tuple_iterator_next p.typeIs F.entry_tuple_iterator_next ?_ (F.args_tuple_iterator_next_1 _)))
  show wpAny (model prog w) _ (field (.ref it) 0 >>= _) _ _ s
  refine wpAny_bind (wpAny_field ho hd (x := .ref t) rfl (?_))
  show wpAny (model prog w) _ (if (Value.ref t == Value.none) = true then _ else _) _ _ s
  rw [if_neg (by simp : ¬ ((Value.ref t == Value.none) = true))]
  show wpAny (model prog w) _ (field (.ref it) 1 >>= _) _ _ s
  refine wpAny_bind (wpAny_field ho hd (x := .int i 0) rfl (?_))
  show wpAny (model prog w) _ (seqItems? (.ref t) >>= _) _ _ s
  refine wpAny_bind (wpAny_seqItems hot hdt (?_))
  simp only [hx, Int.toNat_natCast]
  refine wpAny_bind (wpAny_setField ho hd (by simp) (wpAny_pure ⟨x, rfl, wpAny_pure (k _ ⟨_, Heap.get?_update_self _ ho (Obj.isFreed_of_fields (Obj.data_mapFields hd _)), (Obj.cls_mapFields ..).trans hc, ?_⟩ (Heap.SameBut.update ..))⟩))
  rw [Obj.data_mapFields hd]
  simp [rawInt]
theorem nt_end {it t : Addr} {i : Nat} {xs : Array Value} {Q : Value → Shared → Prop} (hh : A.handled = none) (p : s.heap.IsTupleIter it t i) (q : s.heap.IsTuple t xs) (hx : xs[i]? = none)
    (k : ∀ g e, Heap.ExtBut it s.heap g → (∃ o, g.get? e = some o ∧ o.cls = .type "StopIteration") → E (.ref e) { s with heap := g }) : wpAny (model prog w) A (Builtin.SmallTypes.nextOf (.ref it)) Q E s := by
  obtain ⟨o, ho, hc, hd⟩ := id p
  obtain ⟨ot, hot, _, nt, hdt⟩ := q
  unfold Builtin.SmallTypes.nextOf
  refine wpAny_bind (wpAny_callSpecial?_slot (name := Str.ofString "__next__") p.typeIs F.slot_tuple_iterator_next (wpAny_call_entry F.slot_tuple_iterator_next p.typeIs F.entry_tuple_iterator_next ?_ (F.args_tuple_iterator_next_1 _)))
  show wpAny (model prog w) _ (field (.ref it) 0 >>= _) _ _ s
  refine wpAny_bind (wpAny_field ho hd (x := .ref t) rfl (?_))
  show wpAny (model prog w) _ (if (Value.ref t == Value.none) = true then _ else _) _ _ s
  rw [if_neg (by simp : ¬ ((Value.ref t == Value.none) = true))]
  show wpAny (model prog w) _ (field (.ref it) 1 >>= _) _ _ s
  refine wpAny_bind (wpAny_field ho hd (x := .int i 0) rfl (?_))
  show wpAny (model prog w) _ (seqItems? (.ref t) >>= _) _ _ s
  refine wpAny_bind (wpAny_seqItems hot hdt (?_))
  simp only [hx, Int.toNat_natCast]
  refine wpAny_bind (wpAny_rule (wpAny_bind (wpAny_setField ho hd (by simp) (?_))))
  show wpAny (model prog w) _ (newExc (.type "StopIteration") [] >>= _) _ _ _
  refine wpAny_bind ?_
  simp only [newTuple, newExc]
  refine wpAny_bind (wpAny_newObj_type (?_) (by size_fits))
  refine wpAny_bind (m := firstArgMember _ _) (wpAny_of_eq (a := Value.none) (by first | rfl | (simp only [firstArgMember]; rfl)) (wpAny_newObj_type (?_) (by size_fits)))
  simp only [raiseNew]
  refine wpAny_bind (wpAny_handled (?_))
  first | rw [show A.in1.handled = none from hh] | rw [hh]
  exact wpAny_bind (wpAny_pure (wpAny_throw (k _ _ (((Heap.SameBut.update ..).extBut.push _).push _) ⟨_, Heap.get?_push_size _ rfl, rfl⟩)))
theorem zn_item {z TI TO i1 i2 l1 l2 : Addr} {n m : Nat} {xs ys : Array Value} {x y a b : Value} {Q : Value → Shared → Prop} (D : ZipApart z TI TO i1 i2 l1 l2)
    (pz : IsZip s.heap z TI TO .none) (pI : IsPair s.heap TI (.ref i1) (.ref i2)) (pO : IsPair s.heap TO a b)
    (p1 : s.heap.IsTupleIter i1 l1 n) (p2 : s.heap.IsTupleIter i2 l2 m) (q1 : s.heap.IsTuple l1 xs) (q2 : s.heap.IsTuple l2 ys) (hx : xs[n]? = some x) (hy : ys[m]? = some y)
    (k : ∀ g, IsZip g z TI TO (rawInt s.heap.objs.size) → IsPair g TO x y → g.IsTupleIter i1 l1 (n + 1) → g.IsTupleIter i2 l2 (m + 1) → IsPair g s.heap.objs.size x y → g.objs.size = s.heap.objs.size + 1 →
      (∀ c o, c ≠ z → c ≠ TO → c ≠ i1 → c ≠ i2 → s.heap.get? c = some o → g.get? c = some o) → Q (.ref s.heap.objs.size) { s with heap := g }) :
    wpAny (model prog w) A (Builtin.«zip.__next__» ⟨[.ref z], []⟩) (fun fin t => ∃ v, fin = .done (.ret v) ∧ Q v t) E s := by
  show wpAny (model prog w) _ (field (.ref z) 2 >>= _) _ _ _
  refine wpAny_bind (wpAny_field pz rfl (x := .bool false) rfl (?_))
  show wpAny (model prog w) _ (field (.ref z) 3 >>= _) _ _ _
  refine wpAny_bind (wpAny_field pz rfl (x := .ref TI) rfl (wpAny_bind (wpAny_seqItems pI rfl (?_))))
  show wpAny (model prog w) _ (Builtin.SmallTypes.ownedTupleIsFree (.ref z) >>= _) _ _ _
  refine wpAny_bind ?_
  unfold Builtin.SmallTypes.ownedTupleIsFree
  refine wpAny_bind (wpAny_field pz rfl (x := .none) rfl (wpAny_pure (?_)))
  simp only [if_true]
  refine wpAny_bind (wpAny_rule (wpAny_bind (wpAny_field pz rfl (x := .ref TO) rfl (wpAny_bind (wpAny_setField_rec pz (by simp) fun g1 z1 s1 => ?_)))))
  have z1 : IsZip g1 z TI TO .ellipsis := z1
  refine wpAny_bind ?_
  simp only [List.forIn_cons, List.forIn_nil, List.zipIdx_cons, List.zipIdx_nil]
  refine wpAny_bind (wpAny_bind (wpAny_onRaise (?_)))
  show wpAny (model prog w) _ (Builtin.SmallTypes.nextOf (.ref i1) >>= _) _ _ _
  refine wpAny_bind (nt_item (p1.extBut s1.extBut D.i1z) (q1.extBut s1.extBut D.l1z) hx fun g2 a2 s2 => wpAny_pure ?_)
  have O2 : IsPair g2 TO a b := s2.extBut _ _ D.TOi1 (s1.extBut _ _ D.TOz pO)
  refine wpAny_bind (wpAny_seqItems O2 rfl (wpAny_bind (wpAny_updateSeq_pair O2 fun g3 O3 s3 => ?_)))
  have O3 : IsPair g3 TO x b := O3
  refine wpAny_bind (wpAny_letGo (wpAny_pure (wpAny_bind (wpAny_bind (wpAny_onRaise (?_))))))
  show wpAny (model prog w) _ (Builtin.SmallTypes.nextOf (.ref i2) >>= _) _ _ _
  refine wpAny_bind (nt_item (((p2.extBut s1.extBut D.i2z).extBut s2.extBut D.i12.symm).extBut s3.extBut D.TOi2.symm) (((q2.extBut s1.extBut D.l2z).extBut s2.extBut D.l2i1).extBut s3.extBut D.l2TO) hy fun g4 a4 s4 => wpAny_pure ?_)
  have O4 : IsPair g4 TO x b := s4.extBut _ _ D.TOi2 O3
  refine wpAny_bind (wpAny_seqItems O4 rfl (wpAny_bind (wpAny_updateSeq_pair O4 fun g5 O5 s5 => ?_)))
  have O5 : IsPair g5 TO x y := O5
  refine wpAny_bind (wpAny_letGo (wpAny_pure (wpAny_pure (wpAny_bind (wpAny_seqItems O5 rfl (wpAny_bind (wpAny_newTuple (?_))))))))
  have sz5 : g5.objs.size = s.heap.objs.size := by rw [s5.1, s4.1, s3.1, s2.1, s1.1]
  have z5 : IsZip g5 z TI TO .ellipsis := s5.extBut _ _ D.TOz.symm (s4.extBut _ _ D.i2z.symm (s3.extBut _ _ D.TOz.symm (s2.extBut _ _ D.i1z.symm z1)))
  have k5 : ∀ c o, c ≠ z → c ≠ TO → c ≠ i1 → c ≠ i2 → s.heap.get? c = some o → g5.get? c = some o := fun c o c1 c2 c3 c4 e => s5.extBut _ _ c2 (s4.extBut _ _ c4 (s3.extBut _ _ c2 (s2.extBut _ _ c3 (s1.extBut _ _ c1 e))))
  have b1 : g5.IsTupleIter i1 l1 (n + 1) := ((a2.extBut s3.extBut D.TOi1.symm).extBut s4.extBut D.i12).extBut s5.extBut D.TOi1.symm
  have b2 : g5.IsTupleIter i2 l2 (m + 1) := a4.extBut s5.extBut D.TOi2.symm
  have lz : z < g5.objs.size := Heap.lt_size z5
  show wpAny (model prog w) _ (Builtin.SmallTypes.ownedTupleHandOut (.ref z) (.ref g5.objs.size) >>= _) _ _ _
  refine wpAny_bind ?_
  unfold Builtin.SmallTypes.ownedTupleHandOut
  have z6 : IsZip (g5.push { cls := .type "tuple", data := .seq #[x, y] }) z TI TO .ellipsis := Heap.get?_push_of_some _ z5
  refine wpAny_bind (wpAny_setField_rec z6 (by simp) fun g7 z7 s7 => ?_)
  have z7 : IsZip g7 z TI TO (rawInt g5.objs.size) := z7
  refine wpAny_setField_rec z7 (by simp) fun g8 z8 s8 => ?_
  have z8 : IsZip g8 z TI TO (rawInt g5.objs.size) := z8
  have up : ∀ c o, c ≠ z → g5.get? c = some o → g8.get? c = some o := fun c o c1 e => s8.extBut _ _ c1 (s7.extBut _ _ c1 (Heap.get?_push_of_some _ e))
  have T8 : IsPair g8 g5.objs.size x y := s8.extBut _ _ (Nat.ne_of_gt lz) (s7.extBut _ _ (Nat.ne_of_gt lz) (Heap.get?_push_size _ rfl))
  have n8 : g8.objs.size = g5.objs.size + 1 := by rw [s8.1, s7.1, Heap.size_push]
  rw [sz5] at z8 T8 n8
  refine wpAny_pure ⟨_, rfl, ?_⟩
  show Q (.ref g5.objs.size) _
  rw [sz5]
  exact k g8 z8 (up _ _ D.TOz O5) (b1.at fun o e => up _ o D.i1z e) (b2.at fun o e => up _ o D.i2z e) T8 n8 fun c o c1 c2 c3 c4 e => up c o c1 (k5 c o c1 c2 c3 c4 e)
theorem zn_end {z TI TO i1 i2 l1 l2 : Addr} {n m : Nat} {xs ys : Array Value} {a b : Value} {Q : Fin → Shared → Prop} (hh : A.handled = none) (D : ZipApart z TI TO i1 i2 l1 l2)
    (pz : IsZip s.heap z TI TO .none) (pI : IsPair s.heap TI (.ref i1) (.ref i2)) (p1 : s.heap.IsTupleIter i1 l1 n) (q1 : s.heap.IsTuple l1 xs) (hx : xs[n]? = none)
    (k : ∀ g e, (∀ c o, c ≠ z → c ≠ TO → c ≠ i1 → c ≠ i2 → s.heap.get? c = some o → g.get? c = some o) → (∃ o, g.get? e = some o ∧ o.cls = .type "StopIteration") → E (.ref e) { s with heap := g }) :
    wpAny (model prog w) A (Builtin.«zip.__next__» ⟨[.ref z], []⟩) Q E s := by
  show wpAny (model prog w) _ (field (.ref z) 2 >>= _) _ _ _
  refine wpAny_bind (wpAny_field pz rfl (x := .bool false) rfl (?_))
  show wpAny (model prog w) _ (field (.ref z) 3 >>= _) _ _ _
  refine wpAny_bind (wpAny_field pz rfl (x := .ref TI) rfl (wpAny_bind (wpAny_seqItems pI rfl (?_))))
  show wpAny (model prog w) _ (Builtin.SmallTypes.ownedTupleIsFree (.ref z) >>= _) _ _ _
  refine wpAny_bind ?_
  unfold Builtin.SmallTypes.ownedTupleIsFree
  refine wpAny_bind (wpAny_field pz rfl (x := .none) rfl (wpAny_pure (?_)))
  simp only [if_true]
  refine wpAny_bind (wpAny_rule (wpAny_bind (wpAny_field pz rfl (x := .ref TO) rfl (wpAny_bind (wpAny_setField_rec pz (by simp) fun g1 z1 s1 => ?_)))))
  have z1 : IsZip g1 z TI TO .ellipsis := z1
  refine wpAny_bind ?_
  simp only [List.forIn_cons, List.forIn_nil, List.zipIdx_cons, List.zipIdx_nil]
  refine wpAny_bind (wpAny_bind (wpAny_onRaise (?_)))
  show wpAny (model prog w) _ (Builtin.SmallTypes.nextOf (.ref i1) >>= _) _ _ _
  refine wpAny_bind (nt_end hh (p1.extBut s1.extBut D.i1z) (q1.extBut s1.extBut D.l1z) hx fun g2 e s2 he => ?_)
  obtain ⟨oe, hoe, hce⟩ := he
  have z2 : IsZip g2 z TI TO .ellipsis := s2 _ _ D.i1z.symm z1
  have ez : e ≠ z := fun q => by subst q; rw [z2] at hoe; cases hoe; simp at hce
  exact wpAny_setField_rec z2 (by simp) fun g3 _ s3 => k g3 e (fun c o c1 _ c3 _ q => s3.extBut _ _ c1 (s2 _ _ c3 (s1.extBut _ _ c1 q))) ⟨oe, s3.extBut _ _ ez hoe, hce⟩
theorem pn_item {z TI TO i1 i2 l1 l2 : Addr} {n m : Nat} {xs ys : Array Value} {x y a b : Value} {Q : Option Value → Shared → Prop} (D : ZipApart z TI TO i1 i2 l1 l2)
    (pz : IsZip s.heap z TI TO .none) (pI : IsPair s.heap TI (.ref i1) (.ref i2)) (pO : IsPair s.heap TO a b)
    (p1 : s.heap.IsTupleIter i1 l1 n) (p2 : s.heap.IsTupleIter i2 l2 m) (q1 : s.heap.IsTuple l1 xs) (q2 : s.heap.IsTuple l2 ys) (hx : xs[n]? = some x) (hy : ys[m]? = some y)
    (k : ∀ g, IsZip g z TI TO (rawInt s.heap.objs.size) → IsPair g TO x y → g.IsTupleIter i1 l1 (n + 1) → g.IsTupleIter i2 l2 (m + 1) → IsPair g s.heap.objs.size x y → g.objs.size = s.heap.objs.size + 1 →
      (∀ c o, c ≠ z → c ≠ TO → c ≠ i1 → c ≠ i2 → s.heap.get? c = some o → g.get? c = some o) → Q (some (.ref s.heap.objs.size)) { s with heap := g }) :
    wpAny (model prog w) A (pyNext (.ref z)) Q E s := by
  have ty : s.TypeIs (.ref z) "zip" := ⟨_, pz, rfl⟩
  unfold pyNext
  refine wpAny_bind (wpAny_attempt (wpAny_callSpecial?_slot (name := Str.ofString "__next__") ty F.slot_zip_next (wpAny_call_entry F.slot_zip_next ty F.entry_zip_next ?_ (F.args_zip_next_1 _))))
  exact zn_item D pz pI pO p1 p2 q1 q2 hx hy fun g a1 a2 a3 a4 a5 a6 a7 => wpAny_pure (k g a1 a2 a3 a4 a5 a6 a7)
theorem pn_end {z TI TO i1 i2 l1 l2 : Addr} {n m : Nat} {xs ys : Array Value} {a b : Value} {Q : Option Value → Shared → Prop} (hh : A.handled = none) (D : ZipApart z TI TO i1 i2 l1 l2)
    (pz : IsZip s.heap z TI TO .none) (pI : IsPair s.heap TI (.ref i1) (.ref i2)) (p1 : s.heap.IsTupleIter i1 l1 n) (q1 : s.heap.IsTuple l1 xs) (hx : xs[n]? = none)
    (k : ∀ g, (∀ c o, c ≠ z → c ≠ TO → c ≠ i1 → c ≠ i2 → s.heap.get? c = some o → g.get? c = some o) → Q none { s with heap := g }) : wpAny (model prog w) A (pyNext (.ref z)) Q E s := by
  have ty : s.TypeIs (.ref z) "zip" := ⟨_, pz, rfl⟩
  unfold pyNext
  refine wpAny_bind (wpAny_attempt (wpAny_callSpecial?_slot (name := Str.ofString "__next__") ty F.slot_zip_next (wpAny_call_entry F.slot_zip_next ty F.entry_zip_next (zn_end (m := m) (ys := ys) (a := a) (b := b) hh D pz pI p1 q1 hx fun g e hk he => ?_) (F.args_zip_next_1 _))))
  obtain ⟨o, ho, hc⟩ := he
  exact wpAny_bind (wpAny_isInstance (T := "StopIteration") (b := true) ⟨o, ho, hc⟩ isSubtype_stop (wpAny_pure (k _ hk)))
end
abbrev tiO (l : Addr) : Obj := { cls := .type "tuple_iterator", data := .fields #[.ref l, .int 0 0] }
abbrev prO (a b : Value) : Obj := { cls := .type "tuple", data := .seq #[a, b] }
abbrev zpO (a b : Addr) : Obj := { cls := .type "zip", data := .fields #[.none, .bool false, .bool false, .ref a, .ref b] }
abbrev zG2 (h : Heap) (l1 l2 : Addr) : Heap := (h.push (tiO l1)).push (tiO l2)
abbrev zG3 (h : Heap) (l1 l2 : Addr) : Heap := (zG2 h l1 l2).push (prO (.ref h.objs.size) (.ref (h.push (tiO l1)).objs.size))
abbrev zG4 (h : Heap) (l1 l2 : Addr) : Heap := (zG3 h l1 l2).push (prO .none .none)
abbrev zG5 (h : Heap) (l1 l2 : Addr) : Heap := (zG4 h l1 l2).push (zpO (zG2 h l1 l2).objs.size (zG3 h l1 l2).objs.size)
theorem meets_zipT (l1 l2 : Addr) (xs ys : Array Value) :
    Meets (Builtin.«zip.__new__» ⟨[.type "zip", .ref l1, .ref l2], []⟩) (fun _ R s => s.heap.IsTuple l1 xs ∧ s.heap.IsTuple l2 ys ∧ R (.ok (.ret (.ref (zG4 s.heap l1 l2).objs.size))) { s with heap := zG5 s.heap l1 l2 }) :=
  .of_wp fun prog w A R s h => by
    obtain ⟨hp, gs, dr, tk, os⟩ := s
    obtain ⟨q1, q2, h⟩ := h
    have hsub := sub_zip
    have L1 : Heap.IsTuple (Shared.heap ⟨hp, gs, dr, tk, os⟩) l1 xs := q1
    have L2 : Heap.IsTuple (Shared.heap ⟨hp.push (tiO l1), gs, dr, tk, os⟩) l2 ys := Heap.IsTuple.push q2 _
    wp_walk using wpAny_pyIter_tuple L1, wpAny_pyIter_tuple L2
    exact ⟨_, rfl, h⟩
section
variable {prog : Program} {w : World} {A : Around} {E : Value → Shared → Prop} {s : Shared}
theorem call_zipT {l1 l2 : Addr} {xs ys : Array Value} {Q : Value → Shared → Prop} (q1 : s.heap.IsTuple l1 xs) (q2 : s.heap.IsTuple l2 ys)
    (k : ∀ g, IsZip g (s.heap.objs.size + 4) (s.heap.objs.size + 2) (s.heap.objs.size + 3) .none → IsPair g (s.heap.objs.size + 2) (.ref s.heap.objs.size) (.ref (s.heap.objs.size + 1)) →
      IsPair g (s.heap.objs.size + 3) .none .none → g.IsTupleIter s.heap.objs.size l1 0 → g.IsTupleIter (s.heap.objs.size + 1) l2 0 → (∀ c o, s.heap.get? c = some o → g.get? c = some o) → Q (.ref (s.heap.objs.size + 4)) { s with heap := g }) :
    wpAny (model prog w) A (call (.type "zip") [.ref l1, .ref l2]) Q E s := by
  refine callType_new F.called_zip (by decide) (F.typeCall_zip_2 _ _) (F.newCall_zip_2 _ _) (fun obj => F.args_object_init_3 obj _ _) F.entry_zip_new (meets_zipT l1 l2 xs ys) ⟨q1, q2, ?_⟩
  have n1 : (s.heap.push (tiO l1)).objs.size = s.heap.objs.size + 1 := Heap.size_push ..
  have n2 : (zG2 s.heap l1 l2).objs.size = s.heap.objs.size + 2 := by rw [Heap.size_push, n1]
  have n3 : (zG3 s.heap l1 l2).objs.size = s.heap.objs.size + 3 := by rw [Heap.size_push, n2]
  have n4 : (zG4 s.heap l1 l2).objs.size = s.heap.objs.size + 4 := by rw [Heap.size_push, n3]
  have g5 : (zG5 s.heap l1 l2).get? (zG4 s.heap l1 l2).objs.size = some _ := Heap.get?_push_size _ rfl
  have g4 : (zG5 s.heap l1 l2).get? (zG3 s.heap l1 l2).objs.size = some _ := Heap.get?_push_of_some _ (Heap.get?_push_size _ rfl)
  have g3 : (zG5 s.heap l1 l2).get? (zG2 s.heap l1 l2).objs.size = some _ := Heap.get?_push_of_some _ (Heap.get?_push_of_some _ (Heap.get?_push_size _ rfl))
  have g2 : (zG5 s.heap l1 l2).get? (s.heap.push (tiO l1)).objs.size = some _ := Heap.get?_push_of_some _ (Heap.get?_push_of_some _ (Heap.get?_push_of_some _ (Heap.get?_push_size _ rfl)))
  have g1 : (zG5 s.heap l1 l2).get? s.heap.objs.size = some _ := Heap.get?_push_of_some _ (Heap.get?_push_of_some _ (Heap.get?_push_of_some _ (Heap.get?_push_of_some _ (Heap.get?_push_size _ rfl))))
  show _ ∧ _
  rw [n2, n3, n4] at g5
  rw [n1, n2] at g3
  rw [n3] at g4
  rw [n1] at g2
  rw [n4]
  exact ⟨⟨_, g5, rfl⟩, k _ g5 g3 g4 ⟨_, g1, rfl, rfl⟩ ⟨_, g2, rfl, rfl⟩ fun c o q => Heap.get?_push_of_some _ (Heap.get?_push_of_some _ (Heap.get?_push_of_some _ (Heap.get?_push_of_some _ (Heap.get?_push_of_some _ q))))⟩
end
end KZ
namespace L2
open PySem PySem.Spec PyProof.Rows
def Itzt (K : PySem.W.Frag) (a b : Addr) : It :=
  ⟨fun i H => ∃ (xs ys : List V) (x y : V), SqT K H a xs ∧ SqT K H b ys ∧ xs[i]? = some x ∧ ys[i]? = some y,
    fun i H v H' => ∃ T x y, v = .ref T ∧ H T = none ∧ H' = upd H T (.tup [x, y]) ∧ (∀ xs, SqT K H a xs → xs[i]? = some x) ∧ ∀ ys, SqT K H b ys → ys[i]? = some y,
    fun i H => ∃ xs : List V, SqT K H a xs ∧ xs.length ≤ i⟩
theorem turn_zipT {P : Program} {w : World} {K : PySem.W.Frag} {elts : List Expr} {kk : Nat} {tpos : Pos} {a b z TI TO i1 i2 : Addr} (D : ZipApart z TI TO i1 i2 a b) :
    Turn P w K (.Tuple elts kk tpos) (Itzt K a b) [z, TI, TO, i1, i2] z (fun i h => IsZip h z TI TO .none ∧ IsPair h TI (.ref i1) (.ref i2) ∧ (∃ x y, IsPair h TO x y) ∧ h.IsTupleIter i1 a i ∧ h.IsTupleIter i2 b i) where
  mem := by simp
  obj := fun i h st c hc => by
    obtain ⟨hz, hTI, ⟨x, y, hTO⟩, ⟨o1, e1, _, d1⟩, ⟨o2, e2, _, d2⟩⟩ := st
    have e' : c = z ∨ c = TI ∨ c = TO ∨ c = i1 ∨ c = i2 := by simpa using hc
    rcases e' with q | q | q | q | q
    · rw [q]; exact ⟨_, hz, fun v q => nomatch q⟩
    · rw [q]; exact ⟨_, hTI, fun v q => nomatch q⟩
    · rw [q]; exact ⟨_, hTO, fun v q => nomatch q⟩
    · rw [q]; exact ⟨o1, e1, fun v q => by rw [d1] at q; cases q⟩
    · rw [q]; exact ⟨o2, e2, fun v q => by rw [d2] at q; cases q⟩
  keep := fun i h h' st k => by
    obtain ⟨hz, hTI, ⟨x, y, hTO⟩, h1, h2⟩ := st
    exact ⟨k z (by simp) _ hz, k TI (by simp) _ hTI, ⟨x, y, k TO (by simp) _ hTO⟩, h1.at fun o q => k i1 (by simp) o q, h2.at fun o q => k i2 (by simp) o q⟩
  item := by
    intro X hP hw hK hc i pins s σ H E I hf st hg
    subst hP hw hK
    obtain ⟨hz, hTI, ⟨x0, y0, hTO⟩, h1, h2⟩ := st
    obtain ⟨xs, ys, x, y, hqx, hqy, hx, hy⟩ := hg
    obtain ⟨its, rv, p, _⟩ := I.tuple hqx
    obtain ⟨its2, rv2, p2, _⟩ := I.tuple hqy
    obtain ⟨u, hu, ru⟩ := rv.get hx
    obtain ⟨u2, hu2, ru2⟩ := rv2.get hy
    have hzl : z < s.heap.objs.size := Heap.lt_size hz
    refine KZ.pn_item D hz hTI hTO h1 h2 (show s.heap.IsTuple a its.toArray from p) (show s.heap.IsTuple b its2.toArray from p2) (x := u) (y := u2) (by simpa using hu) (by simpa using hu2) fun h' z' TO' h1' h2' hT hsz hk => ?_
    refine ⟨_, rfl, wpAny_letOwnedTupleGo_zip (s := { s with heap := h' }) z' fun h'' z'' sb => ?_⟩
    have hT2 : h''.get? s.heap.objs.size = some { cls := .type "tuple", data := .seq #[u, u2] } := (sb.2 _ (Nat.ne_of_gt hzl)).trans hT
    have new : ObjOk X.prog X.w (upd H s.heap.objs.size (.tup [x, y])) h'' s.heap.objs.size (.tup [x, y]) :=
      ⟨by show 2 ≤ sizeLine; decide, [u, u2], .cons ru (.cons ru2 .nil), ⟨_, hT2, rfl, _, rfl⟩⟩
    have I1 : Inv X pins σ (upd H s.heap.objs.size (.tup [x, y])) { s with heap := h'' } :=
      I.turnedNew (t' := s.toks) (ch := [z, TI, TO, i1, i2]) (fun c o hb q => (sb.2 c (fun q' => hb (by simp [q']))).trans (hk c o (fun q' => hb (by simp [q'])) (fun q' => hb (by simp [q'])) (fun q' => hb (by simp [q'])) (fun q' => hb (by simp [q'])) q)) hf (Nat.le_refl _) new
    refine ⟨.ref s.heap.objs.size, _, I1, rfl, ⟨_, x, y, rfl, I.hok.fresh (Nat.le_refl _), rfl, fun l hl => by rw [I.tuple_inj hl hqx]; exact hx, fun l hl => by rw [I.tuple_inj hl hqy]; exact hy⟩, ⟨z'', ?_, ⟨u, u2, ?_⟩, ?_, ?_⟩, fun c hcm => ?_⟩
    · exact (sb.2 _ D.TIz).trans (hk _ _ D.TIz D.TITO D.TIi1 D.TIi2 hTI)
    · exact (sb.2 _ D.TOz).trans TO'
    · exact h1'.at fun o q => (sb.2 _ D.i1z).trans q
    · exact h2'.at fun o q => (sb.2 _ D.i2z).trans q
    · have hlt : c < s.heap.objs.size := by
        have e' : c = z ∨ c = TI ∨ c = TO ∨ c = i1 ∨ c = i2 := by simpa using hcm
        rcases e' with q | q | q | q | q
        · rw [q]; exact hzl
        · rw [q]; exact Heap.lt_size hTI
        · rw [q]; exact Heap.lt_size hTO
        · rw [q]; obtain ⟨_, e1, _⟩ := h1; exact Heap.lt_size e1
        · rw [q]; obtain ⟨_, e2, _⟩ := h2; exact Heap.lt_size e2
      rw [upd_ne (Nat.ne_of_lt hlt)]
      exact (hf c hcm).1
  done := by
    intro X hP hw hK hc i pins s σ H E I hf st hg
    subst hP hw hK
    obtain ⟨hz, hTI, ⟨x0, y0, hTO⟩, h1, h2⟩ := st
    obtain ⟨xs, hqx, hend⟩ := hg
    obtain ⟨its, rv, p, _⟩ := I.tuple hqx
    have l1 := rv.length
    exact KZ.pn_end (m := i) (ys := #[]) (a := x0) (b := y0) (I.ok.hd hc) D hz hTI h1 (show s.heap.IsTuple a its.toArray from p) (by simp; omega) fun h' hk => ⟨rfl, I.turnedL (t' := s.toks) (ch := [z, TI, TO, i1, i2]) (fun c o hb q =>
      hk c o (fun q' => hb (by simp [q'])) (fun q' => hb (by simp [q'])) (fun q' => hb (by simp [q'])) (fun q' => hb (by simp [q'])) q) hf⟩
  self := fun A i s Q E st h => wpAny_pyIter_zip st.1 h
def iZipT (K : PySem.W.Frag) (ta : TA) : TI := fun σ H R => ta σ H fun vs H1 => ∃ a b xs ys, vs = [.ref a, .ref b] ∧ SqT K H1 a xs ∧ SqT K H1 b ys ∧ R (Itzt K a b) H1
theorem pi_zipT {X : Cx} {e e2 : Expr} {ta : TA} {p pos tpos : Pos} {elts : List Expr} {kk : Nat} (hg : Gl X "zip") (hm : X.mg "zip" = none) (ha : PA X [e, e2] ta)
    (hs : starEach [e, e2] X.env = (false, eval e X.env) :: starEach [e2] X.env := by rfl) (hpl : (backTo pos (starEach [e2] X.env)).any (·.1) = false := by rfl) :
    PI X (.Tuple elts kk tpos) (.Call (.Name "zip" p) [e, e2] [] pos) (iZipT X.K ta) := by
  intro pins s σ H R I h
  refine Call_ (ld_blt I hg hm boot_zip5 (PyProof.Rows.callWith_type1 (thn (ha pos pins s σ H _ I h) fun us s1 ⟨vs, H1, I1, r1, q1⟩ => ?_) hs hpl))
  obtain ⟨a, b, xs, ys, ex, hqx, hqy, q⟩ := q1
  subst ex
  cases r1 with
  | cons r rr =>
    cases rr with
    | cons r' rr =>
      cases rr
      cases r
      cases r'
      obtain ⟨its, rv, p1, _⟩ := I1.tuple hqx
      obtain ⟨its2, rv2, p2, _⟩ := I1.tuple hqy
      have la : a < s1.heap.objs.size := by obtain ⟨o, ho, _⟩ := p1; exact Heap.lt_size ho
      have lb : b < s1.heap.objs.size := by obtain ⟨o, ho, _⟩ := p2; exact Heap.lt_size ho
      refine KZ.call_zipT (show s1.heap.IsTuple a its.toArray from p1) (show s1.heap.IsTuple b its2.toArray from p2) fun h' hz hTI hTO h1 h2 hk => wpAny_pyIter_zip hz ?_
      have I2 : Inv X pins σ H1 { s1 with heap := h' } := I1.kept (t' := s1.toks) hk
      refine ⟨s1.heap.objs.size + 4, [s1.heap.objs.size + 4, s1.heap.objs.size + 2, s1.heap.objs.size + 3, s1.heap.objs.size, s1.heap.objs.size + 1], _, _, H1, rfl, I2, turn_zipT (PySem.W.ktu_apart s1.heap.objs.size a b la lb), ⟨hz, hTI, ⟨_, _, hTO⟩, h1, h2⟩, fun c hcm => ?_, q⟩
      have e' : c = s1.heap.objs.size + 4 ∨ c = s1.heap.objs.size + 2 ∨ c = s1.heap.objs.size + 3 ∨ c = s1.heap.objs.size ∨ c = s1.heap.objs.size + 1 := by simpa using hcm
      have hle : s1.heap.objs.size ≤ c := by
        rcases e' with z | z | z | z | z
        · rw [z]; exact Nat.le_add_right _ _
        · rw [z]; exact Nat.le_add_right _ _
        · rw [z]; exact Nat.le_add_right _ _
        · rw [z]; exact Nat.le_refl _
        · rw [z]; exact Nat.le_add_right _ _
      exact I1.fpOk hle (I1.hok.fresh hle)
theorem for_zipT {K : PySem.W.Frag} {a b : Addr} {xs ys : List V} {g : TG} {tb : TS} {D : Ends} {σ : St} {H : Hp} (hlen : xs.length = ys.length) (Pv : Nat → St → Hp → Prop) (h0 : Pv 0 σ H) (hl : ∀ i σ H, i ≤ xs.length → Pv i σ H → SqT K H a xs ∧ SqT K H b ys)
    (hs : ∀ i x y σ H T, xs[i]? = some x → ys[i]? = some y → Pv i σ H → H T = none → g (.ref T) σ (upd H T (.tup [x, y])) fun σ2 H2 => tb { D with nx := Pv (i + 1), ct := Pv (i + 1), bk := D.nx } σ2 H2) (hd : ∀ σ H, Pv xs.length σ H → D.nx σ H) :
    ∃ W : Nat → Nat → St → Hp → Prop, (∃ m, W 0 m σ H) ∧ ∀ i m σ H, W i m σ H →
      ((Itzt K a b).stop i H ∧ D.nx σ H) ∨ ((Itzt K a b).go i H ∧ ∃ N : St → Hp → Prop, (∀ σ' H', N σ' H' → ∃ m', m' < m ∧ W (i + 1) m' σ' H') ∧ ∀ x H', (Itzt K a b).yld i H x H' → g x σ H' fun σ2 H2 => tb { D with nx := N, ct := N, bk := D.nx } σ2 H2) := by
  refine ⟨fun i m σ H => i ≤ xs.length ∧ m = xs.length - i ∧ Pv i σ H, ⟨_, Nat.zero_le _, rfl, h0⟩, fun i m σ H ⟨h1, h2, h3⟩ => ?_⟩
  obtain ⟨qa, qb⟩ := hl i σ H h1 h3
  by_cases e : i = xs.length
  · exact .inl ⟨⟨xs, qa, by omega⟩, hd σ H (e ▸ h3)⟩
  · have hi : i < xs.length := by omega
    have hx := List.getElem?_eq_getElem hi
    have hy := List.getElem?_eq_getElem (show i < ys.length by omega)
    refine .inr ⟨⟨xs, ys, _, _, qa, qb, hx, hy⟩, Pv (i + 1), fun σ' H' q => ⟨xs.length - (i + 1), by omega, by omega, rfl, q⟩, fun x H' ⟨T, u, v, e1, e2, e3, e4, e5⟩ => ?_⟩
    subst e1 e3
    exact hs i u v σ H T (e4 xs qa) (e5 ys qb) h3 e2
end L2
namespace L2
open PySem PySem.Spec PyProof.Rows KX
theorem Cx.Ok.back {X : Cx} {e : Addr} {o : Obj} {W : Value → Shared → Prop} (ok : (X.inH e o W).Ok) (h : X.A.handled = none) : X.Ok :=
  ⟨ok.mod, ok.kind, ok.glob, ok.blt, ok.above, ok.inj, ok.has, ok.cab, fun _ => h, (by rw [← show (X.inH e o W).A.frames = X.A.frames from mark_frames]; exact ok.frames), ok.stk, ok.exf, ok.bs, ok.bsz, ok.noex, ok.exfs, ok.funs, ok.frf⟩
theorem pss_from {X : Cx} {E : XK} {e : Addr} {o : Obj} {x : Str} {C CU fI : Addr} {row : Str} {np cpos pos p2 : Pos} {e1 : Expr} {t : TA} {j : Nat} (F : Fst X) (hpn : X.pn = []) (hr : Room 3 X.A) (ht : Throws X E) (c : XCls X.K C) (i : XInit X.K C fI row) (hg : Gl X x) (hm : X.mg x = some (.ref C))
    (ha : PA (X.inH e o (Wof X e)) [e1] t) (hl : Hld CU none o) (hd : (x == ("__debug__" : Str)) = false := by decide) (hs : starEach [e1] X.env = [(false, eval e1 X.env)] := by rfl) :
    PSs (X.inH e o (Wof X e)) [.Raise (some (.Call (.Name x np) [e1] [] cpos)) (some (.Constant .none j p2)) pos] (tRaise1 C row E t) := by
  obtain ⟨vs, rfl, hz⟩ := hl.ex
  refine pss_one (ps_raiseFrom (X := X.inH e _ (Wof X e)) (e0 := e) (o0 := xObj CU none vs) (vs0 := vs) rfl (List.mem_append_right _ (List.mem_singleton.mpr rfl)) rfl (hz rfl) c i hg hm F.ex ?_ (fun ok => throws_inH F hpn ht (ok.back hr.hd)) ha hd hs)
  have := hr.dp
  show X.A.depth + 2 < recursionLimit
  omega
theorem for_enum1 {K : PySem.W.Frag} {a : Addr} {xs : List V} {g : TG} {tb : TS} {D : Ends} {σ : St} {H : Hp} (Pv : Nat → St → Hp → Prop) (h0 : Pv 0 σ H) (hl : ∀ i σ H, i ≤ xs.length → Pv i σ H → SqL K H a xs)
    (hs : ∀ i x σ H T, xs[i]? = some x → Pv i σ H → H T = none → g (.ref T) σ (upd H T (.tup [.int ((i : Nat) + 1), x])) fun σ2 H2 => tb { D with nx := Pv (i + 1), ct := Pv (i + 1), bk := D.nx } σ2 H2) (hd : ∀ σ H, Pv xs.length σ H → D.nx σ H) :
    ∃ W : Nat → Nat → St → Hp → Prop, (∃ m, W 0 m σ H) ∧ ∀ i m σ H, W i m σ H →
      ((Ite1 K a).stop i H ∧ D.nx σ H) ∨ ((Ite1 K a).go i H ∧ ∃ N : St → Hp → Prop, (∀ σ' H', N σ' H' → ∃ m', m' < m ∧ W (i + 1) m' σ' H') ∧ ∀ x H', (Ite1 K a).yld i H x H' → g x σ H' fun σ2 H2 => tb { D with nx := N, ct := N, bk := D.nx } σ2 H2) := by
  refine ⟨fun i m σ H => i ≤ xs.length ∧ m = xs.length - i ∧ Pv i σ H, ⟨_, Nat.zero_le _, rfl, h0⟩, fun i m σ H ⟨h1, h2, h3⟩ => ?_⟩
  have qa := hl i σ H h1 h3
  by_cases e : i = xs.length
  · exact .inl ⟨⟨xs, qa, by omega⟩, hd σ H (e ▸ h3)⟩
  · have hi : i < xs.length := by omega
    have hx := List.getElem?_eq_getElem hi
    refine .inr ⟨⟨xs, _, qa, hx⟩, Pv (i + 1), fun σ' H' q => ⟨xs.length - (i + 1), by omega, by omega, rfl, q⟩, fun x H' ⟨T, u, e1, e2, e3, e4⟩ => ?_⟩
    subst e1 e3
    exact hs i u σ H T (e4 xs qa) h3 e2
theorem ps_tryO {X : Cx} {k : Nat} {ps : List Str} {sp : Sp} {g xU : Str} {CU : Addr} {p cpos epos pos np hpos : Pos} {a1 : Expr} {as : List Expr} {t : TA} {b0 : Stmt} {suite : List Stmt} {ts : TS} (F : Fst X) (O : Prom X.prog X.w X.K X.mg X.base (CXo X.prog X.w) k g ps sp) (hr : Room k X.A)
    (ha : ∀ W, PA (X.wish W) (a1 :: as) t) (c : XCls X.K CU) (hmU : X.mg xU = some (.ref CU)) (hs : ∀ e o, Hld CU none o → PSs (X.inH e o (Wof X e)) (b0 :: suite) ts) (hg : Gl X g := by rfl) (hgU : Gl X xU := by rfl)
    (hdb : (g == ("__debug__" : Str)) = false := by decide) (he : starEach (a1 :: as) X.env = (false, eval a1 X.env) :: starEach as X.env := by rfl) (hpl : (backTo cpos (starEach as X.env)).any (·.1) = false := by rfl) (hsw : swapsWith (.Call (.Name g p) (a1 :: as) [] cpos) none epos.line X.env = pure false := by rfl)
    (hdU : (xU == ("__debug__" : Str)) = false := by decide) :
    PS X (.Try [.Expr (.Call (.Name g p) (a1 :: as) [] cpos) epos] [.ExceptHandler (some (.Name xU np)) none (b0 :: suite) hpos] [] [] pos) (tTry0 sp CU t ts) := by
  obtain ⟨f, fd, a, b, c', d⟩ := O.ex
  exact ps_try0 F d hr hg a b c' ha c hgU hmU hs hdb he hpl hsw hdU
end L2
namespace Kf
open PySem PySem.Spec PyProof.Rows L2 KX
open Sf52 (Bytes Families)
open Sf91 (ids)
def KvOf (x : Families) (ps : List Addr) : List (Key × V) := List.zipWith (fun z q => (Sum.inl (z.2.id : Int), V.ref q)) x ps
def FamIn (CP : Addr) (H : Hp) (x : Families) (ps : List Addr) : Prop := Paired (fun (z : Nat × Sf52.Person) q => PersonAt CP H q z.1 z.2) x ps
theorem kv_len {x : Families} {ps : List Addr} (h : x.length = ps.length) : (KvOf x ps).length = x.length := by unfold KvOf; rw [List.length_zipWith]; omega
theorem FamIn.same {CP : Addr} {H H' : Hp} {x : Families} {ps : List Addr} (f : FamIn CP H x ps) (s : Same H H') : FamIn CP H' x ps := pd_imp f fun _ _ _ h => h.same s
theorem fam_get {R : Nat × Sf52.Person → Addr → Prop} {x : Families} {ps : List Addr} (F : Paired R x ps) (n : Nat) :
    (x.get n = none → valV (KvOf x ps) (Sum.inl (n : Int)) = none) ∧ (∀ p, x.get n = some p → ∃ q k, valV (KvOf x ps) (Sum.inl (n : Int)) = some (.ref q) ∧ R (k, p) q ∧ (k, p) ∈ x) := by
  induction F with
  | nil => exact ⟨fun _ => rfl, fun p h => by cases h⟩
  | cons y r ih =>
    rename_i z q x ps
    have ek : KvOf (z :: x) (q :: ps) = (Sum.inl (z.2.id : Int), V.ref q) :: KvOf x ps := rfl
    have eg : Families.get (z :: x) n = if z.2.id = n then some z.2 else Families.get x n := by
      unfold Families.get
      rw [List.find?_cons]
      by_cases h : z.2.id = n
      · rw [if_pos h, h]; simp
      · rw [if_neg h, beq_eq_false_iff_ne.mpr h]
    rw [ek, eg]
    by_cases h : z.2.id = n
    · rw [if_pos h, valV_pos (by rw [h])]
      refine ⟨fun w => (by cases w), fun p w => ?_⟩
      cases w
      exact ⟨q, z.1, rfl, y, List.mem_cons_self⟩
    · rw [if_neg h, valV_neg (by intro w; injection w with w; exact h (by omega))]
      refine ⟨ih.1, fun p w => ?_⟩
      obtain ⟨q', k, a, b, c⟩ := ih.2 p w
      exact ⟨q', k, a, b, List.mem_cons_of_mem _ c⟩
def SameBut (d : Addr) (H H' : Hp) : Prop := ∀ b o, H b = some o → b ≠ d → H' b = some o
theorem PersonAt.but {CP : Addr} {H H' : Hp} {q d : Addr} {row : Nat} {p : Sf52.Person} {kvs : List (Key × V)} (x : PersonAt CP H q row p) (s : SameBut d H H') (hd : H d = some (.dK kvs)) : PersonAt CP H' q row p := by
  obtain ⟨dx, ab, ad, ap, a, b, c, e⟩ := x
  exact ⟨dx, ab, ad, ap, s _ _ a (ne_of a hd (by intro z; cases z)), s _ _ b (ne_of b hd (by intro z; cases z)), s _ _ c (ne_of c hd (by intro z; cases z)), s _ _ e (ne_of e hd (by intro z; cases z))⟩
theorem kv_snoc {x : Families} {ps : List Addr} (h : x.length = ps.length) (z : Nat × Sf52.Person) (q : Addr) : KvOf (x ++ [z]) (ps ++ [q]) = KvOf x ps ++ [(Sum.inl (z.2.id : Int), V.ref q)] := by
  unfold KvOf
  rw [List.zipWith_append h]
  rfl
def lineOf (row : Nat) (x : Families) (b : Bytes) : Option Families :=
  if 255 < b.length then none else if Sf52.words b = [] then some x else match Sf52.person (Sf52.words b) with
    | none => none
    | some p => if (x.get p.id).isSome = true ∨ 1024 ≤ x.length then none else some (x ++ [(row, p)])
theorem reads_line (k : Nat) (x : Families) (b : Bytes) (r : List Bytes) : Sf52.reads k x (b :: r) = match lineOf k x b with | none => .error k | some y => Sf52.reads (k + 1) y r := by
  unfold lineOf
  rw [Sf52.reads]
  split
  · rfl
  · split
    · rfl
    · split
      · rename_i e; rw [e]
      · rename_i p e
        rw [e]
        dsimp only
        split <;> rfl
theorem lineOf_ok {k : Nat} {x y : Families} {b : Bytes} (F : FamOk x) (h : lineOf k x b = some y) : FamOk y := by
  unfold lineOf at h
  split at h
  · cases h
  · split at h
    · cases h; exact F
    · split at h
      · cases h
      · rename_i p e
        split at h
        · cases h
        · rename_i c
          cases h
          exact F.snoc (person_ok e) c
theorem words_wds (b : Bytes) (h : b.length ≤ 4000) : Wds (Sf52.words b) := by
  have hl2 : (b.takeWhile fun c => c != 35).length ≤ 4000 := Nat.le_trans (List.takeWhile_prefix _).length_le h
  refine ⟨fun u hu => ?_, ?_⟩
  · have hu := List.mem_filter.mp hu
    have := split_lens Sf52.blank _ [] u hu.1
    refine ⟨by simpa using hu.2, ?_⟩
    simp at this
    omega
  · have := List.length_filter_le (fun w : Bytes => w != []) (Sf52.split Sf52.blank (b.takeWhile fun c => c != 35) [])
    have h2 := split_len Sf52.blank (b.takeWhile fun c => c != 35) []
    unfold Sf52.words
    omega
section
variable {P : Program} {w : World} {K : PySem.W.Frag} {mg : Str → Option Value} {base : Heap} {CU CN fN CP fP : Addr}
abbrev sTake : Stmt := top 34
def spTake (K : PySem.W.Frag) (CU CP : Addr) : Sp := fun vs H Q E => ∃ (d c : Addr) (row : Nat) (x : Families) (ps : List Addr) (b : Bytes), vs = [.ref d, .ref c, .int (row : Int)] ∧ H d = some (.dK (KvOf x ps)) ∧ FamIn CP H x ps ∧ FamOk x ∧ SqL K H c (bv b) ∧ b.length ≤ 4000 ∧
  (∀ y, lineOf row x b = some y → ∀ (H' : Hp) (ps' : List Addr), H' d = some (.dK (KvOf y ps')) → FamIn CP H' y ps' → SameBut d H H' → Q .non H') ∧ (lineOf row x b = none → ∀ H' : Hp, Same H H' → E (.ref CU) none H')
theorem scTake : FnScope ["persons", "content", "row", "words", "person"] ["persons", "content", "row"] (defScope sTake) := ⟨rfl, rfl, rfl, by decide +kernel, rfl, by decide +kernel, by decide +kernel⟩
theorem ok_take (T : Txt K mg CU CN fN CP fP) (d : Def K mg "take_line" ["persons", "content", "row"] sTake) (O1 : Prom P w K mg base CX0 2 "words_of" ["content"] (spWords K)) (O2 : Prom P w K mg base (CXo P w) 5 "read_person" ["words", "row"] (spPerson K CU CP)) :
    Prom P w K mg base (CXo P w) 6 "take_line" ["persons", "content", "row"] (spTake K CU CP) := by
  refine d.wild scTake (fun vs H Q E h => ?_) (fun f cdv A outer s H vs Q E hr h => ?_)
  · obtain ⟨d, c, row, x, ps, b, rfl, _⟩ := h
    rfl
  · obtain ⟨d, c, row, x, ps, b, rfl, hd, F, FO, hc, hl, k1, k2⟩ := h
    have hpl := pd_len F
    refine ⟨_, pss_cons (ps_if (pt_cmpR op_gt (pe_callB call_len_seq (by rfl) T.len PySem.boot_len (pa_cons (pv 1) pa_nil)) (pe_gi T.long) (nomark _)) (pss_one (ps_raise0 T.uC T.uI rfl T.uM rfl rfl throws_body)) pss_nil)
      (pss_cons (ps_set (i := 3) scTake.nd rfl (Or.inl rfl) (pe_fc O1 (hr.mono (by decide)) (pa_cons (pv 1) pa_nil)))
      (pss_cons (ps_if (pt_cmpR op_eq (pe_callB call_len_seq (by rfl) T.len PySem.boot_len (pa_cons (pv 3) pa_nil)) pe_int (nomark _)) (pss_one ps_retN) pss_nil)
      (pss_cons (ps_set (i := 4) scTake.nd rfl (Or.inl rfl) (pe_f O2 hr (passes_of throws_body rfl) (pa_cons (pv 3) (pa_cons (pv 2) pa_nil))))
      (pss_cons (ps_if (PW.pt (pw_or (pt_cmp (pc_din (hu_of hr) (pe_fld (pv 4) rfl) (pv 0)) (by with_unfolding_all rfl)) (pw_or1 (pt_cmpR op_eq (pe_callB call_lenD (by rfl) T.len PySem.boot_len (pa_cons (pv 0) pa_nil)) (pe_gi T.mosP) (nomark _))))) (pss_one (ps_raise0 T.uC T.uI rfl T.uM rfl rfl throws_body)) pss_nil)
      (pss_one (ps_dput (hu_of hr) (pv 0) (pe_fld (pv 4) rfl) (pv 4) rfl)))))), ?_⟩
    refine ⟨_, rfl, c, _, rfl, .inl hc, _, _, rfl, rfl, _, rfl, ?_⟩
    rw [bv_len]
    refine ite2 (fun h => ?_) (fun h => ?_)
    · have h := of_decide_eq_true h
      exact k2 (by unfold lineOf; rw [if_pos (by omega)]) _ (Same.refl _)
    · have h : ¬ 255 < b.length := fun z => h (decide_eq_true (by omega))
      refine ⟨_, rfl, c, b, rfl, hc, hl, fun H1 q s1 hq => ?_⟩
      obtain ⟨as, hs, pd⟩ := id hq
      have el := pd_len pd
      refine ⟨_, rfl, q, _, rfl, .inl hs, rfl, _, rfl, ?_⟩
      rw [List.length_map, show ((0 : Int)) = ((0 : Nat) : Int) from rfl, dec_nat, el]
      refine ite2 (fun g => ?_) (fun g => ?_)
      · have g : Sf52.words b = [] := List.length_eq_zero_iff.mp (of_decide_eq_true g)
        exact k1 x (by unfold lineOf; rw [if_neg h, if_pos g]) H1 ps (s1 _ _ hd) (F.same s1) fun b o e _ => s1 _ _ e
      · have g : Sf52.words b ≠ [] := fun z => g (decide_eq_true (by rw [z]; rfl))
        refine ⟨_, rfl, _, rfl, q, Sf52.words b, row, rfl, hq, words_wds b hl, fun p hp H2 v2 s2 e2 => ?_, fun hn H2 s2 => k2 (by unfold lineOf; rw [if_neg h, if_neg g, hn]) _ (s1.trans s2)⟩
        obtain ⟨pq, rfl, hpq⟩ := e2
        have S2 := s1.trans s2
        have hd2 := S2 _ _ hd
        have F2 := F.same S2
        obtain ⟨dx, ab, ad, ap, hins, hb1, hb2, hb3⟩ := id hpq
        have fg := fam_get F2 p.id
        have bad : ((x.get p.id).isSome = true ∨ 1024 ≤ x.length) → E (.ref CU) none H2 := fun z => k2 (by unfold lineOf; rw [if_neg h, if_neg g, hp]; dsimp only; rw [if_pos z]) _ S2
        refine ⟨_, rfl, pq, CP, dx, _, _, rfl, hins, T.pC, T.pn, pf_number _ _ _ _ _ _, _, rfl, d, _, rfl, DGet.k (k := Sum.inl (p.id : Int)) hd2, _, rfl, ?_⟩
        cases eg : x.get p.id with
        | some p' =>
          obtain ⟨q', k', e', _⟩ := fg.2 p' eg
          rw [e']
          exact iteT (bad (.inl (by rw [eg]; rfl)))
        | none =>
          have en := fg.1 eg
          rw [en]
          refine iteF ⟨_, rfl, d, _, rfl, hd2, rfl, _, rfl, ?_⟩
          rw [kv_len hpl, show ((1024 : Int)) = ((1024 : Nat) : Int) from rfl, dec_nat]
          refine ite2 (fun l => ?_) (fun l => ?_)
          · have l := of_decide_eq_true l
            exact bad (.inr (by omega))
          · have l : x.length ≠ 1024 := fun z => l (decide_eq_true z)
            have l2 := FO.len
            have nb : ¬ ((x.get p.id).isSome = true ∨ 1024 ≤ x.length) := by
              rintro (z | z)
              · rw [eg] at z; cases z
              · omega
            refine ⟨_, rfl, _, rfl, _, rfl, pq, CP, dx, _, _, rfl, hins, T.pC, T.pn, pf_number _ _ _ _ _ _, d, _, rfl, DPut.k (k := Sum.inl (p.id : Int)) hd2 (by rw [kv_len hpl]; exact sz (by omega)), ?_⟩
            rw [putK_new _ en]
            have sb : SameBut d H2 (upd H2 d (.dK (KvOf x ps ++ [(Sum.inl (p.id : Int), V.ref pq)]))) := fun b o e n => by rw [upd_ne n]; exact e
            refine k1 (x ++ [(row, p)]) (by unfold lineOf; rw [if_neg h, if_neg g, hp]; dsimp only; rw [if_neg nb]) _ (ps ++ [pq]) (by rw [kv_snoc hpl]; exact upd_same) ?_ fun b o e n => sb _ _ (S2 _ _ e) n
            exact pd_snoc (pd_imp F2 fun z q _ hz => hz.but sb hd2) (hpq.but sb hd2)
end
end Kf
namespace Kf
open PySem PySem.Spec PyProof.Rows L2 KX
open Sf52 (Bytes Families)
open Sf91 (ids)
theorem sq_but {K : PySem.W.Frag} {H H' : Hp} {a d : Addr} {xs : List V} {kvs : List (Key × V)} (h : SqL K H a xs) (s : SameBut d H H') (hd : H d = some (.dK kvs)) : SqL K H' a xs := by
  rcases h with (h | ⟨o, h⟩) | h
  · exact .inl (.inl (s _ _ h (ne_of h hd (by intro z; cases z))))
  · exact .inl (.inr ⟨o, s _ _ h (ne_of h hd (by intro z; cases z))⟩)
  · exact .inr h
section
variable {P : Program} {w : World} {K : PySem.W.Frag} {mg : Str → Option Value} {base : Heap} {CU CN fN CP fP : Addr}
def Bad (CN : Addr) (H : Hp) (E : XK) (k : Nat) : Prop := ∀ (H' : Hp) (dx : Addr), Same H H' → H' dx = some (.xd [("row", .int (k : Int))]) → E (.ref CN) (some dx) H'
abbrev sPersons : Stmt := top 33
def spPersons (K : PySem.W.Frag) (CN CP : Addr) : Sp := fun vs H Q E => ∃ (a : Addr) (t : Bytes), vs = [.ref a] ∧ SqL K H a (bv t) ∧ t.length ≤ 4000 ∧
  (∀ x, Sf52.reads 1 [] (Sf52.linesOf t []) = .ok x → FamOk x → ∀ (H' : Hp) (d : Addr) (ps : List Addr), Same H H' → H d = none → H' d = some (.dK (KvOf x ps)) → FamIn CP H' x ps → Q (.ref d) H') ∧
  (∀ k, Sf52.reads 1 [] (Sf52.linesOf t []) = .error k → Bad CN H E k)
theorem scPersons : FnScope ["text", "persons", "row", "content"] ["text"] (defScope sPersons) := ⟨rfl, rfl, rfl, by decide +kernel, rfl, by decide +kernel, by decide +kernel⟩
theorem ok_persons (T : Txt K mg CU CN fN CP fP) (d : Def K mg "read_persons" ["text"] sPersons) (O1 : Prom P w K mg base CX0 1 "split_at" ["values", "marks"] (spSplit K)) (O2 : Prom P w K mg base (CXo P w) 6 "take_line" ["persons", "content", "row"] (spTake K CU CP)) :
    Prom P w K mg base (CXo P w) 7 "read_persons" ["text"] (spPersons K CN CP) := by
  refine d.wild scPersons (fun vs H Q E h => ?_) (fun f cdv A outer s H vs Q E hr h => ?_)
  · obtain ⟨a, t, rfl, _⟩ := h
    rfl
  · obtain ⟨a, t, rfl, hA, hl, k1, k2⟩ := h
    refine ⟨_, pss_cons (ps_set (i := 1) scPersons.nd rfl (Or.inl rfl) pe_dnewK)
      (pss_cons (ps_for PassesOwn.leaving rfl (pi_enum1 (by rfl) T.enum (pa_cons (pe_fc O1 (hr.mono (by decide)) (pa_cons (pv 0) (pa_cons (pe_tup (pa_cons (pe_gi T.lf) pa_nil)) pa_nil))) pa_nil) (pk_cons pe_int pk_nil))
          (pg_tup rfl (pgs_cons (pg_name (i := 2) scPersons.nd rfl (Or.inl rfl)) (pgs_cons (pg_name (i := 3) scPersons.nd rfl (Or.inl rfl)) pgs_nil)))
        (pss_one (ps_tryO ⟨rfl, rfl, rfl⟩ O2 hr (fun W => pa_cons (pv 1) (pa_cons (pv 3) (pa_cons (pv 2) pa_nil))) T.uC T.uM
          (fun e o hh => pss_from ⟨rfl, rfl, rfl⟩ rfl (hr.mono (by decide)) throws_body T.nC T.nI rfl T.nM (pa_cons (pv 2) pa_nil) hh))))
      (pss_one (ps_ret (pv 1)))), ?_⟩
    intro d hd
    have s0 : Same H (upd H d (.dK [])) := Same.new hd
    refine ⟨_, rfl, (by show 1 ≤ sizeLine; decide), fun tp htp => ?_⟩
    have s1 : Same (upd H d (.dK [])) (upd (upd H d (.dK [])) tp (.tup [.int 10])) := Same.new htp
    refine ⟨a, tp, t, [10], fun c => c == 10, rfl, (s0.trans s1).seq hA, SqT.of upd_same, mark1 10, hl, fun H1 q s2 hq => ?_⟩
    obtain ⟨as, hs, pd⟩ := hq
    have S1 : Same (upd H d (.dK [])) H1 := s1.trans s2
    have S0 := s0.trans S1
    have el := pd_len pd
    have er := reads_lines t
    rw [er] at k1 k2
    generalize hsp : Sf52.split (fun c => c == 10) t [] = ls at pd el k1 k2
    have lens : ∀ l ∈ ls, l.length ≤ 4000 := fun l hm => by
      have := split_lens (fun c => c == 10) t [] l (by rw [hsp]; exact hm)
      simp at this
      omega
    have hd1 : H1 d = some (.dK []) := S1 _ _ upd_same
    refine ⟨q, _, rfl, rfl, hs, for_enum1 (K := K) (a := q) (xs := as.map V.ref) (fun i σ H' => ∃ (v1 v2 : Option V) (x : Families) (ps : List Addr), σ = [some (.ref a), some (.ref d), v1, v2] ∧ SameBut d H1 H' ∧ H' d = some (.dK (KvOf x ps)) ∧ FamIn CP H' x ps ∧ FamOk x ∧ Sf52.reads 1 [] ls = Sf52.reads (i + 1) x (ls.drop i))
      ⟨none, none, [], [], rfl, fun b o e _ => e, S1 _ _ upd_same, .nil, FamOk.nil, rfl⟩ ?_ ?_ ?_⟩
    · rintro i σ H' _ ⟨v1, v2, x, ps, rfl, sb, _⟩
      exact sq_but hs sb hd1
    · rintro i y σ H' tq hi ⟨v1, v2, x, ps, rfl, sb, hd', F, FO, eq⟩ htq
      rw [List.getElem?_map] at hi
      cases e : as[i]? with
      | none => rw [e] at hi; cases hi
      | some r =>
        rw [e] at hi
        cases hi
        obtain ⟨b, hb, hr2⟩ := paired_get pd e
        have il : i < ls.length := (List.getElem?_eq_some_iff.mp hb).1
        rw [get_take_drop hb, reads_line] at eq
        have s3 : Same H' (upd H' tq (.tup [.int ((i : Nat) + 1), .ref r])) := Same.new htq
        have sb3 : SameBut d H1 (upd H' tq (.tup [.int ((i : Nat) + 1), .ref r])) := fun c o e n => s3 _ _ (sb _ _ e n)
        have toH : ∀ H2, SameBut d H1 H2 → Same H H2 := fun H2 z c o e => z _ _ (S0 _ _ e) (ne_of_none e hd)
        refine ⟨tq, _, rfl, SqT.of upd_same, rfl, _, _, rfl, _, _, rfl, rfl, ?_⟩
        refine ⟨_, rfl, _, rfl, _, rfl, d, r, i + 1, x, ps, b, rfl, s3 _ _ hd', F.same s3, FO, sq_but hr2 sb3 hd1, lens b (List.mem_of_getElem? hb), fun y hy H4 ps' h4 F4 sb4 => ?_, fun hn H4 s4 => ?_⟩
        · rw [hy] at eq
          exact ⟨_, _, y, ps', rfl, fun c o e n => sb4 _ _ (sb3 _ _ e n) n, h4, F4, lineOf_ok FO hy, eq⟩
        · rw [hn] at eq
          refine ⟨rfl, rfl, _, rfl, _, rfl, fun dx hdx => ?_⟩
          exact k2 (i + 1) eq _ dx ((toH _ fun c o e n => s4 _ _ (sb3 _ _ e n)).trans (Same.new hdx)) upd_same
    · rintro σ H' ⟨v1, v2, x, ps, rfl, sb, hd', F, FO, eq⟩
      rw [List.length_map, el, List.drop_length, Sf52.reads] at eq
      exact ⟨_, rfl, k1 x eq FO _ d ps (fun c o e => sb _ _ (S0 _ _ e) (ne_of_none e hd)) hd hd' F⟩
end
end Kf
namespace Kf
open PySem PySem.Spec PyProof.Rows L2 KX
open Sf52 (Bytes Families)
open Sf91 (ids parentsOf)
def iv (l : List Nat) : List V := l.map fun (n : Nat) => V.int (n : Int)
theorem iv_len (l : List Nat) : (iv l).length = l.length := List.length_map ..
theorem iv_snoc (l : List Nat) (n : Nat) : iv (l ++ [n]) = iv l ++ [.int (n : Int)] := by simp [iv]
theorem iv_get {l : List Nat} {i : Nat} {v : V} (h : (iv l)[i]? = some v) : ∃ c, l[i]? = some c ∧ v = .int (c : Int) := by
  unfold iv at h
  rw [List.getElem?_map] at h
  cases e : l[i]? with
  | none => rw [e] at h; cases h
  | some c => rw [e] at h; exact ⟨c, rfl, (Option.some.inj h).symm⟩
def kn (l : List Nat) : List (Key × V) := l.map fun (n : Nat) => (Sum.inl (n : Int), V.bl true)
theorem kn_len (l : List Nat) : (kn l).length = l.length := List.length_map ..
theorem kn_snoc (l : List Nat) (n : Nat) : kn (l ++ [n]) = kn l ++ [(Sum.inl (n : Int), V.bl true)] := by simp [kn]
theorem kn_val (l : List Nat) (n : Nat) : valV (kn l) (Sum.inl (n : Int)) = if n ∈ l then some (.bl true) else none := by
  induction l with
  | nil => rfl
  | cons a r ih =>
    show valV ((Sum.inl (a : Int), V.bl true) :: kn r) (Sum.inl (n : Int)) = _
    by_cases h : a = n
    · subst h
      rw [valV_pos rfl, if_pos List.mem_cons_self]
    · rw [valV_neg (by intro z; injection z with z; exact h (by omega)), ih]
      by_cases g : n ∈ r
      · rw [if_pos g, if_pos (List.mem_cons_of_mem _ g)]
      · rw [if_neg g, if_neg fun z => (List.mem_cons.mp z).elim (fun e => h e.symm) g]
def PersAt (CP : Addr) (H : Hp) (d : Addr) (x : Families) (ps : List Addr) : Prop := Rd H d (.dK (KvOf x ps)) ∧ FamIn CP H x ps
theorem Rd.same {H H' : Hp} {a : Addr} {u : HO} (r : Rd H a u) (s : Same H H') : Rd H' a u := by
  rcases r with h | ⟨o, h⟩
  · exact .inl (s _ _ h)
  · exact .inr ⟨o, s _ _ h⟩
theorem PersAt.same {CP : Addr} {H H' : Hp} {d : Addr} {x : Families} {ps : List Addr} (p : PersAt CP H d x ps) (s : Same H H') : PersAt CP H' d x ps := ⟨Rd.same p.1 s, p.2.same s⟩
theorem PersAt.get {CP : Addr} {H : Hp} {d : Addr} {x : Families} {ps : List Addr} (p : PersAt CP H d x ps) {n : Nat} {q : Sf52.Person} (h : x.get n = some q) : ∃ a k, DGet H d (.int (n : Int)) (some (.ref a)) ∧ PersonAt CP H a k q ∧ (k, q) ∈ x := by
  obtain ⟨a, k, e, r, m⟩ := (fam_get p.2 n).2 q h
  exact ⟨a, k, .inl ⟨_, Sum.inl (n : Int), p.1, rfl, e.symm⟩, r, m⟩
theorem PersAt.has {CP : Addr} {H : Hp} {d : Addr} {x : Families} {ps : List Addr} (p : PersAt CP H d x ps) (n : Nat) : ∃ o, DGet H d (.int (n : Int)) o ∧ o.isSome = (x.get n).isSome := by
  cases e : x.get n with
  | none => exact ⟨none, .inl ⟨_, Sum.inl (n : Int), p.1, rfl, ((fam_get p.2 n).1 e).symm⟩, rfl⟩
  | some q =>
    obtain ⟨a, k, h, _⟩ := p.get e
    exact ⟨_, h, rfl⟩
theorem parents_eq {p : Sf52.Person} (hf : p.father ≠ some 0) (hm : p.mother ≠ some 0) : [told p.father, told p.mother].filter (fun n => decide (n ≠ 0)) = p.parents := by
  unfold Sf52.Person.parents
  cases ef : p.father with
  | none => cases em : p.mother with
    | none => rfl
    | some m =>
      have h : m ≠ 0 := fun z => hm (by rw [em, z])
      simp [told, h]
  | some f =>
    have h1 : f ≠ 0 := fun z => hf (by rw [ef, z])
    cases em : p.mother with
    | none => simp [told, h1]
    | some m =>
      have h : m ≠ 0 := fun z => hm (by rw [em, z])
      simp [told, h, h1]
section
variable {P : Program} {w : World} {K : PySem.W.Frag} {mg : Str → Option Value} {base : Heap} {CU CN fN CP fP : Addr}
abbrev sKnown : Stmt := top 42
def spKnown (CP : Addr) : Sp := fun vs H Q _ => ∃ (q : Addr) (k : Nat) (p : Sf52.Person), vs = [.ref q] ∧ PersonAt CP H q k p ∧ PersonOk p ∧ ∀ (H' : Hp) (l : Addr), Same H H' → H l = none → H' l = some (.lst (iv p.parents)) → Q (.ref l) H'
theorem scKnown : FnScope ["person", "parent"] ["person"] (defScope sKnown) := ⟨rfl, rfl, rfl, by decide +kernel, rfl, by decide +kernel, by decide +kernel⟩
theorem filter_take0 {l : List Nat} {i : Nat} {x : Nat} (h : l[i]? = some x) : (l.take (i + 1)).filter (fun n => decide (n ≠ 0)) = (l.take i).filter (fun n => decide (n ≠ 0)) ++ (if x = 0 then [] else [x]) := by
  rw [List.take_add_one, h, List.filter_append]
  congr 1
  by_cases e : x = 0
  · subst e; rfl
  · rw [if_neg e]
    show List.filter (fun n => decide (n ≠ 0)) [x] = [x]
    rw [List.filter_cons, if_pos (by simpa using e)]
    rfl
theorem ok_known (T : Txt K mg CU CN fN CP fP) (d : Def K mg "known_parents" ["person"] sKnown) : Prom P w K mg base CX0 1 "known_parents" ["person"] (spKnown CP) := by
  refine d.calm scKnown (fun vs H Q E h => ?_) (fun f cdv A outer s H vs Q E hr h => ?_)
  · obtain ⟨q, k, p, rfl, _⟩ := h
    rfl
  · obtain ⟨q, kk, p, rfl, hp, ok, k⟩ := h
    obtain ⟨dx, ab, ad, ap, hins, _, _, hpar⟩ := hp
    refine ⟨_, pss_one (ps_ret (lcS [("parent", 1)] scKnown rfl rfl rfl (pi_tup (pe_fld (pv 0) rfl)) (fun _ _ _ _ _ => pg_name (i := 1) scKnown.nd rfl (Or.inl rfl)) (fun _ _ _ _ _ => pts_one (pt_cmpR op_ne (pv 1) (pe_gi T.nobo) (nomark _))) (fun _ _ _ _ _ => pv 1))), ?_⟩
    refine ⟨_, rfl, q, CP, dx, _, _, rfl, hins, T.pC, T.pp, pf_parents _ _ _ _ _ _, ap, rfl, ⟨_, SqT.of hpar⟩, fun D hD => ?_⟩
    have ex : ([.int (told p.father : Int), .int (told p.mother : Int)] : List V) = iv [told p.father, told p.mother] := rfl
    have hpar : H ap = some (.tup (iv [told p.father, told p.mother])) := hpar
    refine lc_tup (K := K) (a := ap) (xs := iv [told p.father, told p.mother]) (fun i H' => H' D = some (.lst (iv (([told p.father, told p.mother].take i).filter fun n => decide (n ≠ 0)))) ∧ Same H H')
      ⟨upd_same, Same.new hD⟩ (fun i H' _ ⟨_, s3⟩ => s3.tup (SqT.of hpar)) ?_ ?_
    · rintro i y H' hi ⟨h1, s3⟩
      obtain ⟨n, hn, rfl⟩ := iv_get hi
      have ft := filter_take0 hn
      refine ⟨rfl, _, rfl, rfl, _, rfl, ?_⟩
      rw [show V.int 0 = V.int ((0 : Nat) : Int) from rfl, dec_nat]
      refine ite2 (fun g => ?_) (fun g => ?_)
      · have g : n ≠ 0 := by simpa using g
        rw [if_neg g] at ft
        refine ⟨_, rfl, _, h1, ?_, by rw [upd_same, ft, iv_snoc], s3.young hD⟩
        rw [iv_len]
        refine sz (Nat.le_trans (List.length_filter_le _ _) ?_)
        rw [List.length_take]
        exact Nat.le_trans (Nat.min_le_right _ _) (by show 2 ≤ 4100; decide)
      · have g : n = 0 := by simpa using g
        rw [if_pos g, List.append_nil] at ft
        exact ⟨by rw [ft]; exact h1, s3⟩
    · rintro H' ⟨h1, s3⟩
      have h1 : H' D = some (.lst (iv ([told p.father, told p.mother].filter fun n => decide (n ≠ 0)))) := h1
      rw [parents_eq ok.father ok.mother] at h1
      exact k H' D s3 hD h1
abbrev sAnc : Stmt := top 43
def spAnc (CP : Addr) : Sp := fun vs H Q _ => ∃ (d : Addr) (a : Nat) (x : Families) (ps : List Addr), vs = [.ref d, .int (a : Int)] ∧ PersAt CP H d x ps ∧ FamOk x ∧ Closed x ∧ a ∈ ids x ∧
  ∀ (H' : Hp) (f : Addr) (l : List Nat), Same H H' → H f = none → H' f = some (.dK (kn l)) → (∀ n, n ∈ l ↔ Anc x a n) → l.Nodup → l.length ≤ x.length → Q (.ref f) H'
theorem scAnc : FnScope ["persons", "number", "found", "waiting", "parent"] ["persons", "number"] (defScope sAnc) := ⟨rfl, rfl, rfl, by decide +kernel, rfl, by decide +kernel, by decide +kernel⟩
theorem absorb_len : ∀ (l : List Nat) (q : List Nat × List Nat), (absorb l q).1.length ≤ q.1.length + l.length ∧ (absorb l q).2.length ≤ q.2.length + l.length
  | [], q => ⟨Nat.le_refl _, Nat.le_refl _⟩
  | b :: r, q => by
    have ih := absorb_len r (if b ∈ q.2 then q else (q.1 ++ [b], q.2 ++ [b]))
    show (absorb r _).1.length ≤ _ ∧ (absorb r _).2.length ≤ _
    rw [List.length_cons]
    split at ih
    · rename_i h
      rw [if_pos h]
      omega
    · rename_i h
      rw [if_neg h]
      simp only [List.length_append, List.length_cons, List.length_nil] at ih
      omega
theorem parentsOf_get {x : Families} {a : Nat} {p : Sf52.Person} (h : x.get a = some p) : parentsOf x a = p.parents := by unfold parentsOf; rw [h]
theorem get_some {x : Families} {n : Nat} (h : n ∈ ids x) : ∃ p, x.get n = some p := by
  have := get_isSome.mpr h
  cases e : x.get n with
  | none => rw [e] at this; cases this
  | some p => exact ⟨p, rfl⟩
theorem parents_len (p : Sf52.Person) : p.parents.length ≤ 2 := by
  unfold Sf52.Person.parents
  rw [List.length_append]
  cases p.father <;> cases p.mother <;> simp
theorem ok_anc (T : Txt K mg CU CN fN CP fP) (d : Def K mg "ancestors" ["persons", "number"] sAnc) (O : Prom P w K mg base CX0 1 "known_parents" ["person"] (spKnown CP)) : Prom P w K mg base CX0 2 "ancestors" ["persons", "number"] (spAnc CP) := by
  refine d.calm scAnc (fun vs H Q E h => ?_) (fun f cdv A outer s H vs Q E hr h => ?_)
  · obtain ⟨d, a, x, ps, rfl, _⟩ := h
    rfl
  · obtain ⟨d, a, x, ps, rfl, hd, FO, CL, ha, k⟩ := h
    have hu := hu_of hr
    refine ⟨_, pss_cons (ps_set (i := 2) scAnc.nd rfl (Or.inl rfl) pe_dnewK)
      (pss_cons (ps_set (i := 3) scAnc.nd rfl (Or.inl rfl) (pe_lst (pa_cons (pv 1) pa_nil)))
      (pss_cons (ps_while PassesOwn.never (pt_cmpR op_gt (pe_callB call_len_seq (by rfl) T.len PySem.boot_len (pa_cons (pv 3) pa_nil)) pe_int (nomark _))
        (pss_one (ps_for PassesOwn.never rfl (pi_list (pe_fc O hr (pa_cons (pe_dget hu (pv 0) (pe_bm0 PySem.F.plainAttrs_list PySem.F.slot_list_pop PySem.F.type_list_pop mt_pop (pv 3)) (fun _ _ => rfl)) pa_nil))) (pg_name (i := 4) scAnc.nd rfl (Or.inl rfl))
          (pss_one (ps_if (pt_cmp (pc_dnotin hu (pv 4) (pv 2)) (by with_unfolding_all rfl))
            (pss_cons (ps_dput hu (pv 2) (pv 4) pe_bl rfl) (pss_one (ps_expr (pe_bm PySem.F.plainAttrs_list PySem.F.slot_list_append PySem.F.type_list_append mt_append (pv 3) (pa_cons (pv 4) pa_nil))))) pss_nil)))))
      (pss_one (ps_ret (pv 2))))), ?_⟩
    intro f0 hf0
    refine ⟨_, rfl, (by show 1 ≤ sizeLine; decide), fun w0 hw0 => ?_⟩
    have nw : w0 ≠ f0 := fun e => by rw [e, upd_same] at hw0; cases hw0
    have hw0' : H w0 = none := by rw [upd_ne nw] at hw0; exact hw0
    have s0 : Same H (upd (upd H f0 (.dK [])) w0 (.lst [.int (a : Int)])) := (Same.new hf0).trans (Same.new hw0)
    refine ⟨fun m σ H' => ∃ (v : Option V) (todo known : List Nat), σ = [some (.ref d), some (.int (a : Int)), some (.ref f0), some (.ref w0), v] ∧ Same H H' ∧ H' f0 = some (.dK (kn known)) ∧ H' w0 = some (.lst (iv todo)) ∧ Srch x a todo known ∧ todo.length ≤ known.length + 1 ∧ m = todo.length + (x.length - known.length),
      ⟨_, none, [a], [], rfl, s0, by rw [upd_ne (Ne.symm nw), upd_same]; rfl, by rw [upd_same]; rfl, Srch.start x a, by simp, rfl⟩, ?_⟩
    rintro m σ H' ⟨v, todo, known, rfl, s1, hf, hw, S, tl, rfl⟩
    refine ⟨_, rfl, w0, _, rfl, .inl (SqL.of hw), _, _, rfl, rfl, _, rfl, ?_⟩
    rw [iv_len]
    refine ite2 (fun h => ?_) (fun h => ?_)
    · have h : 0 < todo.length := by have := of_decide_eq_true h; omega
      obtain ⟨td, t, rfl⟩ : ∃ td t, todo = td ++ [t] := ⟨todo.dropLast, todo.getLast (by intro e; rw [e] at h; cases h), (List.dropLast_concat_getLast _).symm⟩
      have ht : t ∈ ids x := by
        rcases S.fr t (List.mem_append_right _ (List.mem_singleton.mpr rfl)) with e | e
        · rw [e]; exact ha
        · exact S.sub t e
      obtain ⟨p, hp⟩ := get_some ht
      have epar := parentsOf_get hp
      have Sl := S.len
      have FOl := FO.len
      refine ⟨fun σ' H'' => ∃ v', σ' = [some (.ref d), some (.int (a : Int)), some (.ref f0), some (.ref w0), v'] ∧ Same H H'' ∧ H'' f0 = some (.dK (kn (absorb (parentsOf x t) (td, known)).2)) ∧ H'' w0 = some (.lst (iv (absorb (parentsOf x t) (td, known)).1)), ?_, ?_⟩
      · rintro σ' H'' ⟨v', rfl, s2, hf2, hw2⟩
        have less := turn_less CL S
        have S' := S.turn CL
        refine ⟨_, less, v', _, _, rfl, s2, hf2, hw2, S', ?_, rfl⟩
        obtain ⟨_, _, _, _, _, h6⟩ := absorb_mem (parentsOf x t) (td, known)
        have h6 : (absorb (parentsOf x t) (td, known)).1.length + known.length = td.length + (absorb (parentsOf x t) (td, known)).2.length := h6
        rw [List.length_append] at tl
        have e1 : ([t] : List Nat).length = 1 := rfl
        omega
      · rw [List.length_append] at tl
        have e1 : ([t] : List Nat).length = 1 := rfl
        have sp : Same H (upd H' w0 (.lst (iv td))) := s1.young hw0'
        have edl : (iv (td ++ [t])).dropLast = iv td := by rw [iv_snoc, List.dropLast_concat]
        obtain ⟨aP, kP, hget, hPer, hmem⟩ := (hd.same sp).get hp
        refine ⟨_, rfl, _, rfl, .inl ⟨rfl, _, SqL.of hw⟩, w0, _, _, rfl, rfl, hw, (show _ = some (V.int (t : Int)) by rw [iv_len, iv_snoc, List.length_append, e1, Nat.add_sub_cancel, List.getElem?_append_right (by rw [iv_len]; omega), iv_len, Nat.sub_self]; rfl), ?_⟩
        rw [edl]
        refine ⟨d, _, rfl, hget, aP, kP, p, rfl, hPer, FO.ok _ hmem, fun H2 l s2 hl hl2 => ?_⟩
        have hw2 : H2 w0 = some (.lst (iv td)) := s2 _ _ upd_same
        have hf2 : H2 f0 = some (.dK (kn known)) := s2 _ _ (by rw [upd_ne (Ne.symm nw)]; exact hf)
        have nlw : l ≠ w0 := fun e => by rw [e, upd_same] at hl; cases hl
        have nlf : l ≠ f0 := fun e => by rw [e, upd_ne (Ne.symm nw), hf] at hl; cases hl
        refine ⟨l, rfl, ⟨_, SqL.of hl2⟩, for_list (K := K) (a := l) (xs := iv p.parents) (fun i σ H'' => ∃ v', σ = [some (.ref d), some (.int (a : Int)), some (.ref f0), some (.ref w0), v'] ∧ Same H H'' ∧ H'' l = some (.lst (iv p.parents)) ∧
            H'' f0 = some (.dK (kn (absorb (p.parents.take i) (td, known)).2)) ∧ H'' w0 = some (.lst (iv (absorb (p.parents.take i) (td, known)).1)))
          ⟨v, rfl, sp.trans s2, hl2, hf2, hw2⟩ (fun i σ H'' _ ⟨_, _, _, q, _⟩ => SqL.of q) ?_ ?_⟩
        · rintro i y σ H'' hi ⟨v', rfl, s3, h3, hf3, hw3⟩
          obtain ⟨n, hn, rfl⟩ := iv_get hi
          have et : p.parents.take (i + 1) = p.parents.take i ++ [n] := by rw [List.take_add_one, hn]; rfl
          have il : i < p.parents.length := (List.getElem?_eq_some_iff.mp hn).1
          have pl := parents_len p
          have al := absorb_len (p.parents.take i) (td, known)
          rw [List.length_take] at al
          have al1 : (absorb (p.parents.take i) (td, known)).1.length ≤ td.length + min i p.parents.length := al.1
          have al2 : (absorb (p.parents.take i) (td, known)).2.length ≤ known.length + min i p.parents.length := al.2
          have ab := absorb_snoc (p.parents.take i) n (td, known)
          rw [← et] at ab
          refine ⟨_, rfl, _, rfl, f0, _, rfl, DGet.k (k := Sum.inl (n : Int)) hf3, _, rfl, ?_⟩
          rw [kn_val]
          by_cases hin : n ∈ (absorb (p.parents.take i) (td, known)).2
          · rw [if_pos hin] at ab ⊢
            refine iteF ⟨_, rfl, s3, h3, ?_, ?_⟩
            · rw [ab]; exact hf3
            · rw [ab]; exact hw3
          · rw [if_neg hin] at ab ⊢
            have hnone : valV (kn (absorb (p.parents.take i) (td, known)).2) (Sum.inl (n : Int)) = none := by rw [kn_val, if_neg hin]
            refine iteT ⟨_, rfl, _, rfl, f0, _, rfl, DPut.k (k := Sum.inl (n : Int)) hf3 (by rw [kn_len]; exact sz (by omega)), ?_⟩
            have hw4 : upd H'' f0 (.dK (putK (kn (absorb (p.parents.take i) (td, known)).2) (Sum.inl (n : Int)) (.bl true))) w0 = some (.lst (iv (absorb (p.parents.take i) (td, known)).1)) := by rw [upd_ne nw]; exact hw3
            refine ⟨_, rfl, .inl ⟨rfl, _, SqL.of hw4⟩, _, rfl, w0, _, _, rfl, rfl, hw4, (by rw [iv_len]; exact sz (by omega)), ?_⟩
            refine ⟨_, rfl, (s3.young hf0).young hw0', ?_, ?_, ?_⟩
            · rw [upd_ne nlw, upd_ne nlf]; exact h3
            · rw [upd_ne (Ne.symm nw), upd_same, putK_new _ hnone, ab, kn_snoc]
            · rw [upd_same, ab, iv_snoc]
        · rintro σ H'' ⟨v', rfl, s3, h3, hf3, hw3⟩
          rw [iv_len, List.take_length] at hf3 hw3
          rw [epar]
          exact ⟨v', rfl, s3, hf3, hw3⟩
    · have h : todo = [] := by
        cases todo with
        | nil => rfl
        | cons a r => exact absurd (decide_eq_true (by simp only [List.length_cons]; omega)) h
      subst h
      exact ⟨_, rfl, k H' f0 known s1 hf0 hf S.done S.nd S.len⟩
end
end Kf
namespace Kf
open PySem PySem.Spec PyProof.Rows L2 KX
open Sf52 (Bytes Families)
open Sf91 (ids parentsOf)
theorem dec_z (n : Nat) : decide (V.int (n : Int) = V.int 0) = decide (n = 0) := dec_nat n 0
theorem day_iv {H : Hp} {a : Addr} {d : Sf52.Day} (h : DayAt H a d) : H a = some (.tup (iv (parts d))) := h
theorem zip_get {l m : List Nat} {i a b : Nat} (h1 : l[i]? = some a) (h2 : m[i]? = some b) : (l.zip m).drop i = (a, b) :: (l.zip m).drop (i + 1) := by
  refine get_take_drop ?_
  rw [List.getElem?_zip_eq_some]
  exact ⟨h1, h2⟩
section
variable {P : Program} {w : World} {K : PySem.W.Frag} {mg : Str → Option Value} {base : Heap} {CU CN fN CP fP : Addr}
abbrev sBefore : Stmt := top 17
def spBefore : Sp := fun vs H Q _ => ∃ (a b : Addr) (c d : Sf52.Day), vs = [.ref a, .ref b] ∧ DayAt H a c ∧ DayAt H b d ∧ DayOk c ∧ DayOk d ∧ ∀ H', Same H H' → Q (.bl (Sf52.mayBefore c d)) H'
theorem scBefore : FnScope ["one", "other", "mine", "theirs"] ["one", "other"] (defScope sBefore) := ⟨rfl, rfl, rfl, by decide +kernel, rfl, by decide +kernel, by decide +kernel⟩
theorem ok_before (T : Txt K mg CU CN fN CP fP) (d : Def K mg "may_be_before" ["one", "other"] sBefore) : Prom P w K mg base CX0 1 "may_be_before" ["one", "other"] spBefore := by
  refine d.calm scBefore (fun vs H Q E h => ?_) (fun f cdv A outer s H vs Q E hr h => ?_)
  · obtain ⟨a, b, c, d, rfl, _⟩ := h
    rfl
  · obtain ⟨a, b, c, d, rfl, ha, hb, oc, od, k⟩ := h
    have ha := day_iv ha
    have hb := day_iv hb
    rw [mayBefore_eq oc od] at k
    refine ⟨_, pss_cons (ps_for PassesOwn.never rfl (pi_zipT (by rfl) T.zip (pa_cons (pv 0) (pa_cons (pv 1) pa_nil))) (pg_tup rfl (pgs_cons (pg_name (i := 2) scBefore.nd rfl (Or.inl rfl)) (pgs_cons (pg_name (i := 3) scBefore.nd rfl (Or.inl rfl)) pgs_nil)))
        (pss_cons (ps_if (PW.pt (pw_or (pt_cmpR op_eq (pv 2) (pe_gi T.unt) (nomark _)) (pw_or1 (pt_cmpR op_eq (pv 3) (pe_gi T.unt) (nomark _))))) (pss_one (ps_ret pe_bl)) pss_nil)
        (pss_one (ps_if (pt_cmpR op_ne (pv 2) (pv 3) (nomark _)) (pss_one (ps_ret (pe_cmpR op_lt (pv 2) (pv 3) (nomark _)))) pss_nil))))
      (pss_one (ps_ret pe_bl)), ?_⟩
    refine ⟨_, rfl, _, rfl, a, b, _, _, rfl, SqT.of ha, SqT.of hb, for_zipT (K := K) (a := a) (b := b) (xs := iv (parts c)) (ys := iv (parts d)) rfl (fun i σ H' => ∃ v1 v2, σ = [some (.ref a), some (.ref b), v1, v2] ∧ Same H H' ∧ before ((parts c).zip (parts d)) = before (((parts c).zip (parts d)).drop i))
      ⟨none, none, rfl, Same.refl _, rfl⟩ (fun i σ H' _ ⟨_, _, _, s1, _⟩ => ⟨s1.tup (SqT.of ha), s1.tup (SqT.of hb)⟩) ?_ ?_⟩
    · rintro i u v σ H' tq hu hv ⟨v1, v2, rfl, s1, eq⟩ htq
      obtain ⟨m, hm, rfl⟩ := iv_get hu
      obtain ⟨n, hn, rfl⟩ := iv_get hv
      have s2 : Same H (upd H' tq (.tup [.int (m : Int), .int (n : Int)])) := s1.trans (Same.new htq)
      rw [zip_get hm hn, before] at eq
      refine ⟨tq, _, rfl, SqT.of upd_same, rfl, _, _, rfl, _, _, rfl, rfl, ?_⟩
      refine ⟨_, rfl, rfl, _, rfl, ?_⟩
      rw [dec_z]
      refine ite2 (fun h => ?_) (fun h => ?_)
      · have h := of_decide_eq_true h
        rw [if_pos (.inl h)] at eq
        rw [eq] at k
        exact iteT (k _ s2)
      · have h : m ≠ 0 := fun z => h (decide_eq_true z)
        refine ⟨_, rfl, rfl, _, rfl, ?_⟩
        rw [dec_z]
        refine ite2 (fun g => ?_) (fun g => ?_)
        · have g := of_decide_eq_true g
          rw [if_pos (.inr g)] at eq
          rw [eq] at k
          exact k _ s2
        · have g : n ≠ 0 := fun z => g (decide_eq_true z)
          rw [if_neg (by omega)] at eq
          refine ⟨_, rfl, _, rfl, rfl, _, rfl, ?_⟩
          rw [dec_nat]
          refine ite2 (fun l => ?_) (fun l => ?_)
          · have l : m ≠ n := by simpa using l
            rw [if_pos l] at eq
            rw [eq] at k
            refine ⟨_, rfl, _, rfl, _, _, rfl, rfl, ?_⟩
            have e : decide ((m : Int) < (n : Int)) = decide (m < n) := by
              by_cases z : m < n
              · rw [decide_eq_true z, decide_eq_true (by omega)]
              · rw [decide_eq_false z, decide_eq_false (by omega)]
            show Q (.bl (decide ((m : Int) < (n : Int)))) _
            rw [e]
            exact k _ s2
          · have l : m = n := by simpa using l
            rw [if_neg (by omega)] at eq
            exact ⟨_, _, rfl, s2, eq⟩
    · rintro σ H' ⟨v1, v2, rfl, s1, eq⟩
      rw [show ((parts c).zip (parts d)).drop (iv (parts c)).length = [] from rfl, before] at eq
      rw [eq] at k
      exact k _ s1
abbrev sBorn : Stmt := top 18
def spBorn : Sp := fun vs H Q _ => ∃ (a b : Addr) (c d : Sf52.Day), vs = [.ref a, .ref b] ∧ DayAt H a c ∧ DayAt H b d ∧ Q (.bl (bornTo (told c.y) (told d.y))) H
theorem scBorn : FnScope ["child", "parent"] ["child", "parent"] (defScope sBorn) := ⟨rfl, rfl, rfl, by decide +kernel, rfl, by decide +kernel, by decide +kernel⟩
theorem ok_born (T : Txt K mg CU CN fN CP fP) (d : Def K mg "may_be_born_to" ["child", "parent"] sBorn) : Prom P w K mg base CX0 1 "may_be_born_to" ["child", "parent"] spBorn := by
  refine d.calm scBorn (fun vs H Q E h => ?_) (fun f cdv A outer s H vs Q E hr h => ?_)
  · obtain ⟨a, b, c, d, rfl, _⟩ := h
    rfl
  · obtain ⟨a, b, c, d, rfl, ha, hb, k⟩ := h
    unfold bornTo at k
    refine ⟨_, pss_cons (ps_if (PW.pt (pw_or (pt_cmpR op_eq (pe_ix ix_tup (pv 0) pe_int (fun _ _ => rfl)) (pe_gi T.unt) (nomark _)) (pw_or1 (pt_cmpR op_eq (pe_ix ix_tup (pv 1) pe_int (fun _ _ => rfl)) (pe_gi T.unt) (nomark _))))) (pss_one (ps_ret pe_bl)) pss_nil)
      (pss_one (ps_ret (pe_cmpR op_ge (pe_op op_sub (pe_ix ix_tup (pv 0) pe_int (fun _ _ => rfl)) (pe_ix ix_tup (pv 1) pe_int (fun _ _ => rfl))) (pe_gi T.yrs) (nomark _)))), ?_⟩
    refine ⟨_, rfl, a, _, _, _, rfl, rfl, SqT.of ha, atI_nat (j := 0) (v := .int (told c.y : Int)) rfl, rfl, _, rfl, ?_⟩
    rw [dec_z]
    refine ite2 (fun h => ?_) (fun h => ?_)
    · have h := of_decide_eq_true h
      rw [if_pos (.inl h)] at k
      exact iteT k
    · have h : told c.y ≠ 0 := fun z => h (decide_eq_true z)
      refine ⟨_, rfl, b, _, _, _, rfl, rfl, SqT.of hb, atI_nat (j := 0) (v := .int (told d.y : Int)) rfl, rfl, _, rfl, ?_⟩
      rw [dec_z]
      refine ite2 (fun g => ?_) (fun g => ?_)
      · have g := of_decide_eq_true g
        rw [if_pos (.inr g)] at k
        exact k
      · have g : told d.y ≠ 0 := fun z => g (decide_eq_true z)
        rw [if_neg (by omega)] at k
        exact ⟨_, rfl, a, _, _, _, rfl, rfl, SqT.of ha, atI_nat (j := 0) (v := .int (told c.y : Int)) rfl, _, rfl, b, _, _, _, rfl, rfl, SqT.of hb, atI_nat (j := 0) (v := .int (told d.y : Int)) rfl, _, _, rfl, rfl, _, _, rfl, rfl, k⟩
abbrev sRefuse : Stmt := top 60
def spRefuse (CN CP : Addr) : Sp := fun vs H Q E => ∃ (l : Addr) (as : List Addr), vs = [.ref l] ∧ H l = some (.lst (as.map V.ref)) ∧ (as = [] → Q .non H) ∧ (∀ a r, as = a :: r → ∃ k p, PersonAt CP H a k p ∧ Bad CN H E k)
theorem scRefuse : FnScope ["wrong"] ["wrong"] (defScope sRefuse) := ⟨rfl, rfl, rfl, by decide +kernel, rfl, by decide +kernel, by decide +kernel⟩
theorem ok_refuse (T : Txt K mg CU CN fN CP fP) (d : Def K mg "refuse_first" ["wrong"] sRefuse) : Prom P w K mg base (CXo P w) 2 "refuse_first" ["wrong"] (spRefuse CN CP) := by
  refine d.wild scRefuse (fun vs H Q E h => ?_) (fun f cdv A outer s H vs Q E hr h => ?_)
  · obtain ⟨l, as, rfl, _⟩ := h
    rfl
  · obtain ⟨l, as, rfl, hl, k1, k2⟩ := h
    refine ⟨_, pss_one (ps_if (pt_cmpR op_gt (pe_callB call_len_seq (by rfl) T.len PySem.boot_len (pa_cons (pv 0) pa_nil)) pe_int (nomark _))
      (pss_one (ps_raise1 T.nC T.nI rfl T.nM rfl rfl hr throws_body (pa_cons (pe_fld (pe_ix ix_list (pv 0) pe_int (fun _ _ => rfl)) rfl) pa_nil))) pss_nil), ?_⟩
    refine ⟨_, rfl, l, _, rfl, .inl (SqL.of hl), _, _, rfl, rfl, _, rfl, ?_⟩
    rw [List.length_map]
    cases as with
    | nil => exact iteF (k1 rfl)
    | cons a r =>
      obtain ⟨k, p, ⟨dx, ab, ad, ap, hins, _⟩, bad⟩ := k2 a r rfl
      refine ite2 (fun _ => ?_) (fun h => absurd (decide_eq_true (by simp only [List.length_cons]; omega)) h)
      refine ⟨_, rfl, l, _, _, _, rfl, rfl, SqL.of hl, atI_nat (j := 0) (v := V.ref a) rfl, a, CP, dx, _, _, rfl, hins, T.pC, T.pr, pf_row _ _ _ _ _ _, _, rfl, fun dx2 hdx => ?_⟩
      exact bad _ dx2 (Same.new hdx) upd_same
end
end Kf
namespace Kf
open PySem PySem.Spec PyProof.Rows L2 KX
open Sf52 (Bytes Families)
open Sf91 (ids parentsOf)
def wrong1 (x : Families) (o : Option Nat) (f : Bool) : Bool := match o with
  | some n => (match x.get n with | some q => q.female != f | none => true)
  | none => false
theorem wrong_eq (x : Families) (p : Sf52.Person) : Sf52.wrongParent x p = (wrong1 x p.father false || wrong1 x p.mother true) := by
  unfold Sf52.wrongParent wrong1
  congr 1
  · cases p.father with
    | none => rfl
    | some n =>
      dsimp only
      cases x.get n with
      | none => rfl
      | some q => dsimp only; cases q.female <;> rfl
  · cases p.mother with
    | none => rfl
    | some n =>
      dsimp only
      cases x.get n with
      | none => rfl
      | some q => dsimp only; cases q.female <;> rfl
def wrongs (x : Families) (p : Sf52.Person) : List Bool := [wrong1 x p.father false, wrong1 x p.mother true]
section
variable {P : Program} {w : World} {K : PySem.W.Frag} {mg : Str → Option Value} {base : Heap} {CU CN fN CP fP : Addr}
abbrev sWrong : Stmt := top 61
def spWrong (CP : Addr) : Sp := fun vs H Q _ => ∃ (d q : Addr) (x : Families) (ps : List Addr) (k : Nat) (p : Sf52.Person), vs = [.ref d, .ref q] ∧ PersAt CP H d x ps ∧ PersonAt CP H q k p ∧ PersonOk p ∧ ∀ H', Same H H' → Q (.bl (Sf52.wrongParent x p)) H'
theorem scWrong : FnScope ["persons", "person", "parent", "sex"] ["persons", "person"] (defScope sWrong) := ⟨rfl, rfl, rfl, by decide +kernel, rfl, by decide +kernel, by decide +kernel⟩
theorem sex_ne (a b : Bool) : (!decide (sexV a = sexV b)) = (a != b) := by cases a <;> cases b <;> decide
theorem ok_wrong (T : Txt K mg CU CN fN CP fP) (d : Def K mg "has_wrong_parent" ["persons", "person"] sWrong) : Prom P w K mg base CX0 1 "has_wrong_parent" ["persons", "person"] (spWrong CP) := by
  refine d.calm scWrong (fun vs H Q E h => ?_) (fun f cdv A outer s H vs Q E hr h => ?_)
  · obtain ⟨d, q, x, ps, k, p, rfl, _⟩ := h
    rfl
  · obtain ⟨d, q, x, ps, kk, p, rfl, hd, hp, ok, k⟩ := h
    obtain ⟨dx, ab, ad, ap, hins, _, _, hpar⟩ := hp
    have hu := hu_of hr
    rw [wrong_eq] at k
    refine ⟨_, pss_cons (ps_for PassesOwn.never rfl (pi_zipT (by rfl) T.zip (pa_cons (pe_fld (pv 1) rfl) (pa_cons (pe_tup (pa_cons (pe_gi T.male) (pa_cons (pe_gi T.fem) pa_nil))) pa_nil))) (pg_tup rfl (pgs_cons (pg_name (i := 2) scWrong.nd rfl (Or.inl rfl)) (pgs_cons (pg_name (i := 3) scWrong.nd rfl (Or.inl rfl)) pgs_nil)))
        (pss_one (ps_if (PW.pt (pw_and (pt_cmpR op_ne (pv 2) (pe_gi T.nobo) (nomark _)) (pw_and1 (PW.pt (pw_or (pt_cmp (pc_dnotin hu (pv 2) (pv 0)) (by with_unfolding_all rfl)) (pw_or1 (pt_cmpR op_ne (pe_fld (pe_dget hu (pv 0) (pv 2) (fun _ _ => rfl)) rfl) (pv 3) (nomark _)))))))) (pss_one (ps_ret pe_bl)) pss_nil)))
      (pss_one (ps_ret pe_bl)), ?_⟩
    refine ⟨_, rfl, q, CP, dx, _, _, rfl, hins, T.pC, T.pp, pf_parents _ _ _ _ _ _, (by show 2 ≤ sizeLine; decide), fun tp htp => ?_⟩
    have s0 : Same H (upd H tp (.tup [.int 109, .int 102])) := Same.new htp
    have hpar : H ap = some (.tup (iv [told p.father, told p.mother])) := hpar
    have htp2 : upd H tp (.tup [.int 109, .int 102]) tp = some (.tup [sexV false, sexV true]) := upd_same
    refine ⟨ap, tp, _, _, rfl, SqT.of (s0 _ _ hpar), SqT.of upd_same, for_zipT (K := K) (a := ap) (b := tp) (xs := iv [told p.father, told p.mother]) (ys := [sexV false, sexV true]) rfl
      (fun i σ H' => ∃ v1 v2, σ = [some (.ref d), some (.ref q), v1, v2] ∧ Same (upd H tp (.tup [.int 109, .int 102])) H' ∧ ((wrongs x p).take i).any id = false)
      ⟨none, none, rfl, Same.refl _, rfl⟩ (fun i σ H' _ ⟨_, _, _, s1, _⟩ => ⟨s1.tup (SqT.of (s0 _ _ hpar)), s1.tup (SqT.of htp2)⟩) ?_ ?_⟩
    · rintro i u v σ H' tq hu1 hv ⟨v1, v2, rfl, s1, eq⟩ htq
      -- the place: the father's or the mother's
      obtain ⟨o, fm, eo, ev, no0, eany, hyes⟩ : ∃ (o : Option Nat) (fm : Bool), u = .int (told o : Int) ∧ v = sexV fm ∧ o ≠ some 0 ∧ (wrong1 x o fm = false → ((wrongs x p).take (i + 1)).any id = false) ∧ (wrong1 x o fm = true → (wrong1 x p.father false || wrong1 x p.mother true) = true) := by
        match i, hu1, hv, eq with
        | 0, hu1, hv, eq =>
          refine ⟨p.father, false, (Option.some.inj hu1).symm, (Option.some.inj hv).symm, ok.father, fun z => ?_, fun z => by rw [z]; rfl⟩
          show [wrong1 x p.father false].any id = false
          simp [z]
        | 1, hu1, hv, eq =>
          refine ⟨p.mother, true, (Option.some.inj hu1).symm, (Option.some.inj hv).symm, ok.mother, fun z => ?_, fun z => by rw [z, Bool.or_true]⟩
          have eq : [wrong1 x p.father false].any id = false := eq
          show [wrong1 x p.father false, wrong1 x p.mother true].any id = false
          simp at eq
          simp [z, eq]
        | i + 2, hu1, hv, eq => cases hu1
      subst eo ev
      have s2 : Same H (upd H' tq (.tup [.int (told o : Int), sexV fm])) := (s0.trans s1).trans (Same.new htq)
      have s2' : Same (upd H tp (.tup [.int 109, .int 102])) (upd H' tq (.tup [.int (told o : Int), sexV fm])) := s1.trans (Same.new htq)
      refine ⟨tq, _, rfl, SqT.of upd_same, rfl, _, _, rfl, _, _, rfl, rfl, ?_⟩
      refine ⟨_, rfl, rfl, _, rfl, ?_⟩
      rw [dec_z]
      cases o with
      | none =>
        refine ite2 (fun h => absurd (show told none = 0 from rfl) (by simpa using h)) (fun h => iteF ⟨_, _, rfl, s2', eany rfl⟩)
      | some n =>
        have n0 : n ≠ 0 := fun z => no0 (by rw [z])
        refine ite2 (fun h => ?_) (fun h => absurd (show told (some n) = 0 by simpa using h) n0)
        have e1 : told (some n) = n := rfl
        rw [e1]
        have hd2 := hd.same s2
        cases eg : x.get n with
        | none =>
          obtain ⟨ob, hg, hs⟩ := hd2.has n
          rw [eg] at hs
          have hs : ob.isSome = false := hs
          refine ⟨_, rfl, _, rfl, d, _, rfl, hg, _, rfl, ?_⟩
          rw [hs]
          have z : wrong1 x (some n) fm = true := by unfold wrong1; dsimp only; rw [eg]
          rw [hyes z] at k
          exact iteT (k _ s2)
        | some pq =>
          obtain ⟨aP, kP, hg, ⟨dx2, ab2, ad2, ap2, hins2, _⟩, _⟩ := hd2.get eg
          refine ⟨_, rfl, _, rfl, d, _, rfl, hg, _, rfl, iteF ?_⟩
          refine ⟨_, rfl, _, rfl, d, _, rfl, hg, aP, CP, dx2, _, _, rfl, hins2, T.pC, T.ps, pf_sex _ _ _ _ _ _, _, rfl, (by cases pq.female <;> cases fm <;> rfl), _, rfl, ?_⟩
          rw [sex_ne]
          have z : wrong1 x (some n) fm = (pq.female != fm) := by unfold wrong1; dsimp only; rw [eg]
          rw [← z]
          refine ite2 (fun h => ?_) (fun h => ?_)
          · rw [hyes h] at k
            exact k _ s2
          · exact ⟨_, _, rfl, s2', eany (by simpa using h)⟩
    · rintro σ H' ⟨v1, v2, rfl, s1, eq⟩
      have eq : (wrongs x p).any id = false := eq
      have e2 : (wrong1 x p.father false || wrong1 x p.mother true) = false := by
        unfold wrongs at eq
        simp at eq
        rw [eq.1, eq.2]
        rfl
      rw [e2] at k
      exact k _ (s0.trans s1)
abbrev sFit : Stmt := top 62
def spFit (CP : Addr) : Sp := fun vs H Q _ => ∃ (d q : Addr) (x : Families) (ps : List Addr) (k : Nat) (p : Sf52.Person), vs = [.ref d, .ref q] ∧ PersAt CP H d x ps ∧ PersonAt CP H q k p ∧ PersonOk p ∧ FamOk x ∧ (∀ n ∈ p.parents, n ∈ ids x) ∧ ∀ H', Same H H' → Q (.bl (Sf52.daysRight x p)) H'
theorem scFit : FnScope ["persons", "person", "number", "parent"] ["persons", "person"] (defScope sFit) := ⟨rfl, rfl, rfl, by decide +kernel, rfl, by decide +kernel, by decide +kernel⟩
def fit1 (x : Families) (p : Sf52.Person) (f : Nat) : Bool := match x.get f with
  | none => true
  | some q => Sf52.mayBefore q.birth p.birth && (Sf52.apartYears q.birth p.birth && (!q.female || Sf52.mayBefore p.birth q.death))
theorem fit_eq (x : Families) (p : Sf52.Person) : Sf52.daysRight x p = (Sf52.mayBefore p.birth p.death && p.parents.all (fit1 x p)) := rfl
theorem all_take1 {g : Nat → Bool} {l : List Nat} {i n : Nat} (h : l[i]? = some n) : (l.take (i + 1)).all g = ((l.take i).all g && g n) := by
  rw [List.take_add_one, h]
  simp
theorem ok_fit (T : Txt K mg CU CN fN CP fP) (d : Def K mg "days_fit" ["persons", "person"] sFit) (O1 : Prom P w K mg base CX0 1 "may_be_before" ["one", "other"] spBefore) (O2 : Prom P w K mg base CX0 1 "may_be_born_to" ["child", "parent"] spBorn)
    (O3 : Prom P w K mg base CX0 1 "known_parents" ["person"] (spKnown CP)) : Prom P w K mg base CX0 2 "days_fit" ["persons", "person"] (spFit CP) := by
  refine d.calm scFit (fun vs H Q E h => ?_) (fun f cdv A outer s H vs Q E hr h => ?_)
  · obtain ⟨d, q, x, ps, k, p, rfl, _⟩ := h
    rfl
  · obtain ⟨d, q, x, ps, kk, p, rfl, hd, hp, ok, FO, hpar, k⟩ := h
    obtain ⟨dx, ab, ad, ap, hins, hb, hde, _⟩ := id hp
    have hu := hu_of hr
    rw [fit_eq] at k
    refine ⟨_, pss_cons (ps_if (pt_not (pt_val (pe_fc O1 hr (pa_cons (pe_fld (pv 1) rfl) (pa_cons (pe_fld (pv 1) rfl) pa_nil))))) (pss_one (ps_ret pe_bl)) pss_nil)
      (pss_cons (ps_for PassesOwn.never rfl (pi_list (pe_fc O3 hr (pa_cons (pv 1) pa_nil))) (pg_name (i := 2) scFit.nd rfl (Or.inl rfl))
        (pss_cons (ps_set (i := 3) scFit.nd rfl (Or.inl rfl) (pe_dget hu (pv 0) (pv 2) (fun _ _ => rfl)))
        (pss_cons (ps_if (pt_not (pt_val (pe_fc O2 hr (pa_cons (pe_fld (pv 1) rfl) (pa_cons (pe_fld (pv 3) rfl) pa_nil))))) (pss_one (ps_ret pe_bl)) pss_nil)
        (pss_one (ps_if (PW.pt (pw_and (pt_cmpR op_eq (pe_fld (pv 3) rfl) (pe_gi T.fem) (nomark _)) (pw_and1 (pt_not (pt_val (pe_fc O1 hr (pa_cons (pe_fld (pv 1) rfl) (pa_cons (pe_fld (pv 3) rfl) pa_nil)))))))) (pss_one (ps_ret pe_bl)) pss_nil)))))
      (pss_one (ps_ret pe_bl))), ?_⟩
    refine ⟨_, rfl, q, CP, dx, _, _, rfl, hins, T.pC, T.pb, pf_birth _ _ _ _ _ _, _, rfl, q, CP, dx, _, _, rfl, hins, T.pC, T.pd, pf_death _ _ _ _ _ _, ab, ad, p.birth, p.death, rfl, hb, hde, ok.birth, ok.death, fun H1 s1 => ⟨_, rfl, ?_⟩⟩
    cases em : Sf52.mayBefore p.birth p.death with
    | false =>
      rw [em] at k
      exact iteT (k _ s1)
    | true =>
      rw [em, Bool.true_and] at k
      refine iteF ⟨_, rfl, q, kk, p, rfl, hp.same s1, ok, fun H2 l s2 hl hl2 => ?_⟩
      have S2 := s1.trans s2
      refine ⟨l, rfl, ⟨_, SqL.of hl2⟩, for_list (K := K) (a := l) (xs := iv p.parents) (fun i σ H' => ∃ v1 v2, σ = [some (.ref d), some (.ref q), v1, v2] ∧ Same H2 H' ∧ (p.parents.take i).all (fit1 x p) = true)
        ⟨none, none, rfl, Same.refl _, rfl⟩ (fun i σ H' _ ⟨_, _, _, s3, _⟩ => s3.seq (SqL.of hl2)) ?_ ?_⟩
      · rintro i y σ H' hi ⟨v1, v2, rfl, s3, hall⟩
        obtain ⟨n, hn, rfl⟩ := iv_get hi
        have S3 := S2.trans s3
        have nm : n ∈ p.parents := List.mem_of_getElem? hn
        obtain ⟨pq, eg⟩ := get_some (hpar n nm)
        obtain ⟨aP, kP, hg, hP, hm⟩ := (hd.same S3).get eg
        obtain ⟨dx2, ab2, ad2, ap2, hins2, hb2, hd2, _⟩ := hP
        have okq := FO.ok _ hm
        have at1 := all_take1 (g := fit1 x p) hn
        have ef : fit1 x p n = (bornTo (told p.birth.y) (told pq.birth.y) && (!pq.female || Sf52.mayBefore p.birth pq.death)) := by
          unfold fit1
          rw [eg]
          dsimp only
          rw [← Bool.and_assoc, bornTo_eq okq.birth ok.birth]
        have bad : fit1 x p n = false → p.parents.all (fit1 x p) = false := fun z => by
          cases q2 : p.parents.all (fit1 x p) with
          | false => rfl
          | true => rw [List.all_eq_true.mp q2 n nm] at z; cases z
        refine ⟨_, rfl, _, rfl, d, _, rfl, hg, ?_⟩
        refine ⟨_, rfl, q, CP, dx, _, _, rfl, S3 _ _ hins, T.pC, T.pb, pf_birth _ _ _ _ _ _, _, rfl, aP, CP, dx2, _, _, rfl, hins2, T.pC, T.pb, pf_birth _ _ _ _ _ _, ab, ab2, p.birth, pq.birth, rfl, S3 _ _ hb, hb2, _, rfl, ?_⟩
        cases eb : bornTo (told p.birth.y) (told pq.birth.y) with
        | false =>
          rw [eb] at ef
          rw [bad ef] at k
          exact iteT (k _ S3)
        | true =>
          rw [eb, Bool.true_and] at ef
          refine iteF ⟨_, rfl, aP, CP, dx2, _, _, rfl, hins2, T.pC, T.ps, pf_sex _ _ _ _ _ _, (by cases pq.female <;> rfl), _, rfl, ?_⟩
          cases esx : pq.female with
          | false =>
            rw [esx] at ef
            refine ite2 (fun h => absurd h (by decide)) (fun _ => iteF ⟨_, _, rfl, s3, ?_⟩)
            rw [at1, hall, ef]
            rfl
          | true =>
            rw [esx] at ef
            refine ite2 (fun _ => ?_) (fun h => absurd (by decide) h)
            refine ⟨_, rfl, q, CP, dx, _, _, rfl, S3 _ _ hins, T.pC, T.pb, pf_birth _ _ _ _ _ _, _, rfl, aP, CP, dx2, _, _, rfl, hins2, T.pC, T.pd, pf_death _ _ _ _ _ _, ab, ad2, p.birth, pq.death, rfl, S3 _ _ hb, hd2, ok.birth, okq.death, fun H4 s4 => ⟨_, rfl, ?_⟩⟩
            cases e4 : Sf52.mayBefore p.birth pq.death with
            | false =>
              rw [e4] at ef
              rw [bad ef] at k
              exact iteT (k _ (S3.trans s4))
            | true =>
              rw [e4] at ef
              refine iteF ⟨_, _, rfl, s3.trans s4, ?_⟩
              rw [at1, hall, ef]
              rfl
      · rintro σ H' ⟨v1, v2, rfl, s3, hall⟩
        rw [iv_len, List.take_length] at hall
        rw [hall] at k
        exact k _ (S2.trans s3)
end
end Kf
namespace L2
open PySem PySem.Spec PyProof.Rows KX
theorem for_keys {d : Addr} {o : Obj} {kvs : List (Key × V)} {g : TG} {tb : TS} {D : Ends} {σ : St} {H : Hp} (Pv : Nat → St → Hp → Prop) (h0 : Pv 0 σ H) (hl : ∀ i σ H, i ≤ kvs.length → Pv i σ H → H d = some (.frz o (.dK kvs)))
    (hs : ∀ i k v σ H, kvs[i]? = some (k, v) → Pv i σ H → g (kV k) σ H fun σ2 H2 => tb { D with nx := Pv (i + 1), ct := Pv (i + 1), bk := D.nx } σ2 H2) (hd : ∀ σ H, Pv kvs.length σ H → D.nx σ H) :
    ∃ W : Nat → Nat → St → Hp → Prop, (∃ m, W 0 m σ H) ∧ ∀ i m σ H, W i m σ H →
      ((Itk d o kvs).stop i H ∧ D.nx σ H) ∨ ((Itk d o kvs).go i H ∧ ∃ N : St → Hp → Prop, (∀ σ' H', N σ' H' → ∃ m', m' < m ∧ W (i + 1) m' σ' H') ∧ ∀ x H', (Itk d o kvs).yld i H x H' → g x σ H' fun σ2 H2 => tb { D with nx := N, ct := N, bk := D.nx } σ2 H2) := by
  refine ⟨fun i m σ H => i ≤ kvs.length ∧ m = kvs.length - i ∧ Pv i σ H, ⟨_, Nat.zero_le _, rfl, h0⟩, fun i m σ H ⟨h1, h2, h3⟩ => ?_⟩
  have qa := hl i σ H h1 h3
  by_cases e : i = kvs.length
  · exact .inl ⟨⟨qa, by omega⟩, hd σ H (e ▸ h3)⟩
  · have hi : i < kvs.length := by omega
    refine .inr ⟨⟨qa, hi⟩, Pv (i + 1), fun σ' H' q => ⟨kvs.length - (i + 1), by omega, by omega, rfl, q⟩, fun x H' ⟨e1, k, v, e2, e3⟩ => ?_⟩
    subst e1 e3
    exact hs i k v σ _ e2 h3
section
variable {d : Addr} {o : Obj} {kvs : List (Key × V)} {g : TG} {tt : TT} {te : TE} {vs : List Nat} {σ : St} {H1 : Hp} {D : Addr} {Qd : Hp → Prop}
theorem lc_keys (Pv : Nat → Hp → Prop) (h0 : Pv 0 (upd H1 D (.lst []))) (hl : ∀ i H, i ≤ kvs.length → Pv i H → H d = some (.frz o (.dK kvs)))
    (hs : ∀ i k v H, kvs[i]? = some (k, v) → Pv i H → g (kV k) (wipe σ vs) H fun σ2 H2 => wipe σ2 vs = wipe σ vs ∧ tt σ2 H2 fun b H3 =>
      if b = true then te σ2 H3 fun y H4 => ∃ acc, H4 D = some (.lst acc) ∧ acc.length < sizeLine ∧ Pv (i + 1) (upd H4 D (.lst (acc ++ [y]))) else Pv (i + 1) H3) (hd : ∀ H, Pv kvs.length H → Qd H) :
    ∃ W : Nat → Nat → Hp → Prop, (∃ m, W 0 m (upd H1 D (.lst []))) ∧ ∀ i m H, W i m H →
      ((Itk d o kvs).stop i H ∧ Qd H) ∨ ((Itk d o kvs).go i H ∧ ∃ Nx : Hp → Prop, (∀ H', Nx H' → ∃ m', m' < m ∧ W (i + 1) m' H') ∧ ∀ x H', (Itk d o kvs).yld i H x H' → g x (wipe σ vs) H' fun σ2 H2 => wipe σ2 vs = wipe σ vs ∧ tt σ2 H2 fun b H3 =>
        if b = true then te σ2 H3 fun y H4 => ∃ acc, H4 D = some (.lst acc) ∧ acc.length < sizeLine ∧ Nx (upd H4 D (.lst (acc ++ [y]))) else Nx H3) := by
  refine ⟨fun i m H => i ≤ kvs.length ∧ m = kvs.length - i ∧ Pv i H, ⟨_, Nat.zero_le _, rfl, h0⟩, fun i m H ⟨h1, h2, h3⟩ => ?_⟩
  have qa := hl i H h1 h3
  by_cases e : i = kvs.length
  · exact .inl ⟨⟨qa, by omega⟩, hd H (e ▸ h3)⟩
  · have hi : i < kvs.length := by omega
    refine .inr ⟨⟨qa, hi⟩, Pv (i + 1), fun H' q => ⟨kvs.length - (i + 1), by omega, by omega, rfl, q⟩, fun x H' ⟨e1, k, v, e2, e3⟩ => ?_⟩
    subst e1 e3
    exact hs i k v _ e2 h3
theorem lc_vals (Pv : Nat → Hp → Prop) (h0 : Pv 0 (upd H1 D (.lst []))) (hl : ∀ i H, i ≤ kvs.length → Pv i H → H d = some (.frz o (.dK kvs)))
    (hs : ∀ i k v H, kvs[i]? = some (k, v) → Pv i H → g v (wipe σ vs) H fun σ2 H2 => wipe σ2 vs = wipe σ vs ∧ tt σ2 H2 fun b H3 =>
      if b = true then te σ2 H3 fun y H4 => ∃ acc, H4 D = some (.lst acc) ∧ acc.length < sizeLine ∧ Pv (i + 1) (upd H4 D (.lst (acc ++ [y]))) else Pv (i + 1) H3) (hd : ∀ H, Pv kvs.length H → Qd H) :
    ∃ W : Nat → Nat → Hp → Prop, (∃ m, W 0 m (upd H1 D (.lst []))) ∧ ∀ i m H, W i m H →
      ((Itd d o kvs).stop i H ∧ Qd H) ∨ ((Itd d o kvs).go i H ∧ ∃ Nx : Hp → Prop, (∀ H', Nx H' → ∃ m', m' < m ∧ W (i + 1) m' H') ∧ ∀ x H', (Itd d o kvs).yld i H x H' → g x (wipe σ vs) H' fun σ2 H2 => wipe σ2 vs = wipe σ vs ∧ tt σ2 H2 fun b H3 =>
        if b = true then te σ2 H3 fun y H4 => ∃ acc, H4 D = some (.lst acc) ∧ acc.length < sizeLine ∧ Nx (upd H4 D (.lst (acc ++ [y]))) else Nx H3) := by
  refine ⟨fun i m H => i ≤ kvs.length ∧ m = kvs.length - i ∧ Pv i H, ⟨_, Nat.zero_le _, rfl, h0⟩, fun i m H ⟨h1, h2, h3⟩ => ?_⟩
  have qa := hl i H h1 h3
  by_cases e : i = kvs.length
  · exact .inl ⟨⟨qa, by omega⟩, hd H (e ▸ h3)⟩
  · have hi : i < kvs.length := by omega
    refine .inr ⟨⟨qa, hi⟩, Pv (i + 1), fun H' q => ⟨kvs.length - (i + 1), by omega, by omega, rfl, q⟩, fun x H' ⟨e1, k, e2⟩ => ?_⟩
    subst e1
    exact hs i k x _ e2 h3
end
end L2
namespace Kf
open PySem PySem.Spec PyProof.Rows L2 KX
open Sf52 (Bytes Families)
open Sf91 (ids parentsOf tall)
def KeyL (kvs : List (Key × V)) (l : List Nat) : Prop := kvs.map (·.1) = l.map fun (n : Nat) => (Sum.inl (n : Int) : Key)
theorem KeyL.len {kvs : List (Key × V)} {l : List Nat} (h : KeyL kvs l) : kvs.length = l.length := by
  have := congrArg List.length h
  rwa [List.length_map, List.length_map] at this
theorem KeyL.get {kvs : List (Key × V)} {l : List Nat} (h : KeyL kvs l) {i : Nat} {k : Key} {v : V} (e : kvs[i]? = some (k, v)) : ∃ n, l[i]? = some n ∧ k = Sum.inl (n : Int) := by
  have q := congrArg (·[i]?) h
  rw [List.getElem?_map, List.getElem?_map, e] at q
  cases e2 : l[i]? with
  | none => rw [e2] at q; cases q
  | some n => rw [e2] at q; exact ⟨n, rfl, Option.some.inj q⟩
theorem KeyL.has {kvs : List (Key × V)} : ∀ {l : List Nat}, KeyL kvs l → ∀ n : Nat, (valV kvs (Sum.inl (n : Int))).isSome = l.contains n := by
  induction kvs with
  | nil =>
    intro l h n
    cases l with
    | nil => rfl
    | cons a r => cases h
  | cons p r ih =>
    intro l h n
    cases l with
    | nil => cases h
    | cons a t =>
      have h : p.1 :: r.map (·.1) = Sum.inl (a : Int) :: t.map fun (n : Nat) => (Sum.inl (n : Int) : Key) := h
      injection h with h1 h2
      by_cases e : a = n
      · subst e
        rw [valV_pos h1]
        simp
      · rw [valV_neg (by rw [h1]; intro z; injection z with z; exact e (by omega)), ih h2 n, List.contains_cons]
        have : (n == a) = false := beq_eq_false_iff_ne.mpr (Ne.symm e)
        rw [this, Bool.false_or]
theorem kv_keys {x : Families} : ∀ {ps : List Addr}, x.length = ps.length → KeyL (KvOf x ps) (ids x) := by
  induction x with
  | nil => intro ps h; rfl
  | cons z r ih =>
    intro ps h
    cases ps with
    | nil => cases h
    | cons q t =>
      have e := ih (ps := t) (by simpa using h)
      show Sum.inl (z.2.id : Int) :: (KvOf r t).map (·.1) = Sum.inl (z.2.id : Int) :: (ids r).map fun (n : Nat) => (Sum.inl (n : Int) : Key)
      rw [e]
theorem kn_keys (l : List Nat) : KeyL (kn l) l := by
  unfold KeyL kn
  rw [List.map_map]
  rfl
theorem tall_nd {x : Families} (h : (ids x).Nodup) : ∀ k, (tall x k).Nodup
  | 0 => h
  | k + 1 => h.sublist List.filter_sublist
theorem PersonAt.but2 {CP : Addr} {H H' : Hp} {q d : Addr} {row : Nat} {p : Sf52.Person} (x : PersonAt CP H q row p) (s : SameBut d H H') (hd : ∀ o, H d = some o → ∃ kvs, o = .dK kvs) : PersonAt CP H' q row p := by
  obtain ⟨dx, ab, ad, ap, a, b, c, e⟩ := x
  have ne : ∀ b o, H b = some o → (∀ kvs, o ≠ .dK kvs) → b ≠ d := fun b o h n z => by
    rw [z] at h
    obtain ⟨kvs, w⟩ := hd o h
    exact n kvs w
  exact ⟨dx, ab, ad, ap, s _ _ a (ne _ _ a fun _ z => by cases z), s _ _ b (ne _ _ b fun _ z => by cases z), s _ _ c (ne _ _ c fun _ z => by cases z), s _ _ e (ne _ _ e fun _ z => by cases z)⟩
theorem PersAt.locked {CP : Addr} {H H' : Hp} {d lf : Addr} {x : Families} {ps : List Addr} {kvs : List (Key × V)} {od : Obj} (h : H d = some (.dK (KvOf x ps))) (F : FamIn CP H x ps) (s : SameBut lf H H') (hlf : ∀ o, H lf = some o → o = .dK kvs) (hl : H' lf = some (.frz od (.dK kvs))) : PersAt CP H' d x ps := by
  refine ⟨?_, pd_imp F fun _ _ _ z => z.but2 s fun o w => ⟨kvs, hlf o w⟩⟩
  by_cases e : d = lf
  · subst e
    have := hlf _ h
    cases this
    exact .inr ⟨od, hl⟩
  · exact .inl (s _ _ h e)
def upOf (x : Families) (i : Nat) (a : Nat) : Bool := (parentsOf x a).any fun b => (tall x i).contains b
theorem filter_take2 {g : Nat → Bool} {l : List Nat} {i n : Nat} (h : l[i]? = some n) : (l.take (i + 1)).filter g = (l.take i).filter g ++ (if g n = true then [n] else []) := by
  rw [List.take_add_one, h, List.filter_append]
  congr 1
  show List.filter g [n] = _
  rw [List.filter_cons]
  rfl
section
variable {P : Program} {w : World} {K : PySem.W.Frag} {mg : Str → Option Value} {base : Heap} {CU CN fN CP fP : Addr}
abbrev sSteps : Stmt := top 46
def spSteps (CP : Addr) : Sp := fun vs H Q _ => ∃ (d : Addr) (m : Nat) (x : Families) (ps : List Addr), vs = [.ref d, .int (m : Int)] ∧ H d = some (.dK (KvOf x ps)) ∧ FamIn CP H x ps ∧ FamOk x ∧ m ≤ 100 ∧
  ∀ (H' : Hp) (l : Addr) (as : List Addr), Same H H' → H' l = some (.lst (as.map V.ref)) → Paired (fun a n => ∃ k p, PersonAt CP H' a k p ∧ x.get n = some p ∧ (k, p) ∈ x) as (tall x m) → Q (.ref l) H'
theorem scSteps : FnScope ["persons", "steps", "left", "step", "higher", "number", "parent"] ["persons", "steps"] (defScope sSteps) := ⟨rfl, rfl, rfl, by decide +kernel, rfl, by decide +kernel, by decide +kernel⟩
theorem ok_steps (T : Txt K mg CU CN fN CP fP) (d : Def K mg "with_steps_upwards" ["persons", "steps"] sSteps) (O : Prom P w K mg base CX0 1 "known_parents" ["person"] (spKnown CP)) : Prom P w K mg base CX0 2 "with_steps_upwards" ["persons", "steps"] (spSteps CP) := by
  refine d.calm scSteps (fun vs H Q E h => ?_) (fun f cdv A outer s H vs Q E hr h => ?_)
  · obtain ⟨d, m, x, ps, rfl, _⟩ := h
    rfl
  · obtain ⟨d, m, x, ps, rfl, hd, F, FO, hm, k⟩ := h
    have hu := hu_of hr
    have hpl := pd_len F
    refine ⟨_, pss_cons (ps_set (i := 2) scSteps.nd rfl (by first | exact Or.inl rfl | exact Or.inr rfl) (pv 0))
      (pss_cons (ps_for PassesOwn.never rfl (pi_range1 (by rfl) T.range (pa_cons (pv 1) pa_nil)) (pg_name (i := 3) scSteps.nd rfl (by first | exact Or.inl rfl | exact Or.inr rfl))
        (pss_cons (ps_set (i := 4) scSteps.nd rfl (by first | exact Or.inl rfl | exact Or.inr rfl) pe_dnewK)
        (pss_cons (ps_lock (ps_for PassesOwn.never rfl (pi_keys (pv 2)) (pg_name (i := 5) scSteps.nd rfl (by first | exact Or.inl rfl | exact Or.inr rfl))
          (pss_one (ps_if (pt_val (pe_callB (cr_any rfl) (by rfl) T.any PyProof.Rows.boot_any (pa_cons (lcS [("parent", 6)] scSteps rfl rfl rfl (pi_list (pe_fc O hr (pa_cons (pe_dget hu (pv 0) (pv 5) (fun _ _ => rfl)) pa_nil)))
              (fun _ _ _ _ _ => pg_name (i := 6) scSteps.nd rfl (Or.inl rfl)) (fun _ _ _ _ _ => pts_nil) (fun _ _ _ _ _ => pe_cmp (pc_din hu (pv 6) (pv 2)) (by with_unfolding_all rfl))) pa_nil)))
            (pss_one (ps_dput hu (pv 4) (pv 5) pe_bl rfl)) pss_nil))))
        (pss_one (ps_set (i := 2) scSteps.nd rfl (by first | exact Or.inl rfl | exact Or.inr rfl) (pv 4))))))
      (pss_one (ps_ret (pe_lock (lcS [("number", 5)] scSteps rfl rfl rfl (pi_keys (pv 2)) (fun _ _ _ _ _ => pg_name (i := 5) scSteps.nd rfl (Or.inl rfl)) (fun _ _ _ _ _ => pts_nil) (fun _ _ _ _ _ => pe_dget hu (pv 0) (pv 5) (fun _ _ => rfl))))))), ?_⟩
    refine ⟨_, rfl, _, rfl, (m : Int), rfl, by omega, by omega, for_range (lo := 0) (n := ((m : Int)).toNat) (fun i σ H' => ∃ (lf : Addr) (v3 v4 v5 : Option V) (kvs : List (Key × V)), σ = [some (.ref d), some (.int (m : Int)), some (.ref lf), v3, v4, v5, none] ∧ Same H H' ∧ H' lf = some (.dK kvs) ∧ KeyL kvs (tall x i))
      ⟨d, none, none, none, _, rfl, Same.refl _, hd, kv_keys hpl⟩ ?_ ?_⟩
    · rintro i σ H' hi ⟨lf, v3, v4, v5, kvs, rfl, s1, hlf, kl⟩
      intro hg hhg
      have nhl : hg ≠ lf := fun e => by rw [e, hlf] at hhg; cases hhg
      have hgH : H hg = none := s1.free hhg
      have hlfH : ∀ o, H lf = some o → o = .dK kvs := fun o e => by
        have := s1 _ _ e
        rw [hlf] at this
        exact (Option.some.inj this).symm
      refine ⟨lf, .dK kvs, by rw [upd_ne (Ne.symm nhl)]; exact hlf, trivial, fun od => ?_⟩
      have sb0 : SameBut lf H (upd (upd H' hg (.dK [])) lf (.frz od (.dK kvs))) := fun b o e n => by rw [upd_ne n, upd_ne (ne_of_none e hgH)]; exact s1 _ _ e
      have tn := tall_nd FO.nd i
      have tlen : (tall x i).length ≤ 1024 := by
        have := len_le_of_sub tn (fun a h => tall_sub x i a h)
        unfold ids at this
        rw [List.length_map] at this
        have := FO.len
        omega
      refine ⟨_, rfl, lf, od, rfl, .inl ⟨kvs, upd_same, for_keys (d := lf) (o := od) (kvs := kvs) (fun j σ H'' => ∃ v5, σ = [some (.ref d), some (.int (m : Int)), some (.ref lf), some (.int (0 + (i : Int))), some (.ref hg), v5, none] ∧ SameBut lf H H'' ∧ H'' lf = some (.frz od (.dK kvs)) ∧
          H'' hg = some (.dK (kn (((tall x i).take j).filter (upOf x i)))))
        ⟨v5, rfl, sb0, upd_same, by rw [upd_ne nhl, upd_same]; rfl⟩ (fun j σ H'' _ ⟨_, _, _, q, _⟩ => q) ?_ ?_⟩⟩
      · rintro j key vv σ H'' hj ⟨v5', rfl, sb, hl2, hh2⟩
        obtain ⟨n, hn, rfl⟩ := kl.get hj
        have nin : n ∈ tall x i := List.mem_of_getElem? hn
        obtain ⟨p, hp⟩ := get_some (tall_sub x i n nin)
        have PA2 : PersAt CP H'' d x ps := PersAt.locked hd F sb hlfH hl2
        obtain ⟨aP, kP, hget, hPer, hmem⟩ := PA2.get hp
        have ft := filter_take2 (g := upOf x i) hn
        refine ⟨_, rfl, _, rfl, d, _, rfl, hget, aP, kP, p, rfl, hPer, FO.ok _ hmem, fun H3 l s3 hl hl3 => ?_⟩
        refine ⟨l, rfl, ⟨_, SqL.of hl3⟩, fun D hD => ?_⟩
        have hl4 := s3 _ _ hl2
        have hh4 := s3 _ _ hh2
        refine lc_list (K := K) (a := l) (xs := iv p.parents) (fun u H' => H' D = some (.lst (((p.parents.take u).map fun b => (tall x i).contains b).map V.bl)) ∧ Same H3 H')
          ⟨upd_same, Same.new hD⟩ (fun u H' _ ⟨_, s4⟩ => s4.seq (SqL.of hl3)) ?_ ?_
        · rintro u y H4 hu4 ⟨h1, s4⟩
          obtain ⟨b, hb, rfl⟩ := iv_get hu4
          have ul : u < p.parents.length := (List.getElem?_eq_some_iff.mp hb).1
          have pl := parents_len p
          refine ⟨rfl, ⟨_, rfl, _, rfl, lf, _, rfl, .inl ⟨kvs, Sum.inl (b : Int), .inr ⟨od, s4 _ _ hl4⟩, rfl, rfl⟩, _, h1, ?_, ?_, s4.young hD⟩⟩
          · rw [List.length_map, List.length_map, List.length_take]; exact sz (by omega)
          · rw [upd_same, kl.has b, List.take_add_one, hb, List.map_append, List.map_append]; rfl
        · rintro H4 ⟨h1, s4⟩
          rw [iv_len, List.take_length] at h1
          refine ⟨D, _, rfl, SqL.of h1, _, rfl, ?_⟩
          have eu : (p.parents.map fun b => (tall x i).contains b).any id = upOf x i n := by
            unfold upOf
            rw [parentsOf_get hp, List.any_map]
            rfl
          rw [eu]
          have sb4 : SameBut lf H H4 := fun b o e n => s4 _ _ (s3 _ _ (sb _ _ e n))
          refine ite2 (fun g => ?_) (fun g => ?_)
          · rw [if_pos g] at ft
            have nn : n ∉ ((tall x i).take j).filter (upOf x i) := fun z => by
              have z := (List.mem_filter.mp z).1
              obtain ⟨j', hj'⟩ := List.mem_iff_getElem?.mp z
              rw [List.getElem?_take] at hj'
              split at hj'
              · rename_i lt
                have := nd_ix tn hj' hn
                omega
              · cases hj'
            have fl : (((tall x i).take j).filter (upOf x i)).length ≤ 1024 := Nat.le_trans (List.length_filter_le _ _) (by rw [List.length_take]; omega)
            have hnone : valV (kn (((tall x i).take j).filter (upOf x i))) (Sum.inl (n : Int)) = none := by rw [kn_val, if_neg nn]
            refine ⟨_, rfl, _, rfl, hg, _, rfl, DPut.k (k := Sum.inl (n : Int)) (s4 _ _ hh4) (by rw [kn_len]; exact sz (by omega)), ?_⟩
            refine ⟨_, rfl, fun b o e n => by rw [upd_ne (ne_of_none e hgH)]; exact sb4 _ _ e n, by rw [upd_ne (Ne.symm nhl)]; exact s4 _ _ hl4, ?_⟩
            rw [upd_same, putK_new _ hnone, ft, kn_snoc]
          · rw [if_neg g, List.append_nil] at ft
            exact ⟨_, rfl, sb4, s4 _ _ hl4, by rw [ft]; exact s4 _ _ hh4⟩
      · rintro σ H'' ⟨v5', rfl, sb, hl2, hh2⟩
        rw [kl.len, List.take_length, show (tall x i).filter (upOf x i) = tall x (i + 1) from tall_step x i] at hh2
        refine ⟨hl2, _, rfl, hg, _, _, _, _, rfl, fun b o e => ?_, by rw [upd_ne nhl]; exact hh2, kn_keys _⟩
        by_cases z : b = lf
        · subst z
          rw [upd_same, hlfH o e]
        · rw [upd_ne z]
          exact sb _ _ e z
    · rintro σ H' ⟨lf, v3, v4, v5, kvs, rfl, s1, hlf, kl⟩
      rw [Int.toNat_natCast] at kl
      have hlfH : ∀ o, H lf = some o → o = .dK kvs := fun o e => by
        have := s1 _ _ e
        rw [hlf] at this
        exact (Option.some.inj this).symm
      have tn := tall_nd FO.nd m
      have tlen : (tall x m).length ≤ 1024 := by
        have := len_le_of_sub tn (fun a h => tall_sub x m a h)
        unfold ids at this
        rw [List.length_map] at this
        have := FO.len
        omega
      refine ⟨lf, .dK kvs, hlf, trivial, fun od => ?_⟩
      have sb0 : SameBut lf H (upd H' lf (.frz od (.dK kvs))) := fun b o e n => by rw [upd_ne n]; exact s1 _ _ e
      refine ⟨_, rfl, lf, od, rfl, .inl ⟨kvs, upd_same, fun D hD => ?_⟩⟩
      have nDl : D ≠ lf := fun e => by rw [e, upd_same] at hD; cases hD
      have hD' : H' D = none := by rw [upd_ne nDl] at hD; exact hD
      have hDH : H D = none := s1.free hD'
      have PA0 : PersAt CP (upd H' lf (.frz od (.dK kvs))) d x ps := PersAt.locked hd F sb0 hlfH upd_same
      refine lc_keys (d := lf) (o := od) (kvs := kvs) (fun j H'' => ∃ as : List Addr, H'' D = some (.lst (as.map V.ref)) ∧ Same (upd H' lf (.frz od (.dK kvs))) H'' ∧ Paired (fun a n => ∃ k p, PersonAt CP (upd H' lf (.frz od (.dK kvs))) a k p ∧ x.get n = some p ∧ (k, p) ∈ x) as ((tall x m).take j))
        ⟨[], upd_same, Same.new hD, .nil⟩ (fun j H'' _ ⟨_, _, s3, _⟩ => s3 _ _ upd_same) ?_ ?_
      · rintro j key vv H'' hj ⟨as, h1, s3, pa⟩
        obtain ⟨n, hn, rfl⟩ := kl.get hj
        have nin : n ∈ tall x m := List.mem_of_getElem? hn
        have jl : j < (tall x m).length := (List.getElem?_eq_some_iff.mp hn).1
        obtain ⟨p, hp⟩ := get_some (tall_sub x m n nin)
        obtain ⟨aP, kP, e1, hPer, hmem⟩ := (fam_get PA0.2 n).2 p hp
        have hget : DGet H'' d (.int (n : Int)) (some (.ref aP)) := .inl ⟨_, Sum.inl (n : Int), Rd.same PA0.1 s3, rfl, e1.symm⟩
        refine ⟨rfl, ⟨_, rfl, _, rfl, d, _, rfl, hget, _, h1, ?_, as ++ [aP], by rw [upd_same, List.map_append]; rfl, s3.young hD, ?_⟩⟩
        · rw [List.length_map, pd_len pa, List.length_take]; exact sz (by omega)
        · rw [List.take_add_one, hn]
          exact pd_snoc pa ⟨kP, p, hPer, hp, hmem⟩
      · rintro H'' ⟨as, h1, s3, pa⟩
        rw [kl.len, List.take_length] at pa
        have hl3 := s3 _ _ (show upd H' lf (.frz od (.dK kvs)) lf = _ from upd_same)
        refine ⟨hl3, ?_⟩
        have sH : Same H (upd H'' lf (.dK kvs)) := fun b o e => by
          by_cases z : b = lf
          · subst z
            rw [upd_same, hlfH o e]
          · rw [upd_ne z]
            exact s3 _ _ (sb0 _ _ e z)
        have sb5 : SameBut lf (upd H' lf (.frz od (.dK kvs))) (upd H'' lf (.dK kvs)) := fun b o e n => by rw [upd_ne n]; exact s3 _ _ e
        refine k _ D as sH (by rw [upd_ne nDl]; exact h1) (pd_imp pa fun a n _ ⟨k2, p2, hP, hg, hm⟩ => ⟨k2, p2, ?_, hg, hm⟩)
        have : PersonAt CP (upd H'' lf (.dK kvs)) a k2 p2 := by
          obtain ⟨dx, ab, ad, ap, a1, a2, a3, a4⟩ := hP
          have ne : ∀ b o, upd H' lf (.frz od (.dK kvs)) b = some o → (o ≠ .frz od (.dK kvs)) → b ≠ lf := fun b o h n z => by
            rw [z, upd_same] at h
            exact n (Option.some.inj h).symm
          exact ⟨dx, ab, ad, ap, sb5 _ _ a1 (ne _ _ a1 (by intro z; cases z)), sb5 _ _ a2 (ne _ _ a2 (by intro z; cases z)), sb5 _ _ a3 (ne _ _ a3 (by intro z; cases z)), sb5 _ _ a4 (ne _ _ a4 (by intro z; cases z))⟩
        exact this
end
end Kf
namespace Kf
open PySem PySem.Spec PyProof.Rows L2 KX
open Sf52 (Bytes Families)
open Sf91 (ids parentsOf tall firstBad)
theorem first_eq (x : Families) (g : Sf52.Person → Bool) : firstBad x g = ((x.filter fun z => g z.2).head?).map (·.1) := by
  unfold firstBad
  rw [List.head?_filter]
theorem first_none {x : Families} {g : Sf52.Person → Bool} (h : firstBad x g = none) : ∀ z ∈ x, g z.2 = false := fun z hz => by
  unfold firstBad at h
  rw [Option.map_eq_none_iff, List.find?_eq_none] at h
  have := h z hz
  simpa using this
theorem closed_of {x : Families} (h : firstBad x (Sf52.wrongParent x) = none) : Closed x := by
  intro a b hb
  unfold parentsOf at hb
  cases e : x.get a with
  | none => rw [e] at hb; exact absurd hb List.not_mem_nil
  | some p =>
    rw [e] at hb
    obtain ⟨_, k, hm⟩ := get_mem e
    have hw := first_none h _ hm
    rw [wrong_eq, Bool.or_eq_false_iff] at hw
    have key : ∀ (o : Option Nat) (f : Bool), wrong1 x o f = false → b ∈ o.toList → b ∈ ids x := fun o f h hb => by
      cases o with
      | none => exact absurd hb List.not_mem_nil
      | some n =>
        have e : b = n := by simpa using hb
        subst e
        unfold wrong1 at h
        dsimp only at h
        cases e2 : x.get b with
        | none => rw [e2] at h; cases h
        | some q => exact get_isSome.mp (by rw [e2]; rfl)
    have hb : b ∈ p.father.toList ++ p.mother.toList := hb
    rcases List.mem_append.mp hb with z | z
    · exact key _ _ hw.1 z
    · exact key _ _ hw.2 z
section
variable {t : Bytes} {x : Families} {k : Nat}
theorem read_e0 (h : Sf52.reads 1 [] (Sf52.linesOf t []) = .error k) : Sf91.read t = .error k := by unfold Sf91.read; rw [h]
theorem read_e1 (h : Sf52.reads 1 [] (Sf52.linesOf t []) = .ok x) (h1 : firstBad x (Sf52.wrongParent x) = some k) : Sf91.read t = .error k := by unfold Sf91.read; rw [h]; dsimp only; rw [h1]
theorem read_e2 (h : Sf52.reads 1 [] (Sf52.linesOf t []) = .ok x) (h1 : firstBad x (Sf52.wrongParent x) = none) (h2 : firstBad x (fun p => (Sf91.ancestors x p.id).contains p.id) = some k) : Sf91.read t = .error k := by
  unfold Sf91.read; rw [h]; dsimp only; rw [h1]; dsimp only; rw [h2]
theorem read_e3 (h : Sf52.reads 1 [] (Sf52.linesOf t []) = .ok x) (h1 : firstBad x (Sf52.wrongParent x) = none) (h2 : firstBad x (fun p => (Sf91.ancestors x p.id).contains p.id) = none) (h3 : firstBad x (fun p => (tall x 31).contains p.id) = some k) : Sf91.read t = .error k := by
  unfold Sf91.read; rw [h]; dsimp only; rw [h1]; dsimp only; rw [h2]; dsimp only; rw [h3]
theorem read_e4 (h : Sf52.reads 1 [] (Sf52.linesOf t []) = .ok x) (h1 : firstBad x (Sf52.wrongParent x) = none) (h2 : firstBad x (fun p => (Sf91.ancestors x p.id).contains p.id) = none) (h3 : firstBad x (fun p => (tall x 31).contains p.id) = none) (h4 : firstBad x (fun p => !Sf52.daysRight x p) = some k) : Sf91.read t = .error k := by
  unfold Sf91.read; rw [h]; dsimp only; rw [h1]; dsimp only; rw [h2]; dsimp only; rw [h3]; dsimp only; rw [h4]
theorem read_ok (h : Sf52.reads 1 [] (Sf52.linesOf t []) = .ok x) (h1 : firstBad x (Sf52.wrongParent x) = none) (h2 : firstBad x (fun p => (Sf91.ancestors x p.id).contains p.id) = none) (h3 : firstBad x (fun p => (tall x 31).contains p.id) = none) (h4 : firstBad x (fun p => !Sf52.daysRight x p) = none) : Sf91.read t = .ok x := by
  unfold Sf91.read; rw [h]; dsimp only; rw [h1]; dsimp only; rw [h2]; dsimp only; rw [h3]; dsimp only; rw [h4]
end
theorem find_congr {α : Type} {p q : α → Bool} : ∀ {l : List α}, (∀ z ∈ l, p z = q z) → l.find? p = l.find? q
  | [], _ => rfl
  | a :: r, h => by
    rw [List.find?_cons, List.find?_cons, h a List.mem_cons_self, find_congr fun z hz => h z (List.mem_cons_of_mem _ hz)]
theorem first_tall {x : Families} (nd : (ids x).Nodup) (k : Nat) : firstBad x (fun p => (tall x k).contains p.id) = ((tall x k).head?).bind fun n => (x.find? fun z => z.2.id == n).map (·.1) := by
  have hsub : ∀ (y : Families) (g : Nat → Bool), (ids y).Nodup → (y.find? fun z => ((ids y).filter g).contains z.2.id).map (·.1) = (((ids y).filter g).head?).bind fun n => (y.find? fun z => z.2.id == n).map (·.1) := by
    intro y g
    have gen : ∀ (y : Families), (ids y).Nodup → (y.find? fun z => g z.2.id) = (((ids y).filter g).head?).bind fun n => y.find? fun z => z.2.id == n := by
      intro y
      induction y with
      | nil => intro _; rfl
      | cons a r ih =>
        intro hn
        have hn : (a.2.id :: ids r).Nodup := hn
        obtain ⟨h1, h2⟩ := List.nodup_cons.mp hn
        show (a :: r).find? _ = ((a.2.id :: ids r).filter g).head?.bind _
        rw [List.find?_cons, List.filter_cons]
        cases e : g a.2.id with
        | true =>
          simp only [if_true, List.head?_cons, Option.bind_some, List.find?_cons, beq_self_eq_true]
        | false =>
          simp only [Bool.false_eq_true, if_false]
          rw [ih h2]
          cases e2 : ((ids r).filter g).head? with
          | none => rfl
          | some n =>
            simp only [Option.bind_some, List.find?_cons]
            have hm : n ∈ ids r := (List.mem_filter.mp (List.mem_of_head? e2)).1
            have ne : (a.2.id == n) = false := beq_eq_false_iff_ne.mpr fun z => h1 (by rw [z]; exact hm)
            rw [ne]
    intro hn
    have e : (y.find? fun z => ((ids y).filter g).contains z.2.id) = y.find? fun z => g z.2.id := by
      refine find_congr fun z hz => ?_
      cases e : g z.2.id with
      | true => exact List.contains_iff_mem.mpr (List.mem_filter.mpr ⟨List.mem_map.mpr ⟨z, hz, rfl⟩, e⟩)
      | false =>
        cases q : ((ids y).filter g).contains z.2.id with
        | false => rfl
        | true => rw [(List.mem_filter.mp (List.contains_iff_mem.mp q)).2] at e; cases e
    rw [e, gen y hn]
    cases ((ids y).filter g).head? <;> rfl
  unfold firstBad
  cases k with
  | zero =>
    have := hsub x (fun _ => true) nd
    rw [List.filter_eq_self.mpr (fun _ _ => rfl)] at this
    exact this
  | succ k => exact hsub x _ nd
section
variable {P : Program} {w : World} {K : PySem.W.Frag} {mg : Str → Option Value} {base : Heap} {CU CN fN CP fP : Addr}
theorem kv_at {x : Families} : ∀ {ps : List Addr} {j : Nat} {k : Key} {v : V}, (KvOf x ps)[j]? = some (k, v) → ∃ z q, x[j]? = some z ∧ ps[j]? = some q ∧ v = .ref q := by
  intro ps j k v h
  unfold KvOf at h
  rw [List.getElem?_zipWith] at h
  cases e1 : x[j]? with
  | none => rw [e1] at h; simp at h
  | some z => cases e2 : ps[j]? with
    | none => rw [e1, e2] at h; simp at h
    | some q =>
      rw [e1, e2] at h
      simp at h
      exact ⟨z, q, rfl, rfl, h.2.symm⟩
theorem filter_take3 {g : Nat × Sf52.Person → Bool} {l : Families} {i : Nat} {n : Nat × Sf52.Person} (h : l[i]? = some n) : (l.take (i + 1)).filter g = (l.take i).filter g ++ (if g n = true then [n] else []) := by
  rw [List.take_add_one, h, List.filter_append]
  congr 1
  show List.filter g [n] = _
  rw [List.filter_cons]
  rfl
theorem vals_lc {R : Nat × Sf52.Person → Addr → Prop} {x : Families} {ps : List Addr} {a d : Addr} {od : Obj} {H0 : Hp} {tt : TT} {Q : VK} (g : Sf52.Person → Bool) (F : Paired R x ps) (hd : H0 d = some (.frz od (.dK (KvOf x ps)))) (hl : x.length ≤ 1024)
    (htest : ∀ (z : Nat × Sf52.Person) (q : Addr) (H2 : Hp), z ∈ x → R z q → Same H0 H2 → ∀ Qb : Bool → Hp → Prop, (∀ H3, Same H2 H3 → Qb (g z.2) H3) → tt [some (.ref a), some (.ref d), some (.ref q)] H2 Qb)
    (k : ∀ (H' : Hp) (l : Addr) (as : List Addr), Same H0 H' → H' l = some (.lst (as.map V.ref)) → l ≠ d → Paired R (x.filter fun z => g z.2) as → Q (.ref l) H') : tLc (iVals (tVar 1)) (gName 2) tt (tVar 2) [2] [some (.ref a), some (.ref d), none] H0 Q := by
  refine ⟨_, rfl, d, od, _, rfl, hd, fun D hD => ?_⟩
  have nD : D ≠ d := fun e => by rw [e, hd] at hD; cases hD
  refine lc_vals (d := d) (o := od) (kvs := KvOf x ps) (fun j H' => ∃ as : List Addr, H' D = some (.lst (as.map V.ref)) ∧ Same H0 H' ∧ Paired R ((x.take j).filter fun z => g z.2) as)
    ⟨[], upd_same, Same.new hD, .nil⟩ (fun j H' _ ⟨_, _, s, _⟩ => s _ _ hd) ?_ ?_
  · rintro j key v H' hj ⟨as, h1, s, pa⟩
    obtain ⟨z, q, hz, hq, rfl⟩ := kv_at hj
    obtain ⟨q2, hq2, hR⟩ := paired_get F hz
    rw [hq] at hq2
    cases hq2
    have ft := filter_take3 (g := fun z => g z.2) hz
    refine ⟨rfl, htest z q H' (List.mem_of_getElem? hz) hR s _ fun H3 s3 => ?_⟩
    cases e : g z.2 with
    | true =>
      rw [if_pos e] at ft
      refine iteT ⟨_, rfl, _, s3 _ _ h1, ?_, as ++ [q], by rw [upd_same, List.map_append]; rfl, (s.trans s3).young hD, by rw [ft]; exact pd_snoc pa hR⟩
      rw [List.length_map, ← pd_len pa]
      refine sz (Nat.le_trans (List.length_filter_le _ _) ?_)
      rw [List.length_take]
      omega
    | false =>
      rw [if_neg (by rw [e]; exact Bool.false_ne_true), List.append_nil] at ft
      exact iteF ⟨as, s3 _ _ h1, s.trans s3, by rw [ft]; exact pa⟩
  · rintro H' ⟨as, h1, s, pa⟩
    rw [kv_len (pd_len F), List.take_length] at pa
    exact k H' D as s h1 nD pa
end
end Kf
namespace Kf
open PySem PySem.Spec PyProof.Rows L2 KX
open Sf52 (Bytes Families)
open Sf91 (ids parentsOf tall firstBad)
theorem pd_cons1 {α β : Type} {F : α → β → Prop} {a : α} {l : List α} {m : List β} (h : Paired F (a :: l) m) : ∃ b m', m = b :: m' ∧ F a b ∧ Paired F l m' := by
  cases h with
  | cons x r => exact ⟨_, _, rfl, x, r⟩
theorem Bad.mono {CN : Addr} {H H1 : Hp} {E : XK} {k : Nat} (b : Bad CN H E k) (s : Same H H1) : Bad CN H1 E k := fun H' dx s' h => b H' dx (s.trans s') h
section
variable {P : Program} {w : World} {K : PySem.W.Frag} {mg : Str → Option Value} {base : Heap} {CU CN fN CP fP : Addr}
theorem refuse_vals {x : Families} {ps : List Addr} {a d : Addr} {H : Hp} {tt : TT} {E : XK} {nx : Hp → Prop} (g : Sf52.Person → Bool) (hd : H d = some (.dK (KvOf x ps))) (F : FamIn CP H x ps) (hl : x.length ≤ 1024)
    (htest : ∀ (z : Nat × Sf52.Person) (q : Addr) (H2 : Hp), z ∈ x → PersonAt CP H2 q z.1 z.2 → PersAt CP H2 d x ps → ∀ Qb : Bool → Hp → Prop, (∀ H3, Same H2 H3 → Qb (g z.2) H3) → tt [some (.ref a), some (.ref d), some (.ref q)] H2 Qb)
    (kg : firstBad x g = none → ∀ H', Same H H' → nx H') (kb : ∀ k, firstBad x g = some k → Bad CN H E k) :
    tLockE (tLc (iVals (tVar 1)) (gName 2) tt (tVar 2) [2]) [some (.ref a), some (.ref d), none] H fun v H1 => spRefuse CN CP [v] H1 (fun _ H2 => nx H2) E := by
  refine ⟨d, .dK (KvOf x ps), hd, trivial, fun od => ?_⟩
  have sb0 : SameBut d H (upd H d (.frz od (.dK (KvOf x ps)))) := fun b o e n => by rw [upd_ne n]; exact e
  have hdo : ∀ o, H d = some o → o = .dK (KvOf x ps) := fun o e => by rw [hd] at e; exact (Option.some.inj e).symm
  refine vals_lc (R := fun z q => PersonAt CP H q z.1 z.2) g F upd_same hl (fun z q H2 hz hR s2 Qb hQ => ?_) (fun H' l as s hll nl pa => ?_)
  · have sb2 : SameBut d H H2 := fun b o e n => s2 _ _ (sb0 _ _ e n)
    exact htest z q H2 hz (hR.but2 sb2 fun o e => ⟨_, hdo o e⟩) (PersAt.locked hd F sb2 hdo (s2 _ _ upd_same)) Qb hQ
  · refine ⟨s _ _ upd_same, l, as, rfl, by rw [upd_ne nl]; exact hll, ?_, ?_⟩
    · intro e
      subst e
      have sH : Same H (upd H' d (.dK (KvOf x ps))) := fun b o e => by
        by_cases z : b = d
        · subst z
          rw [upd_same, hdo o e]
        · rw [upd_ne z]
          exact s _ _ (sb0 _ _ e z)
      refine kg ?_ _ sH
      rw [first_eq]
      generalize x.filter (fun z => g z.2) = y at pa
      cases pa
      rfl
    · intro q r e
      subst e
      have sH : Same H (upd H' d (.dK (KvOf x ps))) := fun b o e => by
        by_cases z : b = d
        · subst z
          rw [upd_same, hdo o e]
        · rw [upd_ne z]
          exact s _ _ (sb0 _ _ e z)
      have fe := first_eq x g
      generalize x.filter (fun z => g z.2) = y at pa fe
      obtain ⟨z, y', rfl, hz, _⟩ := pd_cons pa
      exact ⟨z.1, z.2, hz.same sH, (kb z.1 fe).mono sH⟩
abbrev sFam : Stmt := top 59
def spFam (K : PySem.W.Frag) (CN CP : Addr) : Sp := fun vs H Q E => ∃ (a : Addr) (t : Bytes), vs = [.ref a] ∧ SqL K H a (bv t) ∧ t.length ≤ 4000 ∧
  (∀ x, Sf91.read t = .ok x → FamOk x → Closed x → ∀ (H' : Hp) (d : Addr) (ps : List Addr), Same H H' → H d = none → H' d = some (.dK (KvOf x ps)) → FamIn CP H' x ps → Q (.ref d) H') ∧
  (∀ k, Sf91.read t = .error k → Bad CN H E k)
theorem scFam : FnScope ["text", "persons", "person"] ["text"] (defScope sFam) := ⟨rfl, rfl, rfl, by decide +kernel, rfl, by decide +kernel, by decide +kernel⟩
theorem ok_fam (T : Txt K mg CU CN fN CP fP) (d : Def K mg "read_families" ["text"] sFam) (O1 : Prom P w K mg base (CXo P w) 7 "read_persons" ["text"] (spPersons K CN CP)) (O2 : Prom P w K mg base (CXo P w) 2 "refuse_first" ["wrong"] (spRefuse CN CP))
    (O3 : Prom P w K mg base CX0 1 "has_wrong_parent" ["persons", "person"] (spWrong CP)) (O4 : Prom P w K mg base CX0 2 "ancestors" ["persons", "number"] (spAnc CP)) (O5 : Prom P w K mg base CX0 2 "with_steps_upwards" ["persons", "steps"] (spSteps CP))
    (O6 : Prom P w K mg base CX0 2 "days_fit" ["persons", "person"] (spFit CP)) : Prom P w K mg base (CXo P w) 8 "read_families" ["text"] (spFam K CN CP) := by
  refine d.wild scFam (fun vs H Q E h => ?_) (fun f cdv A outer s H vs Q E hr h => ?_)
  · obtain ⟨a, t, rfl, _⟩ := h
    rfl
  · obtain ⟨a, t, rfl, hA, hl, k1, k2⟩ := h
    have hu := hu_of hr
    have hr1 : Room 1 _ := hr.mono (by decide)
    have hr2 : Room 2 _ := hr.mono (by decide)
    refine ⟨_, pss_cons (ps_set (i := 1) scFam.nd rfl (by first | exact Or.inl rfl | exact Or.inr rfl) (pe_f O1 hr (passes_of throws_body rfl) (pa_cons (pv 0) pa_nil)))
      (pss_cons (ps_expr (pe_f O2 hr2 (passes_of throws_body rfl) (pa_cons (pe_lock (lcS [("person", 2)] scFam rfl rfl rfl (pi_values (pv 1)) (fun _ _ _ _ _ => pg_name (i := 2) scFam.nd rfl (Or.inl rfl))
          (fun _ _ _ _ _ => pts_one (pt_val (pe_fc O3 hr1 (pa_cons (pv 1) (pa_cons (pv 2) pa_nil))))) (fun _ _ _ _ _ => pv 2))) pa_nil)))
      (pss_cons (ps_expr (pe_f O2 hr2 (passes_of throws_body rfl) (pa_cons (pe_lock (lcS [("person", 2)] scFam rfl rfl rfl (pi_values (pv 1)) (fun _ _ _ _ _ => pg_name (i := 2) scFam.nd rfl (Or.inl rfl))
          (fun _ _ _ _ _ => pts_one (pt_cmp (pc_din hu (fldK K rfl (pv 2)) (pe_fc O4 hr2 (pa_cons (pv 1) (pa_cons (fldK K rfl (pv 2)) pa_nil)))) (by with_unfolding_all rfl))) (fun _ _ _ _ _ => pv 2))) pa_nil)))
      (pss_cons (ps_expr (pe_f O2 hr2 (passes_of throws_body rfl) (pa_cons (pe_fc O5 hr2 (pa_cons (pv 1) (pa_cons (pe_op op_add (pe_gi T.mosS) pe_int) pa_nil))) pa_nil)))
      (pss_cons (ps_expr (pe_f O2 hr2 (passes_of throws_body rfl) (pa_cons (pe_lock (lcS [("person", 2)] scFam rfl rfl rfl (pi_values (pv 1)) (fun _ _ _ _ _ => pg_name (i := 2) scFam.nd rfl (Or.inl rfl))
          (fun _ _ _ _ _ => pts_one (pt_not (pt_val (pe_fc O6 hr2 (pa_cons (pv 1) (pa_cons (pv 2) pa_nil)))))) (fun _ _ _ _ _ => pv 2))) pa_nil)))
      (pss_one (ps_ret (pv 1))))))), ?_⟩
    refine ⟨_, rfl, a, t, rfl, hA, hl, fun x hx FO H1 d ps s1 hd0 hd F => ?_, fun k hk => k2 k (read_e0 hk)⟩
    have FOl := FO.len
    -- a parent that is nowhere, or of the wrong kind
    refine refuse_vals (Sf52.wrongParent x) hd F FOl (fun z q H2 hz hp hpa Qb hQ => ?_) (fun g1 H2 s2 => ?_) (fun k hk => (k2 k (read_e1 hx hk)).mono s1)
    · exact ⟨_, rfl, _, rfl, d, q, x, ps, z.1, z.2, rfl, hpa, hp, FO.ok z hz, fun H3 s3 => ⟨_, rfl, hQ H3 s3⟩⟩
    have CL := closed_of g1
    have S2 := s1.trans s2
    have hd2 := s2 _ _ hd
    have F2 := F.same s2
    -- one who comes from themselves
    refine refuse_vals (fun p => (Sf91.ancestors x p.id).contains p.id) hd2 F2 FOl (fun z q H3 hz hp hpa Qb hQ => ?_) (fun g2 H3 s3 => ?_) (fun k hk => (k2 k (read_e2 hx g1 hk)).mono S2)
    · obtain ⟨dx, ab, ad, ap, hins, _⟩ := id hp
      refine ⟨_, rfl, q, CP, dx, _, _, rfl, hins, T.pC, T.pn, pf_number _ _ _ _ _ _, _, rfl, _, rfl, q, CP, dx, _, _, rfl, hins, T.pC, T.pn, pf_number _ _ _ _ _ _, ?_⟩
      refine ⟨d, z.2.id, x, ps, rfl, hpa, FO, CL, List.mem_map.mpr ⟨z, hz, rfl⟩, fun H4 fo l s4 _ hfo hmem _ _ => ⟨fo, _, rfl, DGet.k (k := Sum.inl (z.2.id : Int)) hfo, _, rfl, ?_⟩⟩
      have e : (valV (kn l) (Sum.inl (z.2.id : Int))).isSome = (Sf91.ancestors x z.2.id).contains z.2.id := by
        rw [kn_val]
        by_cases h : z.2.id ∈ l
        · rw [if_pos h, List.contains_iff_mem.mpr ((mem_ancestors CL _ _).mpr ((hmem _).mp h))]; rfl
        · rw [if_neg h]
          cases q2 : (Sf91.ancestors x z.2.id).contains z.2.id with
          | false => rfl
          | true => exact absurd ((hmem _).mpr ((mem_ancestors CL _ _).mp (List.contains_iff_mem.mp q2))) h
      rw [e]
      exact hQ H4 s4
    have S3 := S2.trans s3
    have hd3 := s3 _ _ hd2
    have F3 := F2.same s3
    -- a line of parents that is too long
    refine ⟨_, rfl, _, _, rfl, rfl, d, 31, x, ps, rfl, hd3, F3, FO, by decide, fun H4 l as s4 hl4 pa => ?_⟩
    have S4 := S3.trans s4
    have ft := first_tall FO.nd 31
    have cont : firstBad x (fun p => (tall x 31).contains p.id) = none → tSeq (tDrop (tCall (spRefuse CN CP) [] E (tCons (tLockE (tLc (iVals (tVar 1)) (gName 2) (tNot (tB (tCall (spFit CP) [] E0 (tCons (tVar 1) (tCons (tVar 2) tNil))))) (tVar 2) [2])) tNil)))
        (tRet (tVar 1)) { nx := fun _ H' => Q .non H', rt := Q } [some (.ref a), some (.ref d), none] H4 := fun g3 => by
      have hd4 := s4 _ _ hd3
      have F4 := F3.same s4
      refine refuse_vals (fun p => !Sf52.daysRight x p) hd4 F4 FOl (fun z q H5 hz hp hpa Qb hQ => ?_) (fun g4 H5 s5 => ?_) (fun k hk => (k2 k (read_e4 hx g1 g2 g3 hk)).mono S4)
      · refine ⟨_, rfl, _, rfl, d, q, x, ps, z.1, z.2, rfl, hpa, hp, FO.ok z hz, FO, fun n hn => CL z.2.id n ?_, fun H6 s6 => ⟨_, rfl, hQ H6 s6⟩⟩
        rw [parentsOf_get (get_of_mem FO.nd hz)]
        exact hn
      · exact ⟨_, rfl, k1 x (read_ok hx g1 g2 g3 g4) FO CL _ d ps (S4.trans s5) hd0 (s5 _ _ hd4) (F4.same s5)⟩
    refine ⟨l, as, rfl, hl4, fun e => ?_, fun b r e => ?_⟩
    · subst e
      refine cont ?_
      rw [ft]
      generalize tall x 31 = y at pa ⊢
      cases pa
      rfl
    · subst e
      generalize ey : tall x 31 = y at pa ft
      obtain ⟨n, y', rfl, hz, _⟩ := pd_cons1 pa
      obtain ⟨k, p, hp, hg, hm⟩ := hz
      refine ⟨k, p, hp, ?_⟩
      refine (k2 k (read_e3 hx g1 g2 ?_)).mono S4
      rw [ey, ft]
      simp only [List.head?_cons, Option.bind_some]
      have hg' : (x.find? fun z => z.2.id == n).map (fun z => z.2) = some p := hg
      obtain ⟨z, hz, ez⟩ := Option.map_eq_some_iff.mp hg'
      rw [hz]
      have zm := List.mem_of_find?_eq_some hz
      have key : ∀ (y : Families), (ids y).Nodup → ∀ z1 ∈ y, ∀ z2 ∈ y, z1.2.id = z2.2.id → z1 = z2 := by
        intro y
        induction y with
        | nil => intro _ z1 h1; exact absurd h1 List.not_mem_nil
        | cons c r ih =>
          intro hn z1 h1 z2 h2 e
          have hn : (c.2.id :: ids r).Nodup := hn
          obtain ⟨n1, n2⟩ := List.nodup_cons.mp hn
          rcases List.mem_cons.mp h1 with e1 | e1 <;> rcases List.mem_cons.mp h2 with e2 | e2
          · rw [e1, e2]
          · exact absurd (by rw [← e1, e]; exact List.mem_map.mpr ⟨z2, e2, rfl⟩) n1
          · exact absurd (by rw [← e2, ← e]; exact List.mem_map.mpr ⟨z1, e1, rfl⟩) n1
          · exact ih n2 z1 e1 z2 e2 e
      have := key x FO.nd z zm (k, p) hm (by rw [ez])
      rw [this]
      rfl
end
end Kf
namespace L2
open PySem PySem.Spec PyProof.Rows KX
theorem Fun.wild {P : Program} {w : World} {K : PySem.W.Frag} {mg : Str → Option Value} {base : Heap} {k : Nat} {x : Str} {ps N : List Str} {sp : Sp} {st : Stmt} {f : Addr} {fd : FuncData} (F : Fun K x x st f fd) (S : FnScope N ps (defScope st)) (len : ∀ vs H Q E, sp vs H Q E → vs.length = ps.length)
    (hbody : ∀ (cdv : Value) (A : Around) (outer : List Env) (s : Shared) (H : Hp) (vs : List V) (Q : VK) (E : XK), Room k (A.deeper (envOfC x (defScope st) s.heap.objs.size f cdv)) → sp vs H Q E →
      ∃ t, PSs (cxOf (CXo P w) P w K mg base N x (defScope st) f cdv A outer s H E) (defBody st) t ∧ t { nx := fun _ H' => Q .non H', rt := Q } (start N vs) H) : FnOk P w K mg base (CXo P w) (k + 1) f fd ps sp := by
  obtain ⟨oc, od, kV, doc, pm, an, cdv, ct, osl, rfl, lk, hcd⟩ := F.ex
  exact fn_of lk hcd S len fun A outer s H vs Q E hr hsp => hbody cdv A outer s H vs Q E hr hsp
theorem def_mk {K : PySem.W.Frag} {h : Heap} {mg : Str → Option Value} {x : Str} {ps : List Str} {st : Stmt} {f : Addr} {oc : Value} {od an : Option Addr} {osl : Array (Option Value)} {kV doc pm cdv ct : Value} (X : K.In h) (G : h.Ns mainGlobals mg) (a : PySem.W.nsIn K mainGlobals x = some (some (.ref f)))
    (l : K.lookup f = some ⟨oc, od, .func (PySem.W.fnOf x x (defArgs st) (defBody st) (defScope st) .none kV doc pm an cdv ct), osl⟩) (c : PySem.W.codeIn K cdv x = true) (k : PySem.W.keepIn K (.ref f) = true)
    (b : ∀ (kV doc pm : Value) (an : Option Addr) (cdv ct : Value) (us : List Value), us.length = ps.length → bindArgs (PySem.W.fnOf x x (defArgs st) (defBody st) (defScope st) .none kV doc pm an cdv ct) ⟨us, []⟩ = pure (ps.zip us)) : Def K mg x ps st :=
  ⟨f, _, PySem.W.mg_of X G a, fun_mk l c k, (fun_mk l c k).binds b⟩
theorem cxo_false {P : Program} {w : World} {H : Hp} {s : Shared} {e : Value} {s' : Shared} (h : CXo P w [] H s (fun _ _ _ => False) e s') : False := by
  obtain ⟨_, _, _, _, _, _, _, _, _, _, q⟩ := h
  exact q
end L2
namespace Kf
open PySem PySem.Spec PyProof.Rows L2 KX
open Sf52 (Bytes Families)
section
variable {K : PySem.W.Frag} {h : Heap} {mg : Str → Option Value}
theorem int_mk {x : Str} {i : Int} {t : Tok} (X : K.In h) (G : h.Ns mainGlobals mg) (a : PySem.W.nsIn K mainGlobals x = some (some (.int i t))) : ∃ t, mg x = some (.int i t) := ⟨t, PySem.W.mg_of X G a⟩
theorem no_mk {x : Str} (X : K.In h) (G : h.Ns mainGlobals mg) (a : PySem.W.nsIn K mainGlobals x = some none) : mg x = none := by
  obtain ⟨o, es, ep, ho, hd, _, hf⟩ := G
  unfold PySem.W.nsIn at a
  split at a
  · rename_i c d es' n' sl q
    have z := X _ _ q
    rw [ho] at z
    cases z
    cases hd
    split at a
    · cases a
    · rename_i he
      rw [← hf]
      unfold nsFind findBy
      rw [← Array.find?_toList, he]
      rfl
  · cases a
theorem tup_mk {x : Str} {t : Addr} {od : Option Addr} {its : Array Value} {n : Nat} {sl : Array (Option Value)} {xs : List V} (X : K.In h) (G : h.Ns mainGlobals mg) (a : PySem.W.nsIn K mainGlobals x = some (some (.ref t))) (l : K.lookup t = some ⟨.type "tuple", od, .seq its n, sl⟩) (hz : its.size ≤ sizeLine) (v : Vals xs its.toList) :
    ∃ a, mg x = some (.ref a) ∧ ∀ H, SqT K H a xs := ⟨t, PySem.W.mg_of X G a, fun H => .inr ⟨_, its, n, l, rfl, rfl, hz, v⟩⟩
variable {C N : Addr} {nm q : Str} {bs : List Value} {sn : List Str} {sub : List Value} {ab : Bool} {col : Option Bool} {dd : Option Addr} {k0 k1 k2 k3 k5 : Option Value}
theorem own_mk {name : Str} {r : Option (Option Value)} (l : K.lookup C = some (excClassObj nm q C N bs bmX true sn sub ab col dd k0 k1 k2 k3 k5 "Exception.__new__")) (n : PySem.W.nsIn K N name = r) : PySem.W.ownIn K name (.ref C) = r := by
  unfold PySem.W.ownIn
  dsimp only
  rw [l]
  exact n
theorem exc_mk {oc : Value} {od : Option Addr} {es : Array DictEntry} {ep : Nat} {sl : Array (Option Value)} (l : K.lookup C = some (excClassObj nm q C N bs bmX true sn sub ab col dd k0 k1 k2 k3 k5 "Exception.__new__")) (l2 : K.lookup N = some ⟨oc, od, .dict es ep, sl⟩)
    (hs : (es.toList.all fun e => match e.key with | .str _ _ => true | _ => false) = true) (k : PySem.W.keepIn K (.ref C) = true) : XCls K C := by
  refine ⟨⟨_, _, _, _, _, _, _, _, _, _, _, _, _, _, l⟩, ?_, k⟩
  unfold nsStr
  rw [l]
  dsimp only [excClassObj]
  rw [l2]
  exact hs
abbrev sNInit : Stmt := inClass (top 31) 0
theorem xinit_mk {fN : Addr} {oc : Value} {od an : Option Addr} {osl : Array (Option Value)} {kV doc pm cdv ct : Value} (l : K.lookup C = some (excClassObj nm q C N bs bmX true sn sub ab col dd k0 k1 k2 k3 k5 "Exception.__new__")) (i : PySem.W.nsIn K N "__init__" = some (some (.ref fN))) (s : PySem.W.nsIn K N "__setattr__" = some none) (r : PySem.W.nsIn K N "row" = some none)
    (fn : PySem.W.isFn K (.ref fN) = true) (lk : K.lookup fN = some ⟨oc, od, .func (PySem.W.fnOf "__init__" "NotFamilies.__init__" (defArgs sNInit) (defBody sNInit) (defScope sNInit) .none kV doc pm an cdv ct), osl⟩) (c : PySem.W.codeIn K cdv "NotFamilies.__init__" = true) : XInit K C fN "row" := by
  refine ⟨own_mk l i, own_mk l s, own_mk l r, fn, lk_row, ?_⟩
  exact ⟨_, _, _, _, _, _, _, _, _, _, _, _, _, _, _, _, _, _, lk, c, fun u v => rfl, rfl, rfl, rfl, rfl, rfl, by decide, by decide, fun env => rfl⟩
end
theorem bytes_back {ns : List Int} (h : ns.all (PySem.W.Codec.inInt 0 255) = true) : bv (Sf91Neutral.bytesOf ns) = ns.map V.int := by
  unfold bv Sf91Neutral.bytesOf
  rw [List.map_map]
  refine List.map_congr_left fun z hz => ?_
  have := List.all_eq_true.mp h z hz
  have hb : 0 ≤ z ∧ z ≤ 255 := PySem.W.Codec.inInt_iff.mp this
  show V.int (((UInt8.ofNat z.toNat).toNat : Nat) : Int) = V.int z
  rw [UInt8.toNat_ofNat', Nat.mod_eq_of_lt (by omega)]
  congr 1
  omega
theorem bytes_len (ns : List Int) : (Sf91Neutral.bytesOf ns).length = ns.length := List.length_map ..
end Kf
namespace Kf
open PySem PySem.Spec PyProof.Rows L2 KX
section
variable {K : PySem.W.Frag} {h : Heap} {mg : Str → Option Value} {C N : Addr} {nm q : Str} {bs : List Value} {sn : List Str} {sub : List Value} {ab : Bool} {col : Option Bool} {dd : Option Addr} {k0 k1 k2 k3 k5 : Option Value}
theorem exU_mk {x : Str} {oc : Value} {od : Option Addr} {es : Array DictEntry} {ep : Nat} {sl : Array (Option Value)} (X : K.In h) (G : h.Ns mainGlobals mg) (a : PySem.W.nsIn K mainGlobals x = some (some (.ref C)))
    (l : K.lookup C = some (excClassObj nm q C N bs bmX true sn sub ab col dd k0 k1 k2 k3 k5 "Exception.__new__")) (l2 : K.lookup N = some ⟨oc, od, .dict es ep, sl⟩) (s : (es.toList.all fun e => match e.key with | .str _ _ => true | _ => false) = true) (k : PySem.W.keepIn K (.ref C) = true) (i : PySem.W.nsIn K N "__init__" = some none) :
    ∃ C, mg x = some (.ref C) ∧ XCls K C ∧ PySem.W.ownIn K "__init__" (.ref C) = some none := ⟨C, PySem.W.mg_of X G a, exc_mk l l2 s k, own_mk l i⟩
theorem exN_mk {oc oc2 : Value} {od od2 an : Option Addr} {es : Array DictEntry} {ep : Nat} {sl osl : Array (Option Value)} {fN : Addr} {kV doc pm cdv ct : Value} (X : K.In h) (G : h.Ns mainGlobals mg) (a : PySem.W.nsIn K mainGlobals "NotFamilies" = some (some (.ref C)))
    (l : K.lookup C = some (excClassObj nm q C N bs bmX true sn sub ab col dd k0 k1 k2 k3 k5 "Exception.__new__")) (l2 : K.lookup N = some ⟨oc, od, .dict es ep, sl⟩) (s : (es.toList.all fun e => match e.key with | .str _ _ => true | _ => false) = true) (k : PySem.W.keepIn K (.ref C) = true)
    (i : PySem.W.nsIn K N "__init__" = some (some (.ref fN))) (i2 : PySem.W.nsIn K N "__setattr__" = some none) (i3 : PySem.W.nsIn K N "row" = some none) (f : PySem.W.isFn K (.ref fN) = true)
    (lk : K.lookup fN = some ⟨oc2, od2, .func (PySem.W.fnOf "__init__" "NotFamilies.__init__" (defArgs sNInit) (defBody sNInit) (defScope sNInit) .none kV doc pm an cdv ct), osl⟩) (c : PySem.W.codeIn K cdv "NotFamilies.__init__" = true) (g1 : PySem.W.nsIn K N "__getattribute__" = some none) (g2 : PySem.W.nsIn K N "__getattr__" = some none) :
    ∃ C fN, mg "NotFamilies" = some (.ref C) ∧ XCls K C ∧ XInit K C fN "row" ∧ PySem.W.ownIn K "__getattribute__" (.ref C) = some none ∧ PySem.W.ownIn K "__getattr__" (.ref C) = some none :=
  ⟨C, fN, PySem.W.mg_of X G a, exc_mk l l2 s k, xinit_mk l i i2 i3 f lk c, own_mk l g1, own_mk l g2⟩
theorem per_mk {CP fP : Addr} {oc : Value} {od an : Option Addr} {osl : Array (Option Value)} {kV doc pm cdv ct : Value} (X : K.In h) (G : h.Ns mainGlobals mg) (a : PySem.W.nsIn K mainGlobals "Person" = some (some (.ref CP))) (i : PySem.W.findIn K (.ref CP) "__init__" = some (some (.ref fP)))
    (lk : K.lookup fP = some ⟨oc, od, .func (PySem.W.fnOf "__init__" "Person.__init__" (defArgs sPInit) (defBody sPInit) (defScope sPInit) .none kV doc pm an cdv ct), osl⟩) (c : PySem.W.codeIn K cdv "Person.__init__" = true) (k : PySem.W.keepIn K (.ref fP) = true) (fn : PySem.W.isFn K (.ref fP) = true)
    (pg : PySem.W.plainGet K CP Str.empty = true) (hd : PySem.W.hasDictIn K CP = true) (po : PySem.W.plainOver K CP = true) (sa : PySem.W.findIn K (.ref CP) "__setattr__" = some (some (.builtin "object.__setattr__"))) (mk : PySem.W.makesIn K CP = true) (kc : PySem.W.keepIn K (.ref CP) = true)
    (n1 : PySem.W.findIn K (.ref CP) "row" = some none) (n2 : PySem.W.findIn K (.ref CP) "number" = some none) (n3 : PySem.W.findIn K (.ref CP) "sex" = some none) (n4 : PySem.W.findIn K (.ref CP) "birth" = some none) (n5 : PySem.W.findIn K (.ref CP) "death" = some none) (n6 : PySem.W.findIn K (.ref CP) "parents" = some none) :
    ∃ CP fP, mg "Person" = some (.ref CP) ∧ Cls K CP ∧ Mk K CP fP ∧ DefP K fP ∧ NoAttr K CP "row" ∧ NoAttr K CP "number" ∧ NoAttr K CP "sex" ∧ NoAttr K CP "birth" ∧ NoAttr K CP "death" ∧ NoAttr K CP "parents" :=
  ⟨CP, fP, PySem.W.mg_of X G a, ⟨pg, hd, po, sa⟩, ⟨mk, i, fn, kc⟩, ⟨_, fun_mk (st := sPInit) lk c k, (fun_mk (st := sPInit) lk c k).binds fun _ _ _ _ _ _ us hl => match us, hl with | [_, _, _, _, _, _, _], _ => rfl⟩, n1, n2, n3, n4, n5, n6⟩
end
end Kf
namespace Kf
open PySem PySem.Spec PyProof.Rows L2 KX
section
variable {P : Program} {w : World} {K : PySem.W.Frag} {mg : Str → Option Value} {base : Heap} {CU CN fN CP fP : Addr}
structure Rdg (K : PySem.W.Frag) (mg : Str → Option Value) (fP : Addr) : Prop where
  pI : DefP K fP
  d_split_at : Def K mg "split_at" ["values", "marks"] sSplit
  d_read_digits : Def K mg "read_digits" ["word"] sDigits
  d_read_day : Def K mg "read_day" ["word"] sDay
  d_read_part : Def K mg "read_part" ["part", "width", "least", "most"] sPart
  d_length_of_month : Def K mg "length_of_month" ["year", "month"] sMonth
  d_is_leap_year : Def K mg "is_leap_year" ["year"] sLeap
  d_may_be_before : Def K mg "may_be_before" ["one", "other"] sBefore
  d_may_be_born_to : Def K mg "may_be_born_to" ["child", "parent"] sBorn
  d_read_persons : Def K mg "read_persons" ["text"] sPersons
  d_take_line : Def K mg "take_line" ["persons", "content", "row"] sTake
  d_words_of : Def K mg "words_of" ["content"] sWords
  d_read_person : Def K mg "read_person" ["words", "row"] sPerson
  d_read_number : Def K mg "read_number" ["word"] sNumber
  d_read_sex : Def K mg "read_sex" ["word"] sSex
  d_read_name_and_parents : Def K mg "read_name_and_parents" ["words"] sName
  d_read_parent : Def K mg "read_parent" ["word"] sParent
  d_known_parents : Def K mg "known_parents" ["person"] sKnown
  d_ancestors : Def K mg "ancestors" ["persons", "number"] sAnc
  d_with_steps_upwards : Def K mg "with_steps_upwards" ["persons", "steps"] sSteps
  d_read_families : Def K mg "read_families" ["text"] sFam
  d_refuse_first : Def K mg "refuse_first" ["wrong"] sRefuse
  d_has_wrong_parent : Def K mg "has_wrong_parent" ["persons", "person"] sWrong
  d_days_fit : Def K mg "days_fit" ["persons", "person"] sFit
theorem Rdg.known (T : Txt K mg CU CN fN CP fP) (R : Rdg K mg fP) : Prom P w K mg base CX0 1 "known_parents" ["person"] (spKnown CP) := ok_known T R.d_known_parents
theorem Rdg.anc (T : Txt K mg CU CN fN CP fP) (R : Rdg K mg fP) : Prom P w K mg base CX0 2 "ancestors" ["persons", "number"] (spAnc CP) := ok_anc T R.d_ancestors (R.known T)
theorem Rdg.fam (T : Txt K mg CU CN fN CP fP) (R : Rdg K mg fP) : Prom P w K mg base (CXo P w) 8 "read_families" ["text"] (spFam K CN CP) := by
  have split : Prom P w K mg base CX0 1 "split_at" ["values", "marks"] (spSplit K) := ok_split R.d_split_at
  have digits : Prom P w K mg base (CXo P w) 1 "read_digits" ["word"] (spDigits K CU) := ok_digits T R.d_read_digits
  have part := ok_part T R.d_read_part digits
  have month : Prom P w K mg base CX0 2 "length_of_month" ["year", "month"] spMonth := ok_month T R.d_length_of_month (ok_leap R.d_is_leap_year)
  have day := ok_day T R.d_read_day split part month
  have number := ok_number T R.d_read_number digits
  have name := ok_name T R.d_read_name_and_parents (ok_parent T R.d_read_parent number)
  have person := ok_person T R.d_read_person R.pI number (ok_sex T R.d_read_sex) day name
  have take := ok_take T R.d_take_line (ok_words T R.d_words_of split) person
  exact ok_fam T R.d_read_families (ok_persons T R.d_read_persons split take) (ok_refuse T R.d_refuse_first) (ok_wrong T R.d_has_wrong_parent) (R.anc T) (ok_steps T R.d_with_steps_upwards (R.known T)) (ok_fit T R.d_days_fit (ok_before T R.d_may_be_before) (ok_born T R.d_may_be_born_to) (R.known T))
end
end Kf
namespace KX
open PySem PyProof.Rows
section
variable {M : Model} {A : Around} {E : Value → Shared → Prop}
variable {nm q nm' q' : Str} {C N C' N' : Addr} {bs bs' : List Value} {sn sn' : List Str} {sub sub' : List Value} {ab ab' : Bool} {col col' : Option Bool} {dd dd' : Option Addr} {k0 k1 k2 k3 k5 k0' k1' k2' k3' k5' : Option Value} {newId newId' : String}
theorem x_other {h : Heap} {g : Array GenState} {d : Drawn} {t : Nat} {os : OsState} {e : Addr} {oe : Obj} {Q : Bool → Shared → Prop}
    (hC : h.get? C = some (excClassObj nm q C N bs bmX true sn sub ab col dd k0 k1 k2 k3 k5 newId)) (hC' : h.get? C' = some (excClassObj nm' q' C' N' bs' bmX true sn' sub' ab' col' dd' k0' k1' k2' k3' k5' newId')) (he : h.get? e = some oe) (hcls : oe.cls = .ref C') (hne : C' ≠ C)
    (hq : Q false ⟨h, g, d, t, os⟩) : wpAny M A (excMatches (.ref e) (.ref C)) Q E ⟨h, g, d, t, os⟩ := by
  have c1 : (Value.ref C :: bmX).contains (.type "BaseException") = true := by rw [List.contains_cons]; simp
  have c2 : (Value.ref C' :: bmX).contains (.ref C) = false := by
    rw [List.contains_cons]
    have : (Value.ref C == Value.ref C') = false := beq_eq_false_iff_ne.mpr (by intro z; injection z with z; exact hne z.symm)
    rw [this]
    rfl
  have f := tc_notTuple
  unfold excMatches
  repeat (first | (with_reducible refine wpAny_loadPart_at he ?_; rw [hcls]) | with_reducible refine wpAny_loadPart_at hC ?_ | (with_reducible refine wpAny_isSubtype_exc hC ?_; rw [c1]) | (with_reducible refine wpAny_isSubtype_exc hC' ?_; rw [c2]) | wp_step)
  exact hq
end
end KX
namespace L2
open PySem PySem.Spec PyProof.Rows KX
theorem run_at {X : Cx} {CX : CXT} {k : Nat} {f : Addr} {fd : FuncData} {ps : List Str} {sp : Sp} {E : XK} {W : Value → Shared → Prop} {pins : List (Addr × Obj)} {σ : St} {H : Hp} {s : Shared} {Q : VK} {us : List Value} {vs : List V} (F : FnOk X.prog X.w X.K X.mg X.base CX k f fd ps sp) (hr : Room k X.A) (hb : Binds X.K fd ps [])
    (hx : ∀ e s', CX X.stack H s E e s' → W e s') (I : Inv X pins σ H s) (r : Vals vs us) (h : sp vs H Q E) : wpAny (model X.prog X.w) X.A (call (.ref f) us) (EP X pins σ Q) W s := by
  have hl : us.length = ps.length := by rw [← r.length]; exact F.len _ _ _ _ h
  have hb' : BindsTo s fd ⟨us, []⟩ (ps.zip us) := by
    have := hb s us I.kIn (by rw [List.append_nil]; exact hl)
    rwa [List.append_nil] at this
  refine wpAny_call (codeAny_mono (F.run X.A X.stack s H ⟨us, []⟩ us vs Q E hr I.env0 hb' r h) fun r s' hq => ?_)
  cases r with
  | error e => exact hx e s' hq
  | ok fl =>
    cases fl with
    | ret u => exact I.after hq
    | next => exact False.elim hq
    | brk => exact False.elim hq
    | cont => exact False.elim hq
def tTell (sp1 : Sp) (C1 C2 : Addr) (i0 i1 i2 i3 : Nat) (sp2 : Sp) (f2 : Addr) (ts1 ts2 : TS) : TS := fun D σ H => ∃ a v1 v2, σ[i0]? = some (some (.ref f2)) ∧ σ[i3]? = some (some a) ∧ σ[i1]? = some (some v1) ∧ σ[i2]? = some (some v2) ∧
  sp1 [a] H (fun v H1 => sp2 [v, v1, v2] H1 D.rt (fun c od H2 => (c = .ref C1 ∧ ts1 D σ H2) ∨ (c = .ref C2 ∧ ts2 D σ H2))) (fun c od H2 => (c = .ref C1 ∧ ts1 D σ H2) ∨ (c = .ref C2 ∧ ts2 D σ H2))
section
variable {X : Cx} {k1 k2 : Nat} {f2 C1 C2 : Addr} {fd2 : FuncData} {ps1 ps2 : List Str} {sp1 sp2 : Sp} {x0 x1 x2 x3 g y1 y2 : Str} {p0 p1 p2 p3 pg c2 cpos rpos pos np1 np2 hp1 hp2 : Pos} {b1 b2 : Stmt} {s1 s2 : List Stmt} {ts1 ts2 : TS} {i0 i1 i2 i3 : Nat}
theorem ps_tell (F : Fst X) (O : Prom X.prog X.w X.K X.mg X.base (CXo X.prog X.w) k1 g ps1 sp1) (hr1 : Room k1 X.A) (G : FnOk X.prog X.w X.K X.mg X.base (CXo X.prog X.w) k2 f2 fd2 ps2 sp2) (hr2 : Room k2 X.A) (hk2 : PySem.W.keepIn X.K (.ref f2) = true) (hb2 : Binds X.K fd2 ps2 [])
    (c1 : XCls X.K C1) (hm1 : X.mg y1 = some (.ref C1)) (cc2 : XCls X.K C2) (hm2 : X.mg y2 = some (.ref C2)) (hne : C2 ≠ C1) (v0 : PE X (.Name x0 p0) (tVar i0)) (w0 : ∀ W, PE (X.wish W) (.Name x0 p0) (tVar i0)) (w1 : ∀ W, PE (X.wish W) (.Name x1 p1) (tVar i1)) (w2 : ∀ W, PE (X.wish W) (.Name x2 p2) (tVar i2)) (w3 : ∀ W, PE (X.wish W) (.Name x3 p3) (tVar i3))
    (hs1 : ∀ e o, PSs (X.inH e o fun _ _ => False) (b1 :: s1) ts1) (hs2 : ∀ e o, PSs (X.inH e o fun _ _ => False) (b2 :: s2) ts2) (hg : Gl X g := by rfl) (hgy1 : Gl X y1 := by rfl) (hgy2 : Gl X y2 := by rfl) (hdb : (g == ("__debug__" : Str)) = false := by decide)
    (he : starEach [.Call (.Name g pg) [.Name x3 p3] [] c2, .Name x1 p1, .Name x2 p2] X.env = (false, eval (.Call (.Name g pg) [.Name x3 p3] [] c2) X.env) :: starEach [.Name x1 p1, .Name x2 p2] X.env := by rfl) (hpl : (backTo cpos (starEach [.Name x1 p1, .Name x2 p2] X.env)).any (·.1) = false := by rfl)
    (he2 : starEach [.Name x1 p1, .Name x2 p2] X.env = (false, eval (.Name x1 p1) X.env) :: starEach [.Name x2 p2] X.env := by rfl) (he3 : starEach [.Name x2 p2] X.env = [(false, eval (.Name x2 p2) X.env)] := by rfl) (he4 : starEach [.Name x3 p3] X.env = [(false, eval (.Name x3 p3) X.env)] := by rfl)
    (hd1 : (y1 == ("__debug__" : Str)) = false := by decide) (hd2 : (y2 == ("__debug__" : Str)) = false := by decide) :
    PS X (.Try [.Return (some (.Call (.Name x0 p0) [.Call (.Name g pg) [.Name x3 p3] [] c2, .Name x1 p1, .Name x2 p2] [] cpos)) rpos] [.ExceptHandler (some (.Name y1 np1)) none (b1 :: s1) hp1, .ExceptHandler (some (.Name y2 np2)) none (b2 :: s2) hp2] [] [] pos) (tTell sp1 C1 C2 i0 i1 i2 i3 sp2 f2 ts1 ts2) := by
  obtain ⟨f1, fd1, hmg, hk1, hb1, G1⟩ := O.ex
  intro pins s σ H D I h
  obtain ⟨a, v1, v2, e0, e3, e1, e2, hsp⟩ := h
  let W : Value → Shared → Prop := fun e t => wpAny (model X.prog X.w) X.A (noteFrame e X.env) (fun _ t2 => wpAny (model X.prog X.w) X.A (setFlight e none) (fun _ t3 => wpAny (model X.prog X.w) X.A (handleBy e X.env [.ExceptHandler (some (.Name y1 np1)) none (b1 :: s1) hp1, .ExceptHandler (some (.Name y2 np2)) none (b2 :: s2) hp2]) (SP X pins D) X.xe t3) X.xe t2) X.xe t
  have hw : ∀ H1 t1 ev t', Inv X pins σ H1 t1 → CXo X.prog X.w X.stack H1 t1 (fun c od H2 => (c = .ref C1 ∧ ts1 D σ H2) ∨ (c = .ref C2 ∧ ts2 D σ H2)) ev t' → W ev t' := by
    intro H1 t1 ev t' I1 hc
    refine at_handlers F I1 hc fun e C od H' h3 ee q I3 x3 t3 u3 => ?_
    subst ee
    obtain ⟨vs, a1', a2', a3', a4', a5', a6', a7'⟩ := id x3
    have nL : e ≠ X.env.locals := fun z => by
      obtain ⟨m, ⟨o, _, _, ho, _⟩, _⟩ := I1.loc
      rw [← z, a5'] at ho; cases ho
    have nF : e ∉ X.fs := fun z => by
      obtain ⟨_, o, ho, _⟩ := I1.funs.mem z
      rw [a5'] at ho; cases ho
    have suite : ∀ (b0 : Stmt) (ss : List Stmt) (ts : TS), (∀ e o, PSs (X.inH e o fun _ _ => False) (b0 :: ss) ts) → ts D σ H' → ∀ (R : Value → Shared → Prop), wpAny (model X.prog X.w) (X.A.mark (some (.ref e))) (setFlight (.ref e) none) (fun _ t5 => wpAny (model X.prog X.w) (X.A.mark (some (.ref e))) (execs (b0 :: ss) X.env) (SP X pins D) R t5) R { t' with heap := h3 } := by
      intro b0 ss ts hs q3 R
      refine flight_ok (P := X.prog) (w := X.w) (base := X.base) (fs := frs X.stack) (H0 := H1) (s := { t' with heap := h3 }) (l := X.stack) I3.stack x3 t3 u3 I3.hok fun h4 x4 t4 u4 ok4 hl4 _ => ?_
      obtain ⟨vs4, b1', b2', b3', b4', b5', b6', b7'⟩ := id x4
      have I4 : Inv X pins σ H' { t' with heap := h4 } := I1.call' (s' := { t' with heap := h4 }) (I3.os.trans I1.os.symm) u4 ok4 I3.bare fun b z => absurd z List.not_mem_nil
      have J4 : Inv (X.inH e (xObj C od vs4) fun _ _ => False) pins σ H' { t' with heap := h4 } := I4.inH b1' b4' nL nF (fun v z => by cases z)
      exact wpAny_mono (hs e _ pins _ σ H' D J4 q3) (fun f s5 z => SP.outH I1.ok z) fun _ _ z => z.elim
    have J : ∀ W', Inv (X.inH e (xObj C od vs) W') pins σ H' { t' with heap := h3 } := fun W' => I3.inH a1' a4' nL nF (fun v z => by cases z)
    obtain ⟨nm, qq, N, bs, sn, sub, ab, col, dd, k0, k1, k2, k3, k5, lkC⟩ := c1.ex
    obtain ⟨nm', qq', N', bs', sn', sub', ab', col', dd', k0', k1', k2', k3', k5', lkC'⟩ := cc2.ex
    refine wpAny_handleBy_cons (codeAny_handlers_test ?_) (by intro z; cases z)
    refine ld_glob (J (Wof X e)) hgy1 hm1 ?_ hd1
    show wpAny _ _ (excMatches (.ref e) (.ref C1)) _ _ _
    rcases q with ⟨q1, q2⟩ | ⟨q1, q2⟩
    · cases q1
      refine wpAny_excMatches_sub_self (I3.kIn _ _ lkC) a1' rfl (by decide) ?_
      exact codeAny_handlers_suite (suite b1 s1 ts1 hs1 q2 _)
    · cases q1
      refine x_other (I3.kIn _ _ lkC) (I3.kIn _ _ lkC') a1' rfl hne ?_
      refine wpAny_handleBy_cons (codeAny_handlers_test ?_) (by intro z; cases z)
      refine ld_glob (J (Wof X e)) hgy2 hm2 ?_ hd2
      show wpAny _ _ (excMatches (.ref e) (.ref C2)) _ _ _
      refine wpAny_excMatches_sub_self (I3.kIn _ _ lkC') a1' rfl (by decide) ?_
      exact codeAny_handlers_suite (suite b2 s2 ts2 hs2 q2 _)
  refine wpAny_Try_except (wpAny_mono (Q := SP X pins D) (E := W) ?_ (fun fl t2 q => ?_) fun _ _ z => z)
  · refine wpAny_execs_cons (wpAny_Return_some ?_)
    refine wpAny_Call_Name_kw (thn ((w0 W) pins s σ H (fun x H1 => x = .ref f2 ∧ H1 = H) (I.wish W) ⟨_, e0, rfl, rfl⟩) fun u t1 ⟨x, H1, I1, r, ex, eH⟩ => ?_)
    subst ex eH
    cases r
    have I1 := I1.unwish
    refine PySem.W.callWith_K (h₀ := X.base) I.ok.mod.kin hk2 (Q := fun u t => SP X pins D (.ret u) t) (E := W) ?_ he hpl
    rw [he, he2, he3]
    show wpAny _ _ (spliced ((false, _) :: (false, _) :: (false, _) :: [])) _ _ _
    refine Calls.spliced_cons ?_
    refine wpAny_mono (Q := EP X pins σ (fun v H2 => sp2 [v, v1, v2] H2 D.rt (fun c od H2 => (c = .ref C1 ∧ ts1 D σ H2) ∨ (c = .ref C2 ∧ ts2 D σ H2)))) (E := W) ?_ (fun u t2 ⟨x, H2, I2, r2, q2⟩ => ?_) fun _ _ z => z
    · refine wpAny_Call_Name_kw (ld_glob I1 hg hmg ?_ hdb)
      refine PySem.W.callWith_K (h₀ := X.base) I.ok.mod.kin hk1 ?_ he4 rfl
      rw [he4]
      show wpAny _ _ (spliced ((false, _) :: [])) _ _ _
      refine Calls.spliced_cons (thn ((w3 W) pins t1 σ H1 (fun x H2 => x = a ∧ H2 = H1) (I1.wish W) ⟨_, e3, rfl, rfl⟩) fun u t3 ⟨x, H3, I3, r3, ex, eH⟩ => ?_)
      subst ex eH
      refine Calls.spliced_nil ⟨I3.unwish.kIn, ?_⟩
      exact run_at G1 hr1 hb1 (fun e s' hc => hw _ _ _ _ I3.unwish hc) I3.unwish (.cons r3 .nil) hsp
    · refine Calls.spliced_cons (thn ((w1 W) pins t2 σ H2 (fun x H3 => x = v1 ∧ H3 = H2) (I2.wish W) ⟨_, e1, rfl, rfl⟩) fun u3 t3 ⟨x3, H3, I3, r3, ex, eH⟩ => ?_)
      subst ex eH
      refine Calls.spliced_cons (thn ((w2 W) pins t3 σ H3 (fun x H4 => x = v2 ∧ H4 = H3) I3 ⟨_, e2, rfl, rfl⟩) fun u4 t4 ⟨x4, H4, I4, r4, ex, eH⟩ => ?_)
      subst ex eH
      refine Calls.spliced_nil ⟨I4.unwish.kIn, ?_⟩
      exact wpAny_mono (run_at G hr2 hb2 (fun e s' hc => hw _ _ _ _ I4.unwish hc) I4.unwish (.cons r2 (.cons r3 (.cons r4 .nil))) q2) (fun u5 t5 ⟨v, H5, I5, r5, q5⟩ => ⟨v, σ, H5, I5, r5, q5⟩) fun _ _ z => z
  · cases fl with
    | next => exact wpAny_execs_nil q
    | ret v => exact q
    | brk => exact q
    | cont => exact q
end
end L2
namespace L2
open PySem PySem.Spec PyProof.Rows
theorem vals_at : ∀ {xs : List V} {us : List Value}, us.length = xs.length → (∀ (j : Nat) (u : Value) (x : V), us[j]? = some u → xs[j]? = some x → RelV x u) → Vals xs us
  | [], [], _, _ => .nil
  | x :: xs, u :: us, h, k => .cons (k 0 u x rfl rfl) (vals_at (by simpa using h) fun j v y a b => k (j + 1) v y (by simpa using a) (by simpa using b))
  | [], _ :: _, h, _ => by simp at h
  | _ :: _, [], h, _ => by simp at h
end L2
namespace Kf
open PySem PySem.Spec PyProof.Rows L2 KX
open Sf52 (Bytes Families)
open Sf91 (ids parentsOf tall)
structure TxtW (K : PySem.W.Frag) (mg : Str → Option Value) (CN CW : Addr) : Prop where
  wC : XCls K CW
  wI : PySem.W.ownIn K "__init__" (.ref CW) = some none
  wM : mg "WrongQuestion" = some (.ref CW)
  ne : CW ≠ CN
def known (x : Families) (z : Int) : Bool := decide (0 ≤ z) && (x.get z.toNat).isSome
theorem known_nat (x : Families) (n : Nat) : known x (n : Int) = (x.get n).isSome := by unfold known; rw [decide_eq_true (by omega), Bool.true_and, Int.toNat_natCast]
theorem val_int {x : Families} : ∀ {ps : List Addr}, x.length = ps.length → ∀ z : Int, (valV (KvOf x ps) (Sum.inl z)).isSome = known x z := by
  intro ps h z
  by_cases hz : 0 ≤ z
  · obtain ⟨n, rfl⟩ : ∃ n : Nat, z = (n : Int) := ⟨z.toNat, by omega⟩
    rw [(kv_keys h).has n, known_nat]
    cases e : (ids x).contains n with
    | true => rw [get_isSome.mpr (List.contains_iff_mem.mp e)]
    | false =>
      cases e2 : (x.get n).isSome with
      | false => rfl
      | true => rw [List.contains_iff_mem.mpr (get_isSome.mp e2)] at e; cases e
  · have e1 : known x z = false := by unfold known; rw [decide_eq_false hz]; rfl
    rw [e1]
    have key : ∀ (y : Families) (ps : List Addr), valV (KvOf y ps) (Sum.inl z) = none := by
      intro y
      induction y with
      | nil => intro ps; cases ps <;> rfl
      | cons a r ih =>
        intro ps
        cases ps with
        | nil => rfl
        | cons q t =>
          show valV ((Sum.inl (a.2.id : Int), V.ref q) :: KvOf r t) (Sum.inl z) = none
          rw [valV_neg (by intro w; injection w with w; omega), ih]
    rw [key]
    rfl
theorem PersAt.hasZ {CP : Addr} {H : Hp} {d : Addr} {x : Families} {ps : List Addr} (p : PersAt CP H d x ps) (z : Int) : DGet H d (.int z) (valV (KvOf x ps) (Sum.inl z)) ∧ (valV (KvOf x ps) (Sum.inl z)).isSome = known x z :=
  ⟨.inl ⟨_, Sum.inl z, p.1, rfl, rfl⟩, val_int (pd_len p.2) z⟩
section
variable {P : Program} {w : World} {K : PySem.W.Frag} {mg : Str → Option Value} {base : Heap} {CU CN fN CP fP CW : Addr}
abbrev sUnknown : Stmt := top 57
def spUnknown (K : PySem.W.Frag) (CP CW : Addr) : Sp := fun vs H Q E => ∃ (d t : Addr) (x : Families) (ps : List Addr) (zs : List Int), vs = [.ref d, .ref t] ∧ PersAt CP H d x ps ∧ SqT K H t (zs.map V.int) ∧ zs.length ≤ 4000 ∧
  (zs.all (known x) = true → ∀ H', Same H H' → Q .non H') ∧ (zs.all (known x) = false → ∀ H', Same H H' → E (.ref CW) none H')
theorem scUnknown : FnScope ["persons", "numbers", "number"] ["persons", "numbers"] (defScope sUnknown) := ⟨rfl, rfl, rfl, by decide +kernel, rfl, by decide +kernel, by decide +kernel⟩
theorem zint_get {zs : List Int} {i : Nat} {v : V} (h : (zs.map V.int)[i]? = some v) : ∃ z, zs[i]? = some z ∧ v = .int z := by
  rw [List.getElem?_map] at h
  cases e : zs[i]? with
  | none => rw [e] at h; cases h
  | some c => rw [e] at h; exact ⟨c, rfl, (Option.some.inj h).symm⟩
theorem ok_unknown (T : Txt K mg CU CN fN CP fP) (TW : TxtW K mg CN CW) (d : Def K mg "refuse_unknown" ["persons", "numbers"] sUnknown) : Prom P w K mg base (CXo P w) 1 "refuse_unknown" ["persons", "numbers"] (spUnknown K CP CW) := by
  refine d.wild scUnknown (fun vs H Q E h => ?_) (fun f cdv A outer s H vs Q E hr h => ?_)
  · obtain ⟨d, t, x, ps, zs, rfl, _⟩ := h
    rfl
  · obtain ⟨d, t, x, ps, zs, rfl, hd, ht, hl, k1, k2⟩ := h
    have hu := hu_of hr
    refine ⟨_, pss_one (ps_if (pt_val (pe_callB (cr_any rfl) (by rfl) T.any PyProof.Rows.boot_any (pa_cons (lcS [("number", 2)] scUnknown rfl rfl rfl (pi_tup (pv 1)) (fun _ _ _ _ _ => pg_name (i := 2) scUnknown.nd rfl (Or.inl rfl)) (fun _ _ _ _ _ => pts_nil)
        (fun _ _ _ _ _ => pe_cmp (pc_dnotin hu (pv 2) (pv 0)) (by with_unfolding_all rfl))) pa_nil))) (pss_one (ps_raise0 TW.wC TW.wI rfl TW.wM rfl rfl throws_body)) pss_nil), ?_⟩
    refine ⟨_, rfl, t, rfl, ⟨_, ht⟩, fun D hD => ?_⟩
    refine lc_tup (K := K) (a := t) (xs := zs.map V.int) (fun u H' => H' D = some (.lst (((zs.take u).map fun z => !known x z).map V.bl)) ∧ Same H H') ⟨upd_same, Same.new hD⟩ (fun u H' _ ⟨_, s4⟩ => s4.tup ht) ?_ ?_
    · rintro u y H4 hu4 ⟨h1, s4⟩
      obtain ⟨z, hz, rfl⟩ := zint_get hu4
      have ul : u < zs.length := (List.getElem?_eq_some_iff.mp hz).1
      obtain ⟨g1, g2⟩ := (hd.same s4).hasZ z
      refine ⟨rfl, ⟨_, rfl, _, rfl, d, _, rfl, g1, _, h1, ?_, ?_, s4.young hD⟩⟩
      · rw [List.length_map, List.length_map, List.length_take]; exact sz (by omega)
      · rw [upd_same, g2, List.take_add_one, hz, List.map_append, List.map_append]; rfl
    · rintro H4 ⟨h1, s4⟩
      rw [List.length_map, List.take_length] at h1
      refine ⟨D, _, rfl, SqL.of h1, _, rfl, ?_⟩
      have e : ((zs.map fun z => !known x z).any id) = !zs.all (known x) := by
        rw [List.any_map, List.not_all_eq_any_not]
        rfl
      rw [e]
      cases ea : zs.all (known x) with
      | true => exact iteF (k1 ea _ s4)
      | false => exact iteT (k2 ea _ s4)
abbrev sAnswer : Stmt := top 56
def spAnswer (P : Program) (w : World) (K : PySem.W.Frag) (mg : Str → Option Value) (base : Heap) (CP CW : Addr) : Sp := fun vs H Q E => ∃ (f : Addr) (fd : FuncData) (ps2 : List Str) (sp2 : Sp) (one other : Int) (a : Addr) (t : Bytes), vs = [.ref f, .int one, .int other, .ref a] ∧
  PySem.W.keepIn K (.ref f) = true ∧ Binds K fd ps2 [] ∧ FnOk P w K mg base (CXo P w) 8 f fd ps2 sp2 ∧ SqL K H a (bv t) ∧ t.length ≤ 4000 ∧
  (∀ k, Sf91.read t = .error k → ∀ H' p, H' p = some (.lst [.int (-1)]) → Q (.ref p) H') ∧
  (∀ x, Sf91.read t = .ok x → FamOk x → Closed x → ∀ (H' : Hp) (d : Addr) (ps : List Addr), Same H H' → H' d = some (.dK (KvOf x ps)) → FamIn CP H' x ps →
    sp2 [.ref d, .int one, .int other] H' Q (fun c od H2 => c = .ref CW ∧ ∀ p, H2 p = none → Q (.ref p) (upd H2 p (.lst [.int (-2)]))))
theorem scAnswer : FnScope ["tell", "one", "other", "text"] ["tell", "one", "other", "text"] (defScope sAnswer) := ⟨rfl, rfl, rfl, by decide +kernel, rfl, by decide +kernel, by decide +kernel⟩
theorem ok_answer (T : Txt K mg CU CN fN CP fP) (TW : TxtW K mg CN CW) (d : Def K mg "answer" ["tell", "one", "other", "text"] sAnswer) (O : Prom P w K mg base (CXo P w) 8 "read_families" ["text"] (spFam K CN CP)) :
    Prom P w K mg base (CXo P w) 9 "answer" ["tell", "one", "other", "text"] (fun vs H Q E => spAnswer P w K mg base CP CW vs H Q E) := by
  refine d.wild scAnswer (fun vs H Q E h => ?_) (fun f cdv A outer s H vs Q E hr h => ?_)
  · obtain ⟨f, fd, ps2, sp2, one, other, a, t, rfl, _⟩ := h
    rfl
  · obtain ⟨f2, fd2, ps2, sp2, one, other, a, t, rfl, hk, hb, G, hA, hl, k1, k2⟩ := h
    -- what is promised of tell, with both kinds of exceptions allowed
    have G' : FnOk P w K mg base (CXo P w) 8 f2 fd2 ps2 (fun vs H Q E => ∃ E', (∀ c od H2, E' c od H2 → E c od H2) ∧ sp2 vs H Q E') := by
      refine ⟨fun vs H Q E ⟨E', _, h⟩ => G.len vs H Q E' h, fun A outer s H args us vs Q E hr e0 bt r ⟨E', hE, h⟩ => ?_⟩
      refine codeAny_mono (G.run A outer s H args us vs Q E' hr e0 bt r h) fun r s' q => ?_
      cases r with
      | ok fl => cases fl <;> exact q
      | error e =>
        obtain ⟨e1, C, od, H', a1, a2, a3, a4, a5, a6, a7⟩ := q
        exact ⟨e1, C, od, H', a1, a2, a3, a4, a5, a6, hE _ _ _ a7⟩
    refine ⟨_, pss_one (ps_tell (i0 := 0) (i1 := 1) (i2 := 2) (i3 := 3) ⟨rfl, rfl, rfl⟩ O hr G' hr hk hb T.nC T.nM TW.wC TW.wM TW.ne (pv 0) (fun W => pv 0) (fun W => pv 1) (fun W => pv 2) (fun W => pv 3)
      (fun e o => pss_one (ps_ret (pe_lst (pa_cons (pe_un un_neg pe_int) pa_nil)))) (fun e o => pss_one (ps_ret (pe_lst (pa_cons (pe_un un_neg pe_int) pa_nil))))), ?_⟩
    refine ⟨_, _, _, rfl, rfl, rfl, rfl, a, t, rfl, hA, hl, fun x hx FO CL H1 d ps s1 _ hd F => ?_, fun k hk H1 dx s1 hdx => ?_⟩
    · refine ⟨_, fun c od H2 q => .inr ⟨q.1, ?_⟩, k2 x hx FO CL H1 d ps s1 hd F⟩
      exact ⟨_, rfl, (by show 1 ≤ sizeLine; decide), fun p hp => q.2 p hp⟩
    · refine .inl ⟨rfl, _, rfl, (by show 1 ≤ sizeLine; decide), fun p hp => k1 k hk _ p upd_same⟩
end
end Kf
namespace Kf
structure Rk (fa mo : Nat → Nat) (S : Nat → Prop) (h r : Nat → Nat) : Prop where
  zero : ¬ S 0
  fc : ∀ u, S u → fa u = 0 ∨ S (fa u)
  mc : ∀ u, S u → mo u = 0 ∨ S (mo u)
  le : ∀ u, S u → h u ≤ 30
  fh : ∀ u, S u → fa u ≠ 0 → h (fa u) + 1 ≤ h u
  mh : ∀ u, S u → mo u ≠ 0 → h (mo u) + 1 ≤ h u
  fr : ∀ u, S u → fa u ≠ 0 → r (fa u) < r u
  mr : ∀ u, S u → mo u ≠ 0 → r (mo u) < r u
  inj : ∀ u v, S u → S v → r u = r v → u = v
structure IsTab (fa mo : Nat → Nat) (S : Nat → Prop) (r : Nat → Nat) (F : Nat → Nat → Nat) : Prop where
  z1 : ∀ v, F 0 v = 0
  z2 : ∀ u, F u 0 = 0
  off : ∀ u v, S u → S v → r v < r u → F u v = (F (fa u) v + F (mo u) v) / 2 ∧ F v u = F u v
  self : ∀ u, S u → F u u = (2 ^ 62 + F (fa u) (mo u)) / 2
section
variable {fa mo : Nat → Nat} {S : Nat → Prop} {h r : Nat → Nat} {F : Nat → Nat → Nat}
theorem half_dvd {k a b : Nat} (h1 : 2 ^ (k + 1) ∣ a) (h2 : 2 ^ (k + 1) ∣ b) : 2 ^ k ∣ (a + b) / 2 := by
  obtain ⟨c, hc⟩ := Nat.dvd_add h1 h2
  rw [hc, Nat.pow_succ, Nat.mul_assoc, Nat.mul_comm 2 c, ← Nat.mul_assoc, Nat.mul_div_cancel _ (by decide)]
  exact Nat.dvd_mul_right _ _
theorem pow_dvd_le {j k a : Nat} (h : j ≤ k) (g : 2 ^ k ∣ a) : 2 ^ j ∣ a := Nat.dvd_trans (Nat.pow_dvd_pow 2 h) g
theorem tab_dvd (R : Rk fa mo S h r) (T : IsTab fa mo S r F) : ∀ (n u v : Nat), S u → S v → r u + r v < n → 2 ^ (61 - h u - h v) ∣ F u v := by
  intro n
  induction n with
  | zero => intro u v _ _ z; omega
  | succ n ih =>
    -- the parents of one, with another
    have off : ∀ u v, S u → S v → r u + r v < n + 1 → r v < r u → 2 ^ (61 - h u - h v) ∣ F u v := by
      intro u v hu hv hn lt
      rw [(T.off u v hu hv lt).1]
      have lu := R.le u hu
      have lv := R.le v hv
      refine half_dvd ?_ ?_
      · by_cases e : fa u = 0
        · rw [e, T.z1]; exact Nat.dvd_zero _
        · have := R.fh u hu e
          have := R.fr u hu e
          exact pow_dvd_le (by omega) (ih (fa u) v ((R.fc u hu).resolve_left e) hv (by omega))
      · by_cases e : mo u = 0
        · rw [e, T.z1]; exact Nat.dvd_zero _
        · have := R.mh u hu e
          have := R.mr u hu e
          exact pow_dvd_le (by omega) (ih (mo u) v ((R.mc u hu).resolve_left e) hv (by omega))
    intro u v hu hv hn
    rcases Nat.lt_trichotomy (r u) (r v) with lt | eq | lt
    · have := off v u hv hu (by omega) lt
      rw [(T.off v u hv hu lt).2]
      exact pow_dvd_le (by omega) this
    · have e := R.inj u v hu hv eq
      subst e
      rw [T.self u hu]
      have lu := R.le u hu
      refine half_dvd (pow_dvd_le (k := 62) (by omega) (Nat.dvd_refl _)) ?_
      by_cases e : fa u = 0
      · rw [e, T.z1]; exact Nat.dvd_zero _
      · by_cases e2 : mo u = 0
        · rw [e2, T.z2]; exact Nat.dvd_zero _
        · have := R.fh u hu e
          have := R.mh u hu e2
          have := R.fr u hu e
          have := R.mr u hu e2
          exact pow_dvd_le (by omega) (ih (fa u) (mo u) ((R.fc u hu).resolve_left e) ((R.mc u hu).resolve_left e2) (by omega))
    · exact off u v hu hv hn lt
theorem tab_even (R : Rk fa mo S h r) (T : IsTab fa mo S r F) {u v : Nat} (hu : u = 0 ∨ (S u ∧ h u ≤ 29)) (hv : v = 0 ∨ (S v ∧ h v ≤ 29)) : 2 ∣ F u v := by
  rcases hu with e | ⟨hu, lu⟩
  · rw [e, T.z1]; exact Nat.dvd_zero _
  · rcases hv with e | ⟨hv, lv⟩
    · rw [e, T.z2]; exact Nat.dvd_zero _
    · exact pow_dvd_le (j := 1) (by omega) (tab_dvd R T _ u v hu hv (Nat.lt_succ_self _))
theorem tab_sym (R : Rk fa mo S h r) (T : IsTab fa mo S r F) {u v : Nat} (hu : u = 0 ∨ S u) (hv : v = 0 ∨ S v) : F u v = F v u := by
  rcases hu with e | hu
  · rw [e, T.z1, T.z2]
  · rcases hv with e | hv
    · rw [e, T.z1, T.z2]
    · rcases Nat.lt_trichotomy (r u) (r v) with lt | eq | lt
      · exact (T.off v u hv hu lt).2
      · rw [R.inj u v hu hv eq]
      · exact (T.off u v hu hv lt).2.symm
theorem tab_step (R : Rk fa mo S h r) (T : IsTab fa mo S r F) (An : Nat → Nat → Prop) (a1 : ∀ v u, S v → u ≠ 0 → (fa v = u ∨ mo v = u) → An v u) (a2 : ∀ v p u, S v → p ≠ 0 → (fa v = p ∨ mo v = p) → An p u → An v u) :
    ∀ (n u v : Nat), S u → S v → r u + r v < n → u ≠ v → ¬ An v u → F u v = (F (fa u) v + F (mo u) v) / 2 := by
  intro n
  induction n with
  | zero => intro u v _ _ z; omega
  | succ n ih =>
    intro u v hu hv hn ne na
    rcases Nat.lt_trichotomy (r u) (r v) with lt | eq | lt
    · have u0 : u ≠ 0 := fun e => R.zero (e ▸ hu)
      have h1 := T.off v u hv hu lt
      rw [h1.2, h1.1]
      -- a parent of v, with u
      have down : ∀ p, (p = 0 ∨ S p) → (p ≠ 0 → r p < r v) → (p ≠ 0 → fa v = p ∨ mo v = p) → F p u = (F (fa u) p + F (mo u) p) / 2 := by
        intro p hp hrp hq
        by_cases e : p = 0
        · rw [e, T.z1, T.z2, T.z2]
        · have sp := hp.resolve_left e
          rw [tab_sym R T (.inr sp) (.inr hu)]
          have := hrp e
          exact ih u p hu sp (by omega) (fun z => na (a1 v u hv u0 (z ▸ hq e))) (fun z => na (a2 v p u hv e (hq e) z))
      -- a parent of u, with v
      have up : ∀ q, (q = 0 ∨ S q) → (q ≠ 0 → r q < r u) → F q v = (F (fa v) q + F (mo v) q) / 2 := by
        intro q hq hrq
        by_cases e : q = 0
        · rw [e, T.z1, T.z2, T.z2]
        · have sq := hq.resolve_left e
          have := hrq e
          have h2 := T.off v q hv sq (by omega)
          rw [h2.2, h2.1]
      rw [down (fa v) (R.fc v hv) (R.fr v hv) (fun _ => .inl rfl), down (mo v) (R.mc v hv) (R.mr v hv) (fun _ => .inr rfl), up (fa u) (R.fc u hu) (R.fr u hu), up (mo u) (R.mc u hu) (R.mr u hu)]
      have lo : ∀ w, S w → (fa w = 0 ∨ (S (fa w) ∧ h (fa w) ≤ 29)) ∧ (mo w = 0 ∨ (S (mo w) ∧ h (mo w) ≤ 29)) := fun w hw => by
        have := R.le w hw
        constructor
        · by_cases e : fa w = 0
          · exact .inl e
          · have := R.fh w hw e
            exact .inr ⟨(R.fc w hw).resolve_left e, by omega⟩
        · by_cases e : mo w = 0
          · exact .inl e
          · have := R.mh w hw e
            exact .inr ⟨(R.mc w hw).resolve_left e, by omega⟩
      have d1 := tab_even R T (lo u hu).1 (lo v hv).1
      have d2 := tab_even R T (lo u hu).1 (lo v hv).2
      have d3 := tab_even R T (lo u hu).2 (lo v hv).1
      have d4 := tab_even R T (lo u hu).2 (lo v hv).2
      have s1 := tab_sym R T (R.fc v hv) (R.fc u hu)
      have s2 := tab_sym R T (R.fc v hv) (R.mc u hu)
      have s3 := tab_sym R T (R.mc v hv) (R.fc u hu)
      have s4 := tab_sym R T (R.mc v hv) (R.mc u hu)
      rw [s1, s2, s3, s4]
      omega
    · exact absurd (R.inj u v hu hv eq) ne
    · exact (T.off u v hu hv lt).1
end
end Kf
namespace Kf
open Sf52 (Families Person)
open Sf91 (ids parentsOf tall elders cell placeOf rowIn kin)
def hh (x : Families) : Nat → Nat → Nat
  | 0, _ => 0
  | k + 1, u => if u ∈ tall x (k + 1) then k + 1 else hh x k u
theorem hh_le (x : Families) : ∀ k u, hh x k u ≤ k
  | 0, _ => Nat.le_refl _
  | k + 1, u => by
    unfold hh
    split
    · exact Nat.le_refl _
    · exact Nat.le_succ_of_le (hh_le x k u)
theorem hh_mem {x : Families} {u : Nat} (h : u ∈ ids x) : ∀ k, u ∈ tall x (hh x k u)
  | 0 => h
  | k + 1 => by
    unfold hh
    split
    · assumption
    · exact hh_mem h k
theorem hh_ge {x : Families} {u : Nat} : ∀ {k j : Nat}, u ∈ tall x j → j ≤ k → j ≤ hh x k u
  | 0, j, _, h => by omega
  | k + 1, j, m, h => by
    unfold hh
    split
    · exact h
    · rename_i n
      rcases Nat.lt_or_ge j (k + 1) with l | l
      · exact hh_ge m (by omega)
      · have : j = k + 1 := by omega
        rw [this] at m
        exact absurd m n
theorem tall_mono {x : Families} {u j : Nat} : ∀ (d : Nat), u ∈ tall x (j + d) → u ∈ tall x j
  | 0, h => h
  | d + 1, h => tall_mono d (tall_down x (j + d) u h)
abbrev hgt (x : Families) (u : Nat) : Nat := hh x 30 u
def Low (x : Families) : Prop := ∀ a, a ∉ tall x 31
theorem hgt_iff {x : Families} (L : Low x) {a k : Nat} (ha : a ∈ ids x) (hk : k < 31) : ((tall x k).contains a && !(tall x (k + 1)).contains a) = true ↔ hgt x a = k := by
  rw [Bool.and_eq_true, Bool.not_eq_true', ← Bool.not_eq_true, List.contains_iff_mem, List.contains_iff_mem]
  constructor
  · rintro ⟨h1, h2⟩
    have g := hh_ge h1 (show k ≤ 30 by omega)
    rcases Nat.lt_or_ge k (hgt x a) with l | l
    · have m := hh_mem ha 30
      exact absurd (tall_mono (j := k + 1) (hgt x a - (k + 1)) (by rw [show k + 1 + (hgt x a - (k + 1)) = hgt x a by omega]; exact m)) h2
    · exact Nat.le_antisymm l g
  · rintro rfl
    refine ⟨hh_mem ha 30, fun m => ?_⟩
    rcases Nat.lt_or_ge (hgt x a) 30 with l | l
    · have : hgt x a + 1 ≤ hgt x a := hh_ge m (by omega)
      omega
    · have e : hgt x a = 30 := Nat.le_antisymm (hh_le x 30 a) l
      rw [e] at m
      exact L a m
theorem hgt_parent {x : Families} (L : Low x) (C : Closed x) {u p : Nat} (hu : u ∈ ids x) (hp : p ∈ parentsOf x u) : hgt x p + 1 ≤ hgt x u := by
  have m := hh_mem (C u p hp) 30
  have m2 : u ∈ tall x (hgt x p + 1) := List.mem_filter.mpr ⟨hu, List.any_eq_true.mpr ⟨p, hp, List.contains_iff_mem.mpr m⟩⟩
  rcases Nat.lt_or_ge (hgt x p) 30 with l | l
  · exact hh_ge m2 (by omega)
  · have e : hgt x p = 30 := Nat.le_antisymm (hh_le x 30 p) l
    rw [e] at m2
    exact absurd m2 (L u)
theorem elders_eq {x : Families} (L : Low x) {l : List Nat} (hl : ∀ a ∈ l, a ∈ ids x) : elders x l = (List.range 31).flatMap fun k => l.filter fun a => decide (hgt x a = k) := by
  unfold elders
  dsimp only
  rw [List.flatMap_def, List.flatMap_def]
  congr 1
  refine List.map_congr_left fun k hk => List.filter_congr fun a ha => ?_
  have := hgt_iff L (hl a ha) (List.mem_range.mp hk)
  rw [Bool.eq_iff_iff, this, decide_eq_true_iff]
theorem elders_mem {x : Families} (L : Low x) {l : List Nat} (hl : ∀ a ∈ l, a ∈ ids x) (a : Nat) : a ∈ elders x l ↔ a ∈ l := by
  rw [elders_eq L hl, List.mem_flatMap]
  constructor
  · rintro ⟨k, _, h⟩
    exact (List.mem_filter.mp h).1
  · intro h
    have := hh_le x 30 a
    exact ⟨hgt x a, List.mem_range.mpr (by show hh x 30 a < 31; omega), List.mem_filter.mpr ⟨h, decide_eq_true rfl⟩⟩
theorem elders_pw {x : Families} (L : Low x) {l : List Nat} (hl : ∀ a ∈ l, a ∈ ids x) (nd : l.Nodup) : (elders x l).Pairwise fun a b => a ≠ b ∧ hgt x a ≤ hgt x b := by
  rw [elders_eq L hl, List.pairwise_flatMap]
  constructor
  · intro k hk
    refine List.Pairwise.imp_of_mem ?_ (nd.sublist (List.filter_sublist (p := fun a => decide (hgt x a = k))))
    intro a b ha hb ne
    have h1 := of_decide_eq_true (List.mem_filter.mp ha).2
    have h2 := of_decide_eq_true (List.mem_filter.mp hb).2
    exact ⟨ne, by omega⟩
  · refine List.pairwise_lt_range.imp fun {k1 k2} lt a ha b hb => ?_
    have h1 := of_decide_eq_true (List.mem_filter.mp ha).2
    have h2 := of_decide_eq_true (List.mem_filter.mp hb).2
    exact ⟨fun e => by subst e; omega, by omega⟩
theorem place_mem {l : List Nat} {u : Nat} (h : u ∈ l) : ∃ i, placeOf l (some u) = some i ∧ i < l.length ∧ l[i]? = some u := by
  have e : (l.findIdx? fun b => b == u).isSome = true := by
    rw [List.findIdx?_isSome, List.any_eq_true]
    exact ⟨u, h, beq_self_eq_true u⟩
  obtain ⟨i, hi⟩ := Option.isSome_iff_exists.mp e
  obtain ⟨h1, h2, _⟩ := List.findIdx?_eq_some_iff_getElem.mp hi
  refine ⟨i, hi, h1, ?_⟩
  rw [List.getElem?_eq_getElem h1]
  exact congrArg some (eq_of_beq h2)
theorem place_not {l : List Nat} {u : Nat} (h : u ∉ l) : placeOf l (some u) = none := by
  show l.findIdx? (fun b => b == u) = none
  rw [List.findIdx?_eq_none_iff]
  intro b hb
  exact beq_eq_false_iff_ne.mpr fun e => h (e ▸ hb)
def g2 (n : Nat) (t : Array Nat) (p q : Nat) : Nat := t.getD (n * p + q) 0
theorem ix_inj {n p q p' q' : Nat} (h1 : q < n) (h2 : q' < n) (e : n * p + q = n * p' + q') : p = p' ∧ q = q' := by
  have n0 : 0 < n := by omega
  have e1 : (n * p + q) / n = p := by rw [Nat.mul_add_div n0, Nat.div_eq_of_lt h1, Nat.add_zero]
  have e2 : (n * p' + q') / n = p' := by rw [Nat.mul_add_div n0, Nat.div_eq_of_lt h2, Nat.add_zero]
  have : p = p' := by rw [← e1, e, e2]
  subst this
  exact ⟨rfl, by omega⟩
theorem ix_lt {n p q : Nat} (h1 : p < n) (h2 : q < n) : n * p + q < n * n := by
  have : n * p + n ≤ n * n := by
    have := Nat.mul_le_mul_left n (show p + 1 ≤ n by omega)
    rwa [Nat.mul_add, Nat.mul_one] at this
  omega
theorem g2_set {n : Nat} {t : Array Nat} (hs : t.size = n * n) {p q p' q' k : Nat} (hp : p < n) (hq : q < n) (hq' : q' < n) :
    g2 n (t.setIfInBounds (n * p + q) k) p' q' = if p' = p ∧ q' = q then k else g2 n t p' q' := by
  unfold g2
  have hb : n * p + q < t.size := by rw [hs]; exact ix_lt hp hq
  by_cases e : p' = p ∧ q' = q
  · rw [if_pos e, e.1, e.2, Array.getD_eq_getD_getElem?, Array.getElem?_setIfInBounds_self_of_lt hb]
    rfl
  · rw [if_neg e, Array.getD_eq_getD_getElem?, Array.getD_eq_getD_getElem?, Array.getElem?_setIfInBounds_ne]
    intro z
    obtain ⟨z1, z2⟩ := ix_inj hq hq' z
    exact e ⟨z1.symm, z2.symm⟩
theorem cell_eq {n : Nat} {t t' : Array Nat} {a b : Option Nat} (h : ∀ p q, a = some p → b = some q → g2 n t p q = g2 n t' p q) : cell n t a b = cell n t' a b := by
  cases a with
  | none => rfl
  | some p =>
    cases b with
    | none => rfl
    | some q => exact h p q rfl rfl
def innerF (n i : Nat) (f m : Option Nat) : Array Nat → Nat → Array Nat := fun t j =>
  let k := (cell n t f (some j) + cell n t m (some j)) / 2
  (t.setIfInBounds (n * i + j) k).setIfInBounds (n * j + i) k
theorem inner_ok {n i : Nat} {f m : Option Nat} {t : Array Nat} (hs : t.size = n * n) (hi : i < n) (hf : ∀ p, f = some p → p < i) (hm : ∀ p, m = some p → p < i) : ∀ k, k ≤ i →
    ((List.range k).foldl (innerF n i f m) t).size = n * n ∧ ∀ p q, p < n → q < n → g2 n ((List.range k).foldl (innerF n i f m) t) p q =
      if p = i ∧ q < k then (cell n t f (some q) + cell n t m (some q)) / 2 else if q = i ∧ p < k then (cell n t f (some p) + cell n t m (some p)) / 2 else g2 n t p q := by
  intro k
  induction k with
  | zero => intro _; exact ⟨hs, fun p q _ _ => by rw [if_neg (by omega), if_neg (by omega)]; rfl⟩
  | succ k ih =>
    intro hk
    obtain ⟨h1, h2⟩ := ih (by omega)
    rw [List.range_succ, List.foldl_append]
    generalize (List.range k).foldl (innerF n i f m) t = t1 at h1 h2
    have ev : ∀ o : Option Nat, (∀ p, o = some p → p < i) → cell n t1 o (some k) = cell n t o (some k) := fun o ho => cell_eq fun p q e1 e2 => by
      cases e2
      have := ho p e1
      rw [h2 p k (by omega) (by omega), if_neg (by omega), if_neg (by omega)]
    show ((innerF n i f m t1 k).size = n * n) ∧ ∀ p q, p < n → q < n → g2 n (innerF n i f m t1 k) p q = _
    unfold innerF
    dsimp only
    rw [ev f hf, ev m hm]
    refine ⟨by rw [Array.size_setIfInBounds, Array.size_setIfInBounds]; exact h1, fun p q hp hq => ?_⟩
    rw [g2_set (by rw [Array.size_setIfInBounds]; exact h1) (by omega) hi hq, g2_set h1 hi (by omega) hq, h2 p q hp hq]
    by_cases a1 : p = k ∧ q = i
    · rw [if_pos a1, if_neg (by omega), if_pos (by omega), a1.1]
    · rw [if_neg a1]
      by_cases a2 : p = i ∧ q = k
      · rw [if_pos a2, if_pos (by omega), a2.2]
      · rw [if_neg a2]
        by_cases a3 : p = i ∧ q < k
        · rw [if_pos a3, if_pos (by omega)]
        · rw [if_neg a3, if_neg (show ¬ (p = i ∧ q < k + 1) by omega)]
          by_cases a4 : q = i ∧ p < k
          · rw [if_pos a4, if_pos (by omega)]
          · rw [if_neg a4, if_neg (by omega)]
def fatherAt (x : Families) (l : List Nat) (i : Nat) : Option Nat := placeOf l ((x.get (l.getD i 0)).bind fun y => y.father)
def motherAt (x : Families) (l : List Nat) (i : Nat) : Option Nat := placeOf l ((x.get (l.getD i 0)).bind fun y => y.mother)
theorem row_ok {x : Families} {l : List Nat} {i : Nat} {t : Array Nat} (hs : t.size = l.length * l.length) (hi : i < l.length) (hf : ∀ p, fatherAt x l i = some p → p < i) (hm : ∀ p, motherAt x l i = some p → p < i) :
    (rowIn x l t i).size = l.length * l.length ∧ (∀ p q, p < l.length → q < l.length → p ≠ i → q ≠ i → g2 l.length (rowIn x l t i) p q = g2 l.length t p q) ∧
    (∀ j, j < i → g2 l.length (rowIn x l t i) i j = (cell l.length t (fatherAt x l i) (some j) + cell l.length t (motherAt x l i) (some j)) / 2 ∧ g2 l.length (rowIn x l t i) j i = g2 l.length (rowIn x l t i) i j) ∧
    g2 l.length (rowIn x l t i) i i = (2 ^ 62 + cell l.length t (fatherAt x l i) (motherAt x l i)) / 2 := by
  obtain ⟨h1, h2⟩ := inner_ok hs hi hf hm i (Nat.le_refl _)
  have e : rowIn x l t i = ((List.range i).foldl (innerF l.length i (fatherAt x l i) (motherAt x l i)) t).setIfInBounds (l.length * i + i) ((2 ^ 62 + cell l.length ((List.range i).foldl (innerF l.length i (fatherAt x l i) (motherAt x l i)) t) (fatherAt x l i) (motherAt x l i)) / 2) := rfl
  have ec : cell l.length ((List.range i).foldl (innerF l.length i (fatherAt x l i) (motherAt x l i)) t) (fatherAt x l i) (motherAt x l i) = cell l.length t (fatherAt x l i) (motherAt x l i) := cell_eq fun p q e1 e2 => by
    have := hf p e1
    have := hm q e2
    rw [h2 p q (by omega) (by omega), if_neg (by omega), if_neg (by omega)]
  rw [ec] at e
  rw [e]
  refine ⟨by rw [Array.size_setIfInBounds]; exact h1, fun p q hp hq n1 n2 => ?_, fun j hj => ⟨?_, ?_⟩, ?_⟩
  · rw [g2_set h1 hi hi hq, if_neg (by omega), h2 p q hp hq, if_neg (by omega), if_neg (by omega)]
  · rw [g2_set h1 hi hi (by omega), if_neg (by omega), h2 i j hi (by omega), if_pos ⟨rfl, hj⟩]
  · rw [g2_set h1 hi hi hi, if_neg (by omega), g2_set h1 hi hi (by omega), if_neg (by omega), h2 j i (by omega) hi, h2 i j hi (by omega), if_neg (by omega), if_pos ⟨rfl, hj⟩, if_pos ⟨rfl, hj⟩]
  · rw [g2_set h1 hi hi hi, if_pos ⟨rfl, rfl⟩]
structure Good (x : Families) (l : List Nat) (k : Nat) (t : Array Nat) : Prop where
  size : t.size = l.length * l.length
  off : ∀ i j, i < k → j < i → g2 l.length t i j = (cell l.length t (fatherAt x l i) (some j) + cell l.length t (motherAt x l i) (some j)) / 2 ∧ g2 l.length t j i = g2 l.length t i j
  self : ∀ i, i < k → g2 l.length t i i = (2 ^ 62 + cell l.length t (fatherAt x l i) (motherAt x l i)) / 2
theorem good_all {x : Families} {l : List Nat} (hf : ∀ i p, i < l.length → fatherAt x l i = some p → p < i) (hm : ∀ i p, i < l.length → motherAt x l i = some p → p < i) : ∀ k, k ≤ l.length → Good x l k ((List.range k).foldl (rowIn x l) (Array.replicate (l.length * l.length) 0)) := by
  intro k
  induction k with
  | zero => intro _; exact ⟨Array.size_replicate, fun i j h => by omega, fun i h => by omega⟩
  | succ k ih =>
    intro hk
    have G := ih (by omega)
    rw [List.range_succ, List.foldl_append]
    generalize (List.range k).foldl (rowIn x l) (Array.replicate (l.length * l.length) 0) = t at G
    show Good x l (k + 1) (rowIn x l t k)
    obtain ⟨r1, r2, r3, r4⟩ := row_ok (x := x) G.size (show k < l.length by omega) (hf k · (by omega)) (hm k · (by omega))
    have old : ∀ a b : Option Nat, (∀ p, a = some p → p < k) → (∀ p, b = some p → p < k) → cell l.length (rowIn x l t k) a b = cell l.length t a b := fun a b ha hb => cell_eq fun p q e1 e2 => by
      have := ha p e1
      have := hb q e2
      exact r2 p q (by omega) (by omega) (by omega) (by omega)
    refine ⟨r1, fun i j hi hj => ?_, fun i hi => ?_⟩
    · have F1 := fun p e => hf i p (by omega) e
      have M1 := fun p e => hm i p (by omega) e
      have J : ∀ p, (some j : Option Nat) = some p → p < k := fun p e => by cases e; omega
      rw [old _ _ (fun p e => by have := F1 p e; omega) J, old _ _ (fun p e => by have := M1 p e; omega) J]
      rcases Nat.lt_or_ge i k with lt | ge
      · rw [r2 i j (by omega) (by omega) (by omega) (by omega), r2 j i (by omega) (by omega) (by omega) (by omega)]
        exact G.off i j lt hj
      · have : i = k := by omega
        subst this
        exact r3 j hj
    · have F1 := fun p e => hf i p (by omega) e
      have M1 := fun p e => hm i p (by omega) e
      rw [old _ _ (fun p e => by have := F1 p e; omega) (fun p e => by have := M1 p e; omega)]
      rcases Nat.lt_or_ge i k with lt | ge
      · rw [r2 i i (by omega) (by omega) (by omega) (by omega)]
        exact G.self i lt
      · have : i = k := by omega
        subst this
        exact r4
end Kf
namespace Kf
open Sf52 (Families Person)
open Sf91 (ids parentsOf tall elders cell placeOf rowIn kin)
def faOf (x : Families) (u : Nat) : Nat := told ((x.get u).bind fun y => y.father)
def moOf (x : Families) (u : Nat) : Nat := told ((x.get u).bind fun y => y.mother)
theorem pa_iff {x : Families} (FO : FamOk x) (u p : Nat) : p ∈ parentsOf x u ↔ p ≠ 0 ∧ (faOf x u = p ∨ moOf x u = p) := by
  unfold parentsOf faOf moOf
  cases e : x.get u with
  | none => simp [told]; omega
  | some q =>
    obtain ⟨_, k, hk⟩ := get_mem e
    have ok := FO.ok _ hk
    have f0 : q.father ≠ some 0 := ok.father
    have m0 : q.mother ≠ some 0 := ok.mother
    show p ∈ q.father.toList ++ q.mother.toList ↔ p ≠ 0 ∧ (told q.father = p ∨ told q.mother = p)
    rw [List.mem_append, Option.mem_toList, Option.mem_toList]
    unfold told
    constructor
    · rintro (h | h)
      · rw [h] at f0 ⊢
        exact ⟨fun z => f0 (by rw [z]), .inl rfl⟩
      · rw [h] at m0 ⊢
        exact ⟨fun z => m0 (by rw [z]), .inr rfl⟩
    · rintro ⟨h0, h | h⟩
      · cases e2 : q.father with
        | none => rw [e2] at h; exact absurd h.symm h0
        | some z => rw [e2] at h; exact .inl (congrArg some h)
      · cases e2 : q.mother with
        | none => rw [e2] at h; exact absurd h.symm h0
        | some z => rw [e2] at h; exact .inr (congrArg some h)
theorem anc_head {x : Families} {v p u : Nat} (h : p ∈ parentsOf x v) (g : Anc x p u) : Anc x v u := by
  induction g with
  | one z => exact .more (.one h) z
  | more _ z ih => exact .more ih z
def Fam2 (x : Families) (a b u : Nat) : Prop := (u = a ∨ Anc x a u) ∨ (u = b ∨ Anc x b u)
theorem fam2_up {x : Families} {a b u p : Nat} (h : Fam2 x a b u) (hp : p ∈ parentsOf x u) : Fam2 x a b p := by
  rcases h with (e | e) | (e | e)
  · rw [e] at hp; exact .inl (.inr (.one hp))
  · exact .inl (.inr (.more e hp))
  · rw [e] at hp; exact .inr (.inr (.one hp))
  · exact .inr (.inr (.more e hp))
theorem fam2_ids {x : Families} (C : Closed x) {a b u : Nat} (ha : a ∈ ids x) (hb : b ∈ ids x) (h : Fam2 x a b u) : u ∈ ids x := by
  have anc : ∀ {c n}, Anc x c n → n ∈ ids x := fun z => by
    cases z with
    | one z => exact C _ _ z
    | more _ z => exact C _ _ z
  rcases h with (e | e) | (e | e)
  · rw [e]; exact ha
  · exact anc e
  · rw [e]; exact hb
  · exact anc e
theorem kin_tab {x : Families} (FO : FamOk x) (C : Closed x) (L : Low x) {a b : Nat} (ha : a ∈ ids x) (hb : b ∈ ids x) :
    ∃ (r : Nat → Nat) (F : Nat → Nat → Nat), Rk (faOf x) (moOf x) (Fam2 x a b) (hgt x) r ∧ IsTab (faOf x) (moOf x) (Fam2 x a b) r F ∧ kin x a b = F a b := by
  let l0 := (ids x).filter fun c => (a :: b :: (Sf91.ancestors x a ++ Sf91.ancestors x b)).contains c
  have l0s : ∀ c ∈ l0, c ∈ ids x := fun c h => (List.mem_filter.mp h).1
  have l0n : l0.Nodup := FO.nd.sublist List.filter_sublist
  have l0m : ∀ c, c ∈ l0 ↔ Fam2 x a b c := fun c => by
    show c ∈ (ids x).filter _ ↔ _
    rw [List.mem_filter, List.contains_iff_mem, List.mem_cons, List.mem_cons, List.mem_append, mem_ancestors C, mem_ancestors C]
    constructor
    · rintro ⟨_, h | h | h | h⟩
      · exact .inl (.inl h)
      · exact .inr (.inl h)
      · exact .inl (.inr h)
      · exact .inr (.inr h)
    · intro h
      refine ⟨fam2_ids C ha hb h, ?_⟩
      rcases h with (h | h) | (h | h)
      · exact .inl h
      · exact .inr (.inr (.inl h))
      · exact .inr (.inl h)
      · exact .inr (.inr (.inr h))
  obtain ⟨l, hl⟩ : ∃ l, l = elders x l0 := ⟨_, rfl⟩
  have lm : ∀ c, c ∈ l ↔ Fam2 x a b c := fun c => by rw [hl, elders_mem L l0s, l0m]
  have lp : l.Pairwise fun a b => a ≠ b ∧ hgt x a ≤ hgt x b := by rw [hl]; exact elders_pw L l0s l0n
  have zero : ¬ Fam2 x a b 0 := fun h => by
    obtain ⟨z, hz, e⟩ := List.mem_map.mp (fam2_ids C ha hb h)
    have := (FO.ok z hz).id1
    have e : z.2.id = 0 := e
    omega
  have lpg : ∀ i j u v, l[i]? = some u → l[j]? = some v → i < j → u ≠ v ∧ hgt x u ≤ hgt x v := fun i j u v h1 h2 lt => by
    obtain ⟨i1, i2⟩ := List.getElem?_eq_some_iff.mp h1
    obtain ⟨j1, j2⟩ := List.getElem?_eq_some_iff.mp h2
    have := List.pairwise_iff_getElem.mp lp i j i1 j1 lt
    rw [i2, j2] at this
    exact this
  let r : Nat → Nat := fun u => (placeOf l (some u)).getD 0
  have rp : ∀ u, Fam2 x a b u → placeOf l (some u) = some (r u) ∧ r u < l.length ∧ l[r u]? = some u := fun u h => by
    obtain ⟨i, h1, h2, h3⟩ := place_mem ((lm u).mpr h)
    have e : r u = i := by show (placeOf l (some u)).getD 0 = i; rw [h1]; rfl
    rw [e]
    exact ⟨h1, h2, h3⟩
  have lt_of : ∀ u v, Fam2 x a b u → Fam2 x a b v → hgt x v + 1 ≤ hgt x u → r v < r u := fun u v hu hv lt => by
    obtain ⟨_, _, h1⟩ := rp u hu
    obtain ⟨_, _, h2⟩ := rp v hv
    rcases Nat.lt_trichotomy (r v) (r u) with z | z | z
    · exact z
    · rw [z] at h2
      rw [h1] at h2
      have e := Option.some.inj h2
      rw [e] at lt
      omega
    · have := (lpg _ _ _ _ h1 h2 z).2
      omega
  have fap : ∀ u, faOf x u ≠ 0 → faOf x u ∈ parentsOf x u := fun u h => (pa_iff FO u _).mpr ⟨h, .inl rfl⟩
  have mop : ∀ u, moOf x u ≠ 0 → moOf x u ∈ parentsOf x u := fun u h => (pa_iff FO u _).mpr ⟨h, .inr rfl⟩
  have fc : ∀ u, Fam2 x a b u → faOf x u = 0 ∨ Fam2 x a b (faOf x u) := fun u hu => by
    by_cases e : faOf x u = 0
    · exact .inl e
    · exact .inr (fam2_up hu (fap u e))
  have mc : ∀ u, Fam2 x a b u → moOf x u = 0 ∨ Fam2 x a b (moOf x u) := fun u hu => by
    by_cases e : moOf x u = 0
    · exact .inl e
    · exact .inr (fam2_up hu (mop u e))
  have fh : ∀ u, Fam2 x a b u → faOf x u ≠ 0 → hgt x (faOf x u) + 1 ≤ hgt x u := fun u hu e => hgt_parent L C (fam2_ids C ha hb hu) (fap u e)
  have mh : ∀ u, Fam2 x a b u → moOf x u ≠ 0 → hgt x (moOf x u) + 1 ≤ hgt x u := fun u hu e => hgt_parent L C (fam2_ids C ha hb hu) (mop u e)
  have R : Rk (faOf x) (moOf x) (Fam2 x a b) (hgt x) r := by
    refine ⟨zero, fc, mc, fun u _ => hh_le x 30 u, fh, mh, fun u hu e => lt_of u _ hu ((fc u hu).resolve_left e) (fh u hu e), fun u hu e => lt_of u _ hu ((mc u hu).resolve_left e) (mh u hu e), fun u v hu hv e => ?_⟩
    obtain ⟨_, _, h1⟩ := rp u hu
    obtain ⟨_, _, h2⟩ := rp v hv
    rw [e, h2] at h1
    exact (Option.some.inj h1).symm
  have p0 : placeOf l (some 0) = none := place_not fun h => zero ((lm 0).mp h)
  have tl : ∀ o : Option Nat, placeOf l o = placeOf l (some (told o)) := fun o => by
    cases o with
    | none => exact p0.symm
    | some n => rfl
  have fAt : ∀ u, Fam2 x a b u → fatherAt x l (r u) = placeOf l (some (faOf x u)) ∧ motherAt x l (r u) = placeOf l (some (moOf x u)) := fun u hu => by
    obtain ⟨_, h2, h3⟩ := rp u hu
    have e : l.getD (r u) 0 = u := by rw [List.getD_eq_getElem?_getD, h3]; rfl
    unfold fatherAt motherAt
    rw [e, tl, tl ((x.get u).bind _)]
    exact ⟨rfl, rfl⟩
  have at_ : ∀ i, i < l.length → ∃ u, Fam2 x a b u ∧ r u = i := fun i hi => by
    have hu : Fam2 x a b l[i] := (lm _).mp (List.getElem_mem hi)
    refine ⟨l[i], hu, ?_⟩
    obtain ⟨_, h2, h3⟩ := rp _ hu
    have hi2 : l[i]? = some l[i] := List.getElem?_eq_getElem hi
    rcases Nat.lt_trichotomy (r l[i]) i with z | z | z
    · exact absurd rfl (lpg _ _ _ _ h3 hi2 z).1
    · exact z
    · exact absurd rfl (lpg _ _ _ _ hi2 h3 z).1
  have plt : ∀ v, (v = 0 ∨ Fam2 x a b v) → ∀ p, placeOf l (some v) = some p → v ≠ 0 ∧ Fam2 x a b v ∧ p = r v := fun v hv p e => by
    have n0 : v ≠ 0 := fun z => by rw [z, p0] at e; cases e
    have hv := hv.resolve_left n0
    rw [(rp v hv).1] at e
    exact ⟨n0, hv, (Option.some.inj e).symm⟩
  have hf : ∀ i p, i < l.length → fatherAt x l i = some p → p < i := fun i p hi e => by
    obtain ⟨u, hu, rfl⟩ := at_ i hi
    rw [(fAt u hu).1] at e
    obtain ⟨n0, _, rfl⟩ := plt _ (fc u hu) p e
    exact R.fr u hu n0
  have hm : ∀ i p, i < l.length → motherAt x l i = some p → p < i := fun i p hi e => by
    obtain ⟨u, hu, rfl⟩ := at_ i hi
    rw [(fAt u hu).2] at e
    obtain ⟨n0, _, rfl⟩ := plt _ (mc u hu) p e
    exact R.mr u hu n0
  have G := good_all hf hm l.length (Nat.le_refl _)
  have ek : kin x a b = cell l.length ((List.range l.length).foldl (rowIn x l) (Array.replicate (l.length * l.length) 0)) (placeOf l (some a)) (placeOf l (some b)) := by
    rw [hl]
    rfl
  generalize (List.range l.length).foldl (rowIn x l) (Array.replicate (l.length * l.length) 0) = t at G ek
  refine ⟨r, fun u v => cell l.length t (placeOf l (some u)) (placeOf l (some v)), R, ⟨fun v => ?_, fun u => ?_, fun u v hu hv lt => ?_, fun u hu => ?_⟩, ek⟩
  · show cell _ _ (placeOf l (some 0)) _ = 0
    rw [p0]; rfl
  · show cell _ _ _ (placeOf l (some 0)) = 0
    rw [p0]
    cases placeOf l (some u) <;> rfl
  · have := G.off (r u) (r v) (rp u hu).2.1 lt
    rw [(fAt u hu).1, (fAt u hu).2] at this
    rw [(rp u hu).1, (rp v hv).1]
    exact this
  · have := G.self (r u) (rp u hu).2.1
    rw [(fAt u hu).1, (fAt u hu).2] at this
    rw [(rp u hu).1]
    exact this
end Kf
namespace L2
open PySem PySem.Spec PyProof.Rows KX
section
variable {X : Cx} {pins : List (Addr × Obj)} {σ : St} {H : Hp} {s : Shared}
theorem Inv.grown {P c : Addr} {oc : HO} {ps more : Array Value} {h' : Heap} {t' : Nat} (I : Inv X pins σ H s) (hP : H P = some (.tbl ps)) (hx : Heap.ExtBut P s.heap h') (hg : h'.get? P = some { cls := .none, data := .fields (ps ++ more) })
    (hc : s.heap.objs.size ≤ c) (new : ObjOk X.prog X.w (upd (upd H P (.tbl (ps ++ more))) c oc) h' c oc) :
    Inv X pins σ (upd (upd H P (.tbl (ps ++ more))) c oc) { s with heap := h', toks := t' } := by
  have hn : H c = none := I.hok.fresh hc
  have nP : ∀ b, H b = none → b ≠ P := fun b n z => by rw [z, hP] at n; cases n
  have nO : ∀ b o, H b = some o → (∀ q, o ≠ .tbl q) → b ≠ P := fun b o e n z => by rw [z, hP] at e; cases e; exact n ps rfl
  have nC : ∀ b o, H b = some o → b ≠ c := fun b o e => ne_of_none e hn
  have ne : ∀ b o, H b = some o → (∀ q, o ≠ .tbl q) → upd (upd H P (.tbl (ps ++ more))) c oc b = some o := fun b o e n => by rw [upd_ne (nC b o e), upd_ne (nO b o e n)]; exact e
  refine I.un (h' := h') ⟨fun b o e n _ _ => hx b o (nP b n) e, fun b o e n _ _ => ⟨o.slots, hx b o (nP b n) e⟩, fun b o e n _ => ?_, fun b o e _ => ?_, fun b xs e => ne b _ e fun q z => (by cases z), fun b o u e => ne b _ e fun q z => (by cases z), fun b q e => ?_⟩ fun b o e => ?_
  · rw [upd_ne (Nat.ne_of_lt (Nat.lt_of_lt_of_le (Heap.lt_size e) hc)), upd_ne (nP b n)]; exact n
  · by_cases z : b = P
    · exact ⟨_, by rw [z]; exact hg⟩
    · exact ⟨o, hx b o z e⟩
  · by_cases z : b = P
    · subst z
      rw [hP] at e
      cases e
      exact ⟨more, by rw [upd_ne (nC _ _ hP), upd_same]⟩
    · exact ⟨#[], by rw [upd_ne (nC _ _ e), upd_ne z, e]; simp⟩
  · by_cases y : b = c
    · subst y
      rw [upd_same] at e
      cases e
      exact new
    · rw [upd_ne y] at e
      by_cases z : b = P
      · subst z
        rw [upd_same] at e
        cases e
        exact hg
      · rw [upd_ne z] at e
        refine (I.hok b o e).stay (fun d u hd q => hx d u ?_ q) (fun d q => ne d _ q fun q z => (by cases z)) fun d xs q => ne d _ q fun q z => (by cases z)
        rcases hd with e2 | hd
        · rw [e2]; exact z
        · exact nO d _ hd fun q z => by cases z
end
def funO (f : Addr) (o : Obj) : HO := .ext fun h => h.get? f = some o
def codeO (c : Addr) (qual : Str) : HO := .ext fun h => ∃ oc vs t, h.get? c = some oc ∧ oc.data = .fields vs ∧ vs[1]? = some (.str qual t)
theorem funO_ok {P : Program} {w : World} {H : Hp} {h : Heap} {f : Addr} {o : Obj} (e : h.get? f = some o) : ObjOk P w H h f (funO f o) := ⟨e, ⟨o, e⟩, fun h1 h2 a k => k _ a⟩
theorem codeO_ok {P : Program} {w : World} {H : Hp} {h : Heap} {c : Addr} {qual : Str} (e : h.CodeRec (.ref c) qual) : ObjOk P w H h c (codeO c qual) := by
  obtain ⟨c2, oc, vs, t, e2, a, b, d⟩ := e
  cases e2
  exact ⟨⟨oc, vs, t, a, b, d⟩, ⟨oc, a⟩, fun h1 h2 ⟨oc, vs, t, a, b, d⟩ k => ⟨oc, vs, t, k _ a, b, d⟩⟩
structure Maker (X : Cx) (c P : Addr) : Prop where
  code : X.env.code = .ref c
  hd : ∀ h : Heap, X.K.In h → PySem.W.CodeHd h c P
  bm : ∃ bm ob, X.mg "__builtins__" = some (.ref bm) ∧ bm ≠ builtinsNs ∧ bm ≠ mainGlobals ∧ X.base.get? bm = some ob ∧ ob.cls = .type "module" ∧ ob.dict = some builtinsNs ∧ ob.data = .plain
def lamObj (X : Cx) (params : Arguments) (body : Expr) (scope : Scope) (c : Addr) (ctv : Value) : Obj :=
  PySem.W.kla_obj "<lambda>" (X.env.qual ++ "<lambda>") params body scope (cloFrom X.env.cells scope.names []) ((X.mg "__name__").getD .none) c ctv
def tLam (X : Cx) (P : Addr) (params : Arguments) (body : Expr) (scope : Scope) : TE := fun _ H Q => H P = some (.tbl #[]) ∧ ∀ (f c : Addr) (ctv : Value) (more : Array Value), H f = none → H c = none → f ≠ c →
  Q (.ref f) (upd (upd (upd H P (.tbl more)) c (codeO c (X.env.qual ++ "<lambda>"))) f (funO f (lamObj X params body scope c ctv)))
theorem pe_lam {X : Cx} {c P : Addr} {params : Arguments} {body : Expr} {scope : Scope} {pos : Pos} (M : Maker X c P) (hdef : defaultsOf params X.env = ([], [])) (hfree : ∀ y ∈ scope.names, y.2 = .free → X.env.kindOf y.1 = some .cell ∨ X.env.kindOf y.1 = some .free) :
    PE X (.Lambda params body scope pos) (tLam X P params body scope) := by
  intro pins s σ H Q I h
  obtain ⟨hP, k⟩ := h
  have gP : s.heap.get? P = some (PySem.W.tabObj #[]) := I.hok P _ hP
  have hgs : s.heap.Ns mainGlobals X.mg := Heap.Ns.keeps I.ok.mod.glob fun b o e => (I.bs b o e).1
  have hgP : mainGlobals ≠ P := fun z => by
    obtain ⟨o, es, ep, e, _⟩ := I.ok.mod.glob
    have := (I.bs _ _ e).2
    rw [z, hP] at this
    cases this
  obtain ⟨bm, ob, b1, b2, b3, b4, b5, b6, b7⟩ := M.bm
  have hbP : bm ≠ P := fun z => by
    have := (I.bs _ _ b4).2
    rw [z, hP] at this
    cases this
  refine PySem.W.kla_eval hdef (PySem.W.kla_makeFunction (mg := X.mg) (closure_ok fun y hy e => I.ok.has y.1 (hfree y hy e)) I.ok.glob hgs M.code (M.hd _ I.kIn) gP trivial rfl hgP ⟨bm, ob, b1, b2, b3, hbP, (I.bs _ _ b4).1, b5, b6, b7⟩ fun c' ctv h' tk hx hge hlt hrec htb => ?_)
  have fc : H c' = none := I.hok.fresh hge
  have nPc : c' ≠ P := fun z => by rw [z, hP] at fc; cases fc
  have szh : s.heap.objs.size ≤ h'.objs.size := Nat.le_of_lt (Nat.lt_of_le_of_lt hge hlt)
  have ff : H h'.objs.size = none := I.hok.fresh szh
  have nPf : h'.objs.size ≠ P := fun z => by rw [z, hP] at ff; cases ff
  have nfc : h'.objs.size ≠ c' := Nat.ne_of_gt hlt
  -- the code object is tracked
  have I2 : Inv X pins σ (upd (upd H P (.tbl (#[] ++ #[rawInt pos.line, rawInt pos.col, .ref c']))) c' (codeO c' (X.env.qual ++ "<lambda>"))) { s with heap := h', toks := tk } :=
    I.grown hP hx htb hge (codeO_ok hrec)
  have I3 := I2.laid (t' := tk) (a := h'.objs.size) (o := funO h'.objs.size (lamObj X params body scope c' ctv)) (h' := h'.push (lamObj X params body scope c' ctv)) (fun b u e => Heap.get?_push_of_some _ e) (Nat.le_refl _) (funO_ok (Heap.get?_push_size _ rfl))
  exact ⟨.ref h'.objs.size, _, I3, rfl, k _ c' ctv _ ff fc nfc⟩
def lamCx (X : Cx) (A : Around) (N : List Str) (qual : Str) (scope : Scope) (f : Addr) (cd : Value) (cl : List (Str × Addr)) (s : Shared) (H : Hp) : Cx where
  prog := X.prog
  w := X.w
  K := X.K
  mg := X.mg
  base := X.base
  A := A.deeper (PySem.W.envX qual scope s.heap.objs.size f cd cl)
  N := N
  s_0 := s
  H_0 := H
  env := PySem.W.envX qual scope s.heap.objs.size f cd cl
  outer := X.stack
  stack := PySem.W.envX qual scope s.heap.objs.size f cd cl :: X.stack
  ex := []
  calm := true
  fn := fun _ => false
  pn := []
  xe := fun e s' => wpAny (model X.prog X.w) (A.deeper (PySem.W.envX qual scope s.heap.objs.size f cd cl)) (leaving (PySem.W.envX qual scope s.heap.objs.size f cd cl) e) (fun _ _ => False) (fun _ _ => False) s'
structure LamScope (scope : Scope) (xn xp : Str) : Prop where
  co : scope.isCoroutine = false
  gen : scope.isGenerator = false
  kind : scope.kind = .function
  nocell : ∀ y ∈ scope.names, y.2 ≠ .cell
  par : scope.names.lookup xn = some .local
  fr : scope.names.lookup xp = some .free
  only : ∀ y ∈ scope.names, y.2 = .free → y.1 = xp
section
variable {X : Cx} {pins : List (Addr × Obj)} {σ : St} {H : Hp} {s : Shared} {A : Around} {scope : Scope} {xn xp qual : Str} {f cc : Addr} {cd : Value}
theorem inv_lam {h₁ : Heap} {m : Str → Option Value} {x y : V} {v u : Value} {tk : Nat} (I : Inv X pins σ H s) (L : LamScope scope xn xp) (hh : A.handled = none) (hA : A.frames = some X.stack) (hne : xn ≠ xp) (rx : RelV x v) (ry : RelV y u) (hcell : s.heap.IsCell cc (some u)) (hcn : H cc = none)
    (hns : h₁.Ns s.heap.objs.size m) (hm : m xn = some v) (hk : ∀ b o, s.heap.get? b = some o → h₁.get? b = some o) :
    Inv (lamCx X A [xn, xp] qual scope f cd [(xp, cc)] s H) [] [some x, some y] H { s with heap := h₁, toks := tk } := by
  have lk : ∀ y c, ([(xp, cc)] : List (Str × Addr)).lookup y = some c → y = xp ∧ c = cc := fun y c e => by
    rw [List.lookup_cons] at e
    split at e
    · rename_i z
      exact ⟨eq_of_beq z, (Option.some.inj e).symm⟩
    · cases e
  have lp : ([(xp, cc)] : List (Str × Addr)).lookup xp = some cc := by simp [List.lookup]
  have noA : ∀ b : Addr, b ∉ ([] : List Addr) := fun b z => by cases z
  have cellK : h₁.IsCell cc (some u) := by
    obtain ⟨o, ho, hd⟩ := hcell
    exact ⟨o, hk _ _ ho, hd⟩
  refine ⟨⟨I.ok.mod, L.kind, rfl, rfl, Nat.le_refl _, fun y z c h1 h2 => ?_, fun y hy => ?_, fun y c e _ => ?_, fun _ => hh, Around.frames_deeper hA, .inr ⟨rfl, rfl⟩, fun b z => absurd z (noA b), I.bs, Nat.le_trans I.ok.bsz I.sz, fun b _ _ => noA b, fun b z => absurd z (noA b), I.stack, I.stkFree⟩,
    rfl, I.bare, Un.kept hk, ⟨m, hns, fun i y v' h1 h2 h3 => ?_⟩, fun y c e => ?_, I.hok.fresh (Nat.le_refl _), fun y c e => ?_, fun p hp => ?_, I.hok.kept hk, rfl⟩
  · rw [(lk y c h1).1, (lk z c h2).1]
  · have hy : scope.names.lookup y = some .cell ∨ scope.names.lookup y = some .free := hy
    rcases hy with hy | hy
    · exact absurd rfl (L.nocell _ (PySem.mem_of_lookup hy))
    · have := L.only _ (PySem.mem_of_lookup hy) rfl
      have this : y = xp := this
      rw [this]
      exact ⟨cc, lp⟩
  · cases e
  · match i, h1, h2 with
    | 0, h1, h2 =>
      have h1 : some xn = some y := h1
      have h2 : some (some x) = some (some v') := h2
      cases h1
      cases h2
      exact ⟨v, rx, .inl ⟨L.par, hm⟩⟩
    | 1, h1, h2 =>
      have h1 : some xp = some y := h1
      have h2 : some (some _) = some (some v') := h2
      cases h1
      cases h2
      exact ⟨u, ry, .inr ⟨.inr L.fr, cc, lp, cellK⟩⟩
    | i + 2, h1, h2 => cases h1
  · rw [(lk y c e).2]
    exact ⟨_, cellK⟩
  · rw [(lk y c e).2]
    exact hcn
  · cases hp
theorem lam_run {params : Arguments} {body : Expr} {c : Addr} {ctv : Value} {ip k : Nat} {x y : V} {v : Value} {tb : TE} {Q : VK} (I : Inv X pins σ H s) (L : LamScope scope xn xp) (hne : xn ≠ xp) (hr : Room (k + 1) A) (hA : A.frames = some X.stack)
    (hf : H f = some (funO f (lamObj X params body scope c ctv))) (hc : H c = some (codeO c (X.env.qual ++ "<lambda>"))) (hbind : ∀ (fd : FuncData) (w : Value), fd.params = params → fd.defaults = .none → fd.kwdefaults = .none → bindArgs fd ⟨[w], []⟩ = pure [(xn, w)])
    (hN : X.N[ip]? = some xp) (hσ : σ[ip]? = some (some y)) (hkc : X.env.kindOf xp = some .cell) (hcl : ∀ c, X.env.cells.lookup xp = some c → cloFrom X.env.cells scope.names [] = [(xp, c)]) (rx : RelV x v)
    (hb : ∀ (cl : List (Str × Addr)), PE (lamCx X A [xn, xp] (X.env.qual ++ "<lambda>") scope f (.ref c) cl s H) body tb) (h : tb [some x, some y] H Q) :
    wpAny (model X.prog X.w) A (call (.ref f) [v]) (EP X pins σ Q) (fun _ _ => False) s := by
  obtain ⟨gf, _, _⟩ := (show ObjOk X.prog X.w H s.heap f (funO f (lamObj X params body scope c ctv)) from I.hok f _ hf)
  obtain ⟨⟨oc, vs, t, g1, g2, g3⟩, _, _⟩ := (show ObjOk X.prog X.w H s.heap c (codeO c (X.env.qual ++ "<lambda>")) from I.hok c _ hc)
  obtain ⟨m, _, hloc⟩ := I.loc
  obtain ⟨u, ry, lk⟩ := hloc ip xp y hN hσ (.inr (.inl hkc))
  obtain ⟨cc, hcc, hcell⟩ : ∃ cc, X.env.cells.lookup xp = some cc ∧ s.heap.IsCell cc (some u) := by
    rcases lk with ⟨z, _⟩ | ⟨_, cc, a, b⟩
    · rw [hkc] at z; cases z
    · exact ⟨cc, a, b⟩
  have hcl := hcl cc hcc
  have lim : s.heap.NoLimit := I.ok.mod.nolimit.keeps fun b o e => (I.bs b o e).1
  refine wpAny_call (codeAny_mono (R := fun r s' => match r with | .ok (.ret u) => CE X.stack X.prog X.w H s Q u s' | _ => False) (PySem.W.kla_callFunE hr.depth gf rfl L.co L.gen rfl ⟨c, oc, vs, t, rfl, g1, g2, g3⟩ ?_) fun r s' hq => ?_)
  · rw [hbind _ v rfl rfl rfl]
    refine wpAny_pure (wpAny_newFunctionEnv L.nocell (fun z hz => ?_) (fun h₁ hns hsb => ⟨lim.fresh _ hsb, ?_⟩) L.kind)
    · rw [List.mem_singleton.mp hz]; exact L.par
    · have hk₁ : ∀ b o, s.heap.get? b = some o → h₁.get? b = some o := fun b o e => hsb.extBut b o (Nat.ne_of_lt (Heap.lt_size e)) (Heap.get?_push_of_some _ e)
      show codeAny _ A (.expr body (PySem.W.envX (X.env.qual ++ "<lambda>") scope s.heap.objs.size f (.ref c) (cloFrom X.env.cells scope.names []))) _ _
      rw [hcl]
      have J := inv_lam (f := f) (cd := .ref c) (qual := X.env.qual ++ "<lambda>") (tk := s.toks + [(xn, v)].length) I L hr.hd hA hne rx ry hcell (I.freeC xp cc hcc) hns (by simp [List.lookup]) hk₁
      exact PySem.W.kla_codeExpr (wpAny_mono (hb [(xp, cc)] [] _ _ H _ J h) (fun v s' ⟨z, H', J2, r, q⟩ => ⟨z, H', J2.os, J2.bare, J2.base, J2.hok, r, q⟩) fun _ _ z => z)
  · cases r with
    | error e => exact hq
    | ok fl =>
      cases fl with
      | ret u => exact I.after hq
      | next => exact hq
      | brk => exact hq
      | cont => exact hq
end
end L2
namespace L2
open PySem PySem.Spec PyProof.Rows KX
section
variable {prog : Program} {w : World} {A : Around} {E : Value → Shared → Prop} {s : Shared} {T : String} {r d : Addr} {n : Nat} {P : Nat → Value → Prop} {OK : Heap → Prop}
theorem collect_src {Q : List Value → Shared → Prop} (K : PySem.W.KdlSrc prog w T r d n P OK) (hh : A.handled = none) (hok : OK s.heap) (hn : n ≤ sizeLine)
    (h : ∀ h' tk (acc : Array Value), (∀ b o, s.heap.get? b = some o → h'.get? b = some o) → ItemsOf P acc n → Q acc.toList { s with heap := h', toks := tk }) : wpAny (model prog w) A (collect (.ref r)) Q E s := by
  unfold collect
  refine wpAny_bind (wpAny_runValue (codeAny_builtin entry_proto_collect' ?_))
  show wpAny _ _ (do again (.builtin "list.__iadd__" ⟨[← newList [], .ref r], []⟩)) _ _ s
  have hlt := K.there _ hok
  refine wpAny_bind (wpAny_newList (wpAny_pure ⟨Code.quiet_builtin _ (by decide +kernel), codeAny_builtin entry_list_iadd' ?_⟩))
  show wpAny _ _ (Builtin.List.listExtendWith (.ref s.heap.objs.size) (.ref r) (.ref s.heap.objs.size)) _ _ { s with heap := s.heap.push (seqObj "list" #[] 0) }
  have gS : (s.heap.push (seqObj "list" #[] 0)).get? s.heap.objs.size = some { cls := .type "list", data := .seq #[] 0 } := Heap.get?_push_size _ rfl
  rw [Around.under_plainId (show plainId "list.__iadd__" = true by decide +kernel) _]
  refine PySem.W.kdl_extend (R := fun r s' => match r with
      | .ok (.ret v) => wpAny (model prog w) A (match v with
        | .ref a => do
          let o ← load a
          match o.data with
          | .seq xs _ => pure xs.toList
          | _ => unsupported "internal:collect"
        | _ => unsupported "internal:collect") Q E s'
      | .ok _ => False
      | .error e => E e s') (s := { s with heap := s.heap.push (seqObj "list" #[] 0) }) K hh (K.keep _ _ hok fun b _ o e => Heap.get?_push_of_some _ e) s.heap.objs.size (Nat.ne_of_gt hlt.1) (Nat.ne_of_gt hlt.2) (.ref s.heap.objs.size) 0 gS (fun h' tk acc c hk hS hacc => ?_) hn
  show wpAny (model prog w) A (do
      let o ← load s.heap.objs.size
      match o.data with
      | .seq xs _ => pure xs.toList
      | _ => unsupported "internal:collect") Q E { s with heap := h', toks := tk }
  refine wpAny_bind (wpAny_load hS ?_)
  exact wpAny_pure (h h' tk acc (fun b o e => hk b o (Nat.ne_of_lt (Heap.lt_size e)) (Heap.get?_push_of_some _ e)) hacc)
end
def exO (a : Addr) (o : Obj) : HO := .ext fun h => h.get? a = some o
theorem exO_ok {P : Program} {w : World} {H : Hp} {h : Heap} {a : Addr} {o : Obj} (e : h.get? a = some o) : ObjOk P w H h a (exO a o) := ⟨e, ⟨o, e⟩, fun _ _ x k => k _ x⟩
section
variable {X : Cx} {pins : List (Addr × Obj)} {σ : St} {H : Hp} {s : Shared} {A : Around} {E : Value → Shared → Prop} {a kS : Addr} {vs : List Value} {kz : List Int} {e1 : Nat} {P : PySem.Fin → Shared → Prop}
theorem st_tail {st : SortSt} {keys : List Value} {nk : Nat} (I : Inv X pins σ H s) (hkS : H kS = some (.lst (kz.map V.int))) (ha : H a = some (exO a (seqObj "list" #[] e1))) (gk : s.heap.get? kS = some { cls := .type "list", data := .seq keys.toArray nk }) (hk : IntsAre keys kz) (hlen : kz.length = vs.length) (hZ : vs.length ≤ sizeLine)
    (hp : (arrOf st).Perm (keys.toArray.zip vs.toArray)) (hs : SortedTo (arrOf st) (arrOf st).size) (hfl : failedOf st = none)
    (h : ∀ s' (out : Array Value), KskOut false kz vs out.toList → (∀ ys, Vals ys out.toList → Inv X pins σ (upd (upd H kS (.lst [])) a (.lst ys)) s') → P (.done (.ret .none)) s') :
    wpAny (model X.prog X.w) A (ksk_tail a false e1 (.ref kS) st) P E s := by
  have nka : kS ≠ a := ne_of hkS ha (by intro z; cases z)
  obtain ⟨ga, _, _⟩ := (show ObjOk X.prog X.w H s.heap a (exO a (seqObj "list" #[] e1)) from I.hok a _ ha)
  have hl := hk.length
  have hsz2 : (arrOf st).size = vs.length := by rw [hp.size_eq, Array.size_zip, List.size_toArray, List.size_toArray]; omega
  have hs0 : sizeLine = 16777216 := sizeLine_eq
  have I1 := I.lset (its' := []) (f := fun _ => #[]) (t' := s.toks) hkS gk rfl .nil (Nat.zero_le _)
  unfold ksk_tail
  try dsimp only
  refine wpAny_bind (listUpdate_at gk rfl ?_ (by rw [List.size_toArray]; omega) (Nat.zero_le _))
  refine wpAny_bind (wpAny_letGo ?_)
  have ga1 : (s.heap.update kS (Obj.mapSeq fun _ => (#[] : Array Value))).get? a = some (seqObj "list" #[] e1) := (Heap.get?_update_other _ _ nka).trans ga
  refine wpAny_bind (seqEpoch_at ga1 rfl ?_)
  refine wpAny_bind (listUpdate_at ga1 rfl ?_ (Nat.zero_le _) (by
    simp only [Bool.false_eq_true, if_false, Array.size_map]
    omega))
  rw [hfl]
  simp only [bne_self_eq_false, Bool.false_eq_true, if_false]
  have ko := ksk_out (b := false) hk hp hs
  simp only [Bool.false_eq_true, if_false] at ko
  refine wpAny_pure (h _ _ ko fun ys hv => ?_)
  have ha1 : upd H kS (.lst []) a = some (exO a (seqObj "list" #[] e1)) := by rw [upd_ne nka.symm]; exact ha
  obtain ⟨c2, hc2⟩ : ∃ c2, ((s.heap.update kS (Obj.mapSeq fun _ => (#[] : Array Value))).update a (Obj.mapSeq fun _ => (arrOf st).map (·.2))).get? a = some (seqObj "list" ((arrOf st).map (·.2)) c2) := ⟨_, get?_update_seq ga1 fun _ => (arrOf st).map (·.2)⟩
  refine I1.write (x := a) (e := a) (o := .lst ys) (t' := s.toks) (by rw [ha1]; trivial) (.inl rfl) (fun b u hb q => (Heap.get?_update_other _ _ (Ne.symm hb)).trans q) ⟨_, hc2⟩ ⟨?_, ((arrOf st).map (·.2)).toList, c2, hv, ?_⟩
  · rw [hv.length, Array.length_toList, Array.size_map]; omega
  · rw [Array.toArray_toList]
    exact hc2
theorem st_end {keys : List Value} {nk : Nat} (I : Inv X pins σ H s) (hkS : H kS = some (.lst (kz.map V.int))) (ha : H a = some (exO a (seqObj "list" #[] e1))) (gk : s.heap.get? kS = some { cls := .type "list", data := .seq keys.toArray nk }) (hk : IntsAre keys kz) (hlen : kz.length = vs.length) (hZ : vs.length ≤ sizeLine)
    (h : ∀ s' (out : Array Value), KskOut false kz vs out.toList → (∀ ys, Vals ys out.toList → Inv X pins σ (upd (upd H kS (.lst [])) a (.lst ys)) s') → P (.done (.ret .none)) s') :
    wpAny (model X.prog X.w) A (ksk_end a false vs.toArray e1 (.ref kS) keys.toArray) P E s := by
  have hl := hk.length
  have hs0 : sizeLine = 16777216 := sizeLine_eq
  have hk2 : IntsAre keys.toArray.toList kz := hk
  have hzs : (keys.toArray.zip vs.toArray).size = vs.length := by rw [Array.size_zip, List.size_toArray, List.size_toArray]; omega
  unfold ksk_end
  try dsimp only
  simp only [Bool.false_eq_true, if_false]
  by_cases h2 : vs.toArray.size < 2
  · rw [if_pos h2, if_pos h2]
    refine wpAny_bind (wpAny_pure ?_)
    rw [StateT.run_pure]
    refine wpAny_bind (wpAny_pure ?_)
    try dsimp only
    refine st_tail (st := SortSt.mk' general' (keys.toArray.zip vs.toArray) #[] 7 none) I hkS ha gk hk hlen hZ (Array.Perm.refl _) ?_ rfl h
    intro i j hij hj
    have hj2 : j < (keys.toArray.zip vs.toArray).size := hj
    rw [hzs] at hj2
    rw [List.size_toArray] at h2
    have : i = j := by omega
    subst this
    exact Int.le_refl _
  · rw [if_neg h2, if_neg h2]
    rw [List.size_toArray] at h2
    rw [ksk_kind hk2 (by rw [List.size_toArray]; omega)]
    refine wpAny_bind (wpAny_pure ?_)
    refine wpAny_bind (wpAny_mono (wpS_sortRunsAny (κ := intKind) (a₀ := keys.toArray.zip vs.toArray) (st := SortSt.mk' oneType' (keys.toArray.zip vs.toArray) #[] 7 none)
      (Q := fun _ st' => (arrOf st').Perm (keys.toArray.zip vs.toArray) ∧ failedOf st' = none ∧ SortedTo (arrOf st') (keys.toArray.zip vs.toArray).size)
      intKind_oneLt (ksk_keysOfInt (ksk_intKeys hk2)) ⟨Array.Perm.refl _, rfl, rfl⟩ rfl (by rw [hzs]; omega) fun st' a1 a2 a3 => ⟨a1, a2, sortedTo_of_int a3⟩) ?_ fun _ _ e => e)
    rintro ⟨⟨⟩, st'⟩ s' ⟨rfl, hp, hf, hs⟩
    try dsimp only
    exact st_tail I hkS ha gk hk hlen hZ hp (by rw [hp.size_eq]; exact hs) hf h
theorem vals_snoc {xs : List V} {us : List Value} {x : V} {u : Value} (h : Vals xs us) (r : RelV x u) : Vals (xs ++ [x]) (us ++ [u]) := h.append (.cons r .nil)
theorem st_rest {f : Value} {H0 : Hp} (I : Inv X pins σ H s) (sm : Same H0 H) (hkS0 : H0 kS = none) (ha0 : H0 a = none) (hkS : H kS = some (.lst [])) (ha : H a = some (exO a (seqObj "list" #[] e1))) (hlen : kz.length = vs.length) (hZ : vs.length ≤ sizeLine)
    (turn : ∀ (i : Nat) (v : Value) (k : Int), vs[i]? = some v → kz[i]? = some k → ∀ (H' : Hp) (s' : Shared), Same H0 H' → Inv X pins σ H' s' → wpAny (model X.prog X.w) A (call f [v]) (EP X pins σ (fun y H'' => y = .int k ∧ Same H' H'')) (fun _ _ => False) s')
    (h : ∀ s' (H' : Hp) (out : Array Value), Same H0 H' → KskOut false kz vs out.toList → (∀ ys, Vals ys out.toList → Inv X pins σ (upd (upd H' kS (.lst [])) a (.lst ys)) s') → P (.done (.ret .none)) s') :
    wpAny (model X.prog X.w) A (ksk_rest a f false vs.toArray e1 (.ref kS)) P E s := by
  have hs0 : sizeLine = 16777216 := sizeLine_eq
  have nka : kS ≠ a := ne_of hkS ha (by intro z; cases z)
  unfold ksk_rest
  refine wpAny_bind (wpAny_rule ?_)
  first
    | rw [List.forIn_toArray]
    | (rw [← Array.forIn_toList]; simp only [List.toList_toArray])
    | rw [← Array.forIn_toList]
  refine wpAny_bind (ksk_fold (fun i s' => ∃ H' : Hp, Inv X pins σ H' s' ∧ Same H0 H' ∧ H' kS = some (.lst ((kz.take i).map V.int)) ∧ H' a = some (exO a (seqObj "list" #[] e1))) vs 0 s
    ⟨H, I, sm, hkS, ha⟩ ?step ?done)
  case step =>
    rintro j x s' hx ⟨H', I', sm', hk', ha'⟩
    simp only [Nat.zero_add] at hk' ⊢
    have hj : j < vs.length := (List.getElem?_eq_some_iff.mp hx).1
    obtain ⟨k, hkj⟩ : ∃ k, kz[j]? = some k := ⟨_, List.getElem?_eq_getElem (by omega)⟩
    refine wpAny_bind (wpAny_attempt (wpAny_mono (turn j x k hx hkj H' s' sm' I') (fun v s'' he => ?_) fun _ _ hF => hF.elim))
    obtain ⟨y, H2, I2, ry, rfl, s2⟩ := he
    obtain ⟨t2, rfl⟩ := ry
    try dsimp only
    have hk2 := s2 _ _ hk'
    have ha2 := s2 _ _ ha'
    obtain ⟨zl, its, n, rv, hl2, gk⟩ := I2.lstM hk2
    have ek : kz.take (j + 1) = kz.take j ++ [k] := by rw [List.take_add_one, hkj]; simp
    have hits : its.length = j := by
      have := rv.length
      rw [List.length_map, List.length_take] at this
      omega
    have I3 := I2.lset (its' := its ++ [.int k t2]) (ys := (kz.take (j + 1)).map V.int) (f := (·.push (.int k t2))) (t' := s''.toks) hk2 gk (by simp) (by rw [ek, List.map_append]; exact vals_snoc rv ⟨t2, rfl⟩) (by rw [List.length_map, List.length_take]; omega)
    refine wpAny_bind (listUpdate_at gk rfl ?_ (by rw [List.size_toArray]; omega) (by rw [Array.size_push, List.size_toArray]; omega))
    refine wpAny_pure ⟨rfl, _, I3, (sm'.trans s2).young hkS0, upd_same, by rw [upd_ne nka.symm]; exact ha2⟩
  case done =>
    rintro s' ⟨H', I', sm', hk', ha'⟩
    have e3 : kz.take (0 + vs.length) = kz := List.take_of_length_le (by omega)
    rw [e3] at hk'
    obtain ⟨zl, its, n, rv, hl2, gk⟩ := I'.lstM hk'
    try dsimp only
    refine wpAny_bind (listItems_at gk rfl ?_)
    exact st_end I' hk' ha' gk rv.ints hlen hZ fun s'' out ko hI => h s'' H' out sm' ko hI
theorem st_tree {f : Value} {n : Nat} (I : Inv X pins σ H s) (ho : s.heap.get? a = some (seqObj "list" vs.toArray n)) (hH : H a = some (.lst (kz.map V.int))) (H0 : Hp) (sm : Same H0 H) (ha0 : H0 a = none) {gz : List Int} (hlen : gz.length = vs.length) (hZ : vs.length ≤ sizeLine)
    (turn : ∀ (i : Nat) (v : Value) (k : Int), vs[i]? = some v → gz[i]? = some k → ∀ (H' : Hp) (s' : Shared), Same H0 H' → Inv X pins σ H' s' → wpAny (model X.prog X.w) A (call f [v]) (EP X pins σ (fun y H'' => y = .int k ∧ Same H' H'')) (fun _ _ => False) s')
    (h : ∀ s' (H' : Hp) (out : Array Value), Same H0 H' → KskOut false gz vs out.toList → (∀ ys, Vals ys out.toList → Inv X pins σ (upd H' a (.lst ys)) s') → P (.done (.ret .none)) s') :
    wpAny (model X.prog X.w) A (ksk_tree a f false) P E s := by
  have hs0 : sizeLine = 16777216 := sizeLine_eq
  unfold ksk_tree
  refine wpAny_bind (listItems_at ho rfl ?_)
  refine wpAny_bind (listUpdate_at ho rfl ?_ (by rw [List.size_toArray]; omega) (Nat.zero_le _))
  obtain ⟨e1, ho1⟩ : ∃ e1, (s.heap.update a (Obj.mapSeq fun _ => (#[] : Array Value))).get? a = some (seqObj "list" #[] e1) := ⟨_, get?_update_seq ho fun _ => #[]⟩
  have I1 : Inv X pins σ (upd H a (exO a (seqObj "list" #[] e1))) { s with heap := s.heap.update a (Obj.mapSeq fun _ => (#[] : Array Value)), toks := s.toks } :=
    I.write (x := a) (e := a) (by rw [hH]; trivial) (.inl rfl) (fun b u hb q => (Heap.get?_update_other _ _ (Ne.symm hb)).trans q) ⟨_, ho1⟩ (exO_ok ho1)
  refine wpAny_bind (seqEpoch_at ho1 rfl ?_)
  refine wpAny_bind (wpAny_newTuple ?_ (by show vs.length ≤ _; omega))
  refine wpAny_bind (wpAny_newList ?_ (Nat.zero_le _))
  refine wpAny_holding ?_
  have I2 := I1.kept (t' := s.toks) (h' := (s.heap.update a (Obj.mapSeq fun _ => (#[] : Array Value))).push (seqObj "tuple" vs.toArray 0)) fun b u e => Heap.get?_push_of_some _ e
  have I3 := I2.laid (t' := s.toks) (a := ((s.heap.update a (Obj.mapSeq fun _ => (#[] : Array Value))).push (seqObj "tuple" vs.toArray 0)).objs.size) (o := .lst [])
    (h' := ((s.heap.update a (Obj.mapSeq fun _ => (#[] : Array Value))).push (seqObj "tuple" vs.toArray 0)).push (seqObj "list" #[] 0)) (fun b u e => Heap.get?_push_of_some _ e) (Nat.le_refl _) ⟨Nat.zero_le _, [], 0, .nil, Heap.get?_push_size _ rfl⟩
  have kf : upd H a (exO a (seqObj "list" #[] e1)) ((s.heap.update a (Obj.mapSeq fun _ => (#[] : Array Value))).push (seqObj "tuple" vs.toArray 0)).objs.size = none := I2.hok.fresh (Nat.le_refl _)
  generalize ((s.heap.update a (Obj.mapSeq fun _ => (#[] : Array Value))).push (seqObj "tuple" vs.toArray 0)).objs.size = kS at I3 kf ⊢
  have nka : kS ≠ a := fun z => by rw [z, upd_same] at kf; cases kf
  have s1 : Same H0 (upd H a (exO a (seqObj "list" #[] e1))) := sm.young ha0
  have kf0 : H0 kS = none := s1.free kf
  refine st_rest (s := { s with heap := ((s.heap.update a (Obj.mapSeq fun _ => (#[] : Array Value))).push (seqObj "tuple" vs.toArray 0)).push (seqObj "list" #[] 0) }) (kz := gz) I3 (s1.trans (Same.new kf)) kf0 ha0 upd_same (by rw [upd_ne nka.symm, upd_same]) hlen hZ turn fun s' H' out sm' ko hI => ?_
  exact h s' (upd H' kS (.lst [])) out (sm'.young kf0) ko hI
end
theorem args_sortedK (q a : Value) : argsOk "sorted" ⟨[a], [(Str.ofString "key", q)]⟩ := by unfold argsOk; kernel_rfl
theorem args_sortK (q a : Value) : argsOk "list.sort" ⟨[a], [(Str.ofString "key", q)]⟩ := by
  unfold argsOk; rw [signature?_of (id := "list.sort") (n := ['t', 'r', 'o', 's']) (o := ['t', 's', 'i', 'l']) (by kernel_rfl) F.owner_list]; kernel_rfl
section
variable {X : Cx} {pins : List (Addr × Obj)} {σ : St} {H : Hp} {s : Shared} {d f : Addr} {kvs : List (Key × V)} {ns : List Nat} {g : Nat → Int} {Q : VK}
theorem run_sortK (hh : X.A.handled = none) (I : Inv X pins σ H s) (hd : Rd H d (.dK kvs)) (hkl : Kf.KeyL kvs ns)
    (turn : ∀ (n : Nat) (v : Value) (H' : Hp) (s' : Shared), n ∈ ns → Same H H' → Inv X pins σ H' s' → RelV (.int (n : Int)) v → wpAny (model X.prog X.w) X.A.in1.in1 (call (.ref f) [v]) (EP X pins σ (fun y H'' => y = .int (g n) ∧ Same H' H'')) (fun _ _ => False) s')
    (hQ : ∀ (ns' : List Nat) (D : Addr) (H' : Hp), ns'.Perm ns → ns'.Pairwise (fun x y => g x ≤ g y) → Same H H' → H' D = some (.lst (Kf.iv ns')) → Q (.ref D) H') :
    wpAny (model X.prog X.w) X.A (call (.builtin "sorted") [.ref d] [(Str.ofString "key", .ref f)]) (EP X pins σ Q) X.xe s := by
  have hs0 : sizeLine = 16777216 := sizeLine_eq
  obtain ⟨hz, lo, vs, kv, hD⟩ := dk_rd I.hok hd
  obtain ⟨ep, hat⟩ := hD.dictAt
  have hl : vs.length = kvs.length := by
    clear hat hD hz hd hkl
    induction kv with
    | nil => rfl
    | cons _ _ ih => simp [ih]
  have hnl := hkl.len
  refine call_function_entry_kw kind_sorted plain_sorted entry_sorted (args_sortedK _ _) ?_
  unfold Builtin.«sorted»
  refine wpAny_bind (m := checkCount "sorted" 1 1 _) (wpAny_pure ?_)
  refine wpAny_bind (collect_src (PySem.W.kdl_dict (knd := mixKind X.prog X.w) (kvs := vs) (ep := ep) lo) hh hat (by rw [hl]; exact hz) fun h' tk acc hk hacc => ?_)
  have hv : Vals (Kf.iv ns) acc.toList := by
    refine vals_at (by rw [Array.length_toList, hacc.1, Kf.iv_len, hl, hnl]) fun j u x hu hx => ?_
    obtain ⟨k, y, e1, e2⟩ := hacc.2 j u (by rw [← Array.getElem?_toList]; exact hu)
    obtain ⟨n, hn, rfl⟩ := Kf.iv_get hx
    have jl : j < kvs.length := by rw [hnl]; exact (List.getElem?_eq_some_iff.mp hn).1
    obtain ⟨b, hb, g1, _⟩ := paired_get kv (List.getElem?_eq_getElem jl)
    rw [e1] at hb
    cases hb
    obtain ⟨n2, hn2, ek⟩ := hkl.get (k := kvs[j].1) (v := kvs[j].2) (List.getElem?_eq_getElem jl)
    rw [hn] at hn2
    cases hn2
    have ek2 : k = Sum.inl (n : Int) := by rw [← ek]; exact (show kvs[j].1 = k from g1).symm
    subst ek2
    exact relV_key (k := Sum.inl (n : Int)) e2
  have hal : acc.toList.length = ns.length := by rw [← hv.length, Kf.iv_len]
  have I1 : Inv X pins σ H { s with heap := h', toks := tk } := I.kept (t' := tk) hk
  refine wpAny_bind (wpAny_newList ?_ (by rw [hal]; omega))
  have gA : (h'.push (seqObj "list" acc.toList.toArray 0)).get? h'.objs.size = some (seqObj "list" acc.toList.toArray 0) := Heap.get?_push_size _ rfl
  have I2 : Inv X pins σ (upd H h'.objs.size (.lst (Kf.iv ns))) { s with heap := h'.push (seqObj "list" acc.toList.toArray 0), toks := tk } :=
    I1.laid (t' := tk) (fun b u e => Heap.get?_push_of_some _ e) (Nat.le_refl _) ⟨by rw [Kf.iv_len]; omega, acc.toList, 0, hv, gA⟩
  have fa : H h'.objs.size = none := I1.hok.fresh (Nat.le_refl _)
  have eiv : Kf.iv ns = (ns.map fun (n : Nat) => (n : Int)).map V.int := by unfold Kf.iv; rw [List.map_map]; rfl
  have hints : IntsAre acc.toList (ns.map fun (n : Nat) => (n : Int)) := by
    rw [eiv] at hv
    exact hv.ints
  refine wpAny_bind (wpAny_holding (wpAny_call_entry_kw slot_list_sort ⟨_, gA, rfl⟩ entry_list_sort ?body (args_sortK _ _)))
  case body =>
    show wpAny (model X.prog X.w) X.A.in1.in1 (Builtin.«list.sort» ⟨[.ref h'.objs.size], [(Str.ofString "key", .ref f)]⟩) _ _ _
    rw [ksk_t1]
    refine st_tree (s := { s with heap := h'.push (seqObj "list" acc.toList.toArray 0), toks := tk }) (vs := acc.toList) (kz := ns.map fun (n : Nat) => (n : Int)) (gz := ns.map g) I2 gA (by rw [upd_same, eiv]) H (Same.new fa) fa (by rw [List.length_map, hal]) (by rw [hal]; omega) (fun i v k hi hk2 H' s' sm I' => ?_) fun s' H' out sm ko hI => ⟨_, rfl, ?_⟩
    · rw [List.getElem?_map] at hk2
      obtain ⟨n, hn, rfl⟩ := Option.map_eq_some_iff.mp hk2
      have il : i < (Kf.iv ns).length := by rw [Kf.iv_len]; exact (List.getElem?_eq_some_iff.mp hn).1
      obtain ⟨u, hu, ru⟩ := hv.get (List.getElem?_eq_getElem il)
      rw [hi] at hu
      cases hu
      obtain ⟨n2, hn2, e2⟩ := Kf.iv_get (List.getElem?_eq_getElem il)
      rw [hn] at hn2
      cases hn2
      rw [e2] at ru
      exact turn n v H' s' (List.mem_of_getElem? hn) sm I' ru
    · obtain ⟨ps, hp, ho, hs⟩ := ko
      have hrel : ∀ p, p ∈ (ns.map g).zip acc.toList → p.1 = g (numOf p.2).toNat ∧ p.2 ∈ acc.toList := by
        intro p hp
        obtain ⟨i, hi, e⟩ := List.getElem_of_mem hp
        have hi2 : i < ns.length := by rw [List.length_zip, List.length_map] at hi; omega
        have e1 : p.1 = g ns[i] := by rw [← e]; simp
        have hi3 : i < acc.toList.length := by omega
        have e2 : p.2 = acc.toList[i] := by rw [← e]; simp
        obtain ⟨t, ht⟩ := hints.get i (ns[i] : Int) (by rw [List.getElem?_map, List.getElem?_eq_getElem hi2]; rfl)
        rw [List.getElem?_eq_getElem hi3] at ht
        have ht := Option.some.inj ht
        refine ⟨?_, by rw [e2]; exact List.getElem_mem hi3⟩
        rw [e1, e2, ht]
        show g ns[i] = g ((ns[i] : Int).toNat)
        rw [Int.toNat_natCast]
      have hnn : ∀ v ∈ acc.toList, ∃ (n : Nat) (t : Tok), v = .int (n : Int) t := fun v hv2 => by
        obtain ⟨i, hi, e⟩ := List.getElem_of_mem hv2
        obtain ⟨t, ht⟩ := hints.get i (ns[i]'(by omega) : Int) (by rw [List.getElem?_map, List.getElem?_eq_getElem (by omega)]; rfl)
        rw [List.getElem?_eq_getElem hi, e] at ht
        exact ⟨_, t, Option.some.inj ht⟩
      let ns' : List Nat := (ps.map Prod.snd).map fun v => (numOf v).toNat
      have hperm : ns'.Perm ns := by
        have h1 := ((hp.map Prod.snd).map fun v => (numOf v).toNat)
        rw [List.map_snd_zip (by rw [List.length_map]; omega)] at h1
        have h2 : acc.toList.map (fun v => (numOf v).toNat) = ns := by
          have := hints.nums
          have h3 : (acc.toList.map numOf).map Int.toNat = (ns.map fun (n : Nat) => (n : Int)).map Int.toNat := by rw [this]
          rw [List.map_map, List.map_map] at h3
          have h4 : ns.map (Int.toNat ∘ fun (n : Nat) => (n : Int)) = ns := by
            conv => rhs; rw [← List.map_id ns]
            exact List.map_congr_left fun n _ => Int.toNat_natCast n
          rw [h4] at h3
          exact h3
        rw [h2] at h1
        exact h1
      have hpw : ns'.Pairwise fun x y => g x ≤ g y := by
        show ((ps.map Prod.snd).map fun v => (numOf v).toNat).Pairwise _
        rw [List.pairwise_map, List.pairwise_map]
        refine hs.imp_of_mem fun {p q} hp' hq' hr => ?_
        have hr' : p.1 ≤ q.1 := by simpa using hr
        rw [(hrel p (hp.mem_iff.mp hp')).1, (hrel q (hp.mem_iff.mp hq')).1] at hr'
        exact hr'
      have hvo : Vals (Kf.iv ns') out.toList := by
        rw [ho]
        have key : ∀ l : List Value, (∀ v ∈ l, ∃ (n : Nat) (t : Tok), v = .int (n : Int) t) → Vals (Kf.iv (l.map fun v => (numOf v).toNat)) l := by
          intro l
          induction l with
          | nil => intro _; exact .nil
          | cons v r ih =>
            intro hl
            obtain ⟨n, t, rfl⟩ := hl v List.mem_cons_self
            refine .cons ⟨t, ?_⟩ (ih fun w hw => hl w (List.mem_cons_of_mem _ hw))
            show Value.int (n : Int) t = Value.int (((numOf (Value.int (n : Int) t)).toNat : Nat) : Int) t
            show Value.int (n : Int) t = Value.int (((n : Int).toNat : Nat) : Int) t
            rw [Int.toNat_natCast]
        refine key _ fun v hv2 => ?_
        obtain ⟨p, hp', rfl⟩ := List.mem_map.mp hv2
        exact hnn _ (hrel p (hp.mem_iff.mp hp')).2
      exact wpAny_pure ⟨_, rfl, .ref h'.objs.size, _, hI _ hvo, rfl, hQ ns' _ _ hperm hpw (sm.young fa) upd_same⟩
end
def tSortLam (P : Addr) (ip : Nat) (ta : TA) (tb : TE) : TE := fun σ H Q => ta σ H fun vs H1 => ∃ (d : Addr) (kvs : List (Key × V)) (ns : List Nat) (g : Nat → Int) (y : V), vs = [.ref d] ∧ H1 P = some (.tbl #[]) ∧ Rd H1 d (.dK kvs) ∧ Kf.KeyL kvs ns ∧ σ[ip]? = some (some y) ∧
  (∀ n ∈ ns, ∀ H' : Hp, Kf.SameBut P H1 H' → tb [some (.int (n : Int)), some y] H' fun v H'' => v = .int (g n) ∧ Same H' H'') ∧
  ∀ (ns' : List Nat) (D : Addr) (H' : Hp), ns'.Perm ns → ns'.Pairwise (fun x y => g x ≤ g y) → Kf.SameBut P H1 H' → H' D = some (.lst (Kf.iv ns')) → Q (.ref D) H'
theorem pe_sortLam {X : Cx} {e : Expr} {params : Arguments} {body : Expr} {scope : Scope} {p pos kp lpos : Pos} {ta : TA} {tb : TE} {c P : Addr} {ip k : Nat} {xn xp : Str} (M : Maker X c P) (hdef : defaultsOf params X.env = ([], [])) (L : LamScope scope xn xp) (hne : xn ≠ xp) (hr : Room (k + 3) X.A)
    (hg : Gl X "sorted") (hm : X.mg "sorted" = none) (ha : PA X [e] ta) (hbind : ∀ (fd : FuncData) (w : Value), fd.params = params → fd.defaults = .none → fd.kwdefaults = .none → bindArgs fd ⟨[w], []⟩ = pure [(xn, w)])
    (hN : X.N[ip]? = some xp) (hkc : X.env.kindOf xp = some .cell) (hcl : ∀ c, X.env.cells.lookup xp = some c → cloFrom X.env.cells scope.names [] = [(xp, c)])
    (hb : ∀ (f c : Addr) (s : Shared) (H : Hp) (cl : List (Str × Addr)), PE (lamCx X X.A.in1.in1 [xn, xp] (X.env.qual ++ "<lambda>") scope f (.ref c) cl s H) body tb)
    (he : backTo pos (starEach [e] X.env) = (false, eval e X.env) :: backTo pos (starEach [] X.env) := by rfl) (hpl : (backTo pos (starEach [e] X.env)).any (·.1) = false := by rfl)
    (h1 : (backToKw pos (keywordEach [⟨some "key", .Lambda params body scope lpos, kp⟩] X.env)).all (·.1.isSome) = true := by rfl) (h2 : (backToKw pos (keywordEach [⟨some "key", .Lambda params body scope lpos, kp⟩] X.env)).any (·.1.isNone) = false := by rfl)
    (h3 : (backToKw pos (keywordEach [⟨some "key", .Lambda params body scope lpos, kp⟩] X.env)).filterMap (·.1) = [("key" : Str)] := by rfl) :
    PE X (.Call (.Name "sorted" p) [e] [⟨some "key", .Lambda params body scope lpos, kp⟩] pos) (tSortLam P ip ta tb) := by
  have hlam : PE X (.Lambda params body scope lpos) (tLam X P params body scope) := pe_lam M hdef fun y hy z => .inl (by rw [L.only y hy z]; exact hkc)
  intro pins s σ H Q J h
  refine wpAny_Call_Name_kw (ld_blt J hg hm (u := .builtin "sorted") (by decide +kernel) ?_)
  refine callWith_kw ?_ he hpl h1 h2
  refine thn (ha pos pins s σ H _ J h) fun us s1 ⟨vs, H1, I1, r1, d, kvs, ns, g, y, ev, hP, hd, hkl, hσ, hkey, hQ⟩ => ?_
  subst ev
  obtain ⟨u, rfl, ru⟩ := vals1 r1
  cases ru
  refine thn ((pk_cons (nm := some "key") (kpos := kp) hlam pk_nil) pos pins s1 σ H1 (fun zs H2 => ∃ (f c : Addr) (ctv : Value) (more : Array Value), zs = [.ref f] ∧ H1 f = none ∧ H1 c = none ∧ f ≠ c ∧ H2 = upd (upd (upd H1 P (.tbl more)) c (codeO c (X.env.qual ++ "<lambda>"))) f (funO f (lamObj X params body scope c ctv))) I1 ⟨hP, fun f c ctv more hf hc nfc => ⟨f, c, ctv, more, rfl, hf, hc, nfc, rfl⟩⟩) fun ws s2 ⟨zs, H2, I2, r2, f, c, ctv, more, ez, hf, hc, nfc, eH⟩ => ?_
  subst ez
  obtain ⟨u2, rfl, ru2⟩ := vals1 r2
  cases ru2
  rw [h3]
  have nP : ∀ b, H1 b = none → b ≠ P := fun b n z => by rw [z, hP] at n; cases n
  have sb : Kf.SameBut P H1 H2 := fun b o e n => by rw [eH, upd_ne (ne_of_none e hf), upd_ne (ne_of_none e hc), upd_ne n]; exact e
  have hf2 : H2 f = some (funO f (lamObj X params body scope c ctv)) := by rw [eH, upd_same]
  have hc2 : H2 c = some (codeO c (X.env.qual ++ "<lambda>")) := by rw [eH, upd_ne nfc.symm, upd_same]
  have hd2 : Rd H2 d (.dK kvs) := by
    rcases hd with z | ⟨o, z⟩
    · exact .inl (sb _ _ z (ne_of z hP (by intro w; cases w)))
    · exact .inr ⟨o, sb _ _ z (ne_of z hP (by intro w; cases w))⟩
  refine run_sortK hr.hd I2 hd2 hkl (fun n v H' s' hn sm I' rv => ?_) fun ns' D H' pm pw sm hD => hQ ns' D H' pm pw (fun b o e n => sm _ _ (sb b o e n)) hD
  exact lam_run (k := k) I' L hne hr.in1.in1 I'.ok.frames (sm _ _ hf2) (sm _ _ hc2) hbind hN hσ hkc hcl rv (fun cl => hb f c s' H' cl) (hkey n hn H' fun b o e nb => sm _ _ (sb b o e nb))
end L2
namespace Kf
open PySem PySem.Spec PyProof.Rows L2 KX
open Sf52 (Bytes Families)
open Sf91 (ids parentsOf tall)
def NoSelf (x : Families) : Prop := ∀ a ∈ ids x, ¬ Anc x a a
theorem known_get {x : Families} {a : Int} (hk : known x a = true) : ∃ n : Nat, a = (n : Int) ∧ n ∈ ids x := by
  refine ⟨a.toNat, ?_, ?_⟩
  · unfold known at hk
    rw [Bool.and_eq_true] at hk
    have := of_decide_eq_true hk.1
    omega
  · unfold known at hk
    rw [Bool.and_eq_true] at hk
    exact get_isSome.mp hk.2
theorem read_inv3 {t : Bytes} {x : Families} (h : Sf91.read t = .ok x) : Sf91.firstBad x (Sf52.wrongParent x) = none ∧ Sf91.firstBad x (fun p => (Sf91.ancestors x p.id).contains p.id) = none ∧ Sf91.firstBad x (fun p => (tall x 31).contains p.id) = none := by
  unfold Sf91.read at h
  split at h
  · cases h
  · split at h
    · cases h
    · rename_i h1
      split at h
      · cases h
      · rename_i h2
        dsimp only at h
        split at h
        · cases h
        · rename_i h3
          split at h
          · cases h
          · cases h
            exact ⟨h1, h2, h3⟩
theorem noSelf_of {t : Bytes} {x : Families} (h : Sf91.read t = .ok x) (CL : Closed x) : NoSelf x := by
  intro a ha hA
  obtain ⟨z, hz, ez⟩ := List.mem_map.mp ha
  have := first_none (read_inv3 h).2.1 z hz
  have ez : z.2.id = a := ez
  rw [ez] at this
  rw [List.contains_iff_mem.mpr ((mem_ancestors CL a a).mpr hA)] at this
  cases this
theorem low_of {t : Bytes} {x : Families} (h : Sf91.read t = .ok x) : Low x := by
  intro a ha
  obtain ⟨z, hz, ez⟩ := List.mem_map.mp (tall_sub x 31 a ha)
  have := first_none (read_inv3 h).2.2 z hz
  have ez : z.2.id = a := ez
  rw [ez, List.contains_iff_mem.mpr ha] at this
  cases this
theorem two_err {α : Type} {t : Bytes} {k : Nat} (h : Sf91.read t = .error k) (a b : Int) (g : Families → Sf52.Person → Sf52.Person → α) : Sf91.ofTwo t a b g = .error (-1) := by unfold Sf91.ofTwo; rw [h]
theorem two_no {α : Type} {t : Bytes} {x : Families} (h : Sf91.read t = .ok x) {a b : Int} (hk : ¬ (known x a = true ∧ known x b = true)) (g : Families → Sf52.Person → Sf52.Person → α) : Sf91.ofTwo t a b g = .error (-2) := by
  unfold Sf91.ofTwo
  rw [h]
  dsimp only
  split
  · rfl
  · rename_i hn
    unfold known at hk
    rw [decide_eq_true (by omega : 0 ≤ a), decide_eq_true (by omega : 0 ≤ b), Bool.true_and, Bool.true_and] at hk
    split
    · rename_i e1 e2
      rw [e1, e2] at hk
      exact absurd ⟨rfl, rfl⟩ hk
    · rfl
theorem two_yes {α : Type} {t : Bytes} {x : Families} (h : Sf91.read t = .ok x) {a b : Nat} (g : Families → Sf52.Person → Sf52.Person → α) {p q : Sf52.Person} (hp : x.get a = some p) (hq : x.get b = some q) : Sf91.ofTwo t (a : Int) (b : Int) g = .ok (g x p q) := by
  unfold Sf91.ofTwo
  rw [h]
  dsimp only
  rw [if_neg (by omega), Int.toNat_natCast, Int.toNat_natCast, hp, hq]
end Kf
namespace L2
open PySem PySem.Spec PyProof.Rows
open PySem.W (WData Codec OpenSpec Well WellAll ReadsW ReadsAllW)
structure BmK (h : Heap) (mg : Str → Option Value) : Prop where
  ex : ∃ bm ob, mg "__builtins__" = some (.ref bm) ∧ bm ≠ builtinsNs ∧ bm ≠ mainGlobals ∧ h.get? bm = some ob ∧ ob.cls = .type "module" ∧ ob.dict = some builtinsNs ∧ ob.data = .plain
theorem bmk_of {h : Heap} {mg : Str → Option Value} (g : h.Ns mainGlobals mg) (b : ∃ bm ob, mg "__builtins__" = some (.ref bm) ∧ bm ≠ builtinsNs ∧ h.get? bm = some ob ∧ ob.cls = .type "module" ∧ ob.dict = some builtinsNs ∧ ob.data = .plain) : BmK h mg := by
  obtain ⟨bm, ob, b1, b2, b4, b5, b6, b7⟩ := b
  refine ⟨bm, ob, b1, b2, fun z => ?_, b4, b5, b6, b7⟩
  obtain ⟨o, es, ep, e, d, _⟩ := g
  rw [z, e] at b4
  cases b4
  rw [d] at b7
  cases b7
theorem spec_callT {P : Program} {w : World} {K : PySem.W.Frag} {mg mb : Str → Option Value} {CX : CXT} {k : Nat} {fa c0 T0 : Addr} {fd : FuncData} {ps : List Str} {sp : Sp} {s₁ : Shared} {vals : List Value} {ds : List WData} {R : PySem.W.WRecords} {cl : Str → Option Addr} {d0 : WData}
    (KX : K.In s₁.heap) (hT : s₁.heap.get? T0 = some { cls := .none, data := .fields #[] }) (hTk : K.lookup T0 = none) (hTc : PySem.W.codeHdIn K c0 T0 = true)
    (hB : BmK s₁.heap mg) (hns : s₁.heap.Ns mainGlobals mg) (hb : s₁.heap.Ns builtinsNs mb) (hbb : ∀ x : Str, x ≠ "__name__" → mb x = bootBuiltins x) (hlim : s₁.heap.NoLimit) (hg : s₁.gens = #[])
    (hwl : WellAll w.params s₁.heap vals ds) (hpl : plWs ds = true) (hwt : ∀ d ∈ ds, d.weight ≤ 1048576) (hr : Room k callerA)
    (F : ∀ base : Heap, K.In base → base.Ns mainGlobals mg → BmK base mg → FnOk P w K mg base CX k fa fd ps sp) (hbind : ∀ (s : Shared) (us : List Value), us.length = ps.length → BindsTo s fd ⟨us, []⟩ (ps.zip us)) (hlen : ds.length = ps.length)
    (hsp : ∀ (H : Hp) (xs : List V), H T0 = none → DwAll K H xs ds → sp xs (upd H T0 (.tbl #[])) (fun v H' => Dw K H' v d0) fun _ _ _ => False)
    (hCX : ∀ H e s', CX [] H s₁ (fun _ _ _ => False) e s' → False) :
    codeAny (model P w) callerA (.call (.ref fa) ⟨vals, []⟩) (fun r s' => ∃ u as, r = .ok (.ret u) ∧ ReadsW R cl s'.heap u d0 as ∧ OldK s₁.heap s'.heap ∧ s'.os = s₁.os ∧ AllBare s'.gens) s₁ := by
  obtain ⟨A, ho, ar⟩ := area_all ds vals hwl hpl hwt
  have hO : OnlyF (argH K s₁.heap A) := argH_only ar
  have hS := dw_all KX ar ds vals hwl hpl ho
  have hV := vals_toV ho
  have hK : ∀ b u, argH K s₁.heap A b = some u → K.lookup b = none := fun b u q => (argH_is ar q).1
  have noS : ∀ {b : Addr} {o : Obj}, s₁.heap.get? b = some o → (∀ vs m, o.data ≠ .seq vs m) → argH K s₁.heap A b = none := fun {b o} e d => by
    cases q : argH K s₁.heap A b with
    | none => rfl
    | some u =>
      obtain ⟨_, vs, _, _, ⟨e2, _⟩ | ⟨e2, _⟩⟩ := argH_is ar q
      · rw [e2] at e
        cases e
        exact absurd rfl (d _ _)
      · rw [e2] at e
        cases e
        exact absurd rfl (d _ _)
  have hT0 : argH K s₁.heap A T0 = none := noS hT fun _ _ z => (by cases z)
  have hok : HOk P w (upd (argH K s₁.heap A) T0 (.tbl #[])) s₁.heap := fun b u q => by
    by_cases e : b = T0
    · subst e
      rw [upd_same] at q
      cases q
      exact hT
    · rw [upd_ne e] at q
      obtain ⟨_, vs, h1, h2, ⟨e, rfl⟩ | ⟨e, rfl⟩⟩ := argH_is ar q
      · exact ⟨e, by rw [List.length_map]; exact h1, vs, _, vals_toV h2, e⟩
      · exact ⟨e, by rw [List.length_map]; exact h1, vs, vals_toV h2, _, e, rfl, _, rfl⟩
  generalize argH K s₁.heap A = H0 at hO hok hS hK noS hT0
  have q0 := hsp H0 _ hT0 hS
  obtain ⟨H, eH⟩ : ∃ H, H = upd H0 T0 (.tbl #[]) := ⟨_, rfl⟩
  have hHT : H T0 = some (.tbl #[]) := by rw [eH, upd_same]
  have hHn : ∀ b, b ≠ T0 → H b = H0 b := fun b n => by rw [eH, upd_ne n]
  rw [← eH] at hok q0
  have noA : ∀ {b : Addr} {o : Obj} {es : Array DictEntry} {ep : Nat}, s₁.heap.get? b = some o → o.data = .dict es ep → H b = none := fun {b o es ep} e d => by
    rw [hHn b fun z => ?_]
    · exact noS e fun vs m z => by rw [d] at z; cases z
    · rw [z, hT] at e
      cases e
      cases d
  have base_of : ∀ {b : Addr} {o : Obj}, s₁.heap.get? b = some o → H b = none → (hidT s₁.heap H).get? b = some o := fun e n => hidT_get e n
  have nsK : ∀ {b : Addr} {m : Str → Option Value}, s₁.heap.Ns b m → (hidT s₁.heap H).Ns b m := fun {b m} ⟨o, es, ep, e, d, r⟩ => ⟨o, es, ep, base_of e (noA e d), d, r⟩
  have kT : ∀ b o, K.lookup b = some o → b ≠ T0 := fun b o e z => by rw [z, hTk] at e; cases e
  have nK : ∀ b o, K.lookup b = some o → H b = none := fun b o e => by
    rw [hHn b (kT b o e)]
    cases q : H0 b with
    | none => rfl
    | some u =>
      rw [hK b u q] at e
      cases e
  have hKb : K.In (hidT s₁.heap H) := fun b o e => base_of (KX b o e) (nK b o e)
  have hM : Mod K mg (hidT s₁.heap H) := ⟨hKb, nsK hns, ⟨mb, nsK hb, hbb⟩, let ⟨mc, h1, h2⟩ := hlim; ⟨mc, nsK h1, h2⟩⟩
  have e0 : Env0 P w K mg (hidT s₁.heap H) callerA [] s₁ H := ⟨rfl, hM, fun b o e => of_hidT e, Nat.le_of_eq (hidT_size _ _), trivial, fun b hb => absurd (show b ∈ ([] : List Addr) from hb) (by simp), hok, .of_eq hg⟩
  have hBb : BmK (hidT s₁.heap H) mg := by
    obtain ⟨bm, ob, b1, b2, b3, b4, b5, b6, b7⟩ := hB.ex
    refine ⟨bm, ob, b1, b2, b3, base_of b4 ?_, b5, b6, b7⟩
    rw [hHn bm fun z => ?_]
    · exact noS b4 fun vs m z => by rw [b7] at z; cases z
    · rw [z, hT] at b4
      cases b4
      cases b7
  have hl : vals.length = ps.length := by rw [wellAll_len hwl]; exact hlen
  refine codeAny_mono ((F _ hKb (nsK hns) hBb).run callerA [] s₁ H ⟨vals, []⟩ vals (vals.map toV) _ _ hr e0 (hbind s₁ vals hl) hV q0) fun r s' x => ?_
  cases r with
  | error e => exact (hCX H e s' x).elim
  | ok fl =>
    cases fl with
    | next => exact False.elim x
    | brk => exact False.elim x
    | cont => exact False.elim x
    | ret u =>
      obtain ⟨v, H', os, bare, un, hok', r', q⟩ := x
      have kept : ∀ b o, b ≠ T0 → s₁.heap.get? b = some o → s'.heap.get? b = some o := fun b o nb e => by
        have nb := hHn b nb
        cases q2 : H0 b with
        | none => exact un.keep b o e (nb.trans q2) (by intro z; exact absurd (show b ∈ ([] : List Addr) from z) (by simp)) (by simp)
        | some u2 =>
          rcases hO b with z | ⟨ob, u3, z⟩
          · rw [q2] at z
            cases z
          · have z := nb.trans z
            have z2 := un.frzs b ob _ z
            obtain ⟨e1, _⟩ := hok b _ z
            obtain ⟨e2, _⟩ := hok' b _ z2
            rw [e] at e1
            cases e1
            exact e2
      obtain ⟨more, hm⟩ := un.tbls T0 #[] hHT
      have hT' : s'.heap.get? T0 = some { cls := .none, data := .fields (#[] ++ more) } := hok' T0 _ hm
      have KX' : K.In s'.heap := fun b o e => kept b o (kT b o e) (KX b o e)
      obtain ⟨as, hrd⟩ := Dw.reads (R := R) (cl := cl) hok' KX' d0 v u q r'
      refine ⟨u, as, rfl, hrd, ⟨fun b o e => ?_, fun b o e => ?_⟩, os, bare⟩
      · by_cases z : b = T0
        · subst z
          rw [hT] at e
          cases e
          exact .inr (.inl ⟨((PySem.W.codeHd_of_K KX hTc).tab hT).isCodeTable, rfl, #[], more, rfl, hT'⟩)
        · exact .inl (kept b o z e)
      · by_cases z : b = T0
        · rw [z]
          exact ⟨_, hT'⟩
        · exact ⟨_, kept b o z e⟩
theorem walk_specT {r : OpenSpec} {k : Nat} {q : Program} {loose : List Str} {XP : (Str → Option Value) → Heap → Prop} {YP : World → Heap → Prop} {d : DefRec} {K : Params → PySem.W.Frag} {CX : World → CXT} {ps : List Str} {sp : PySem.W.Frag → Sp} {c0 T0 : Addr}
    (hwell : r.wellSaid = true) (hdf : d.params.defaults = []) (hlen : r.args.length = ps.length) (hr : Room k callerA)
    (hY : ∀ (w : World) (h : Heap), YP w h → (K w.params).In h ∧ h.get? T0 = some { cls := .none, data := .fields #[] }) (hTk : ∀ w : World, (K w.params).lookup T0 = none) (hTc : ∀ w : World, PySem.W.codeHdIn (K w.params) c0 T0 = true)
    (F : ∀ (w : World) (mg : Str → Option Value) (fa : Addr) (h : Heap), YP w h → (K w.params).In h → h.Ns mainGlobals mg → mg d.name = some (.ref fa) →
      ∃ fd : FuncData, (∀ (s : Shared) (us : List Value), us.length = ps.length → BindsTo s fd ⟨us, []⟩ (ps.zip us)) ∧ ∀ base : Heap, (K w.params).In base → base.Ns mainGlobals mg → BmK base mg → FnOk r.prog w (K w.params) mg base (CX w) k fa fd ps (sp (K w.params)))
    (hsp : ∀ (K : PySem.W.Frag) (H : Hp) (xs : List V) (a : Codec.denoteAll r.args), H T0 = none → Codec.withinAll r.args a = true → Codec.app r.args r.asked a = true → DwAll K H xs (Codec.encAll r.args a) → sp K xs (upd H T0 (.tbl #[])) (fun v H' => Dw K H' v (r.ret.enc (Codec.app r.args r.f a))) fun _ _ _ => False)
    (hCX : ∀ (w : World) (H : Hp) (s : Shared) (e : Value) (s' : Shared), CX w [] H s (fun _ _ _ => False) e s' → False) : PySem.W.WalkOS q loose XP YP r d [] (fun f vs => PySem.call f vs) := by
  intro w s_0 s₁ mg mb G Y fa o pm cd doc dV kV ho hd hcd hD hmg hg args vals as hpre hlay hrd hwl hlo
  obtain ⟨a, e1, e2⟩ := PySem.W.os_pre_some hpre
  obtain ⟨e3, hwi⟩ := Codec.encAll_of_decAll r.args args a e1
  subst e3
  obtain ⟨KX, hT⟩ := hY w _ Y
  obtain ⟨fd, hb, hF⟩ := F w mg fa _ Y KX G.T.g hmg
  refine PySem.W.enter_call (codeAny_mono (spec_callT (R := []) (cl := classAt s_0.heap) (d0 := r.ret.enc (Codec.app r.args r.f a)) KX hT (hTk w) (hTc w) (bmk_of G.T.g G.T.bmain) G.T.g G.T.b G.T.builtins G.T.nolimit hg hwl (pl_encAll _ _) (layable_weight hlay) hr hF hb (by rw [encAll_len]; exact hlen)
    (fun H xs hO hS => hsp (K w.params) H xs a hO hwi e2 hS) fun H e s' => hCX w H s₁ e s') fun r' s' hq => ?_)
  obtain ⟨u, as', rfl, h1, h2, h3, h4⟩ := hq
  exact ⟨.inl ⟨u, _, as', rfl, fun _ => rfl, h1, (OpenSpec.post_iff hwell hwi _ _).mpr rfl, fun z => Bool.noConfusion (show false = true from z)⟩, h2, h3, h4⟩
end L2
namespace L2
open PySem PySem.Spec PyProof.Rows KX
def rDUpd : V → List V → Hp → VK → Prop := fun x vs H Q => ∃ a b kvs more, x = .ref a ∧ vs = [.ref b] ∧ H a = some (.dK kvs) ∧ H b = some (.dK more) ∧ a ≠ b ∧ kvs.length + more.length ≤ sizeLine ∧ Q .non (upd H a (.dK (mergeK kvs more)))
theorem mt_dupd {X : Cx} : MtR X "dict.update" rDUpd := by
  intro pins s σ H x vs v us Q I rx rv h
  obtain ⟨a, b, kvs, more, rfl, rfl, ha, hb, nab, hz, q⟩ := h
  cases rx
  obtain ⟨u, rfl, ru⟩ := rv.one
  cases ru
  obtain ⟨z1, l1, vs1, r1, d1⟩ := dk_of I.hok ha
  obtain ⟨z2, l2, vs2, r2, d2⟩ := dk_of I.hok hb
  have e1 : ∀ {p : List (Key × V)} {q : List (Key × Value)}, KV p q → p.length = q.length := fun {p q} h => by
    induction h with
    | nil => rfl
    | cons _ _ ih => simp [ih]
  refine call_meetsIn PySem.F.slot_dict_update d1.typeIs PySem.F.entry_dict_update (PySem.F.args_dict_update_2 _ _) (meets_dict_update (mixKind X.prog X.w) a b nab l2) ⟨_, _, d1, d2, by rw [← e1 r1, ← e1 r2]; exact hz, fun h' dd _ hs => ⟨.non, _, ?_, rfl, q⟩⟩
  exact d_write (t' := s.toks) I (by rw [ha]; exact True.intro) hs (let ⟨q, _, _, hq, _⟩ := dd; ⟨q, hq⟩) (dk_new (Nat.le_trans (length_mergeK more kvs) hz) l1 (r2.merge r1) dd)
def DefL (K : PySem.W.Frag) (mg : Str → Option Value) (x : Str) (ps : List Str) (st : Stmt) (c T : Addr) : Prop :=
  ∃ (f : Addr) (oc : Value) (od : Option Addr) (kV doc pm : Value) (an : Option Addr) (ct : Value) (osl : Array (Option Value)), mg x = some (.ref f) ∧ K.lookup f = some ⟨oc, od, .func (PySem.W.fnOf x x (defArgs st) (defBody st) (defScope st) .none kV doc pm an (.ref c) ct), osl⟩ ∧
    PySem.W.codeIn K (.ref c) x = true ∧ PySem.W.keepIn K (.ref f) = true ∧ Binds K (PySem.W.fnOf x x (defArgs st) (defBody st) (defScope st) .none kV doc pm an (.ref c) ct) ps [] ∧ PySem.W.codeHdIn K c T = true
theorem DefL.calm {P : Program} {w : World} {K : PySem.W.Frag} {mg : Str → Option Value} {base : Heap} {k : Nat} {x : Str} {ps N : List Str} {sp : Sp} {st : Stmt} {c T : Addr} (d : DefL K mg x ps st c T) (S : FnScope N ps (defScope st)) (len : ∀ vs H Q E, sp vs H Q E → vs.length = ps.length)
    (hbody : ∀ (f : Addr) (A : Around) (outer : List Env) (s : Shared) (H : Hp) (vs : List V) (Q : VK) (E : XK), Room k (A.deeper (envOfC x (defScope st) s.heap.objs.size f (.ref c))) → sp vs H Q E →
      ∃ t, PSs (cxOf CX0 P w K mg base N x (defScope st) f (.ref c) A outer s H E).nox (defBody st) t ∧ t { nx := fun _ H' => Q .non H', rt := Q } (start N vs) H) : Prom P w K mg base CX0 (k + 1) x ps sp := by
  obtain ⟨f, oc, od, kV, doc, pm, an, ct, osl, a, lk, hcd, kp, b, _⟩ := d
  refine ⟨f, _, a, kp, b, fn_of lk hcd S len fun A outer s H vs Q E hr hsp => ?_⟩
  obtain ⟨t, h, q⟩ := hbody f A outer s H vs Q E hr hsp
  exact ⟨t, h.nox, q⟩
end L2
namespace Kf
open PySem PySem.Spec PyProof.Rows L2 KX
open Sf52 (Bytes Families)
open Sf91 (ids parentsOf tall)
theorem kn_put (l : List Nat) (n : Nat) : putK (kn l) (Sum.inl (n : Int)) (.bl true) = kn (if n ∈ l then l else l ++ [n]) := by
  by_cases h : n ∈ l
  · rw [if_pos h]
    unfold putK
    rw [valV_any, kn_val, if_pos h, if_pos (show (some (V.bl true)).isSome = true from rfl)]
    unfold kn
    rw [List.map_map]
    refine List.map_congr_left fun m _ => ?_
    show (if (Sum.inl (m : Int) : Key) = Sum.inl (n : Int) then ((Sum.inl (m : Int) : Key), V.bl true) else (Sum.inl (m : Int), V.bl true)) = (Sum.inl (m : Int), V.bl true)
    split <;> rfl
  · rw [if_neg h, putK_new _ (by rw [kn_val, if_neg h]), kn_snoc]
def UpOf (x : Families) (a n : Nat) : Prop := n = a ∨ Anc x a n
section
variable {P : Program} {w : World} {K : PySem.W.Frag} {mg : Str → Option Value} {base : Heap} {CU CN fN CP fP CW : Addr}
abbrev sUp : Stmt := top 44
def spUp (CP : Addr) : Sp := fun vs H Q _ => ∃ (d : Addr) (a : Nat) (x : Families) (ps : List Addr), vs = [.ref d, .int (a : Int)] ∧ PersAt CP H d x ps ∧ FamOk x ∧ Closed x ∧ a ∈ ids x ∧
  ∀ (H' : Hp) (f : Addr) (l : List Nat), Same H H' → H f = none → H' f = some (.dK (kn l)) → (∀ n, n ∈ l ↔ UpOf x a n) → l.Nodup → l.length ≤ 1025 → Q (.ref f) H'
theorem scUp : FnScope ["persons", "number", "found"] ["persons", "number"] (defScope sUp) := ⟨rfl, rfl, rfl, by decide +kernel, rfl, by decide +kernel, by decide +kernel⟩
theorem ok_up (T : Txt K mg CU CN fN CP fP) (d : Def K mg "upwards" ["persons", "number"] sUp) (O : Prom P w K mg base CX0 2 "ancestors" ["persons", "number"] (spAnc CP)) : Prom P w K mg base CX0 3 "upwards" ["persons", "number"] (spUp CP) := by
  refine d.calm scUp (fun vs H Q E h => ?_) (fun f cdv A outer s H vs Q E hr h => ?_)
  · obtain ⟨d, a, x, ps, rfl, _⟩ := h
    rfl
  · obtain ⟨d, a, x, ps, rfl, hd, FO, CL, ha, k⟩ := h
    have hu := hu_of hr
    refine ⟨_, pss_cons (ps_set (i := 2) scUp.nd rfl (Or.inl rfl) (pe_fc O hr (pa_cons (pv 0) (pa_cons (pv 1) pa_nil)))) (pss_cons (ps_dput hu (pv 2) (pv 1) pe_bl rfl) (pss_one (ps_ret (pv 2)))), ?_⟩
    refine ⟨_, rfl, _, rfl, d, a, x, ps, rfl, hd, FO, CL, ha, fun H1 fo l s1 hfo0 hfo hmem hnd hlen => ?_⟩
    have FOl := FO.len
    refine ⟨_, rfl, _, rfl, fo, _, rfl, DPut.k (k := Sum.inl (a : Int)) hfo (by rw [kn_len]; exact sz (by omega)), ?_⟩
    rw [kn_put]
    refine ⟨_, rfl, k _ fo _ (s1.young hfo0) hfo0 upd_same (fun n => ?_) ?_ ?_⟩
    · unfold UpOf
      by_cases h : a ∈ l
      · rw [if_pos h]
        constructor
        · exact fun z => .inr ((hmem n).mp z)
        · rintro (z | z)
          · rw [z]; exact h
          · exact (hmem n).mpr z
      · rw [if_neg h, List.mem_append, List.mem_singleton, hmem]
        exact ⟨fun z => z.elim .inr .inl, fun z => z.elim .inr .inl⟩
    · by_cases h : a ∈ l
      · rw [if_pos h]; exact hnd
      · rw [if_neg h]; exact nd_snoc hnd h
    · by_cases h : a ∈ l
      · rw [if_pos h]; omega
      · rw [if_neg h, List.length_append]
        simp only [List.length_cons, List.length_nil]
        omega
theorem kn_merge : ∀ (m l : List Nat), ∃ l', mergeK (kn l) (kn m) = kn l' ∧ (∀ n, n ∈ l' ↔ n ∈ l ∨ n ∈ m) ∧ (l.Nodup → l'.Nodup)
  | [], l => ⟨l, rfl, fun n => by simp, id⟩
  | a :: m, l => by
    obtain ⟨l', e, h1, h2⟩ := kn_merge m (if a ∈ l then l else l ++ [a])
    refine ⟨l', ?_, fun n => ?_, fun nd => h2 ?_⟩
    · show mergeK (putK (kn l) (Sum.inl (a : Int)) (.bl true)) (kn m) = kn l'
      rw [kn_put, e]
    · rw [h1, List.mem_cons]
      by_cases ha : a ∈ l
      · rw [if_pos ha]
        constructor
        · rintro (z | z)
          · exact .inl z
          · exact .inr (.inr z)
        · rintro (z | z | z)
          · exact .inl z
          · rw [z]; exact .inl ha
          · exact .inr z
      · rw [if_neg ha, List.mem_append, List.mem_singleton, or_assoc]
    · by_cases ha : a ∈ l
      · rw [if_pos ha]; exact nd
      · rw [if_neg ha]; exact nd_snoc nd ha
theorem sameTbl {H H' : Hp} {T : Addr} {q : Array Value} (hT : H T = some (.tbl q)) (s : SameBut T H H') {b : Addr} {o : HO} (e : H b = some o) (n : ∀ r, o ≠ .tbl r) : H' b = some o := s _ _ e fun z => by rw [z, hT] at e; cases e; exact n q rfl
theorem PersAt.tbl {CP : Addr} {H H' : Hp} {d T : Addr} {x : Families} {ps : List Addr} {q : Array Value} (p : PersAt CP H d x ps) (hT : H T = some (.tbl q)) (s : SameBut T H H') : PersAt CP H' d x ps := by
  refine ⟨?_, pd_imp p.2 fun _ _ _ z => ?_⟩
  · rcases p.1 with z | ⟨o, z⟩
    · exact .inl (sameTbl hT s z fun _ w => (by cases w))
    · exact .inr ⟨o, sameTbl hT s z fun _ w => (by cases w)⟩
  · obtain ⟨dx, ab, ad, ap, a, b, c, e⟩ := z
    exact ⟨dx, ab, ad, ap, sameTbl hT s a fun _ w => (by cases w), sameTbl hT s b fun _ w => (by cases w), sameTbl hT s c fun _ w => (by cases w), sameTbl hT s e fun _ w => (by cases w)⟩
def ancN (x : Families) (n : Nat) : Nat := (Sf91.ancestors x n).length
theorem ancN_of {x : Families} (CL : Closed x) {a : Nat} {l : List Nat} (hm : ∀ n, n ∈ l ↔ Anc x a n) (hn : l.Nodup) : l.length = ancN x a := by
  obtain ⟨l2, e, S⟩ := gather_srch CL (x.length + 2) [a] [] (Srch.start x a) (by simp; omega)
  have nd : (Sf91.ancestors x a).Nodup := by unfold Sf91.ancestors; rw [e]; exact S.nd
  exact Nat.le_antisymm (len_le_of_sub hn fun n h => (mem_ancestors CL a n).mpr ((hm n).mp h)) (len_le_of_sub nd fun n h => (hm n).mpr ((mem_ancestors CL a n).mp h))
abbrev sElders : Stmt := top 45
def spElders (CP T : Addr) : Sp := fun vs H Q _ => ∃ (d fam : Addr) (x : Families) (ps : List Addr) (ns : List Nat), vs = [.ref d, .ref fam] ∧ PersAt CP H d x ps ∧ FamOk x ∧ Closed x ∧ H T = some (.tbl #[]) ∧ H fam = some (.dK (kn ns)) ∧ (∀ n ∈ ns, n ∈ ids x) ∧
  ∀ (H' : Hp) (D : Addr) (ns' : List Nat), ns'.Perm ns → ns'.Pairwise (fun a b => ancN x a ≤ ancN x b) → SameBut T H H' → H' D = some (.lst (iv ns')) → Q (.ref D) H'
theorem scElders : FnScope ["persons", "numbers"] ["persons", "numbers"] (defScope sElders) := ⟨rfl, rfl, rfl, by decide +kernel, rfl, by decide +kernel, by decide +kernel⟩
theorem ok_elders {c0 T0 : Addr} (T : Txt K mg CU CN fN CP fP) (hS : mg "sorted" = none) (B : BmK base mg) (d : DefL K mg "elders_first" ["persons", "numbers"] sElders c0 T0) (O : Prom P w K mg base CX0 2 "ancestors" ["persons", "number"] (spAnc CP)) : Prom P w K mg base CX0 6 "elders_first" ["persons", "numbers"] (spElders CP T0) := by
  have hd : PySem.W.codeHdIn K c0 T0 = true := by
    obtain ⟨_, _, _, _, _, _, _, _, _, _, _, _, _, _, h⟩ := d
    exact h
  refine d.calm scElders (fun vs H Q E h => ?_) (fun f A outer s H vs Q E hr h => ?_)
  · obtain ⟨d, fam, x, ps, ns, rfl, _⟩ := h
    rfl
  · obtain ⟨d, fam, x, ps, ns, rfl, hp, FO, CL, hT, hfam, hin, k⟩ := h
    refine ⟨_, pss_one (ps_ret (pe_sortLam (k := 2) (ip := 0) (c := c0) (P := T0) (xn := "number") (xp := "persons") ⟨rfl, fun h X => PySem.W.codeHd_of_K X hd, B.ex⟩ rfl ⟨rfl, rfl, rfl, by decide +kernel, rfl, rfl, by decide +kernel⟩ (by decide) hr (by rfl) hS (pa_cons (pv 1) pa_nil) ?_ rfl rfl ?_
      (fun f2 c2 s2 H2 cl => pe_callB call_lenD (by rfl) T.len PySem.boot_len (pa_cons (pe_fc O (hr.in1.in1.deeper _) (pa_cons (pv 1) (pa_cons (pv 0) pa_nil))) pa_nil)))), ?_⟩
    · intro fd w h1 h2 h3
      obtain ⟨_, _, prm, _, _, _, _, _, _, _, _, _, _, _, _⟩ := fd
      subst h1 h2 h3
      rfl
    · intro c hc
      show [(("persons" : Str), (List.lookup ("persons" : Str) _).getD 0)] = [(("persons" : Str), c)]
      rw [hc]
      rfl
    · refine ⟨_, rfl, fam, kn ns, ns, fun n => ((ancN x n : Nat) : Int), .ref d, rfl, hT, .inl hfam, kn_keys ns, rfl, fun n hn H' sb => ?_, fun ns' D H' pm pw sb hD => k H' D ns' pm (pw.imp fun {a b} h => by have h : ((ancN x a : Nat) : Int) ≤ ((ancN x b : Nat) : Int) := h; omega) sb hD⟩
      refine ⟨_, rfl, _, rfl, d, n, x, ps, rfl, hp.tbl hT sb, FO, CL, hin n hn, fun H2 fo l s2 hfo0 hfo hmem hnd hlen => ⟨fo, kn l, rfl, hfo, ?_, s2⟩⟩
      rw [kn_len, ancN_of CL hmem hnd]
end
end Kf
namespace L2
open PySem PySem.Spec PyProof.Rows KX
theorem for_enum0 {K : PySem.W.Frag} {a : Addr} {xs : List V} {g : TG} {tb : TS} {D : Ends} {σ : St} {H : Hp} (Pv : Nat → St → Hp → Prop) (h0 : Pv 0 σ H) (hl : ∀ i σ H, i ≤ xs.length → Pv i σ H → SqL K H a xs)
    (hs : ∀ i x σ H T, xs[i]? = some x → Pv i σ H → H T = none → g (.ref T) σ (upd H T (.tup [.int (i : Nat), x])) fun σ2 H2 => tb { D with nx := Pv (i + 1), ct := Pv (i + 1), bk := D.nx } σ2 H2) (hd : ∀ σ H, Pv xs.length σ H → D.nx σ H) :
    ∃ W : Nat → Nat → St → Hp → Prop, (∃ m, W 0 m σ H) ∧ ∀ i m σ H, W i m σ H →
      ((Ite K a).stop i H ∧ D.nx σ H) ∨ ((Ite K a).go i H ∧ ∃ N : St → Hp → Prop, (∀ σ' H', N σ' H' → ∃ m', m' < m ∧ W (i + 1) m' σ' H') ∧ ∀ x H', (Ite K a).yld i H x H' → g x σ H' fun σ2 H2 => tb { D with nx := N, ct := N, bk := D.nx } σ2 H2) := by
  refine ⟨fun i m σ H => i ≤ xs.length ∧ m = xs.length - i ∧ Pv i σ H, ⟨_, Nat.zero_le _, rfl, h0⟩, fun i m σ H ⟨h1, h2, h3⟩ => ?_⟩
  have qa := hl i σ H h1 h3
  by_cases e : i = xs.length
  · exact .inl ⟨⟨xs, qa, by omega⟩, hd σ H (e ▸ h3)⟩
  · have hi : i < xs.length := by omega
    have hx := List.getElem?_eq_getElem hi
    refine .inr ⟨⟨xs, _, qa, hx⟩, Pv (i + 1), fun σ' H' q => ⟨xs.length - (i + 1), by omega, by omega, rfl, q⟩, fun x H' ⟨T, u, e1, e2, e3, e4⟩ => ?_⟩
    subst e1 e3
    exact hs i u σ H T (e4 xs qa) h3 e2
end L2
namespace Kf
open PySem PySem.Spec PyProof.Rows L2 KX
open Sf52 (Bytes Families)
open Sf91 (ids parentsOf tall)
def k2 (a b : Nat) : List Key := [Sum.inl (a : Int), Sum.inl (b : Int)]
theorem k2_inj {a b c d : Nat} : k2 a b = k2 c d ↔ a = c ∧ b = d := by
  unfold k2
  constructor
  · intro h
    injection h with h1 h2
    injection h2 with h2 _
    injection h1 with h1
    injection h2 with h2
    omega
  · rintro ⟨rfl, rfl⟩; rfl
def TabF (kvs : List (List Key × V)) (f : Nat → Nat → Option Nat) : Prop := ∀ a b : Nat, valV kvs (k2 a b) = (f a b).map fun n => V.int ((n : Nat) : Int)
theorem TabF.put {kvs : List (List Key × V)} {f : Nat → Nat → Option Nat} (h : TabF kvs f) (a b n : Nat) : TabF (putK kvs (k2 a b) (.int (n : Int))) (fun x y => if x = a ∧ y = b then some n else f x y) := fun x y => by
  rw [valV_put]
  show _ = (if x = a ∧ y = b then some n else f x y).map _
  by_cases e : x = a ∧ y = b
  · rw [if_pos (k2_inj.mpr e), if_pos e]; rfl
  · rw [if_neg fun z => e (k2_inj.mp z), if_neg e]; exact h x y
theorem TabF.imp {kvs : List (List Key × V)} {f g : Nat → Nat → Option Nat} (h : TabF kvs f) (e : ∀ a b, f a b = g a b) : TabF kvs g := fun a b => by rw [← e]; exact h a b
section
variable {P : Program} {w : World} {K : PySem.W.Frag} {mg : Str → Option Value} {base : Heap} {CU CN fN CP fP CW : Addr}
abbrev sKinIn : Stmt := top 51
def spKinIn : Sp := fun vs H Q _ => ∃ (t : Addr) (a b : Nat) (kvs : List (List Key × V)), vs = [.ref t, .int (a : Int), .int (b : Int)] ∧ H t = some (.dT kvs) ∧ ∀ H' : Hp, Same H H' → Q ((valV kvs (k2 a b)).getD (.int 0)) H'
theorem scKinIn : FnScope ["table", "one", "other"] ["table", "one", "other"] (defScope sKinIn) := ⟨rfl, rfl, rfl, by decide +kernel, rfl, by decide +kernel, by decide +kernel⟩
theorem ok_kinIn (d : Def K mg "kinship_in" ["table", "one", "other"] sKinIn) : Prom P w K mg base CX0 1 "kinship_in" ["table", "one", "other"] spKinIn := by
  refine d.calm scKinIn (fun vs H Q E h => ?_) (fun f cdv A outer s H vs Q E hr h => ?_)
  · obtain ⟨t, a, b, kvs, rfl, _⟩ := h
    rfl
  · obtain ⟨t, a, b, kvs, rfl, ht, k⟩ := h
    have hu := hu_of hr
    refine ⟨_, pss_one (ps_ret (pe_dget2 hu (pv 0) (pe_tup (pa_cons (pv 1) (pa_cons (pv 2) pa_nil))) pe_int ⟨rfl, rfl, rfl, rfl⟩)), ?_⟩
    refine ⟨_, rfl, t, rfl, .inr ⟨kvs, .inl ht⟩, _, rfl, _, rfl, (by show 2 ≤ sizeLine; decide), fun q hq => ⟨_, DGet.t (k := k2 a b) (by rw [upd_ne (ne_of_none ht hq)]; exact ht) upd_same, k _ (Same.new hq)⟩⟩
structure KinT (x : Families) (ns : List Nat) (F : Nat → Nat → Nat) : Prop where
  z0 : 0 ∉ ns
  z1 : ∀ v, F 0 v = 0
  z2 : ∀ u, F u 0 = 0
  par : ∀ i u, ns[i]? = some u → ∀ p, p ≠ 0 → (faOf x u = p ∨ moOf x u = p) → p ∈ ns.take i
  off : ∀ i u v, ns[i]? = some u → v ∈ ns.take i → F u v = (F (faOf x u) v + F (moOf x u) v) / 2 ∧ F v u = F u v
  self : ∀ u, u ∈ ns → F u u = (2 ^ 62 + F (faOf x u) (moOf x u)) / 2
abbrev sKins : Stmt := top 50
def fullT (l : List Nat) (F : Nat → Nat → Nat) : Nat → Nat → Option Nat := fun a b => if a ∈ l ∧ b ∈ l then some (F a b) else none
def spKins (CP : Addr) : Sp := fun vs H Q _ => ∃ (d L : Addr) (x : Families) (ps : List Addr) (ns : List Nat) (F : Nat → Nat → Nat), vs = [.ref d, .ref L] ∧ PersAt CP H d x ps ∧ H L = some (.lst (iv ns)) ∧ (∀ n ∈ ns, n ∈ ids x) ∧ ns.length ≤ 1024 ∧ ns.Nodup ∧ KinT x ns F ∧
  ∀ (H' : Hp) (t : Addr) (kvs : List (List Key × V)), Same H H' → H' t = some (.dT kvs) → TabF kvs (fullT ns F) → Q (.ref t) H'
theorem scKins : FnScope ["persons", "numbers", "table", "place", "one", "parents", "other", "both"] ["persons", "numbers"] (defScope sKins) := ⟨rfl, rfl, rfl, by decide +kernel, rfl, by decide +kernel, by decide +kernel⟩
theorem cut_to (xs : List V) (i : Nat) (h : i ≤ xs.length) : cutV xs none (some (i : Int)) = xs.take i := by
  unfold cutV
  have e1 : HT.sIx xs.length 0 none = 0 := rfl
  have e2 : HT.sIx xs.length xs.length (some (i : Int)) = i := by
    show (if (i : Int) < 0 then ((i : Int) + (xs.length : Int)).toNat else min (i : Int).toNat xs.length) = i
    rw [if_neg (by omega), Int.toNat_natCast]
    omega
  rw [e1, e2, List.drop_zero, Nat.sub_zero]
theorem ok_kins (T : Txt K mg CU CN fN CP fP) (hC : ∃ t, mg "CERTAINTY" = some (.int 4611686018427387904 t)) (d : Def K mg "kinships" ["persons", "numbers"] sKins) (O : Prom P w K mg base CX0 1 "kinship_in" ["table", "one", "other"] spKinIn) : Prom P w K mg base CX0 2 "kinships" ["persons", "numbers"] (spKins CP) := by
  refine d.calm scKins (fun vs H Q E h => ?_) (fun f cdv A outer s H vs Q E hr h => ?_)
  · obtain ⟨d, L, x, ps, ns, F, rfl, _⟩ := h
    rfl
  · obtain ⟨d, L, x, ps, ns, F, rfl, hp, hL, hin, hlen, hnd, KT, k⟩ := h
    have hu := hu_of hr
    refine ⟨_, pss_cons (ps_set (i := 2) scKins.nd rfl (Or.inl rfl) pe_dnewT)
      (pss_cons (ps_for PassesOwn.never rfl (pi_enum (by rfl) T.enum (pa_cons (pv 1) pa_nil)) (pg_tup rfl (pgs_cons (pg_name (i := 3) scKins.nd rfl (Or.inl rfl)) (pgs_cons (pg_name (i := 4) scKins.nd rfl (Or.inl rfl)) pgs_nil)))
        (pss_cons (ps_set (i := 5) scKins.nd rfl (Or.inl rfl) (pe_fld (pe_dget hu (pv 0) (pv 4) (fun _ _ => rfl)) rfl))
        (pss_cons (ps_for PassesOwn.never rfl (pi_list (pe_slice sl_list (pv 1) po_none (po_some (pv 3)))) (pg_name (i := 6) scKins.nd rfl (Or.inl rfl))
          (pss_cons (ps_set (i := 7) scKins.nd rfl (Or.inl rfl) (pe_op op_add (pe_fc O hr (pa_cons (pv 2) (pa_cons (pe_ix ix_tup (pv 5) pe_int (fun _ _ => rfl)) (pa_cons (pv 6) pa_nil)))) (pe_fc O hr (pa_cons (pv 2) (pa_cons (pe_ix ix_tup (pv 5) pe_int (fun _ _ => rfl)) (pa_cons (pv 6) pa_nil))))))
          (pss_cons (ps_dput hu (pv 2) (pe_tup (pa_cons (pv 4) (pa_cons (pv 6) pa_nil))) (pe_op op_fdiv (pv 7) pe_int) rfl)
          (pss_one (ps_dput hu (pv 2) (pe_tup (pa_cons (pv 6) (pa_cons (pv 4) pa_nil))) (pe_op op_fdiv (pv 7) pe_int) rfl)))))
        (pss_one (ps_dput hu (pv 2) (pe_tup (pa_cons (pv 4) (pa_cons (pv 4) pa_nil))) (pe_op op_fdiv (pe_op op_add (pe_gi hC) (pe_fc O hr (pa_cons (pv 2) (pa_cons (pe_ix ix_tup (pv 5) pe_int (fun _ _ => rfl)) (pa_cons (pe_ix ix_tup (pv 5) pe_int (fun _ _ => rfl)) pa_nil))))) pe_int) rfl)))))
      (pss_one (ps_ret (pv 2)))), ?_⟩
    intro t ht
    have s0 : Same H (upd H t (.dT [])) := Same.new ht
    have lkT : ∀ {kvs : List (List Key × V)} {f : Nat → Nat → Option Nat}, TabF kvs f → ∀ a b : Nat, (valV kvs (k2 a b)).getD (.int 0) = .int (((f a b).getD 0 : Nat) : Int) := fun {kvs f} h a b => by
      rw [h a b]
      cases f a b <;> rfl
    refine ⟨_, rfl, L, _, rfl, SqL.of (s0 _ _ hL), for_enum0 (K := K) (a := L) (xs := iv ns) (fun i σ H' => ∃ v3 v4 v5 v6 v7 kvs, σ = [some (.ref d), some (.ref L), some (.ref t), v3, v4, v5, v6, v7] ∧ Same H H' ∧ H' t = some (.dT kvs) ∧ TabF kvs (fullT (ns.take i) F) ∧ kvs.length ≤ i * i)
      ⟨none, none, none, none, none, [], rfl, s0, upd_same, fun a b => ?_, Nat.le_refl _⟩ (fun i σ H' _ ⟨_, _, _, _, _, _, _, sm, _⟩ => SqL.of (sm _ _ hL)) ?_ ?_⟩
    · show none = (if a ∈ ns.take 0 ∧ b ∈ ns.take 0 then some (F a b) else none).map _
      rw [if_neg (by simp)]
      rfl
    · rintro i y σ H' T1 hi ⟨v3, v4, v5, v6, v7, kvs, rfl, sm, htb, tf, hl⟩ hT1
      obtain ⟨u, hu1, rfl⟩ := iv_get hi
      have il : i < ns.length := (List.getElem?_eq_some_iff.mp hu1).1
      have um : u ∈ ns := List.mem_of_getElem? hu1
      have u0 : u ≠ 0 := fun z => KT.z0 (z ▸ um)
      have ut : u ∉ ns.take i := fun h => by
        obtain ⟨j, hj, ej⟩ := List.getElem_of_mem h
        rw [List.length_take] at hj
        have ej2 : ns[j]'(by omega) = u := by rw [← ej, List.getElem_take]
        obtain ⟨i2, e2⟩ := List.getElem?_eq_some_iff.mp hu1
        exact List.pairwise_iff_getElem.mp hnd j i (by omega) i2 (by omega) (ej2.trans e2.symm)
      have sT : Same H (upd H' T1 (.tup [.int (i : Nat), .int (u : Int)])) := sm.trans (Same.new hT1)
      have htb1 : upd H' T1 (.tup [.int (i : Nat), .int (u : Int)]) t = some (.dT kvs) := by rw [upd_ne (ne_of_none htb hT1)]; exact htb
      refine ⟨T1, _, rfl, SqT.of upd_same, rfl, _, _, rfl, _, _, rfl, rfl, ?_⟩
      generalize upd H' T1 (.tup [.int (i : Nat), .int (u : Int)]) = H1 at sT htb1 ⊢
      obtain ⟨pu, hpu⟩ := get_some (hin u um)
      obtain ⟨aP, kP, hget, ⟨dx, ab, ad, ap, hins, _, _, hpar⟩, hmem⟩ := (hp.same sT).get hpu
      have hpar : H1 ap = some (.tup (iv [told pu.father, told pu.mother])) := hpar
      have efa : told pu.father = faOf x u := by unfold faOf; rw [hpu]; rfl
      have emo : told pu.mother = moOf x u := by unfold moOf; rw [hpu]; rfl
      rw [efa, emo] at hpar
      have pIn : ∀ p, (faOf x u = p ∨ moOf x u = p) → p = 0 ∨ p ∈ ns.take i := fun p h => by
        by_cases z : p = 0
        · exact .inl z
        · exact .inr (KT.par i u hu1 p z h)
      let gij : Nat → Nat → Nat → Option Nat := fun j a b => if (a ∈ ns.take i ∧ b ∈ ns.take i) ∨ (a = u ∧ b ∈ ns.take j) ∨ (b = u ∧ a ∈ ns.take j) then some (F a b) else none
      have n0 : ∀ j, 0 ∉ ns.take j := fun j h => KT.z0 (List.mem_of_mem_take h)
      have gval : ∀ j a b, (a = 0 ∨ a ∈ ns.take i) → (b = 0 ∨ b ∈ ns.take i) → (gij j a b).getD 0 = F a b := fun j a b ha hb => by
        show (if (a ∈ ns.take i ∧ b ∈ ns.take i) ∨ (a = u ∧ b ∈ ns.take j) ∨ (b = u ∧ a ∈ ns.take j) then some (F a b) else none).getD 0 = F a b
        rcases ha with e | ha
        · subst e
          rw [if_neg, KT.z1]
          · rfl
          · rintro (⟨z, _⟩ | ⟨z, _⟩ | ⟨_, z⟩)
            · exact n0 i z
            · exact u0 z.symm
            · exact n0 j z
        · rcases hb with e | hb
          · subst e
            rw [if_neg, KT.z2]
            · rfl
            · rintro (⟨_, z⟩ | ⟨_, z⟩ | ⟨z, _⟩)
              · exact n0 i z
              · exact n0 j z
              · exact u0 z.symm
          · rw [if_pos (.inl ⟨ha, hb⟩)]
            rfl
      refine ⟨_, rfl, _, rfl, d, _, rfl, hget, aP, CP, dx, _, _, rfl, hins, T.pC, T.pp, pf_parents _ _ _ _ _ _, ?_⟩
      refine ⟨_, rfl, _, rfl, _, rfl, L, _, rfl, SqL.of (sT _ _ hL), fun p hp2 => ?_⟩
      rw [cut_to _ i (by rw [iv_len]; omega), show (iv ns).take i = iv (ns.take i) by unfold iv; rw [List.map_take]]
      have sp2 : Same H (upd H1 p (.lst (iv (ns.take i)))) := sT.trans (Same.new hp2)
      have npt : p ≠ t := (ne_of_none htb1 hp2).symm
      have npa : p ≠ ap := (ne_of_none hpar hp2).symm
      refine ⟨p, rfl, ⟨_, SqL.of upd_same⟩, for_list (K := K) (a := p) (xs := iv (ns.take i)) (fun j σ H' => ∃ v6 v7 kvs, σ = [some (.ref d), some (.ref L), some (.ref t), some (.int (i : Int)), some (.int (u : Int)), some (.ref ap), v6, v7] ∧ Same H H' ∧ H' p = some (.lst (iv (ns.take i))) ∧ H' ap = some (.tup (iv [faOf x u, moOf x u])) ∧ H' t = some (.dT kvs) ∧ TabF kvs (gij j) ∧ kvs.length ≤ i * i + 2 * j)
        ⟨_, _, kvs, rfl, sp2, upd_same, by rw [upd_ne npa.symm]; exact hpar, by rw [upd_ne npt.symm]; exact htb1, tf.imp fun a b => ?_, by omega⟩ (fun j σ H' _ ⟨_, _, _, _, _, q, _⟩ => SqL.of q) ?_ ?_⟩
      · show (if a ∈ ns.take i ∧ b ∈ ns.take i then some (F a b) else none) = if (a ∈ ns.take i ∧ b ∈ ns.take i) ∨ (a = u ∧ b ∈ ns.take 0) ∨ (b = u ∧ a ∈ ns.take 0) then some (F a b) else none
        simp
      · rintro j y σ H2 hj ⟨v6, v7, kvs2, rfl, sm2, hp3, hpar2, htb2, tf2, hl2⟩
        obtain ⟨v, hv, rfl⟩ := iv_get hj
        have jl : j < i := by
          have := (List.getElem?_eq_some_iff.mp hv).1
          rw [List.length_take] at this
          omega
        have vm : v ∈ ns.take i := List.mem_of_getElem? hv
        have hv2 : ns[j]? = some v := by rw [List.getElem?_take_of_lt jl] at hv; exact hv
        obtain ⟨off1, off2⟩ := KT.off i u v hu1 vm
        refine ⟨_, rfl, _, rfl, ap, _, _, _, rfl, rfl, SqT.of hpar2, atI_nat (j := 0) rfl, _, rfl, t, faOf x u, v, kvs2, rfl, htb2, fun H3 s3 => ?_⟩
        rw [lkT tf2, gval j _ _ (pIn _ (.inl rfl)) (.inr vm)]
        refine ⟨_, rfl, _, rfl, ap, _, _, _, rfl, rfl, SqT.of (s3 _ _ hpar2), atI_nat (j := 1) rfl, _, rfl, t, moOf x u, v, kvs2, rfl, s3 _ _ htb2, fun H4 s4 => ?_⟩
        rw [lkT tf2, gval j _ _ (pIn _ (.inr rfl)) (.inr vm)]
        have S4 := (sm2.trans s3).trans s4
        have s24 := s3.trans s4
        have i31 : i ≤ 1024 := by omega
        have ii : i * i ≤ 1024 * 1024 := Nat.mul_le_mul i31 i31
        have hs : sizeLine = 16777216 := sizeLine_eq
        have eq2 : ((F (faOf x u) v : Nat) : Int) + ((F (moOf x u) v : Nat) : Int) = ((F (faOf x u) v + F (moOf x u) v : Nat) : Int) := by omega
        refine ⟨_, _, rfl, rfl, ?_⟩
        -- table[one, other]
        refine ⟨_, rfl, _, _, rfl, rfl, (by show (0 : Int) < 2 ∧ (2 : Int) < 1073741824; decide), _, rfl, _, rfl, _, rfl, (by show 2 ≤ sizeLine; decide), fun q1 hq1 => ?_⟩
        have ev : (((F (faOf x u) v : Nat) : Int) + ((F (moOf x u) v : Nat) : Int)) / 2 = ((F u v : Nat) : Int) := by rw [off1]; omega
        have sq1 : Same H4 (upd H4 q1 (.tup [.int (u : Int), .int (v : Int)])) := Same.new hq1
        have dp1 := DPut.t (k := k2 u v) (b := q1) (v := .int ((F u v : Nat) : Int)) (sq1 _ _ (s24 _ _ htb2)) upd_same (by omega)
        rw [← ev] at dp1
        refine ⟨t, _, rfl, dp1, ?_⟩
        rw [ev]
        have tf3 := tf2.put u v (F u v)
        have hl3 := length_putK kvs2 (k2 u v) (.int ((F u v : Nat) : Int))
        generalize putK kvs2 (k2 u v) (.int ((F u v : Nat) : Int)) = kvs3 at tf3 hl3 ⊢
        have h5t : upd (upd H4 q1 (.tup [.int (u : Int), .int (v : Int)])) t (.dT kvs3) t = some (.dT kvs3) := upd_same
        have S5 : Same H (upd (upd H4 q1 (.tup [.int (u : Int), .int (v : Int)])) t (.dT kvs3)) := (S4.trans sq1).young ht
        have hp5 : upd (upd H4 q1 (.tup [.int (u : Int), .int (v : Int)])) t (.dT kvs3) p = some (.lst (iv (ns.take i))) := by rw [upd_ne npt]; exact sq1 _ _ (s24 _ _ hp3)
        have nat : ap ≠ t := ne_of hpar2 htb2 (by intro z; cases z)
        have ha5 : upd (upd H4 q1 (.tup [.int (u : Int), .int (v : Int)])) t (.dT kvs3) ap = some (.tup (iv [faOf x u, moOf x u])) := by rw [upd_ne nat]; exact sq1 _ _ (s24 _ _ hpar2)
        generalize upd (upd H4 q1 (.tup [.int (u : Int), .int (v : Int)])) t (.dT kvs3) = H5 at h5t S5 hp5 ha5 ⊢
        -- table[other, one]
        refine ⟨_, rfl, _, _, rfl, rfl, (by show (0 : Int) < 2 ∧ (2 : Int) < 1073741824; decide), _, rfl, _, rfl, _, rfl, (by show 2 ≤ sizeLine; decide), fun q2 hq2 => ?_⟩
        have sq2 : Same H5 (upd H5 q2 (.tup [.int (v : Int), .int (u : Int)])) := Same.new hq2
        have dp2 := DPut.t (k := k2 v u) (b := q2) (v := .int ((F u v : Nat) : Int)) (sq2 _ _ h5t) upd_same (by omega)
        rw [← ev] at dp2
        refine ⟨t, _, rfl, dp2, ?_⟩
        rw [ev, ← off2]
        have tf4 := tf3.put v u (F v u)
        have hl4 := length_putK kvs3 (k2 v u) (.int ((F v u : Nat) : Int))
        refine ⟨_, _, _, rfl, (S5.trans sq2).young ht, by rw [upd_ne npt]; exact sq2 _ _ hp5, by rw [upd_ne nat]; exact sq2 _ _ ha5, upd_same, tf4.imp fun a b => ?_, by omega⟩
        show (if a = v ∧ b = u then some (F v u) else if a = u ∧ b = v then some (F u v) else if (a ∈ ns.take i ∧ b ∈ ns.take i) ∨ (a = u ∧ b ∈ ns.take j) ∨ (b = u ∧ a ∈ ns.take j) then some (F a b) else none) = if (a ∈ ns.take i ∧ b ∈ ns.take i) ∨ (a = u ∧ b ∈ ns.take (j + 1)) ∨ (b = u ∧ a ∈ ns.take (j + 1)) then some (F a b) else none
        have tj : ∀ z, z ∈ ns.take (j + 1) ↔ z ∈ ns.take j ∨ z = v := fun z => by rw [List.take_add_one, hv2, List.mem_append]; simp
        simp only [tj]
        by_cases c1 : a = v ∧ b = u
        · rw [if_pos c1, c1.1, c1.2, if_pos (.inr (.inr ⟨rfl, .inr rfl⟩))]
        · rw [if_neg c1]
          by_cases c2 : a = u ∧ b = v
          · rw [if_pos c2, c2.1, c2.2, if_pos (.inr (.inl ⟨rfl, .inr rfl⟩))]
          · rw [if_neg c2]
            by_cases c3 : (a ∈ ns.take i ∧ b ∈ ns.take i) ∨ (a = u ∧ b ∈ ns.take j) ∨ (b = u ∧ a ∈ ns.take j)
            · rw [if_pos c3, if_pos]
              rcases c3 with z | ⟨z1, z2⟩ | ⟨z1, z2⟩
              · exact .inl z
              · exact .inr (.inl ⟨z1, .inl z2⟩)
              · exact .inr (.inr ⟨z1, .inl z2⟩)
            · rw [if_neg c3, if_neg]
              rintro (z | ⟨z1, z2 | z2⟩ | ⟨z1, z2 | z2⟩)
              · exact c3 (.inl z)
              · exact c3 (.inr (.inl ⟨z1, z2⟩))
              · exact c2 ⟨z1, z2⟩
              · exact c3 (.inr (.inr ⟨z1, z2⟩))
              · exact c1 ⟨z2, z1⟩
      · rintro σ H2 ⟨v6, v7, kvs2, rfl, sm2, hp3, hpar2, htb2, tf2, hl2⟩
        have ei : (iv (ns.take i)).length = i := by rw [iv_len, List.length_take]; omega
        rw [ei] at tf2 hl2
        refine ⟨_, rfl, _, rfl, ap, _, _, _, rfl, rfl, SqT.of hpar2, atI_nat (j := 0) rfl, _, rfl, ap, _, _, _, rfl, rfl, SqT.of hpar2, atI_nat (j := 1) rfl, t, faOf x u, moOf x u, kvs2, rfl, htb2, fun H3 s3 => ?_⟩
        rw [lkT tf2, gval i _ _ (pIn _ (.inl rfl)) (pIn _ (.inr rfl))]
        have i31 : i ≤ 1024 := by omega
        have ii : i * i ≤ 1024 * 1024 := Nat.mul_le_mul i31 i31
        have hs : sizeLine = 16777216 := sizeLine_eq
        refine ⟨_, _, rfl, rfl, _, _, rfl, rfl, (by show (0 : Int) < 2 ∧ (2 : Int) < 1073741824; decide), _, rfl, _, rfl, _, rfl, (by show 2 ≤ sizeLine; decide), fun q1 hq1 => ?_⟩
        have sq1 : Same H3 (upd H3 q1 (.tup [.int (u : Int), .int (u : Int)])) := Same.new hq1
        have ev : ((4611686018427387904 : Int) + ((F (faOf x u) (moOf x u) : Nat) : Int)) / 2 = ((F u u : Nat) : Int) := by
          rw [KT.self u um]
          omega
        have dp1 := DPut.t (k := k2 u u) (b := q1) (v := .int ((F u u : Nat) : Int)) (sq1 _ _ (s3 _ _ htb2)) upd_same (by omega)
        rw [← ev] at dp1
        refine ⟨t, _, rfl, dp1, ?_⟩
        rw [ev]
        have tf3 := tf2.put u u (F u u)
        have hl3 := length_putK kvs2 (k2 u u) (.int ((F u u : Nat) : Int))
        refine ⟨_, _, _, _, _, _, rfl, ((sm2.trans s3).trans sq1).young ht, upd_same, tf3.imp fun a b => ?_, ?_⟩
        · show (if a = u ∧ b = u then some (F u u) else if (a ∈ ns.take i ∧ b ∈ ns.take i) ∨ (a = u ∧ b ∈ ns.take i) ∨ (b = u ∧ a ∈ ns.take i) then some (F a b) else none) = if a ∈ ns.take (i + 1) ∧ b ∈ ns.take (i + 1) then some (F a b) else none
          have tj : ∀ z, z ∈ ns.take (i + 1) ↔ z ∈ ns.take i ∨ z = u := fun z => by rw [List.take_add_one, hu1, List.mem_append]; simp
          simp only [tj]
          by_cases c1 : a = u ∧ b = u
          · rw [if_pos c1, c1.1, c1.2, if_pos ⟨.inr rfl, .inr rfl⟩]
          · rw [if_neg c1]
            by_cases c3 : (a ∈ ns.take i ∧ b ∈ ns.take i) ∨ (a = u ∧ b ∈ ns.take i) ∨ (b = u ∧ a ∈ ns.take i)
            · rw [if_pos c3, if_pos]
              rcases c3 with z | ⟨z1, z2⟩ | ⟨z1, z2⟩
              · exact ⟨.inl z.1, .inl z.2⟩
              · exact ⟨.inr z1, .inl z2⟩
              · exact ⟨.inl z2, .inr z1⟩
            · rw [if_neg c3, if_neg]
              rintro ⟨z1 | z1, z2 | z2⟩
              · exact c3 (.inl ⟨z1, z2⟩)
              · exact c3 (.inr (.inr ⟨z2, z1⟩))
              · exact c3 (.inr (.inl ⟨z1, z2⟩))
              · exact c1 ⟨z1, z2⟩
        · have e : (i + 1) * (i + 1) = i * i + 2 * i + 1 := by rw [Nat.succ_mul, Nat.mul_succ]; omega
          rw [e]
          omega
    · rintro σ H' ⟨v3, v4, v5, v6, v7, kvs, rfl, sm, htb, tf, hl⟩
      rw [iv_len, List.take_length] at tf
      exact ⟨_, rfl, k H' t kvs sm htb tf⟩
end
end Kf
namespace Kf
open PySem PySem.Spec PyProof.Rows L2 KX
open Sf52 (Bytes Families)
open Sf91 (ids parentsOf tall kin)
theorem anc_trans {x : Families} {u v w : Nat} (h : Anc x u v) (g : Anc x v w) : Anc x u w := by
  induction g with
  | one z => exact .more h z
  | more _ z ih => exact .more ih z
theorem anc_ids {x : Families} (C : Closed x) {u v : Nat} (h : Anc x u v) : v ∈ ids x := by
  cases h with
  | one z => exact C _ _ z
  | more _ z => exact C _ _ z
theorem anc_nodup {x : Families} (CL : Closed x) (a : Nat) : (Sf91.ancestors x a).Nodup := by
  obtain ⟨l2, e, S⟩ := gather_srch CL (x.length + 2) [a] [] (Srch.start x a) (by simp; omega)
  unfold Sf91.ancestors
  rw [e]
  exact S.nd
theorem ancN_lt {x : Families} (CL : Closed x) (NS : NoSelf x) {u v : Nat} (h : Anc x v u) : ancN x u < ancN x v := by
  have nu : u ∉ Sf91.ancestors x u := fun z => NS u (anc_ids CL h) ((mem_ancestors CL u u).mp z)
  have := len_le_of_sub (l := u :: Sf91.ancestors x u) (m := Sf91.ancestors x v) (List.nodup_cons.mpr ⟨nu, anc_nodup CL u⟩) fun n hn => by
    rcases List.mem_cons.mp hn with e | e
    · rw [e]; exact (mem_ancestors CL v u).mpr h
    · exact (mem_ancestors CL v n).mpr (anc_trans h ((mem_ancestors CL u n).mp e))
  exact this
theorem kinT_of {x : Families} (FO : FamOk x) (CL : Closed x) (L : Low x) (NS : NoSelf x) {a b : Nat} (ha : a ∈ ids x) (hb : b ∈ ids x) {ns : List Nat} (nd : ns.Nodup) (mem : ∀ n, n ∈ ns ↔ Fam2 x a b n) (pw : ns.Pairwise fun a b => ancN x a ≤ ancN x b) :
    ∃ F, KinT x ns F ∧ kin x a b = F a b := by
  obtain ⟨r, F, R, T, e⟩ := kin_tab FO CL L ha hb
  have at_ : ∀ {i u}, ns[i]? = some u → u ∈ ns := fun h => List.mem_of_getElem? h
  have lo : ∀ {i j u v}, ns[i]? = some u → ns[j]? = some v → i < j → ancN x u ≤ ancN x v := fun {i j u v} h1 h2 lt => by
    obtain ⟨i1, i2⟩ := List.getElem?_eq_some_iff.mp h1
    obtain ⟨j1, j2⟩ := List.getElem?_eq_some_iff.mp h2
    have := List.pairwise_iff_getElem.mp pw i j i1 j1 lt
    rw [i2, j2] at this
    exact this
  have ne : ∀ {i j u v}, ns[i]? = some u → ns[j]? = some v → i < j → u ≠ v := fun {i j u v} h1 h2 lt => by
    obtain ⟨i1, i2⟩ := List.getElem?_eq_some_iff.mp h1
    obtain ⟨j1, j2⟩ := List.getElem?_eq_some_iff.mp h2
    have := List.pairwise_iff_getElem.mp nd i j i1 j1 lt
    rw [i2, j2] at this
    exact this
  have tk : ∀ {i v}, v ∈ ns.take i → ∃ j, j < i ∧ ns[j]? = some v := fun {i v} h => by
    obtain ⟨j, hj, ej⟩ := List.getElem_of_mem h
    rw [List.length_take] at hj
    refine ⟨j, by omega, ?_⟩
    rw [← ej, List.getElem_take, List.getElem?_eq_getElem]
  refine ⟨F, ⟨fun h => R.zero ((mem 0).mp h), T.z1, T.z2, fun i u hu p p0 hp => ?_, fun i u v hu hv => ?_, fun u hu => T.self u ((mem u).mp hu)⟩, e⟩
  · have pp : p ∈ parentsOf x u := (pa_iff FO u p).mpr ⟨p0, hp⟩
    have pm : p ∈ ns := (mem p).mpr (fam2_up ((mem u).mp (at_ hu)) pp)
    have lt := ancN_lt CL NS (.one pp)
    obtain ⟨j, hj, ej⟩ := List.getElem_of_mem pm
    have hj2 : ns[j]? = some p := by rw [List.getElem?_eq_getElem hj, ej]
    rcases Nat.lt_trichotomy j i with z | z | z
    · refine List.mem_of_getElem? (i := j) ?_
      rw [List.getElem?_take_of_lt z]
      exact hj2
    · rw [z, hu] at hj2
      rw [Option.some.inj hj2] at lt
      omega
    · have := lo hu hj2 z
      omega
  · obtain ⟨j, lt, hj⟩ := tk hv
    have su := (mem u).mp (at_ hu)
    have sv := (mem v).mp (at_ hj)
    have le := lo hj hu lt
    have n := ne hj hu lt
    refine ⟨tab_step R T (Anc x) (fun v u _ u0 h => .one ((pa_iff FO v u).mpr ⟨u0, h⟩)) (fun v p u _ p0 h g => anc_head ((pa_iff FO v p).mpr ⟨p0, h⟩) g) (r u + r v + 1) u v su sv (Nat.lt_succ_self _) n.symm fun z => ?_, tab_sym R T (.inr sv) (.inr su)⟩
    have := ancN_lt CL NS z
    omega
section
variable {P : Program} {w : World} {K : PySem.W.Frag} {mg : Str → Option Value} {base : Heap} {CU CN fN CP fP CW T0 : Addr}
abbrev sKinOf : Stmt := top 49
def spKinOf (CP T0 : Addr) : Sp := fun vs H Q _ => ∃ (d : Addr) (a b : Nat) (x : Families) (ps : List Addr), vs = [.ref d, .int (a : Int), .int (b : Int)] ∧ PersAt CP H d x ps ∧ FamOk x ∧ Closed x ∧ Low x ∧ NoSelf x ∧ a ∈ ids x ∧ b ∈ ids x ∧ H T0 = some (.tbl #[]) ∧
  ∀ H' : Hp, Q (.int ((kin x a b : Nat) : Int)) H'
theorem scKinOf : FnScope ["persons", "a", "b", "family"] ["persons", "a", "b"] (defScope sKinOf) := ⟨rfl, rfl, rfl, by decide +kernel, rfl, by decide +kernel, by decide +kernel⟩
theorem ok_kinOf (T : Txt K mg CU CN fN CP fP) (d : Def K mg "kinship_of" ["persons", "a", "b"] sKinOf) (O1 : Prom P w K mg base CX0 3 "upwards" ["persons", "number"] (spUp CP)) (O2 : Prom P w K mg base CX0 6 "elders_first" ["persons", "numbers"] (spElders CP T0))
    (O3 : Prom P w K mg base CX0 2 "kinships" ["persons", "numbers"] (spKins CP)) : Prom P w K mg base CX0 7 "kinship_of" ["persons", "a", "b"] (spKinOf CP T0) := by
  refine d.calm scKinOf (fun vs H Q E h => ?_) (fun f cdv A outer s H vs Q E hr h => ?_)
  · obtain ⟨d, a, b, x, ps, rfl, _⟩ := h
    rfl
  · obtain ⟨d, a, b, x, ps, rfl, hp, FO, CL, LW, NS, ha, hb, hT, k⟩ := h
    have hu := hu_of hr
    have hr2 : Room 2 _ := hr.mono (by decide)
    have hr3 : Room 3 _ := hr.mono (by decide)
    refine ⟨_, pss_cons (ps_set (i := 3) scKinOf.nd rfl (Or.inl rfl) (pe_fc O1 hr3 (pa_cons (pv 0) (pa_cons (pv 1) pa_nil))))
      (pss_cons (ps_expr (pe_bm PySem.F.plainAttrs_dict PySem.F.slot_dict_update PySem.F.type_dict_update mt_dupd (pv 3) (pa_cons (pe_fc O1 hr3 (pa_cons (pv 0) (pa_cons (pv 2) pa_nil))) pa_nil)))
      (pss_one (ps_ret (pe_dget hu (pe_fc O3 hr2 (pa_cons (pv 0) (pa_cons (pe_fc O2 hr (pa_cons (pv 0) (pa_cons (pv 3) pa_nil))) pa_nil))) (pe_tup (pa_cons (pv 1) (pa_cons (pv 2) pa_nil))) (fun _ _ => rfl))))), ?_⟩
    refine ⟨_, rfl, _, rfl, d, a, x, ps, rfl, hp, FO, CL, ha, fun H1 f1 l1 s1 n1 h1 m1 nd1 len1 => ?_⟩
    refine ⟨_, rfl, .inr (.inr (.inl ⟨rfl, .inl ⟨_, h1⟩⟩)), _, rfl, _, rfl, d, b, x, ps, rfl, hp.same s1, FO, CL, hb, fun H2 f2 l2 s2 n2 h2 m2 nd2 len2 => ?_⟩
    have h12 := s2 _ _ h1
    obtain ⟨l, el, ml, ndl⟩ := kn_merge l2 l1
    have nf : f1 ≠ f2 := fun e => by rw [← e, h1] at n2; cases n2
    refine ⟨f1, f2, _, _, rfl, rfl, h12, h2, nf, ?_, ?_⟩
    · rw [kn_len, kn_len]
      exact Nat.le_of_lt (sz (by omega))
    rw [el]
    have S2 : Same H (upd H2 f1 (.dK (kn l))) := (s1.trans s2).young n1
    have hf : upd H2 f1 (.dK (kn l)) f1 = some (.dK (kn l)) := upd_same
    generalize upd H2 f1 (.dK (kn l)) = H3 at S2 hf ⊢
    have mem : ∀ n, n ∈ l ↔ Fam2 x a b n := fun n => by rw [ml, m1, m2]; rfl
    have hin : ∀ n ∈ l, n ∈ ids x := fun n h => fam2_ids CL ha hb ((mem n).mp h)
    have hT3 := S2 _ _ hT
    refine ⟨_, rfl, _, rfl, _, rfl, d, f1, x, ps, l, rfl, hp.same S2, FO, CL, hT3, hf, hin, fun H4 D ns pm pw sb hD => ?_⟩
    have ndn : ns.Nodup := pm.nodup_iff.mpr (ndl nd1)
    have memn : ∀ n, n ∈ ns ↔ Fam2 x a b n := fun n => by rw [pm.mem_iff]; exact mem n
    have hinn : ∀ n ∈ ns, n ∈ ids x := fun n h => hin n (pm.mem_iff.mp h)
    obtain ⟨F, KT, ek⟩ := kinT_of FO CL LW NS ha hb ndn memn pw
    have FOl := FO.len
    have lenn : ns.length ≤ 1024 := by
      have := len_le_of_sub ndn hinn
      have e : (ids x).length = x.length := by unfold ids; rw [List.length_map]
      omega
    refine ⟨d, D, x, ps, ns, F, rfl, (hp.same S2).tbl hT3 sb, hD, hinn, lenn, ndn, KT, fun H5 t kvs s5 ht tf => ?_⟩
    refine ⟨_, rfl, _, rfl, (by show 2 ≤ sizeLine; decide), fun q hq => ⟨t, .int ((F a b : Nat) : Int), rfl, ?_, ?_⟩⟩
    · have g := DGet.t (b := q) (k := k2 a b) (show upd H5 q (.tup [.int (a : Int), .int (b : Int)]) t = some (.dT kvs) by rw [upd_ne (ne_of_none ht hq)]; exact ht) upd_same
      have ev : valV kvs (k2 a b) = some (.int ((F a b : Nat) : Int)) := by
        rw [tf a b]
        unfold fullT
        rw [if_pos ⟨(memn a).mpr (.inl (.inl rfl)), (memn b).mpr (.inr (.inl rfl))⟩]
        rfl
      rw [ev] at g
      exact g
    · rw [← ek]
      exact k _
abbrev sTellKin : Stmt := top 58
def spTellKin (CP CW T0 : Addr) : Sp := fun vs H Q E => ∃ (d : Addr) (a b : Int) (x : Families) (ps : List Addr), vs = [.ref d, .int a, .int b] ∧ H d = some (.dK (KvOf x ps)) ∧ FamIn CP H x ps ∧ FamOk x ∧ Closed x ∧ Low x ∧ NoSelf x ∧ H T0 = some (.tbl #[]) ∧
  (known x a = true ∧ known x b = true → ∀ (H' : Hp) (p : Addr), H' p = some (.lst [.int 0, .int ((kin x a.toNat b.toNat : Nat) : Int)]) → Q (.ref p) H') ∧ (¬ (known x a = true ∧ known x b = true) → ∀ H', Same H H' → E (.ref CW) none H')
theorem scTellKin : FnScope ["persons", "a", "b"] ["persons", "a", "b"] (defScope sTellKin) := ⟨rfl, rfl, rfl, by decide +kernel, rfl, by decide +kernel, by decide +kernel⟩
theorem ok_tellKin (T : Txt K mg CU CN fN CP fP) (TW : TxtW K mg CN CW) (d : Def K mg "tell_kinship" ["persons", "a", "b"] sTellKin) (O1 : Prom P w K mg base (CXo P w) 1 "refuse_unknown" ["persons", "numbers"] (spUnknown K CP CW))
    (O2 : Prom P w K mg base CX0 7 "kinship_of" ["persons", "a", "b"] (spKinOf CP T0)) : Prom P w K mg base (CXo P w) 8 "tell_kinship" ["persons", "a", "b"] (spTellKin CP CW T0) := by
  refine d.wild scTellKin (fun vs H Q E h => ?_) (fun f cdv A outer s H vs Q E hr h => ?_)
  · obtain ⟨d, a, b, x, ps, rfl, _⟩ := h
    rfl
  · obtain ⟨d, a, b, x, ps, rfl, hd, F, FO, CL, LW, NS, hT, k1, k2⟩ := h
    have hr1 : Room 1 _ := hr.mono (by decide)
    refine ⟨_, pss_cons (ps_expr (pe_f O1 hr1 (passes_of throws_body rfl) (pa_cons (pv 0) (pa_cons (pe_tup (pa_cons (pv 1) (pa_cons (pv 2) pa_nil))) pa_nil))))
      (pss_one (ps_ret (pe_lst (pa_cons pe_int (pa_cons (pe_fc O2 hr (pa_cons (pv 0) (pa_cons (pv 1) (pa_cons (pv 2) pa_nil)))) pa_nil))))), ?_⟩
    refine ⟨_, rfl, _, rfl, _, rfl, (by show 2 ≤ sizeLine; decide), fun t ht => ?_⟩
    have s0 : Same H (upd H t (.tup [.int a, .int b])) := Same.new ht
    refine ⟨d, t, x, ps, [a, b], rfl, ⟨.inl (s0 _ _ hd), F.same s0⟩, SqT.of upd_same, (by show 2 ≤ 4000; decide), fun hk H1 s1 => ?_, fun hk H1 s1 => ?_⟩
    · have hk : known x a = true ∧ known x b = true := by simpa using hk
      have k1 := k1 hk
      obtain ⟨na, rfl, ha⟩ := known_get hk.1
      obtain ⟨nb, rfl, hb⟩ := known_get hk.2
      have S1 := s0.trans s1
      rw [Int.toNat_natCast, Int.toNat_natCast] at k1
      refine ⟨_, rfl, _, rfl, _, rfl, d, na, nb, x, ps, rfl, ⟨.inl (S1 _ _ hd), F.same S1⟩, FO, CL, LW, NS, ha, hb, S1 _ _ hT, fun H2 => ?_⟩
      refine ⟨(by show 2 ≤ sizeLine; decide), fun l hl => k1 _ l upd_same⟩
    · have hk : ¬ (known x a = true ∧ known x b = true) := fun z => by simp [z.1, z.2] at hk
      exact k2 hk _ (s0.trans s1)
abbrev sKinship : Stmt := top 55
def kinOut (t : Bytes) (a b : Int) : List Int := match Sf91.kinship t a b with
  | .error e => [e]
  | .ok k => [0, (k : Int)]
def spKinship (T0 : Addr) (K : PySem.W.Frag) : Sp := fun vs H Q _ => ∃ (a b : Int) (p : Addr) (t : Bytes), vs = [.int a, .int b, .ref p] ∧ SqL K H p (bv t) ∧ t.length ≤ 4000 ∧ H T0 = some (.tbl #[]) ∧ ∀ (H' : Hp) (q : Addr), H' q = some (.lst ((kinOut t a b).map V.int)) → Q (.ref q) H'
theorem scKinship : FnScope ["a", "b", "text"] ["a", "b", "text"] (defScope sKinship) := ⟨rfl, rfl, rfl, by decide +kernel, rfl, by decide +kernel, by decide +kernel⟩
theorem ok_kinship {f : Addr} {fd : FuncData} (T : Txt K mg CU CN fN CP fP) (d : Fun K "kinship" "kinship" sKinship f fd) (O : Prom P w K mg base (CXo P w) 9 "answer" ["tell", "one", "other", "text"] (fun vs H Q E => spAnswer P w K mg base CP CW vs H Q E))
    (OT : Prom P w K mg base (CXo P w) 8 "tell_kinship" ["persons", "a", "b"] (spTellKin CP CW T0)) : FnOk P w K mg base (CXo P w) 10 f fd ["a", "b", "text"] (spKinship T0 K) := by
  obtain ⟨ft, fdt, hmt, hkt, hbt, GT⟩ := OT.ex
  refine d.wild scKinship (fun vs H Q E h => ?_) (fun cdv A outer s H vs Q E hr h => ?_)
  · obtain ⟨a, b, p, t, rfl, _⟩ := h
    rfl
  · obtain ⟨a, b, p, t, rfl, hA, hl, hT, k⟩ := h
    refine ⟨_, pss_one (ps_ret (pe_f O hr (passes_of throws_body rfl) (pa_cons (pe_glob (v := .ref ft) rfl hmt rfl) (pa_cons (pv 0) (pa_cons (pv 1) (pa_cons (pv 2) pa_nil)))))), ?_⟩
    refine ⟨_, rfl, _, rfl, _, rfl, ft, fdt, _, _, a, b, p, t, rfl, hkt, hbt, GT.mono (by decide), hA, hl, fun n hn H1 q hq => ?_, fun x hx FO CL H1 dd ps s1 hd F => ?_⟩
    · refine k H1 q ?_
      unfold kinOut Sf91.kinship
      rw [two_err hn]
      exact hq
    · refine ⟨dd, a, b, x, ps, rfl, hd, F, FO, CL, low_of hx, noSelf_of hx CL, s1 _ _ hT, fun hk H2 q hq => k H2 q ?_, fun en H2 s2 => ⟨rfl, fun q hq => k _ q ?_⟩⟩
      · obtain ⟨na, rfl, ha⟩ := known_get hk.1
        obtain ⟨nb, rfl, hb⟩ := known_get hk.2
        obtain ⟨pa, hpa⟩ := get_some ha
        obtain ⟨pb, hpb⟩ := get_some hb
        rw [Int.toNat_natCast, Int.toNat_natCast] at hq
        unfold kinOut Sf91.kinship
        rw [two_yes hx _ hpa hpb, (get_mem hpa).1, (get_mem hpb).1, hq]
        rfl
      · unfold kinOut Sf91.kinship
        rw [two_no hx en]
        exact upd_same
end
end Kf
namespace Kf
open PySem PySem.Spec PyProof.Rows L2 KX
theorem defL_mk {K : PySem.W.Frag} {h : Heap} {mg : Str → Option Value} {x : Str} {ps : List Str} {st : Stmt} {f c T : Addr} {oc : Value} {od an : Option Addr} {osl : Array (Option Value)} {kV doc pm ct : Value} (X : K.In h) (G : h.Ns mainGlobals mg) (a : PySem.W.nsIn K mainGlobals x = some (some (.ref f)))
    (l : K.lookup f = some ⟨oc, od, .func (PySem.W.fnOf x x (defArgs st) (defBody st) (defScope st) .none kV doc pm an (.ref c) ct), osl⟩) (hc : PySem.W.codeIn K (.ref c) x = true) (k : PySem.W.keepIn K (.ref f) = true) (hd : PySem.W.codeHdIn K c T = true)
    (b : ∀ (kV doc pm : Value) (an : Option Addr) (cdv ct : Value) (us : List Value), us.length = ps.length → bindArgs (PySem.W.fnOf x x (defArgs st) (defBody st) (defScope st) .none kV doc pm an cdv ct) ⟨us, []⟩ = pure (ps.zip us)) : DefL K mg x ps st c T :=
  ⟨f, oc, od, kV, doc, pm, an, ct, osl, PySem.W.mg_of X G a, l, hc, k, (fun_mk l hc k).binds b, hd⟩
end Kf
open PySem PySem.W PyProof.Rows
def PySem.W.Fast.tw1913077887297098450 : Nat := 0
def PySem.W.Fast.tw581389847724008449 : Nat := 0
def PySem.W.Fast.tw8577066506809862718 : Nat := 0
def PySem.W.Fast.tw6465735299384150755 : Nat := 0
def PySem.W.Fast.tw8664962866876567930 : Nat := 0
def PySem.W.Fast.tw16219407704053702115 : Nat := 0
def PySem.W.Fast.tw444455469108402555 : Nat := 0
def PySem.W.Fast.tw3655864834798947734 : Nat := 0
def PySem.W.Fast.tw5610473192834362745 : Nat := 0
def PySem.W.Fast.tw16291370322157525976 : Nat := 0
def PySem.W.Fast.tw15746002726554362224 : Nat := 0
def PySem.W.Fast.tw12158245149694284258 : Nat := 0
def PySem.W.Fast.tw18150803007054960544 : Nat := 0
local macro_rules | `(tactic| o_headS ($_ $K $as $e)) => `(tactic| o_headS (PySem.W.kmHook $K $as $e [199]))
set_option maxRecDepth 100000 in
set_option maxHeartbeats 0 in
theorem PySem.Challenge.cw_kinfolk_s03_kinship_holds : PySem.Challenge.rw_kinfolk_s03_kinship.Holds := by
  w_on; k_headS; (case hw => exact ⟨[.int 0, .int 0, .list []], by decide +kernel, by decide +kernel⟩)
  k_fillS
  refine L2.walk_specT (c0 := 203) (T0 := 199) (r := PySem.Challenge.rw_kinfolk_s03_kinship) (k := 10) (CX := fun w => L2.CXo PySem.Challenge.rw_kinfolk_s03_kinship.prog w) (ps := ["a", "b", "text"]) (sp := Kf.spKinship 199) (by decide +kernel) rfl rfl ⟨rfl, by decide, by decide⟩ (fun w h Y => ⟨PySem.W.km_in_of Y, PySem.W.km_tabs_of Y 199 (by decide)⟩) (fun w => by kernel_rfl) (fun w => by kernel_rfl) ?F ?S (fun _ _ _ _ _ z => L2.cxo_false z)
  case F =>
    intro w mg fa h Y KX G hmg
    have i0 : ∃ t, mg "ZERO" = some (.int 48 t) := by
      refine' Kf.int_mk KX G ?a_0
      (case a_0 => k_is)
    have i1 : ∃ t, mg "NINE" = some (.int 57 t) := by
      refine' Kf.int_mk KX G ?a_1
      (case a_1 => k_is)
    have i2 : ∃ t, mg "HYPHEN" = some (.int 45 t) := by
      refine' Kf.int_mk KX G ?a_2
      (case a_2 => k_is)
    have i3 : ∃ t, mg "QUESTION_MARK" = some (.int 63 t) := by
      refine' Kf.int_mk KX G ?a_3
      (case a_3 => k_is)
    have i4 : ∃ t, mg "UNTOLD" = some (.int 0 t) := by
      refine' Kf.int_mk KX G ?a_4
      (case a_4 => k_is)
    have i5 : ∃ t, mg "FEBRUARY" = some (.int 2 t) := by
      refine' Kf.int_mk KX G ?a_5
      (case a_5 => k_is)
    have i6 : ∃ t, mg "YEARS_TO_A_CHILD" = some (.int 10 t) := by
      refine' Kf.int_mk KX G ?a_6
      (case a_6 => k_is)
    have i7 : ∃ t, mg "LINE_FEED" = some (.int 10 t) := by
      refine' Kf.int_mk KX G ?a_7
      (case a_7 => k_is)
    have i8 : ∃ t, mg "HASH" = some (.int 35 t) := by
      refine' Kf.int_mk KX G ?a_8
      (case a_8 => k_is)
    have i9 : ∃ t, mg "LESS_THAN" = some (.int 60 t) := by
      refine' Kf.int_mk KX G ?a_9
      (case a_9 => k_is)
    have i10 : ∃ t, mg "FEMALE" = some (.int 102 t) := by
      refine' Kf.int_mk KX G ?a_10
      (case a_10 => k_is)
    have i11 : ∃ t, mg "MALE" = some (.int 109 t) := by
      refine' Kf.int_mk KX G ?a_11
      (case a_11 => k_is)
    have i12 : ∃ t, mg "NOT_KNOWN" = some (.int 45 t) := by
      refine' Kf.int_mk KX G ?a_12
      (case a_12 => k_is)
    have i13 : ∃ t, mg "NOBODY" = some (.int 0 t) := by
      refine' Kf.int_mk KX G ?a_13
      (case a_13 => k_is)
    have i14 : ∃ t, mg "GREATEST_NUMBER" = some (.int 9999 t) := by
      refine' Kf.int_mk KX G ?a_14
      (case a_14 => k_is)
    have i15 : ∃ t, mg "MOST_PERSONS" = some (.int 1024 t) := by
      refine' Kf.int_mk KX G ?a_15
      (case a_15 => k_is)
    have i16 : ∃ t, mg "LONGEST_LINE" = some (.int 255 t) := by
      refine' Kf.int_mk KX G ?a_16
      (case a_16 => k_is)
    have i17 : ∃ t, mg "MOST_STEPS" = some (.int 30 t) := by
      refine' Kf.int_mk KX G ?a_17
      (case a_17 => k_is)
    have tm : ∃ a, mg "LENGTHS_OF_MONTHS" = some (.ref a) ∧ ∀ H, L2.SqT (L2.KOf KX) H a (Kf.monthTab.map fun (n : Nat) => L2.V.int (n : Int)) := by
      dsimp only [L2.KOf]
      refine' Kf.tup_mk KX G ?a_18 ?l_18 ?z_18 ?v_18
      (case a_18 => k_is); (case l_18 => k_is); (case z_18 => decide); (case v_18 => exact (.cons ⟨_, rfl⟩ (.cons ⟨_, rfl⟩ (.cons ⟨_, rfl⟩ (.cons ⟨_, rfl⟩ (.cons ⟨_, rfl⟩ (.cons ⟨_, rfl⟩ (.cons ⟨_, rfl⟩ (.cons ⟨_, rfl⟩ (.cons ⟨_, rfl⟩ (.cons ⟨_, rfl⟩ (.cons ⟨_, rfl⟩ (.cons ⟨_, rfl⟩ .nil)))))))))))))
    have tb : ∃ a, mg "BLANKS" = some (.ref a) ∧ ∀ H, L2.SqT (L2.KOf KX) H a ([32, 9].map L2.V.int) := by
      dsimp only [L2.KOf]
      refine' Kf.tup_mk KX G ?a_19 ?l_19 ?z_19 ?v_19
      (case a_19 => k_is); (case l_19 => k_is); (case z_19 => decide); (case v_19 => exact (.cons ⟨_, rfl⟩ (.cons ⟨_, rfl⟩ .nil)))
    have n_len : mg "len" = none := by
      refine' Kf.no_mk KX G ?a_20
      (case a_20 => k_is)
    have n_any : mg "any" = none := by
      refine' Kf.no_mk KX G ?a_21
      (case a_21 => k_is)
    have n_zip : mg "zip" = none := by
      refine' Kf.no_mk KX G ?a_22
      (case a_22 => k_is)
    have n_enumerate : mg "enumerate" = none := by
      refine' Kf.no_mk KX G ?a_23
      (case a_23 => k_is)
    have n_range : mg "range" = none := by
      refine' Kf.no_mk KX G ?a_24
      (case a_24 => k_is)
    have n_sorted : mg "sorted" = none := by
      refine' Kf.no_mk KX G ?a_25
      (case a_25 => k_is)
    have xU : ∃ CU, mg "Unreadable" = some (.ref CU) ∧ L2.XCls (L2.KOf KX) CU ∧ PySem.W.ownIn (L2.KOf KX) "__init__" (.ref CU) = some none := by
      dsimp only [L2.KOf]
      refine' Kf.exU_mk KX G ?a_26 ?l_26 ?l2_26 ?s_26 ?k_26 ?i_26
      (case a_26 => k_is); (case l_26 => k_is); (case l2_26 => k_is); (case s_26 => rfl); (case k_26 => k_is); (case i_26 => k_is)
    have xN : ∃ CN fN, mg "NotFamilies" = some (.ref CN) ∧ L2.XCls (L2.KOf KX) CN ∧ L2.XInit (L2.KOf KX) CN fN "row" ∧ PySem.W.ownIn (L2.KOf KX) "__getattribute__" (.ref CN) = some none ∧ PySem.W.ownIn (L2.KOf KX) "__getattr__" (.ref CN) = some none := by
      dsimp only [L2.KOf]
      refine' Kf.exN_mk KX G ?a_27 ?l_27 ?l2_27 ?s_27 ?k_27 ?i_27 ?i2_27 ?i3_27 ?f_27 ?lk_27 ?c_27 ?g1_27 ?g2_27
      (case a_27 => k_is); (case l_27 => k_is); (case l2_27 => k_is); (case s_27 => rfl); (case k_27 => k_is); (case i_27 => k_is); (case i2_27 => k_is); (case i3_27 => k_is); (case f_27 => k_is); (case lk_27 => k_is); (case c_27 => k_is); (case g1_27 => k_is); (case g2_27 => k_is)
    have xP : ∃ CP fP, mg "Person" = some (.ref CP) ∧ L2.Cls (L2.KOf KX) CP ∧ L2.Mk (L2.KOf KX) CP fP ∧ Kf.DefP (L2.KOf KX) fP ∧ L2.NoAttr (L2.KOf KX) CP "row" ∧ L2.NoAttr (L2.KOf KX) CP "number" ∧ L2.NoAttr (L2.KOf KX) CP "sex" ∧ L2.NoAttr (L2.KOf KX) CP "birth" ∧ L2.NoAttr (L2.KOf KX) CP "death" ∧ L2.NoAttr (L2.KOf KX) CP "parents" := by
      dsimp only [L2.KOf]
      refine' Kf.per_mk KX G ?a_28 ?i_28 ?lk_28 ?c_28 ?k_28 ?fn_28 ?pg_28 ?hd_28 ?po_28 ?sa_28 ?mk_28 ?kc_28 ?n1_28 ?n2_28 ?n3_28 ?n4_28 ?n5_28 ?n6_28
      (case a_28 => k_is); (case i_28 => k_is); (case lk_28 => k_is); (case c_28 => k_is); (case k_28 => k_is); (case fn_28 => k_is); (case pg_28 => k_is); (case hd_28 => k_is); (case po_28 => k_is); (case sa_28 => k_is); (case mk_28 => k_is); (case kc_28 => k_is); (case n1_28 => k_is); (case n2_28 => k_is); (case n3_28 => k_is); (case n4_28 => k_is); (case n5_28 => k_is); (case n6_28 => k_is)
    have d_split_at : L2.Def (L2.KOf KX) mg "split_at" ["values", "marks"] Kf.sSplit := by
      dsimp only [L2.KOf]
      refine' L2.def_mk (st := Kf.sSplit) KX G ?a_29 ?l_29 ?c_29 ?k_29 (fun _ _ _ _ _ _ us hl => match us, hl with | [_, _], _ => rfl)
      (case a_29 => k_is); (case l_29 => k_is); (case c_29 => k_is); (case k_29 => k_is)
    have d_read_digits : L2.Def (L2.KOf KX) mg "read_digits" ["word"] Kf.sDigits := by
      dsimp only [L2.KOf]
      refine' L2.def_mk (st := Kf.sDigits) KX G ?a_30 ?l_30 ?c_30 ?k_30 (fun _ _ _ _ _ _ us hl => match us, hl with | [_], _ => rfl)
      (case a_30 => k_is); (case l_30 => k_is); (case c_30 => k_is); (case k_30 => k_is)
    have d_read_day : L2.Def (L2.KOf KX) mg "read_day" ["word"] Kf.sDay := by
      dsimp only [L2.KOf]
      refine' L2.def_mk (st := Kf.sDay) KX G ?a_31 ?l_31 ?c_31 ?k_31 (fun _ _ _ _ _ _ us hl => match us, hl with | [_], _ => rfl)
      (case a_31 => k_is); (case l_31 => k_is); (case c_31 => k_is); (case k_31 => k_is)
    have d_read_part : L2.Def (L2.KOf KX) mg "read_part" ["part", "width", "least", "most"] Kf.sPart := by
      dsimp only [L2.KOf]
      refine' L2.def_mk (st := Kf.sPart) KX G ?a_32 ?l_32 ?c_32 ?k_32 (fun _ _ _ _ _ _ us hl => match us, hl with | [_, _, _, _], _ => rfl)
      (case a_32 => k_is); (case l_32 => k_is); (case c_32 => k_is); (case k_32 => k_is)
    have d_length_of_month : L2.Def (L2.KOf KX) mg "length_of_month" ["year", "month"] Kf.sMonth := by
      dsimp only [L2.KOf]
      refine' L2.def_mk (st := Kf.sMonth) KX G ?a_33 ?l_33 ?c_33 ?k_33 (fun _ _ _ _ _ _ us hl => match us, hl with | [_, _], _ => rfl)
      (case a_33 => k_is); (case l_33 => k_is); (case c_33 => k_is); (case k_33 => k_is)
    have d_is_leap_year : L2.Def (L2.KOf KX) mg "is_leap_year" ["year"] Kf.sLeap := by
      dsimp only [L2.KOf]
      refine' L2.def_mk (st := Kf.sLeap) KX G ?a_34 ?l_34 ?c_34 ?k_34 (fun _ _ _ _ _ _ us hl => match us, hl with | [_], _ => rfl)
      (case a_34 => k_is); (case l_34 => k_is); (case c_34 => k_is); (case k_34 => k_is)
    have d_may_be_before : L2.Def (L2.KOf KX) mg "may_be_before" ["one", "other"] Kf.sBefore := by
      dsimp only [L2.KOf]
      refine' L2.def_mk (st := Kf.sBefore) KX G ?a_35 ?l_35 ?c_35 ?k_35 (fun _ _ _ _ _ _ us hl => match us, hl with | [_, _], _ => rfl)
      (case a_35 => k_is); (case l_35 => k_is); (case c_35 => k_is); (case k_35 => k_is)
    have d_may_be_born_to : L2.Def (L2.KOf KX) mg "may_be_born_to" ["child", "parent"] Kf.sBorn := by
      dsimp only [L2.KOf]
      refine' L2.def_mk (st := Kf.sBorn) KX G ?a_36 ?l_36 ?c_36 ?k_36 (fun _ _ _ _ _ _ us hl => match us, hl with | [_, _], _ => rfl)
      (case a_36 => k_is); (case l_36 => k_is); (case c_36 => k_is); (case k_36 => k_is)
    have d_read_persons : L2.Def (L2.KOf KX) mg "read_persons" ["text"] Kf.sPersons := by
      dsimp only [L2.KOf]
      refine' L2.def_mk (st := Kf.sPersons) KX G ?a_37 ?l_37 ?c_37 ?k_37 (fun _ _ _ _ _ _ us hl => match us, hl with | [_], _ => rfl)
      (case a_37 => k_is); (case l_37 => k_is); (case c_37 => k_is); (case k_37 => k_is)
    have d_take_line : L2.Def (L2.KOf KX) mg "take_line" ["persons", "content", "row"] Kf.sTake := by
      dsimp only [L2.KOf]
      refine' L2.def_mk (st := Kf.sTake) KX G ?a_38 ?l_38 ?c_38 ?k_38 (fun _ _ _ _ _ _ us hl => match us, hl with | [_, _, _], _ => rfl)
      (case a_38 => k_is); (case l_38 => k_is); (case c_38 => k_is); (case k_38 => k_is)
    have d_words_of : L2.Def (L2.KOf KX) mg "words_of" ["content"] Kf.sWords := by
      dsimp only [L2.KOf]
      refine' L2.def_mk (st := Kf.sWords) KX G ?a_39 ?l_39 ?c_39 ?k_39 (fun _ _ _ _ _ _ us hl => match us, hl with | [_], _ => rfl)
      (case a_39 => k_is); (case l_39 => k_is); (case c_39 => k_is); (case k_39 => k_is)
    have d_read_person : L2.Def (L2.KOf KX) mg "read_person" ["words", "row"] Kf.sPerson := by
      dsimp only [L2.KOf]
      refine' L2.def_mk (st := Kf.sPerson) KX G ?a_40 ?l_40 ?c_40 ?k_40 (fun _ _ _ _ _ _ us hl => match us, hl with | [_, _], _ => rfl)
      (case a_40 => k_is); (case l_40 => k_is); (case c_40 => k_is); (case k_40 => k_is)
    have d_read_number : L2.Def (L2.KOf KX) mg "read_number" ["word"] Kf.sNumber := by
      dsimp only [L2.KOf]
      refine' L2.def_mk (st := Kf.sNumber) KX G ?a_41 ?l_41 ?c_41 ?k_41 (fun _ _ _ _ _ _ us hl => match us, hl with | [_], _ => rfl)
      (case a_41 => k_is); (case l_41 => k_is); (case c_41 => k_is); (case k_41 => k_is)
    have d_read_sex : L2.Def (L2.KOf KX) mg "read_sex" ["word"] Kf.sSex := by
      dsimp only [L2.KOf]
      refine' L2.def_mk (st := Kf.sSex) KX G ?a_42 ?l_42 ?c_42 ?k_42 (fun _ _ _ _ _ _ us hl => match us, hl with | [_], _ => rfl)
      (case a_42 => k_is); (case l_42 => k_is); (case c_42 => k_is); (case k_42 => k_is)
    have d_read_name_and_parents : L2.Def (L2.KOf KX) mg "read_name_and_parents" ["words"] Kf.sName := by
      dsimp only [L2.KOf]
      refine' L2.def_mk (st := Kf.sName) KX G ?a_43 ?l_43 ?c_43 ?k_43 (fun _ _ _ _ _ _ us hl => match us, hl with | [_], _ => rfl)
      (case a_43 => k_is); (case l_43 => k_is); (case c_43 => k_is); (case k_43 => k_is)
    have d_read_parent : L2.Def (L2.KOf KX) mg "read_parent" ["word"] Kf.sParent := by
      dsimp only [L2.KOf]
      refine' L2.def_mk (st := Kf.sParent) KX G ?a_44 ?l_44 ?c_44 ?k_44 (fun _ _ _ _ _ _ us hl => match us, hl with | [_], _ => rfl)
      (case a_44 => k_is); (case l_44 => k_is); (case c_44 => k_is); (case k_44 => k_is)
    have d_known_parents : L2.Def (L2.KOf KX) mg "known_parents" ["person"] Kf.sKnown := by
      dsimp only [L2.KOf]
      refine' L2.def_mk (st := Kf.sKnown) KX G ?a_45 ?l_45 ?c_45 ?k_45 (fun _ _ _ _ _ _ us hl => match us, hl with | [_], _ => rfl)
      (case a_45 => k_is); (case l_45 => k_is); (case c_45 => k_is); (case k_45 => k_is)
    have d_ancestors : L2.Def (L2.KOf KX) mg "ancestors" ["persons", "number"] Kf.sAnc := by
      dsimp only [L2.KOf]
      refine' L2.def_mk (st := Kf.sAnc) KX G ?a_46 ?l_46 ?c_46 ?k_46 (fun _ _ _ _ _ _ us hl => match us, hl with | [_, _], _ => rfl)
      (case a_46 => k_is); (case l_46 => k_is); (case c_46 => k_is); (case k_46 => k_is)
    have d_upwards : L2.Def (L2.KOf KX) mg "upwards" ["persons", "number"] Kf.sUp := by
      dsimp only [L2.KOf]
      refine' L2.def_mk (st := Kf.sUp) KX G ?a_47 ?l_47 ?c_47 ?k_47 (fun _ _ _ _ _ _ us hl => match us, hl with | [_, _], _ => rfl)
      (case a_47 => k_is); (case l_47 => k_is); (case c_47 => k_is); (case k_47 => k_is)
    have d_elders_first : L2.DefL (L2.KOf KX) mg "elders_first" ["persons", "numbers"] Kf.sElders 203 199 := by
      dsimp only [L2.KOf]
      refine' Kf.defL_mk (st := Kf.sElders) KX G ?a_48 ?l_48 ?c_48 ?k_48 ?h_48 (fun _ _ _ _ _ _ us hl => match us, hl with | [_, _], _ => rfl)
      (case a_48 => k_is); (case l_48 => k_is); (case c_48 => k_is); (case k_48 => k_is); (case h_48 => kernel_rfl)
    have d_with_steps_upwards : L2.Def (L2.KOf KX) mg "with_steps_upwards" ["persons", "steps"] Kf.sSteps := by
      dsimp only [L2.KOf]
      refine' L2.def_mk (st := Kf.sSteps) KX G ?a_49 ?l_49 ?c_49 ?k_49 (fun _ _ _ _ _ _ us hl => match us, hl with | [_, _], _ => rfl)
      (case a_49 => k_is); (case l_49 => k_is); (case c_49 => k_is); (case k_49 => k_is)
    have d_kinship_of : L2.Def (L2.KOf KX) mg "kinship_of" ["persons", "a", "b"] Kf.sKinOf := by
      dsimp only [L2.KOf]
      refine' L2.def_mk (st := Kf.sKinOf) KX G ?a_50 ?l_50 ?c_50 ?k_50 (fun _ _ _ _ _ _ us hl => match us, hl with | [_, _, _], _ => rfl)
      (case a_50 => k_is); (case l_50 => k_is); (case c_50 => k_is); (case k_50 => k_is)
    have d_kinships : L2.Def (L2.KOf KX) mg "kinships" ["persons", "numbers"] Kf.sKins := by
      dsimp only [L2.KOf]
      refine' L2.def_mk (st := Kf.sKins) KX G ?a_51 ?l_51 ?c_51 ?k_51 (fun _ _ _ _ _ _ us hl => match us, hl with | [_, _], _ => rfl)
      (case a_51 => k_is); (case l_51 => k_is); (case c_51 => k_is); (case k_51 => k_is)
    have d_kinship_in : L2.Def (L2.KOf KX) mg "kinship_in" ["table", "one", "other"] Kf.sKinIn := by
      dsimp only [L2.KOf]
      refine' L2.def_mk (st := Kf.sKinIn) KX G ?a_52 ?l_52 ?c_52 ?k_52 (fun _ _ _ _ _ _ us hl => match us, hl with | [_, _, _], _ => rfl)
      (case a_52 => k_is); (case l_52 => k_is); (case c_52 => k_is); (case k_52 => k_is)
    have d_kinship : L2.Def (L2.KOf KX) mg "kinship" ["a", "b", "text"] Kf.sKinship := by
      dsimp only [L2.KOf]
      refine' L2.def_mk (st := Kf.sKinship) KX G ?a_53 ?l_53 ?c_53 ?k_53 (fun _ _ _ _ _ _ us hl => match us, hl with | [_, _, _], _ => rfl)
      (case a_53 => k_is); (case l_53 => k_is); (case c_53 => k_is); (case k_53 => k_is)
    have d_answer : L2.Def (L2.KOf KX) mg "answer" ["tell", "one", "other", "text"] Kf.sAnswer := by
      dsimp only [L2.KOf]
      refine' L2.def_mk (st := Kf.sAnswer) KX G ?a_54 ?l_54 ?c_54 ?k_54 (fun _ _ _ _ _ _ us hl => match us, hl with | [_, _, _, _], _ => rfl)
      (case a_54 => k_is); (case l_54 => k_is); (case c_54 => k_is); (case k_54 => k_is)
    have d_refuse_unknown : L2.Def (L2.KOf KX) mg "refuse_unknown" ["persons", "numbers"] Kf.sUnknown := by
      dsimp only [L2.KOf]
      refine' L2.def_mk (st := Kf.sUnknown) KX G ?a_55 ?l_55 ?c_55 ?k_55 (fun _ _ _ _ _ _ us hl => match us, hl with | [_, _], _ => rfl)
      (case a_55 => k_is); (case l_55 => k_is); (case c_55 => k_is); (case k_55 => k_is)
    have d_tell_kinship : L2.Def (L2.KOf KX) mg "tell_kinship" ["persons", "a", "b"] Kf.sTellKin := by
      dsimp only [L2.KOf]
      refine' L2.def_mk (st := Kf.sTellKin) KX G ?a_56 ?l_56 ?c_56 ?k_56 (fun _ _ _ _ _ _ us hl => match us, hl with | [_, _, _], _ => rfl)
      (case a_56 => k_is); (case l_56 => k_is); (case c_56 => k_is); (case k_56 => k_is)
    have d_read_families : L2.Def (L2.KOf KX) mg "read_families" ["text"] Kf.sFam := by
      dsimp only [L2.KOf]
      refine' L2.def_mk (st := Kf.sFam) KX G ?a_57 ?l_57 ?c_57 ?k_57 (fun _ _ _ _ _ _ us hl => match us, hl with | [_], _ => rfl)
      (case a_57 => k_is); (case l_57 => k_is); (case c_57 => k_is); (case k_57 => k_is)
    have d_refuse_first : L2.Def (L2.KOf KX) mg "refuse_first" ["wrong"] Kf.sRefuse := by
      dsimp only [L2.KOf]
      refine' L2.def_mk (st := Kf.sRefuse) KX G ?a_58 ?l_58 ?c_58 ?k_58 (fun _ _ _ _ _ _ us hl => match us, hl with | [_], _ => rfl)
      (case a_58 => k_is); (case l_58 => k_is); (case c_58 => k_is); (case k_58 => k_is)
    have d_has_wrong_parent : L2.Def (L2.KOf KX) mg "has_wrong_parent" ["persons", "person"] Kf.sWrong := by
      dsimp only [L2.KOf]
      refine' L2.def_mk (st := Kf.sWrong) KX G ?a_59 ?l_59 ?c_59 ?k_59 (fun _ _ _ _ _ _ us hl => match us, hl with | [_, _], _ => rfl)
      (case a_59 => k_is); (case l_59 => k_is); (case c_59 => k_is); (case k_59 => k_is)
    have d_days_fit : L2.Def (L2.KOf KX) mg "days_fit" ["persons", "person"] Kf.sFit := by
      dsimp only [L2.KOf]
      refine' L2.def_mk (st := Kf.sFit) KX G ?a_60 ?l_60 ?c_60 ?k_60 (fun _ _ _ _ _ _ us hl => match us, hl with | [_, _], _ => rfl)
      (case a_60 => k_is); (case l_60 => k_is); (case c_60 => k_is); (case k_60 => k_is)
    have xW : ∃ CW, mg "WrongQuestion" = some (.ref CW) ∧ L2.XCls (L2.KOf KX) CW ∧ PySem.W.ownIn (L2.KOf KX) "__init__" (.ref CW) = some none := by
      dsimp only [L2.KOf]
      refine' Kf.exU_mk KX G ?a_61 ?l_61 ?l2_61 ?s_61 ?k_61 ?i_61
      (case a_61 => k_is); (case l_61 => k_is); (case l2_61 => k_is); (case s_61 => rfl); (case k_61 => k_is); (case i_61 => k_is)
    have iC : ∃ t, mg "CERTAINTY" = some (.int 4611686018427387904 t) := by
      refine' Kf.int_mk KX G ?a_62
      (case a_62 => k_is)
    obtain ⟨CU, uM, uC, uI⟩ := xU
    obtain ⟨CN, fN, nM, nC, nI, nGa, nGt⟩ := xN
    obtain ⟨CP, fP, pM, pC, pK, dP, pr, pn, ps, pb, pd, pp⟩ := xP
    have T : Kf.Txt (L2.KOf KX) mg CU CN fN CP fP := ⟨i0, i1, i2, i3, i4, i5, i6, i7, i8, i9, i10, i11, i12, i13, i14, i15, i16, i17, tm, tb, n_len, n_any, n_zip, n_enumerate, n_range, uC, uI, uM, nC, nI, nM, nGa, nGt, pC, pK, pM, pr, pn, ps, pb, pd, pp⟩
    have R : Kf.Rdg (L2.KOf KX) mg fP := ⟨dP, d_split_at, d_read_digits, d_read_day, d_read_part, d_length_of_month, d_is_leap_year, d_may_be_before, d_may_be_born_to, d_read_persons, d_take_line, d_words_of, d_read_person, d_read_number, d_read_sex, d_read_name_and_parents, d_read_parent, d_known_parents, d_ancestors, d_with_steps_upwards, d_read_families, d_refuse_first, d_has_wrong_parent, d_days_fit⟩
    obtain ⟨CW, wM, wC, wI⟩ := xW
    have TW : Kf.TxtW (L2.KOf KX) mg CN CW := ⟨wC, wI, wM, fun e => by rw [e, nI.own] at wI; cases wI⟩
    obtain ⟨f, fd, hm, FC, b⟩ := d_kinship
    have e := hmg.symm.trans hm
    cases e
    refine ⟨fd, fun s us hu => ?_, fun base _ _ BM => Kf.ok_kinship T FC (Kf.ok_answer T TW d_answer (R.fam T)) (Kf.ok_tellKin T TW d_tell_kinship (Kf.ok_unknown T TW d_refuse_unknown) (Kf.ok_kinOf T d_kinship_of (Kf.ok_up T d_upwards (R.anc T)) (Kf.ok_elders T n_sorted BM d_elders_first (R.anc T)) (Kf.ok_kins T iC d_kinships (Kf.ok_kinIn d_kinship_in))))⟩
    obtain ⟨oc, od, kV, doc, pm, an, cdv, ct, osl, rfl, lk, hcd⟩ := FC.ex
    exact match us, hu with | [_, _, _], _ => .of_eq rfl
  case S =>
    intro w H xs a hO hwi hask hx
    cases hx with
    | cons g1 hx =>
      cases g1
      cases hx with
      | cons g2 hx =>
        cases g2
        cases hx with
        | cons h1 h2 =>
          cases h2
          cases h1 with
          | lst hs ha =>
            have e := L2.ints_dw a.2.2.1 _ ha
            subst e
            have q0 : (Codec.inInt (-2147483648) 2147483647 a.1 && (Codec.inInt (-2147483648) 2147483647 a.2.1 && ((Codec.inLen 0 4000 a.2.2.1 && a.2.2.1.all (Codec.inInt 0 255)) && true))) = true := hwi
            rw [Bool.and_eq_true, Bool.and_eq_true, Bool.and_eq_true, Bool.and_eq_true] at q0
            have q := q0.2.2
            have hb := Kf.bytes_back q.1.2
            exact ⟨a.1, a.2.1, _, Sf91Neutral.bytesOf a.2.2.1, rfl, by rw [hb]; exact (L2.Same.new hO).seq hs, by rw [Kf.bytes_len]; exact (Codec.inNat_iff.mp q.1.1).2, L2.upd_same, fun H' p hp => .lst (L2.SqL.of hp) (L2.dw_ints (Kf.kinOut (Sf91Neutral.bytesOf a.2.2.1) a.1 a.2.1))⟩
