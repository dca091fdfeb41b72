import PyProof.Rows.All
import Wide.All
import OpenK.AllK
import Wide.FinOn
import Lean
import PyProof.EqAt
import PyProof.EqKinds
import PyProof.TupleCall
import KE.KIsAll
import PyProof.ExcAttrAll.ValueError
import KE.KDictList
import KE.KDictLaws
import PyProof.Rows.SortShellK
import PySem.SetOps
import PyProof.SetScanFacts
import PyProof.Rows.SetFrom
import PyProof.Rows.SumAny
import PySem.Challenge.RW_ordernest_k20_whole_numbers
set_option Elab.async false
set_option linter.all false
set_option maxRecDepth 100000
namespace L2
open PySem PySem.Spec PyProof.Rows
abbrev Key := Sum Int Str
def keyIs : Key → Value → Bool
  | .inl k, v => Value.isInt k v
  | .inr x, v => Value.isStrOf x v
def keyH (w : World) : Key → Int
  | .inl k => hashInt k
  | .inr x => hashStr w x
theorem keyIs_shape : ∀ {k : Key} {v : Value}, keyIs k v = true → (∃ i t, k = Sum.inl i ∧ v = Value.int i t) ∨ (∃ x t, k = Sum.inr x ∧ v = Value.str x t)
  | .inl i, v, h => by
    obtain ⟨t, e⟩ := Value.isInt_shape (k := i) (v := v) h
    exact .inl ⟨i, t, rfl, e⟩
  | .inr x, v, h => by
    obtain ⟨t, e⟩ := Value.isStrOf_shape (x := x) (v := v) h
    exact .inr ⟨x, t, rfl, e⟩
theorem keyIs_int (i : Int) (t : Tok) : keyIs (.inl i) (.int i t) = true := by simp [keyIs, Value.isInt]
theorem keyIs_str (x : Str) (t : Tok) : keyIs (.inr x) (.str x t) = true := by simp [keyIs, Value.isStrOf]
theorem key_ll (a b : Int) : decide ((Sum.inl a : Key) = Sum.inl b) = (a == b) := by
  by_cases e : a = b
  · subst e; simp
  · have h : ¬ (Sum.inl a : Key) = Sum.inl b := fun q => e (Sum.inl.inj q)
    rw [decide_eq_false h]
    exact (beq_eq_false_iff_ne.mpr e).symm
theorem key_rr (a b : Str) : decide ((Sum.inr a : Key) = Sum.inr b) = decide (a = b) := by
  by_cases e : a = b
  · subst e; simp
  · have h : ¬ (Sum.inr a : Key) = Sum.inr b := fun q => e (Sum.inr.inj q)
    rw [decide_eq_false h, decide_eq_false e]
theorem key_lr (a : Int) (b : Str) : decide ((Sum.inl a : Key) = Sum.inr b) = false := decide_eq_false (fun q => nomatch q)
theorem key_rl (a : Str) (b : Int) : decide ((Sum.inr a : Key) = Sum.inl b) = false := decide_eq_false (fun q => nomatch q)
def mixKind (prog : Program) (w : World) : PySem.KeyKind prog w Key where
  is := keyIs
  hash := keyH w
  inj := fun v a b ha hb => by
    rcases keyIs_shape ha with ⟨i, t, rfl, rfl⟩ | ⟨x, t, rfl, rfl⟩
    · rcases keyIs_shape hb with ⟨j, u, rfl, e⟩ | ⟨y, u, rfl, e⟩
      · injection e with e1 _; rw [e1]
      · exact nomatch e
    · rcases keyIs_shape hb with ⟨j, u, rfl, e⟩ | ⟨y, u, rfl, e⟩
      · exact nomatch e
      · injection e with e1 _; rw [e1]
  byValue := fun k v h => by
    rcases keyIs_shape h with ⟨i, t, rfl, rfl⟩ | ⟨x, t, rfl, rfl⟩ <;> rfl
  pyHash := fun hv h => by
    rcases keyIs_shape hv with ⟨i, t, rfl, rfl⟩ | ⟨x, t, rfl, rfl⟩
    · exact wpAny_pyHash_int h
    · exact wpAny_pyHash_str h
  eqBool := fun hu hv h => by
    rcases keyIs_shape hu with ⟨i, t, rfl, rfl⟩ | ⟨x, t, rfl, rfl⟩
    · rcases keyIs_shape hv with ⟨j, u, rfl, rfl⟩ | ⟨y, u, rfl, rfl⟩
      · rw [key_ll] at h; exact wpAny_eqBool_int h
      · rw [key_lr] at h; exact SeqAt.EqAt.int_str i t y u _ _ _ _ h
    · rcases keyIs_shape hv with ⟨j, u, rfl, rfl⟩ | ⟨y, u, rfl, rfl⟩
      · rw [key_rl] at h; exact SeqAt.EqAt.str_int x t j u _ _ _ _ h
      · rw [key_rr] at h; exact wpAny_eqBool_str h
  «strs» := fun k x t v h => by
    rcases keyIs_shape h with ⟨i, u, rfl, e⟩ | ⟨y, u, rfl, e⟩
    · exact nomatch e
    · injection e with e1 _
      subst e1
      cases v <;> rfl
theorem mixKind_is (prog : Program) (w : World) (k : Key) (v : Value) : (mixKind prog w).is k v = keyIs k v := rfl
theorem mixKind_int (prog : Program) (w : World) (i : Int) (t : Tok) : (mixKind prog w).is (.inl i) (.int i t) = true := keyIs_int i t
theorem mixKind_str (prog : Program) (w : World) (x : Str) (t : Tok) : (mixKind prog w).is (.inr x) (.str x t) = true := keyIs_str x t
end L2
namespace L2
open PySem PySem.Spec PyProof.Rows
inductive V where
  | non | bl (b : Bool) | int (i : Int) | str (x : Str) | byt (b : Array UInt8) | flt (b : UInt64) | ref (a : Addr) | ty (n : String)
  deriving DecidableEq
def RelV : V → Value → Prop
  | .non, u => u = Value.none
  | .bl b, u => u = Value.bool b
  | .int i, u => ∃ t, u = Value.int i t
  | .str x, u => ∃ t, u = Value.str x t
  | .byt b, u => ∃ t, u = Value.bytes b t
  | .flt b, u => ∃ t, u = Value.float b t
  | .ref a, u => u = Value.ref a
  | .ty n, u => u = Value.type n
abbrev Vals : List V → List Value → Prop := Paired RelV
theorem Vals.length {xs : List V} {us : List Value} (r : Vals xs us) : xs.length = us.length := Paired.length r
theorem Vals.get : ∀ {xs : List V} {us : List Value} {i : Nat} {x : V}, Vals xs us → xs[i]? = some x → ∃ u, us[i]? = some u ∧ RelV x u
  | _, _, _, _, .nil, e => by simp at e
  | _, _, 0, _, .cons r _, e => by simp at e; subst e; exact ⟨_, rfl, r⟩
  | _, _, i + 1, x, .cons _ t, e => by
    obtain ⟨u, h1, h2⟩ := Vals.get (i := i) (x := x) t (by simpa using e)
    exact ⟨u, by simpa using h1, h2⟩
theorem Vals.append : ∀ {xs ys : List V} {us ws : List Value}, Vals xs us → Vals ys ws → Vals (xs ++ ys) (us ++ ws)
  | _, _, _, _, .nil, s => s
  | _, _, _, _, .cons r t, s => .cons r (Vals.append t s)
theorem Vals.take : ∀ {xs : List V} {us : List Value} (n : Nat), Vals xs us → Vals (xs.take n) (us.take n)
  | _, _, 0, _ => .nil
  | _, _, _ + 1, .nil => .nil
  | _, _, n + 1, .cons r t => .cons r (Vals.take n t)
theorem Vals.drop : ∀ {xs : List V} {us : List Value} (n : Nat), Vals xs us → Vals (xs.drop n) (us.drop n)
  | _, _, 0, r => r
  | _, _, _ + 1, .nil => .nil
  | _, _, n + 1, .cons _ t => Vals.drop n t
def RelO : Option V → Option Value → Prop
  | some v, some u => RelV v u
  | none, none => True
  | _, _ => False
def KV {κ : Type} : List (κ × V) → List (κ × Value) → Prop := Paired fun (p : κ × V) (q : κ × Value) => p.1 = q.1 ∧ RelV p.2 q.2
def kV : Key → V
  | .inl i => .int i
  | .inr x => .str x
inductive HO where
    | lst (xs : List V)
    | tup (xs : List V)
    | dK (kvs : List (Key × V)) | dT (kvs : List (List Key × V))
    | set (S : Int → Bool) (n : Nat)
    | ins (C dx : Addr) (fs : List (Str × V))
    | own (x : Addr)
    | xd (fs : List (Str × V))
    | met (f x : Addr)
    | rng (lo hi : Int)
    | frz (o : Obj) (u : HO)
    | tbl (ps : Array Value)
    | ext (φ : Heap → Prop)
abbrev Hp := Addr → Option HO
def upd (H : Hp) (a : Addr) (o : HO) : Hp := fun b => if b = a then some o else H b
theorem upd_same {H : Hp} {a : Addr} {o : HO} : upd H a o a = some o := by unfold upd; rw [if_pos rfl]
theorem upd_ne {H : Hp} {a b : Addr} {o : HO} (h : b ≠ a) : upd H a o b = H b := by unfold upd; rw [if_neg h]
theorem ne_of {H : Hp} {a b : Addr} {o u : HO} (h : H a = some o) (h' : H b = some u) (d : o ≠ u) : a ≠ b := by
  intro e; subst e; rw [h] at h'; exact d (Option.some.inj h')
theorem ne_of_none {H : Hp} {a b : Addr} {o : HO} (h : H a = some o) (h' : H b = none) : a ≠ b := by
  intro e; subst e; rw [h] at h'; cases h'
section
variable (P : Program) (w : World)
def ObjOk (H : Hp) (h : Heap) (a : Addr) : HO → Prop
  | .lst xs => xs.length ≤ sizeLine ∧ ∃ (its : List Value) (n : Nat), Vals xs its ∧ h.get? a = some { cls := .type "list", data := .seq its.toArray n }
  | .tup xs => xs.length ≤ sizeLine ∧ ∃ its : List Value, Vals xs its ∧ IsTup h a its.toArray
  | .dK kvs => kvs.length ≤ sizeLine ∧ (a == sysModules) = false ∧ ∃ vs, KV kvs vs ∧ h.DictOf (mixKind P w) a vs
  | .dT kvs => kvs.length ≤ sizeLine ∧ (a == sysModules) = false ∧ ∃ xs : List (List Key × Addr × Value),
      Paired (fun (p : List Key × V) (q : List Key × Addr × Value) => p.1 = q.1 ∧ H q.2.1 = some (.tup (p.1.map kV)) ∧ RelV p.2 q.2.2) kvs xs ∧
      ∃ o es ep, h.get? a = some o ∧ o.ExactDict ∧ o.data = .dict es ep ∧ es.toList = xs.map (entryOfKey (tupleKind (mixKind P w))) ∧ (xs.map (·.1)).Nodup
  | .set S n => h.SetOf (intKind P w) a S n
  | .ins C dx fs => H dx = some (.own a) ∧ fs.length ≤ 1000 ∧ dx ≠ a ∧ h.get? a = some (W.instObj C dx) ∧
      ∃ mA, h.Ns1 dx mA ∧ (∀ f, RelO (fs.lookup f) (mA f)) ∧ PySem.Within mA (fs.map (·.1))
  | .own _ => ∃ o, h.get? a = some o
  | .xd fs => ∃ mA, h.Ns1 a mA ∧ ∀ f, RelO (fs.lookup f) (mA f)
  | .rng lo hi => ∃ t u v, h.get? a = some { cls := .type "range", data := .fields #[.int lo t, .int hi u, .int 1 v] }
  | .frz o u => h.get? a = some o ∧ ObjOk H h a u
  | .tbl ps => h.get? a = some { cls := .none, data := .fields ps }
  | .met f x => h.get? a = some (W.methodObj (.ref f) (.ref x))
  | .ext φ => φ h ∧ (∃ o, h.get? a = some o) ∧ ∀ h1 h2 : Heap, φ h1 → (∀ o, h1.get? a = some o → h2.get? a = some o) → φ h2
def HOk (H : Hp) (h : Heap) : Prop := ∀ a o, H a = some o → ObjOk P w H h a o
end
section
variable {P : Program} {w : World} {H H' : Hp} {h h' : Heap} {a : Addr} {o : HO}
theorem ObjOk.lt (x : ObjOk P w H h a o) : a < h.objs.size := by
  cases o with
  | lst xs => obtain ⟨_, _, _, _, e⟩ := x; exact Heap.lt_size e
  | tup xs => obtain ⟨_, _, _, p⟩ := x; exact p.lt
  | dK kvs => obtain ⟨_, _, _, _, o, _, _, e, _⟩ := x; exact Heap.lt_size e
  | dT kvs => obtain ⟨_, _, _, _, o, _, _, e, _⟩ := x; exact Heap.lt_size e
  | set S n => obtain ⟨o, _, _, _, e, _⟩ := x; exact Heap.lt_size e
  | ins C dx fs => obtain ⟨_, _, _, e, _⟩ := x; exact Heap.lt_size e
  | own y => obtain ⟨_, e⟩ := x; exact Heap.lt_size e
  | xd fs => obtain ⟨_, ⟨_, _, _, e, _⟩, _⟩ := x; exact Heap.lt_size e
  | rng lo hi => obtain ⟨_, _, _, e⟩ := x; exact Heap.lt_size e
  | frz ob u => obtain ⟨e, _⟩ := x; exact Heap.lt_size e
  | tbl ps => exact Heap.lt_size (show h.get? a = some _ from x)
  | met f y => exact Heap.lt_size (show h.get? a = some _ from x)
  | ext φ => obtain ⟨_, ⟨_, e⟩, _⟩ := x; exact Heap.lt_size e
theorem Paired.mapP {α β : Type} {F G : α → β → Prop} : ∀ {l₁ : List α} {l₂ : List β}, Paired F l₁ l₂ → (∀ a b, F a b → G a b) → Paired G l₁ l₂
  | _, _, .nil, _ => .nil
  | _, _, .cons r t, f => .cons (f _ _ r) (Paired.mapP t f)
theorem ObjOk.stay (x : ObjOk P w H h a o) (k : ∀ b u, (b = a ∨ H b = some (.own a)) → h.get? b = some u → h'.get? b = some u)
    (ho : ∀ b, H b = some (.own a) → H' b = some (.own a)) (ht : ∀ b xs, H b = some (.tup xs) → H' b = some (.tup xs)) : ObjOk P w H' h' a o := by
  induction o with
  | lst xs => obtain ⟨z, its, n, r, e⟩ := x; exact ⟨z, its, n, r, k _ _ (.inl rfl) e⟩
  | tup xs => obtain ⟨z, its, r, ob, e, c⟩ := x; exact ⟨z, its, r, ob, k _ _ (.inl rfl) e, c⟩
  | dK kvs => obtain ⟨z, y, vs, r, ob, es, ep, e, c⟩ := x; exact ⟨z, y, vs, r, ob, es, ep, k _ _ (.inl rfl) e, c⟩
  | dT kvs =>
    obtain ⟨z, y, xs, r, ob, es, ep, e, c⟩ := x
    exact ⟨z, y, xs, Paired.mapP r fun p q z => ⟨z.1, ht _ _ z.2.1, z.2.2⟩, ob, es, ep, k _ _ (.inl rfl) e, c⟩
  | set S n => obtain ⟨ob, es, ep, t, e, c⟩ := x; exact ⟨ob, es, ep, t, k _ _ (.inl rfl) e, c⟩
  | ins C dx fs =>
    obtain ⟨d, z, ne, e, mA, ⟨od, es, ep, e2, c⟩, r⟩ := x
    exact ⟨ho _ d, z, ne, k _ _ (.inl rfl) e, mA, ⟨od, es, ep, k _ _ (.inr d) e2, c⟩, r⟩
  | own y => obtain ⟨ob, e⟩ := x; exact ⟨ob, k _ _ (.inl rfl) e⟩
  | xd fs => obtain ⟨mA, ⟨od, es, ep, e, c⟩, r⟩ := x; exact ⟨mA, ⟨od, es, ep, k _ _ (.inl rfl) e, c⟩, r⟩
  | rng lo hi => obtain ⟨t, u, v, e⟩ := x; exact ⟨t, u, v, k _ _ (.inl rfl) e⟩
  | frz ob u ih => obtain ⟨e, q⟩ := x; exact ⟨k _ _ (.inl rfl) e, ih q⟩
  | tbl ps =>
    have e : h.get? a = some { cls := .none, data := .fields ps } := x
    show h'.get? a = some { cls := .none, data := .fields ps }
    exact k a _ (.inl rfl) e
  | met f y =>
    have e : h.get? a = some (W.methodObj (.ref f) (.ref y)) := x
    show h'.get? a = some (W.methodObj (.ref f) (.ref y))
    exact k a _ (.inl rfl) e
  | ext φ => obtain ⟨p, ⟨o, e⟩, st⟩ := x; exact ⟨st _ _ p fun o q => k _ _ (.inl rfl) q, ⟨o, k _ _ (.inl rfl) e⟩, st⟩
theorem HOk.lt (x : HOk P w H h) (e : H a = some o) : a < h.objs.size := (x a o e).lt
theorem HOk.fresh (x : HOk P w H h) (e : h.objs.size ≤ a) : H a = none := by
  cases q : H a with
  | none => rfl
  | some u => exact absurd (Nat.lt_of_lt_of_le (x.lt q) e) (Nat.lt_irrefl _)
theorem HOk.kept (x : HOk P w H h) (k : ∀ b u, h.get? b = some u → h'.get? b = some u) : HOk P w H h' := fun a o e =>
  (x a o e).stay (fun b u _ q => k b u q) (fun _ q => q) fun _ _ q => q
theorem HOk.laid (x : HOk P w H h) (k : ∀ b u, h.get? b = some u → h'.get? b = some u) (hp : h.objs.size ≤ a) (new : ObjOk P w (upd H a o) h' a o) : HOk P w (upd H a o) h' := fun b u e => by
  have hn := x.fresh hp
  by_cases hb : b = a
  · subst hb; rw [upd_same] at e; cases e; exact new
  · rw [upd_ne hb] at e
    exact (x b u e).stay (fun c v _ q => k c v q) (fun c q => by rw [upd_ne (ne_of_none q hn)]; exact q) fun c xs q => by rw [upd_ne (ne_of_none q hn)]; exact q
end
def Rd (H : Hp) (a : Addr) (u : HO) : Prop := H a = some u ∨ ∃ o, H a = some (.frz o u)
theorem Rd.ok {P : Program} {w : World} {H : Hp} {h : Heap} {a : Addr} {u : HO} (r : Rd H a u) (x : HOk P w H h) : ObjOk P w H h a u := by
  rcases r with r | ⟨o, r⟩
  · exact x a u r
  · obtain ⟨_, q⟩ := x a _ r
    exact q
def Mut : Option HO → Prop
  | some (.lst _) => True
  | some (.dK _) => True
  | some (.dT _) => True
  | some (.set _ _) => True
  | some (.ins _ _ _) => True
  | some (.ext _) => True
  | _ => False
section
variable {P : Program} {w : World} {H : Hp} {h h' : Heap} {x e : Addr} {o' : HO}
theorem HOk.write (ok : HOk P w H h) (mu : Mut (H x)) (he : e = x ∨ H e = some (.own x)) (k : ∀ b u, b ≠ e → h.get? b = some u → h'.get? b = some u) (heo : ∃ u, h'.get? e = some u)
    (new : ObjOk P w (upd H x o') h' x o') : HOk P w (upd H x o') h' := fun b u q => by
  have nown : ∀ c y, H c = some (.own y) → c ≠ x := fun c y r z => by subst z; rw [r] at mu; exact mu
  have ntup : ∀ c xs, H c = some (.tup xs) → c ≠ x := fun c xs r z => by subst z; rw [r] at mu; exact mu
  by_cases hb : b = x
  · subst hb; rw [upd_same] at q; cases q; exact new
  · rw [upd_ne hb] at q
    by_cases hbe : b = e
    · have q' : H b = some (.own x) := by
        rcases he with z | z
        · exact absurd (hbe.trans z) hb
        · rw [hbe]; exact z
      rw [q] at q'; cases q'
      obtain ⟨v, hv⟩ := heo
      exact ⟨v, by rw [hbe]; exact hv⟩
    · refine (ok b u q).stay (fun c v hc r => k c v ?_ r) (fun c r => by rw [upd_ne (nown c b r)]; exact r) fun c xs r => by rw [upd_ne (ntup c xs r)]; exact r
      rcases hc with rfl | hc
      · exact hbe
      · rintro rfl
        rcases he with z | z
        · exact nown c b hc z
        · rw [hc] at z; cases z; exact hb rfl
end
structure Un (fs ex : List Addr) (H H' : Hp) (h h' : Heap) : Prop where
  keep : ∀ b o, h.get? b = some o → H b = none → b ∉ fs → b ∉ ex → h'.get? b = some o
  slot : ∀ b o, h.get? b = some o → H b = none → b ∈ fs → b ∉ ex → ∃ sl, h'.get? b = some { o with slots := sl }
  free : ∀ b o, h.get? b = some o → H b = none → b ∉ ex → H' b = none
  there : ∀ b o, h.get? b = some o → b ∉ ex → ∃ o', h'.get? b = some o'
  tups : ∀ b xs, H b = some (.tup xs) → H' b = some (.tup xs)
  frzs : ∀ b o u, H b = some (.frz o u) → H' b = some (.frz o u)
  tbls : ∀ b ps, H b = some (.tbl ps) → ∃ more, H' b = some (.tbl (ps ++ more))
section
variable {fs fs' ex ex' : List Addr} {H H1 H2 : Hp} {h h1 h2 h' : Heap} {a x e : Addr} {o : HO}
theorem Un.any (u : Un fs ex H H1 h h1) {b : Addr} {ob : Obj} (q : h.get? b = some ob) (n : H b = none) (hx : b ∉ ex) : ∃ sl, h1.get? b = some { ob with slots := sl } := by
  by_cases hb : b ∈ fs
  · exact u.slot b ob q n hb hx
  · exact ⟨ob.slots, u.keep b ob q n hb hx⟩
theorem Un.kept (k : ∀ b u, h.get? b = some u → h'.get? b = some u) : Un fs ex H H h h' :=
  ⟨fun b ob q _ _ _ => k b ob q, fun b ob q _ _ _ => ⟨ob.slots, k b ob q⟩, fun _ _ _ n _ => n, fun b ob q _ => ⟨ob, k b ob q⟩, fun _ _ q => q, fun _ _ _ q => q, fun _ ps q => ⟨#[], by rw [q]; simp⟩⟩
theorem Un.refl : Un fs ex H H h h := Un.kept fun _ _ q => q
theorem Un.laid (k : ∀ b u, h.get? b = some u → h'.get? b = some u) (hp : h.objs.size ≤ a) (hn : H a = none) : Un fs ex H (upd H a o) h h' where
  keep := fun b u q _ _ _ => k b u q
  slot := fun b u q _ _ _ => ⟨u.slots, k b u q⟩
  free := fun b u q n _ => by rw [upd_ne (Nat.ne_of_lt (Nat.lt_of_lt_of_le (Heap.lt_size q) hp))]; exact n
  there := fun b u q _ => ⟨u, k b u q⟩
  tups := fun b xs q => by rw [upd_ne (ne_of_none q hn)]; exact q
  frzs := fun b u xs q => by rw [upd_ne (ne_of_none q hn)]; exact q
  tbls := fun b ps q => ⟨#[], by rw [upd_ne (ne_of_none q hn), q]; simp⟩
theorem Un.write (mu : Mut (H x)) (he : e = x ∨ H e = some (.own x)) (k : ∀ b u, b ≠ e → h.get? b = some u → h'.get? b = some u) (heo : ∃ u, h'.get? e = some u) : Un fs ex H (upd H x o) h h' := by
  have hx : ∀ b, H b = none → b ≠ x := fun b n z => by subst z; rw [n] at mu; exact mu
  have hb : ∀ b, H b = none → b ≠ e := fun b n z => by
    subst z
    rcases he with r | r
    · exact hx b n r
    · rw [n] at r; cases r
  have hm : ∀ b u, H b = some u → ¬ Mut (some u) → b ≠ x := fun b u q nm z => by subst z; rw [q] at mu; exact nm mu
  refine ⟨fun b u q n _ _ => k b u (hb b n) q, fun b u q n _ _ => ⟨u.slots, k b u (hb b n) q⟩, fun b u q n _ => by rw [upd_ne (hx b n)]; exact n, fun b u q _ => ?_,
    fun b xs q => by rw [upd_ne (hm b _ q fun z => z)]; exact q, fun b u xs q => by rw [upd_ne (hm b _ q fun z => z)]; exact q, fun b ps q => ⟨#[], by rw [upd_ne (hm b _ q fun z => z), q]; simp⟩⟩
  by_cases hbe : b = e
  · subst hbe; exact heo
  · exact ⟨u, k b u hbe q⟩
end
def trk (h : Heap) (H : Hp) : List Addr := (List.range h.objs.size).filter fun a => (H a).isSome
def hidT (h : Heap) (H : Hp) : Heap := W.hideAll h (trk h H)
theorem hidT_size (h : Heap) (H : Hp) : (hidT h H).objs.size = h.objs.size := W.hideAll_size _ _
theorem hidT_get {h : Heap} {H : Hp} {b : Addr} {o : Obj} (e : h.get? b = some o) (n : H b = none) : (hidT h H).get? b = some o :=
  W.hideAll_get _ e fun hm => by
    have q : (H b).isSome = true := (List.mem_filter.mp hm).2
    rw [n] at q; simp at q
theorem of_hidT {h : Heap} {H : Hp} {b : Addr} {o : Obj} (e : (hidT h H).get? b = some o) : h.get? b = some o ∧ H b = none := by
  have e' : h.get? b = some o := W.of_hideAll (trk h H) e
  refine ⟨e', ?_⟩
  cases q : H b with
  | none => rfl
  | some x =>
    have hm : b ∈ trk h H := List.mem_filter.mpr ⟨List.mem_range.mpr (Heap.lt_size e'), by simp [q]⟩
    have z : (hidT h H).get? b = none := W.hideAll_none (trk h H) hm
    rw [z] at e; cases e
end L2
namespace L2
open PySem PySem.Spec PyProof.Rows
structure Mod (K : W.Frag) (mg : Str → Option Value) (base : Heap) : Prop where
  kin : K.In base
  glob : base.Ns mainGlobals mg
  blt : ∃ mb, base.Ns builtinsNs mb ∧ ∀ x : Str, x ≠ "__name__" → mb x = bootBuiltins x
  nolimit : base.NoLimit
structure Cx where
  prog : Program
  w : World
  K : W.Frag
  mg : Str → Option Value
  base : Heap
  A : Around
  N : List Str
  s₀ : Shared
  H₀ : Hp
  env : Env
  outer : List Env
  stack : List Env
  ex : List Addr
  fn : Str → Bool
  calm : Bool
  pn : List (Addr × Obj)
  xe : Value → Shared → Prop
def frs (l : List Env) : List Addr := l.filterMap (·.frame)
abbrev Cx.fs (X : Cx) : List Addr := frs X.outer
def Vis (sc : Scope) (x : Str) : Prop := sc.names.lookup x = some .local ∨ sc.names.lookup x = some .cell ∨ sc.names.lookup x = some .free
def Loc (sc : Scope) (x : Str) : Prop := sc.names.lookup x = some .local ∨ sc.names.lookup x = some .cell
def Look (env : Env) (h : Heap) (m : Str → Option Value) (x : Str) (u : Value) : Prop :=
  (env.kindOf x = some .local ∧ m x = some u) ∨ ((env.kindOf x = some .cell ∨ env.kindOf x = some .free) ∧ ∃ c, env.cells.lookup x = some c ∧ h.IsCell c (some u))
structure Cx.Ok (X : Cx) : Prop where
  mod : Mod X.K X.mg X.base
  kind : X.env.scope.kind = .function
  glob : X.env.globals = mainGlobals
  blt : X.env.builtins = builtinsNs
  above : X.s₀.heap.objs.size ≤ X.env.locals
  inj : ∀ x y c, X.env.cells.lookup x = some c → X.env.cells.lookup y = some c → x = y
  has : ∀ x, (X.env.kindOf x = some .cell ∨ X.env.kindOf x = some .free) → ∃ c, X.env.cells.lookup x = some c
  cab : ∀ x c, X.fn x = true → X.env.cells.lookup x = some c → X.s₀.heap.objs.size ≤ c
  hd : X.calm = true → X.A.handled = none
  frames : X.A.frames = some X.stack
  stk : X.stack = X.outer ∨ (X.stack = X.env :: X.outer ∧ X.env.frame = some X.env.locals)
  exf : ∀ b ∈ X.ex, b ≠ X.env.locals ∧ ∀ x c, X.env.cells.lookup x = some c → c ≠ b
  bs : ∀ b o, X.base.get? b = some o → X.s₀.heap.get? b = some o ∧ X.H₀ b = none
  bsz : X.base.objs.size ≤ X.s₀.heap.objs.size
  noex : ∀ b o, X.base.get? b = some o → b ∉ X.ex
  exfs : ∀ b ∈ X.ex, b ∉ X.fs
  funs : X.s₀.heap.FunFrames X.base X.outer
  frf : ∀ b ∈ X.fs, X.H₀ b = none
structure Inv (X : Cx) (pins : List (Addr × Obj)) (σ : List (Option V)) (H : Hp) (s : Shared) : Prop where
  ok : X.Ok
  os : s.os = X.s₀.os
  bare : AllBare s.gens
  base : Un X.fs X.ex X.H₀ H X.s₀.heap s.heap
  loc : ∃ m, s.heap.Ns X.env.locals m ∧ ∀ (i : Nat) (x : Str) (v : V), X.N[i]? = some x → σ[i]? = some (some v) → Vis X.env.scope x → ∃ u, RelV v u ∧ Look X.env s.heap m x u
  cell : ∀ x c, X.env.cells.lookup x = some c → ∃ v, s.heap.IsCell c v
  free : H X.env.locals = none
  freeC : ∀ x c, X.env.cells.lookup x = some c → H c = none
  pin : ∀ p ∈ X.pn ++ pins, s.heap.get? p.1 = some p.2 ∧ H p.1 = none ∧ p.1 ≠ X.env.locals ∧ p.1 ∉ X.fs ∧ ∀ v, p.2.data ≠ .cell v
  hok : HOk X.prog X.w H s.heap
  len : σ.length = X.N.length
section
variable {X : Cx} {pins : List (Addr × Obj)} {σ : List (Option V)} {H H' : Hp} {s : Shared} {h' : Heap}
theorem Cx.Ok.nofr (ok : X.Ok) {b : Addr} {o : Obj} (e : X.base.get? b = some o) : b ∉ X.fs := fun hb => by
  have := (ok.funs.mem hb).1
  rw [e] at this; cases this
theorem Inv.bs (I : Inv X pins σ H s) : ∀ b o, X.base.get? b = some o → s.heap.get? b = some o ∧ H b = none := fun b o e =>
  ⟨I.base.keep b o (I.ok.bs b o e).1 (I.ok.bs b o e).2 (I.ok.nofr e) (I.ok.noex b o e), I.base.free b o (I.ok.bs b o e).1 (I.ok.bs b o e).2 (I.ok.noex b o e)⟩
theorem Inv.bk (I : Inv X pins σ H s) : ∀ b o, X.base.get? b = some o → s.heap.get? b = some o := fun b o e => (I.bs b o e).1
theorem Inv.mod (I : Inv X pins σ H s) : Mod X.K X.mg X.base := I.ok.mod
theorem Inv.kIn (I : Inv X pins σ H s) : X.K.In s.heap := I.ok.mod.kin.keeps I.bk
theorem Inv.lt (I : Inv X pins σ H s) : X.env.locals < s.heap.objs.size := let ⟨_, hn, _⟩ := I.loc; hn.lt
theorem Inv.sz (I : Inv X pins σ H s) : X.s₀.heap.objs.size ≤ s.heap.objs.size := Nat.le_trans I.ok.above (Nat.le_of_lt I.lt)
theorem Inv.nofs (I : Inv X pins σ H s) {a : Addr} (h : s.heap.objs.size ≤ a) : a ∉ X.fs := fun hb => by
  obtain ⟨_, o, ho, _⟩ := I.ok.funs.mem hb
  exact absurd (Nat.lt_of_lt_of_le (Heap.lt_size ho) (Nat.le_trans I.sz h)) (Nat.lt_irrefl _)
theorem Inv.cne (I : Inv X pins σ H s) : ∀ x c, X.env.cells.lookup x = some c → c ≠ X.env.locals := fun x c e z => by
  obtain ⟨v, o, ho, hd⟩ := I.cell x c e
  obtain ⟨m, ⟨o', es, ep, ho', hd', _⟩, _⟩ := I.loc
  rw [z, ho'] at ho; cases ho; rw [hd'] at hd; cases hd
theorem Inv.funs (I : Inv X pins σ H s) : s.heap.FunFrames X.base X.outer := by
  have all : ∀ (l : List Env), (∀ b ∈ frs l, b ∈ X.fs) → X.s₀.heap.FunFrames X.base l → s.heap.FunFrames X.base l := by
    intro l
    induction l with
    | nil => intro _ _; trivial
    | cons env r ih =>
      intro hs hl
      obtain ⟨hk, ⟨L, o, hf, hn, ho, hd⟩, hr⟩ := hl
      have hL : L ∈ X.fs := hs L (by unfold frs; rw [List.filterMap_cons, hf]; exact List.mem_cons_self)
      obtain ⟨sl, e⟩ := I.base.slot L o ho (I.ok.frf L hL) hL fun z => I.ok.exfs L z hL
      exact ⟨hk, ⟨L, _, hf, hn, e, hd⟩, ih (fun b hb => hs b (by unfold frs; rw [List.filterMap_cons, hf]; exact List.mem_cons_of_mem _ hb)) hr⟩
  exact all X.outer (fun _ hb => hb) I.ok.funs
theorem Inv.stack (I : Inv X pins σ H s) : s.heap.FunFrames X.base X.stack := by
  rcases I.ok.stk with e | ⟨e, hf⟩
  · rw [e]; exact I.funs
  · rw [e]
    obtain ⟨m, hn, _⟩ := I.loc
    refine .cons (by rw [I.ok.kind]; decide) hf hn ?_ I.funs
    exact Heap.get?_none_of_le (Nat.le_trans I.ok.bsz I.ok.above)
theorem Inv.stkSub (I : Inv X pins σ H s) : ∀ b ∈ frs X.stack, b ∈ X.env.locals :: X.fs := fun b hb => by
  rcases I.ok.stk with e | ⟨e, hf⟩
  · rw [e] at hb; exact List.mem_cons_of_mem _ hb
  · rw [e] at hb
    unfold frs at hb
    rw [List.filterMap_cons, hf] at hb
    exact hb
theorem Inv.stkFree (I : Inv X pins σ H s) : ∀ b ∈ frs X.stack, H b = none := fun b hb => by
  rcases List.mem_cons.mp (I.stkSub b hb) with e | hb
  · rw [e]; exact I.free
  · obtain ⟨_, o, ho, _⟩ := I.ok.funs.mem hb
    exact I.base.free b o ho (I.ok.frf b hb) fun z => I.ok.exfs b z hb
theorem Inv.step {g' : Array GenState} {t' : Nat} {d' : Drawn} {ch : List Addr} (I : Inv X pins σ H s)
    (hch : ∀ b ∈ ch, (b ∈ X.ex ∨ X.s₀.heap.objs.size ≤ b) ∧ b ≠ X.env.locals ∧ (∀ x c, X.env.cells.lookup x = some c → c ≠ b) ∧ ∀ p ∈ X.pn ++ pins, p.1 ≠ b)
    (keep : ∀ b o, b ≠ X.env.locals → b ∉ X.fs → b ∉ ch → s.heap.get? b = some o → H b = none → h'.get? b = some o)
    (slot : ∀ b o, b ≠ X.env.locals → b ∈ X.fs → b ∉ ch → s.heap.get? b = some o → H b = none → ∃ sl, h'.get? b = some { o with slots := sl }) (free : ∀ b o, b ∉ ch → s.heap.get? b = some o → H b = none → H' b = none)
    (there : ∀ b o, b ∉ ch → s.heap.get? b = some o → ∃ o', h'.get? b = some o')
    (tups : ∀ b xs, H b = some (.tup xs) → H' b = some (.tup xs)) (frzs : ∀ b o u, H b = some (.frz o u) → H' b = some (.frz o u)) (tbls : ∀ b ps, H b = some (.tbl ps) → ∃ more, H' b = some (.tbl (ps ++ more)))
    (ns : ∀ m, s.heap.Ns X.env.locals m → h'.Ns X.env.locals m) (hok : HOk X.prog X.w H' h') (hg : AllBare g') :
    Inv X pins σ H' { s with heap := h', gens := g', drawn := d', toks := t' } := by
  have neL : ∀ b o, X.s₀.heap.get? b = some o → b ≠ X.env.locals := fun b o e => Nat.ne_of_lt (Nat.lt_of_lt_of_le (Heap.lt_size e) I.ok.above)
  have neC : ∀ b o, X.s₀.heap.get? b = some o → b ∉ X.ex → b ∉ ch := fun b o e hx hb => by
    rcases (hch b hb).1 with z | z
    · exact hx z
    · exact absurd (Nat.lt_of_lt_of_le (Heap.lt_size e) z) (Nat.lt_irrefl _)
  have cellK : ∀ x c, X.env.cells.lookup x = some c → ∀ v, s.heap.IsCell c v → h'.IsCell c v := fun x c e v ⟨o, ho, hd⟩ => by
    have nch : c ∉ ch := fun z => (hch c z).2.2.1 x c e rfl
    by_cases hc : c ∈ X.fs
    · obtain ⟨sl, q⟩ := slot c o (I.cne x c e) hc nch ho (I.freeC x c e)
      exact ⟨_, q, hd⟩
    · exact ⟨o, keep c o (I.cne x c e) hc nch ho (I.freeC x c e), hd⟩
  refine ⟨I.ok, I.os, hg, ⟨fun b o e n hb hx => ?_, fun b o e n hb hx => ?_, fun b o e n hx => ?_, fun b o e hx => ?_, fun b xs e => tups b xs (I.base.tups b xs e), fun b o xs e => frzs b o xs (I.base.frzs b o xs e), fun b ps e => ?_⟩, ?_, fun x c e => ?_, ?_, fun x c e => ?_, fun p hp => ?_, hok, I.len⟩
  · exact keep b o (neL b o e) hb (neC b o e hx) (I.base.keep b o e n hb hx) (I.base.free b o e n hx)
  · obtain ⟨sl, e1⟩ := I.base.slot b o e n hb hx
    obtain ⟨sl', e2⟩ := slot b _ (neL b o e) hb (neC b o e hx) e1 (I.base.free b o e n hx)
    exact ⟨sl', e2⟩
  · obtain ⟨o', e1⟩ := I.base.there b o e hx
    exact free b o' (neC b o e hx) e1 (I.base.free b o e n hx)
  · obtain ⟨o', e1⟩ := I.base.there b o e hx
    exact there b o' (neC b o e hx) e1
  · obtain ⟨m1, e1⟩ := I.base.tbls b ps e
    obtain ⟨m2, e2⟩ := tbls b _ e1
    exact ⟨m1 ++ m2, by rw [e2, Array.append_assoc]⟩
  · obtain ⟨m, hn, hl⟩ := I.loc
    refine ⟨m, ns m hn, fun i x v e1 e2 e3 => ?_⟩
    obtain ⟨u, r, l⟩ := hl i x v e1 e2 e3
    refine ⟨u, r, ?_⟩
    rcases l with l | ⟨k, c, e, z⟩
    · exact .inl l
    · exact .inr ⟨k, c, e, cellK x c e _ z⟩
  · obtain ⟨v, z⟩ := I.cell x c e
    exact ⟨v, cellK x c e v z⟩
  · obtain ⟨m, ⟨o, _, _, ho, _⟩, _⟩ := I.loc
    exact free _ o (fun z => (hch _ z).2.1 rfl) ho I.free
  · obtain ⟨v, o, ho, hd⟩ := I.cell x c e
    exact free c o (fun z => (hch c z).2.2.1 x c e rfl) ho (I.freeC x c e)
  · obtain ⟨e, n, ne, nf, d⟩ := I.pin p hp
    have nch : p.1 ∉ ch := fun z => (hch p.1 z).2.2.2 p hp rfl
    exact ⟨keep p.1 p.2 ne nf nch e n, free p.1 p.2 nch e n, ne, nf, d⟩
theorem Inv.un {t' : Nat} (I : Inv X pins σ H s) (u : Un X.fs [] H H' s.heap h') (hok : HOk X.prog X.w H' h') : Inv X pins σ H' { s with heap := h', toks := t' } := by
  obtain ⟨m, ⟨o, es, ep, ho, r⟩, _⟩ := id I.loc
  obtain ⟨sl, hL⟩ := u.any ho I.free (by simp)
  exact I.step (g' := s.gens) (d' := s.drawn) (ch := []) (fun _ z => nomatch z) (fun b o _ hb _ e n => u.keep b o e n hb (by simp)) (fun b o _ hb _ e n => u.slot b o e n hb (by simp)) (fun b o _ e n => u.free b o e n (by simp)) (fun b o _ e => u.there b o e (by simp)) u.tups u.frzs u.tbls (fun m' hm => by
    obtain ⟨o', es', ep', ho', r'⟩ := hm
    rw [ho] at ho'; cases ho'
    exact ⟨_, es', ep', hL, r'⟩) hok I.bare
theorem Inv.call {g' : Array GenState} {t' : Nat} {d' : Drawn} {ch : List Addr} (I : Inv X pins σ H s) (u : Un (frs X.stack) ch H H' s.heap h') (hok : HOk X.prog X.w H' h') (hg : AllBare g')
    (hch : ∀ b ∈ ch, (b ∈ X.ex ∨ X.s₀.heap.objs.size ≤ b) ∧ b ≠ X.env.locals ∧ (∀ x c, X.env.cells.lookup x = some c → c ≠ b) ∧ ∀ p ∈ X.pn ++ pins, p.1 ≠ b) :
    Inv X pins σ H' { s with heap := h', gens := g', drawn := d', toks := t' } := by
  obtain ⟨m, ⟨o, es, ep, ho, r⟩, _⟩ := id I.loc
  obtain ⟨sl, hL⟩ := u.any ho I.free fun z => (hch _ z).2.1 rfl
  exact I.step (ch := ch) hch (fun b o hL hb hc e n => u.keep b o e n (fun z => (List.mem_cons.mp (I.stkSub b z)).elim hL hb) hc) (fun b o _ _ hc e n => u.any e n hc) (fun b o hc e n => u.free b o e n hc) (fun b o hc e => u.there b o e hc) u.tups u.frzs u.tbls (fun m' hm => by
    obtain ⟨o', es', ep', ho', r'⟩ := hm
    rw [ho] at ho'; cases ho'
    exact ⟨_, es', ep', hL, r'⟩) hok hg
theorem Inv.turned {t' : Nat} {it : Addr} (I : Inv X pins σ H s) (k : ∀ b o, b ≠ it → s.heap.get? b = some o → h'.get? b = some o) (hn : H it = none) (hL : it ≠ X.env.locals)
    (h1 : it ∈ X.ex ∨ X.s₀.heap.objs.size ≤ it) (h2 : ∀ x c, X.env.cells.lookup x = some c → c ≠ it) (h3 : ∀ p ∈ X.pn ++ pins, p.1 ≠ it) : Inv X pins σ H { s with heap := h', toks := t' } := by
  have nit : ∀ b u, H b = some u → b ≠ it := fun b u e z => by rw [z, hn] at e; cases e
  refine I.step (g' := s.gens) (d' := s.drawn) (ch := [it]) (fun b hb => ?_) (fun b o _ _ hc e _ => k b o (fun z => hc (by simp [z])) e) (fun b o _ _ hc e _ => ⟨o.slots, k b o (fun z => hc (by simp [z])) e⟩) (fun _ _ _ _ n => n)
    (fun b o hc e => ⟨o, k b o (fun z => hc (by simp [z])) e⟩) (fun _ _ e => e) (fun _ _ _ e => e) (fun b ps e => ⟨#[], by rw [e]; simp⟩) (fun m hm => ?_) (fun b u e => ?_) I.bare
  · have e : b = it := by simpa using hb
    subst e
    exact ⟨h1, hL, h2, h3⟩
  · obtain ⟨o, es, ep, ho, r⟩ := hm
    exact ⟨o, es, ep, k _ o (Ne.symm hL) ho, r⟩
  · refine (I.hok b u e).stay (fun c v hc q => k c v ?_ q) (fun _ q => q) fun _ _ q => q
    rcases hc with z | z
    · rw [z]; exact nit b u e
    · exact nit c _ z
theorem Inv.tok (I : Inv X pins σ H s) (t : Nat) : Inv X pins σ H { s with toks := t } := I.un (h' := s.heap) (t' := t) Un.refl I.hok
theorem Inv.kept {t' : Nat} (I : Inv X pins σ H s) (k : ∀ b u, s.heap.get? b = some u → h'.get? b = some u) : Inv X pins σ H { s with heap := h', toks := t' } := I.un (Un.kept k) (I.hok.kept k)
theorem Inv.laid {a : Addr} {o : HO} {t' : Nat} (I : Inv X pins σ H s) (k : ∀ b u, s.heap.get? b = some u → h'.get? b = some u) (hp : s.heap.objs.size ≤ a) (new : ObjOk X.prog X.w (upd H a o) h' a o) :
    Inv X pins σ (upd H a o) { s with heap := h', toks := t' } := I.un (Un.laid k hp (I.hok.fresh hp)) (I.hok.laid k hp new)
theorem Inv.write {x e : Addr} {o : HO} {t' : Nat} (I : Inv X pins σ H s) (mu : Mut (H x)) (he : e = x ∨ H e = some (.own x)) (k : ∀ b u, b ≠ e → s.heap.get? b = some u → h'.get? b = some u) (heo : ∃ u, h'.get? e = some u)
    (new : ObjOk X.prog X.w (upd H x o) h' x o) : Inv X pins σ (upd H x o) { s with heap := h', toks := t' } := I.un (Un.write mu he k heo) (I.hok.write mu he k heo new)
theorem Inv.pins_of {pins' : List (Addr × Obj)} (I : Inv X pins σ H s) (h : ∀ p ∈ pins', s.heap.get? p.1 = some p.2 ∧ H p.1 = none ∧ p.1 ≠ X.env.locals ∧ p.1 ∉ X.fs ∧ ∀ v, p.2.data ≠ .cell v) : Inv X pins' σ H s :=
  ⟨I.ok, I.os, I.bare, I.base, I.loc, I.cell, I.free, I.freeC, fun p hp => (List.mem_append.mp hp).elim (fun z => I.pin p (List.mem_append_left _ z)) (h p), I.hok, I.len⟩
theorem nodup_ix {N : List Str} (hN : N.Nodup) {i j : Nat} {x : Str} (a : N[i]? = some x) (b : N[j]? = some x) : i = j := by
  obtain ⟨h1, e1⟩ := List.getElem?_eq_some_iff.mp a
  obtain ⟨h2, e2⟩ := List.getElem?_eq_some_iff.mp b
  exact (List.getElem_inj hN).mp (e1.trans e2.symm)
theorem store_ok2 {M : Model} {A : Around} {E : Value → Shared → Prop} {i : Nat} {x : Str} {v : V} {u : Value} {Q : Unit → Shared → Prop} (I : Inv X pins σ H s) (hN : X.N.Nodup) (hi : X.N[i]? = some x) (hx : Loc X.env.scope x) (r : RelV v u)
    (h : ∀ s', Inv X pins (σ.set i (some v)) H s' → (∃ a, Heap.SameBut a s.heap s'.heap ∧ (a = X.env.locals ∨ X.env.cells.lookup x = some a)) → Q () s') (hf : X.fn x = true ∨ X.env.scope.names.lookup x = some .local := by first | exact .inl rfl | exact .inr rfl | assumption) : wpAny M A (storeName X.env x u) Q E s := by
  obtain ⟨m, hn, hl⟩ := id I.loc
  have hcls : (X.env.scope.kind == .class || (X.env.scope.kind == .module && X.env.locals != X.env.globals)) = false := by rw [I.ok.kind]; rfl
  have hiσ : i < σ.length := by rw [I.len]; exact (List.getElem?_eq_some_iff.mp hi).1
  have cne := I.cne
  have tracked : ∀ {a : Addr} {h' : Heap}, (∃ o, s.heap.get? a = some o ∧ H a = none) → Heap.SameBut a s.heap h' → HOk X.prog X.w H h' := fun {a h'} ha hs b ob e => by
    obtain ⟨_, _, hfree⟩ := ha
    refine (I.hok b ob e).stay (fun c w' hc q => (hs.2 c ?_).trans q) (fun _ q => q) fun _ _ q => q
    rintro rfl
    rcases hc with rfl | hc
    · rw [hfree] at e; cases e
    · rw [hfree] at hc; cases hc
  rcases hx with hk | hk
  · refine wpAny_storeName_local hk hn (fun h' hn' hs => ?_) hcls
    obtain ⟨oL, _, _, hoL, _⟩ := id hn
    refine h _ ⟨I.ok, I.os, I.bare, ⟨fun b o e n hb hx => ?_, fun b o e n hb hx => ?_, I.base.free, fun b o e hx => ?_, I.base.tups, I.base.frzs, I.base.tbls⟩, ⟨_, hn', fun j y v' e1 e2 e3 => ?_⟩, fun y c e => ?_, I.free, I.freeC, fun p hp => ?_, tracked ⟨oL, hoL, I.free⟩ hs, by simpa using I.len⟩ ⟨_, hs, .inl rfl⟩
    · exact (hs.2 b (Nat.ne_of_lt (Nat.lt_of_lt_of_le (Heap.lt_size e) I.ok.above))).trans (I.base.keep b o e n hb hx)
    · obtain ⟨sl, e1⟩ := I.base.slot b o e n hb hx
      exact ⟨sl, (hs.2 b (Nat.ne_of_lt (Nat.lt_of_lt_of_le (Heap.lt_size e) I.ok.above))).trans e1⟩
    · obtain ⟨o', e1⟩ := I.base.there b o e hx
      exact ⟨o', (hs.2 b (Nat.ne_of_lt (Nat.lt_of_lt_of_le (Heap.lt_size e) I.ok.above))).trans e1⟩
    · by_cases hj : j = i
      · subst hj
        rw [hi] at e1; cases e1
        rw [List.getElem?_set_self hiσ] at e2
        cases e2
        exact ⟨u, r, .inl ⟨hk, by simp⟩⟩
      · rw [List.getElem?_set_ne (Ne.symm hj)] at e2
        obtain ⟨u', r', q⟩ := hl j y v' e1 e2 e3
        refine ⟨u', r', ?_⟩
        rcases q with ⟨k, e⟩ | ⟨k, c, e, z⟩
        · refine .inl ⟨k, ?_⟩
          have : y ≠ x := fun e => hj (nodup_ix hN e1 (e ▸ hi))
          simp [this, e]
        · exact .inr ⟨k, c, e, z.sameBut hs (cne y c e)⟩
    · obtain ⟨w', z⟩ := I.cell y c e
      exact ⟨w', z.sameBut hs (cne y c e)⟩
    · obtain ⟨e, n, ne, nf, d⟩ := I.pin p hp
      exact ⟨(hs.2 p.1 ne).trans e, n, ne, nf, d⟩
  · have hfn : X.fn x = true := by
      rcases hf with z | z
      · exact z
      · rw [z] at hk; cases hk
    obtain ⟨c, hc⟩ := I.ok.has x (.inl hk)
    obtain ⟨w', z⟩ := I.cell x c hc
    refine wpAny_storeName_cell I.ok.kind hk hc z (fun h' hc' hs => ?_)
    obtain ⟨oc, hoc, hocd⟩ := id z
    refine h { s with heap := h' } ⟨I.ok, I.os, I.bare, ⟨fun b o e n hb hx => ?_, fun b o e n hb hx => ?_, I.base.free, fun b o e hx => ?_, I.base.tups, I.base.frzs, I.base.tbls⟩, ⟨m, hn.sameBut hs (Ne.symm (cne x c hc)), fun j y v' e1 e2 e3 => ?_⟩, fun y c' e => ?_, I.free, I.freeC, fun p hp => ?_, tracked ⟨oc, hoc, I.freeC x c hc⟩ hs, by simpa using I.len⟩ ⟨c, hs, .inr hc⟩
    · exact (hs.2 b (Nat.ne_of_lt (Nat.lt_of_lt_of_le (Heap.lt_size e) (I.ok.cab x c hfn hc)))).trans (I.base.keep b o e n hb hx)
    · obtain ⟨sl, e1⟩ := I.base.slot b o e n hb hx
      exact ⟨sl, (hs.2 b (Nat.ne_of_lt (Nat.lt_of_lt_of_le (Heap.lt_size e) (I.ok.cab x c hfn hc)))).trans e1⟩
    · obtain ⟨o', e1⟩ := I.base.there b o e hx
      exact ⟨o', (hs.2 b (Nat.ne_of_lt (Nat.lt_of_lt_of_le (Heap.lt_size e) (I.ok.cab x c hfn hc)))).trans e1⟩
    · by_cases hj : j = i
      · subst hj
        rw [hi] at e1; cases e1
        rw [List.getElem?_set_self hiσ] at e2
        cases e2
        exact ⟨u, r, .inr ⟨.inl hk, c, hc, hc'⟩⟩
      · rw [List.getElem?_set_ne (Ne.symm hj)] at e2
        obtain ⟨u', r', q⟩ := hl j y v' e1 e2 e3
        refine ⟨u', r', ?_⟩
        rcases q with q | ⟨k, c', e, z'⟩
        · exact .inl q
        · refine .inr ⟨k, c', e, z'.sameBut hs ?_⟩
          rintro rfl
          exact hj (nodup_ix hN e1 (I.ok.inj _ _ _ e hc ▸ hi))
    · by_cases hcc : c' = c
      · subst hcc; exact ⟨_, hc'⟩
      · obtain ⟨w2, z2⟩ := I.cell y c' e
        exact ⟨w2, z2.sameBut hs hcc⟩
    · obtain ⟨e, n, ne, nf, d⟩ := I.pin p hp
      refine ⟨(hs.2 p.1 ?_).trans e, n, ne, nf, d⟩
      intro q
      rw [q, hoc] at e
      have q' : oc = p.2 := Option.some.inj e
      exact d w' (by rw [← q']; exact hocd)
theorem store_ok {M : Model} {A : Around} {E : Value → Shared → Prop} {i : Nat} {x : Str} {v : V} {u : Value} {Q : Unit → Shared → Prop} (I : Inv X pins σ H s) (hN : X.N.Nodup) (hi : X.N[i]? = some x) (hx : Loc X.env.scope x) (r : RelV v u)
    (h : ∀ s', Inv X pins (σ.set i (some v)) H s' → Q () s') (hf : X.fn x = true ∨ X.env.scope.names.lookup x = some .local := by first | exact .inl rfl | exact .inr rfl | assumption) : wpAny M A (storeName X.env x u) Q E s :=
  store_ok2 I hN hi hx r (fun s' I' _ => h s' I') hf
theorem Inv.call' {s' : Shared} {ch : List Addr} (I : Inv X pins σ H s) (ho : s'.os = s.os) (u : Un (frs X.stack) ch H H' s.heap s'.heap) (hok : HOk X.prog X.w H' s'.heap) (hg : AllBare s'.gens)
    (hch : ∀ b ∈ ch, (b ∈ X.ex ∨ X.s₀.heap.objs.size ≤ b) ∧ b ≠ X.env.locals ∧ (∀ x c, X.env.cells.lookup x = some c → c ≠ b) ∧ ∀ p ∈ X.pn ++ pins, p.1 ≠ b) : Inv X pins σ H' s' := by
  obtain ⟨h', g', d', t', o'⟩ := s'
  have e : o' = s.os := ho
  subst e
  exact I.call (g' := g') (t' := t') (d' := d') u hok hg hch
end
abbrev XK := Value → Option Addr → Hp → Prop
abbrev St := List (Option V)
abbrev VK := V → Hp → Prop
abbrev TE := St → Hp → VK → Prop
abbrev TT := St → Hp → (Bool → Hp → Prop) → Prop
abbrev TA := St → Hp → (List V → Hp → Prop) → Prop
structure Ends where
  nx : St → Hp → Prop
  rt : VK
  bk : St → Hp → Prop := fun _ _ => False
  ct : St → Hp → Prop := fun _ _ => False
abbrev TS := Ends → St → Hp → Prop
def EP (X : Cx) (pins : List (Addr × Obj)) (σ : St) (Q : VK) (u : Value) (s' : Shared) : Prop := ∃ v H', Inv X pins σ H' s' ∧ RelV v u ∧ Q v H'
def TP (X : Cx) (pins : List (Addr × Obj)) (σ : St) (Q : Bool → Hp → Prop) (b : Bool) (s' : Shared) : Prop := ∃ H', Inv X pins σ H' s' ∧ Q b H'
def AP (X : Cx) (pins : List (Addr × Obj)) (σ : St) (Q : List V → Hp → Prop) (us : List Value) (s' : Shared) : Prop := ∃ vs H', Inv X pins σ H' s' ∧ Vals vs us ∧ Q vs H'
def SP (X : Cx) (pins : List (Addr × Obj)) (D : Ends) (f : Flow) (s' : Shared) : Prop :=
  match f with
  | .next => ∃ σ' H', Inv X pins σ' H' s' ∧ D.nx σ' H'
  | .brk => ∃ σ' H', Inv X pins σ' H' s' ∧ D.bk σ' H'
  | .cont => ∃ σ' H', Inv X pins σ' H' s' ∧ D.ct σ' H'
  | .ret u => ∃ v σ' H', Inv X pins σ' H' s' ∧ RelV v u ∧ D.rt v H'
def PE (X : Cx) (e : Expr) (t : TE) : Prop :=
  ∀ (pins : List (Addr × Obj)) (s : Shared) (σ : St) (H : Hp) (Q : VK), Inv X pins σ H s → t σ H Q → wpAny (model X.prog X.w) X.A (eval e X.env) (EP X pins σ Q) X.xe s
def PT (X : Cx) (e : Expr) (t : TT) : Prop :=
  ∀ (pins : List (Addr × Obj)) (s : Shared) (σ : St) (H : Hp) (Q : Bool → Hp → Prop), Inv X pins σ H s → t σ H Q → wpAny (model X.prog X.w) X.A (isTrue e X.env (eval e X.env)) (TP X pins σ Q) X.xe s
def PW (X : Cx) (e : Expr) (t : TT) : Prop :=
  ∀ (whole : Sem Value) (pins : List (Addr × Obj)) (s : Shared) (σ : St) (H : Hp) (Q : Bool → Hp → Prop), Inv X pins σ H s → t σ H Q → wpAny (model X.prog X.w) X.A (isTrue e X.env whole) (TP X pins σ Q) X.xe s
theorem PW.pt {X : Cx} {e : Expr} {t : TT} (h : PW X e t) : PT X e t := h _
def PA (X : Cx) (es : List Expr) (t : TA) : Prop :=
  ∀ (pos : Pos) (pins : List (Addr × Obj)) (s : Shared) (σ : St) (H : Hp) (Q : List V → Hp → Prop), Inv X pins σ H s → t σ H Q → wpAny (model X.prog X.w) X.A (spliced (backTo pos (starEach es X.env))) (AP X pins σ Q) X.xe s
def PS (X : Cx) (st : Stmt) (t : TS) : Prop :=
  ∀ (pins : List (Addr × Obj)) (s : Shared) (σ : St) (H : Hp) (D : Ends), Inv X pins σ H s → t D σ H → wpAny (model X.prog X.w) X.A (exec st X.env) (SP X pins D) X.xe s
def PSs (X : Cx) (st : List Stmt) (t : TS) : Prop :=
  ∀ (pins : List (Addr × Obj)) (s : Shared) (σ : St) (H : Hp) (D : Ends), Inv X pins σ H s → t D σ H → wpAny (model X.prog X.w) X.A (execs st X.env) (SP X pins D) X.xe s
theorem thn {α : Type} {t : Sem α} {Q Q' : α → Shared → Prop} {M : Model} {A : Around} {E : Value → Shared → Prop} {s : Shared} (h : wpAny M A t Q E s) (hQ : ∀ a s, Q a s → Q' a s) : wpAny M A t Q' E s := wpAny_mono h hQ fun _ _ x => x
end L2
namespace L2
open PySem PySem.Spec PyProof.Rows
section
variable {X : Cx}
def tVar (i : Nat) : TE := fun σ H Q => ∃ v, σ[i]? = some (some v) ∧ Q v H
def tC (v : V) : TE := fun _ H Q => Q v H
theorem pe_var {i : Nat} {x : Str} {pos : Pos} (hN : X.N[i]? = some x) (hv : Vis X.env.scope x) (hd : (x == ("__debug__" : Str)) = false := by decide) (hcd : (x == ("__classdict__" : Str)) = false := by decide) : PE X (.Name x pos) (tVar i) := by
  intro pins s σ H Q I h
  obtain ⟨v, e, h⟩ := h
  obtain ⟨m, hn, hl⟩ := I.loc
  obtain ⟨u, r, l⟩ := hl i x v hN e hv
  have fin : EP X pins σ Q u s := ⟨v, H, I, r, h⟩
  rcases l with ⟨hk, hm⟩ | ⟨hk, c, hc, hcell⟩
  · exact wpAny_Name (wpAny_loadName_local I.ok.kind hk hn hm fin) hd
  · rcases hk with hk | hk
    · exact wpAny_Name (wpAny_loadName_cell I.ok.kind hk hc hcell fin) hd
    · exact wpAny_Name (wpAny_loadName_free I.ok.kind hk hc hcell fin hcd) hd
theorem pe_int {i j pos} : PE X (.Constant (.int i) j pos) (tC (.int i)) := fun _ _ _ H _ I h => wpAny_Constant_int ⟨.int i, H, I.tok _, ⟨_, rfl⟩, h⟩
theorem pe_bl {b j pos} : PE X (.Constant (.bool b) j pos) (tC (.bl b)) := fun _ _ _ H _ I h => Constant_bool ⟨.bl b, H, I, rfl, h⟩
theorem pe_non {j pos} : PE X (.Constant .none j pos) (tC .non) := fun _ _ _ H _ I h => Constant_none ⟨.non, H, I, rfl, h⟩
theorem pe_str {x j pos} : PE X (.Constant (.str x) j pos) (tC (.str x)) := fun _ _ _ H _ I h => Calls.Constant_str ⟨.str x, H, I.tok _, ⟨_, rfl⟩, h⟩
def Gl (X : Cx) (x : Str) : Prop := X.env.kindOf x = some .globalImplicit
theorem ld_glob {E : Value → Shared → Prop} {pins : List (Addr × Obj)} {s : Shared} {σ : St} {H : Hp} {x : Str} {u : Value} {pos : Pos} {Q : Value → Shared → Prop} (I : Inv X pins σ H s) (hg : Gl X x) (hm : X.mg x = some u) (h : Q u s)
    (hd : (x == ("__debug__" : Str)) = false := by decide) : wpAny (model X.prog X.w) X.A (eval (.Name x pos) X.env) Q E s :=
  Calls.Name_function_global I.ok.kind hg (Calls.loadGlobal_global (by rw [I.ok.glob]; exact I.mod.glob.keeps I.bk) hm h) hd
theorem ld_blt {E : Value → Shared → Prop} {pins : List (Addr × Obj)} {s : Shared} {σ : St} {H : Hp} {x : Str} {u : Value} {pos : Pos} {Q : Value → Shared → Prop} (I : Inv X pins σ H s) (hg : Gl X x) (hm : X.mg x = none) (hv : bootBuiltins x = some u) (h : Q u s)
    (hn : x ≠ "__name__" := by decide) (hd : (x == ("__debug__" : Str)) = false := by decide) : wpAny (model X.prog X.w) X.A (eval (.Name x pos) X.env) Q E s := by
  obtain ⟨mb, h1, h2⟩ := I.mod.blt
  exact Calls.Name_function_global I.ok.kind hg (Calls.loadGlobal_builtin (by rw [I.ok.glob]; exact I.mod.glob.keeps I.bk) hm (by rw [I.ok.blt]; exact h1.keeps I.bk) ((h2 x hn).trans hv) h) hd
theorem pe_glob {x : Str} {v : V} {u : Value} {pos : Pos} (hg : Gl X x) (hm : X.mg x = some u) (r : RelV v u) (hd : (x == ("__debug__" : Str)) = false := by decide) : PE X (.Name x pos) (tC v) :=
  fun _ _ _ H _ I h => ld_glob I hg hm ⟨v, H, I, r, h⟩ hd
theorem pe_bltn {x : Str} {v : V} {u : Value} {pos : Pos} (hg : Gl X x) (hm : X.mg x = none) (hv : bootBuiltins x = some u) (r : RelV v u) (hn : x ≠ "__name__" := by decide) (hd : (x == ("__debug__" : Str)) = false := by decide) : PE X (.Name x pos) (tC v) :=
  fun _ _ _ H _ I h => ld_blt I hg hm hv ⟨v, H, I, r, h⟩ hn hd
variable {a b : Expr} {ta tb : TE} {pos : Pos}
def PC (X : Cx) (op : CmpOp) (a b : Expr) (t : TE) : Prop :=
  ∀ (pins : List (Addr × Obj)) (s : Shared) (σ : St) (H : Hp) (Q : VK), Inv X pins σ H s → t σ H Q →
    wpAny (model X.prog X.w) X.A (eval a X.env) (fun v s₁ => wpAny (model X.prog X.w) X.A (eval b X.env) (fun u s₂ => wpAny (model X.prog X.w) X.A (compareOp op v u) (EP X pins σ Q) X.xe s₂) X.xe s₁) X.xe s
def tB (t : TE) : TT := fun σ H Q => t σ H fun x H1 => ∃ c, x = .bl c ∧ Q c H1
theorem pt_cmp {op : CmpOp} {t : TE} (h : PC X op a b t) (h1 : behindInMarks op b = false := by first | exact nobehind _ (by decide) (by decide) | rfl) : PT X (.Compare a [op] [b] pos) (tB t) := by
  intro pins s σ H Q I hw
  refine wpAny_isTrue_Compare1 (thn (h pins s σ H _ I hw) fun v s1 h1 => thn h1 fun u s2 h2 => thn h2 fun c s3 ⟨x, H1, I1, r1, q1⟩ => ?_) h1
  obtain ⟨d, rfl, q⟩ := q1
  cases r1
  exact wpAny_truthy_bool ⟨H1, I1, q⟩
theorem pt_val {e : Expr} {t : TE} (h : PE X e t) (he : ∀ whole, isTrue e X.env whole = (do let v ← whole; standAt e.pos; holding [v] (truthy v)) := by intro _; rfl) : PT X e (tB t) := by
  intro pins s σ H Q I hw
  refine isTrue_plain (thn (h pins s σ H _ I hw) fun v s1 ⟨x, H1, I1, r1, q1⟩ => ?_) (he _)
  obtain ⟨d, rfl, q⟩ := q1
  cases r1
  exact wpAny_truthy_bool ⟨H1, I1, q⟩
variable {tA tB' : TT} {rest : List Expr}
def tOr (t u : TT) : TT := fun σ H Q => t σ H fun c H1 => if c = true then Q true H1 else u σ H1 Q
def tNot (t : TT) : TT := fun σ H Q => t σ H fun c H1 => Q (!c) H1
theorem pw_or1 (ha : PT X a tA) : PW X (.BoolOp .Or [a] pos) tA := by
  intro wh pins s σ H Q I h
  refine isTrue_or (thn (ha pins s σ H Q I h) fun c s1 e => ?_)
  cases c with
  | false => exact isTrue_or_nil e
  | true => exact e
theorem pw_or (ha : PT X a tA) (hb : PW X (.BoolOp .Or (b :: rest) pos) tB') : PW X (.BoolOp .Or (a :: b :: rest) pos) (tOr tA tB') := by
  intro wh pins s σ H Q I h
  refine isTrue_or (thn (ha pins s σ H _ I h) fun c s1 ⟨H1, I1, q1⟩ => ?_)
  cases c with
  | true => exact ⟨H1, I1, q1⟩
  | false => exact hb wh pins s1 σ H1 Q I1 q1
theorem pt_not (ha : PT X a tA) : PT X (.UnaryOp .Not a pos) (tNot tA) := by
  intro pins s σ H Q I h
  exact isTrue_not (ha pins s σ H (fun c H1 => Q (!c) H1) I h)
def tAndV (ta tb : TE) : TE := fun σ H Q => ta σ H fun x H1 => ∃ c, x = .bl c ∧ if c = true then tb σ H1 Q else Q (.bl false) H1
def tNotV (ta : TE) : TE := fun σ H Q => ta σ H fun x H1 => ∃ c, x = .bl c ∧ Q (.bl (!c)) H1
theorem pe_one {op} {t : TE} (h : PE X a t) : PE X (.BoolOp op [a] pos) t := fun pins s σ H Q I hw => BoolOp_one (h pins s σ H Q I hw)
theorem pe_and (ha : PE X a ta) (hb : PE X (.BoolOp .And (b :: rest) pos) tb) : PE X (.BoolOp .And (a :: b :: rest) pos) (tAndV ta tb) := by
  intro pins s σ H Q I h
  refine BoolOp_and (thn (ha pins s σ H _ I h) fun v s1 ⟨x, H1, I1, r1, q1⟩ => ?_)
  obtain ⟨c, rfl, q1⟩ := q1
  cases r1
  refine wpAny_truthy_bool ?_
  cases c with
  | true => exact hb pins s1 σ H1 Q I1 q1
  | false => exact ⟨.bl false, H1, I1, rfl, q1⟩
theorem pe_not (ha : PE X a ta) : PE X (.UnaryOp .Not a pos) (tNotV ta) := by
  intro pins s σ H Q I h
  refine UnaryOp_ (thn (ha pins s σ H _ I h) fun v s1 ⟨x, H1, I1, r1, q1⟩ => ?_)
  obtain ⟨c, rfl, q1⟩ := q1
  cases r1
  exact not_of (wpAny_truthy_bool ⟨.bl (!c), H1, I1, rfl, q1⟩)
def tIf (t : TT) (ta tb : TE) : TE := fun σ H Q => t σ H fun c H1 => if c = true then ta σ H1 Q else tb σ H1 Q
theorem pe_ifExp {c : Expr} (hc : PT X c tA) (ha : PE X a ta) (hb : PE X b tb) : PE X (.IfExp c a b pos) (tIf tA ta tb) := by
  intro pins s σ H Q I h
  refine wpAny_IfExp (thn (hc pins s σ H _ I h) fun d s1 ⟨H1, I1, q1⟩ => ?_)
  cases d with
  | true => exact ha pins s1 σ H1 Q I1 q1
  | false => exact hb pins s1 σ H1 Q I1 q1
end
end L2
namespace L2
open PySem PySem.Spec PyProof.Rows
def SqL (K : W.Frag) (H : Hp) (a : Addr) (xs : List V) : Prop :=
  Rd H a (.lst xs) ∨
    ∃ (o : Obj) (its : Array Value) (n : Nat), K.lookup a = some o ∧ o.cls = .type "list" ∧ o.dict = none ∧ o.data = .seq its n ∧ its.size ≤ sizeLine ∧ Vals xs its.toList
def SqT (K : W.Frag) (H : Hp) (a : Addr) (xs : List V) : Prop :=
  Rd H a (.tup xs) ∨
    ∃ (o : Obj) (its : Array Value) (n : Nat), K.lookup a = some o ∧ o.cls = .type "tuple" ∧ o.data = .seq its n ∧ its.size ≤ sizeLine ∧ Vals xs its.toList
def absV : Value → Option V
  | .none => some .non
  | .bool b => some (.bl b)
  | .int i _ => some (.int i)
  | .str x _ => some (.str x)
  | .bytes b _ => some (.byt b)
  | .float b _ => some (.flt b)
  | .ref a => some (.ref a)
  | .type n => some (.ty n)
  | _ => none
theorem RelV.abs {x : V} {u : Value} (r : RelV x u) : absV u = some x := by
  cases x with
  | non => cases r; rfl
  | bl _ => cases r; rfl
  | int _ => obtain ⟨t, rfl⟩ := r; rfl
  | str _ => obtain ⟨t, rfl⟩ := r; rfl
  | byt _ => obtain ⟨t, rfl⟩ := r; rfl
  | flt _ => obtain ⟨t, rfl⟩ := r; rfl
  | ref _ => cases r; rfl
  | ty _ => cases r; rfl
theorem RelV.inj {x y : V} {u : Value} (r : RelV x u) (q : RelV y u) : x = y := Option.some.inj (r.abs.symm.trans q.abs)
theorem Vals.inj : ∀ {xs ys : List V} {us : List Value}, Vals xs us → Vals ys us → xs = ys
  | _, _, _, .nil, .nil => rfl
  | _, _, _, .cons r t, .cons r' t' => by rw [r.inj r', Vals.inj t t']
section
variable {X : Cx} {pins : List (Addr × Obj)} {σ : St} {H : Hp} {s : Shared} {a : Addr} {xs ys : List V}
theorem SqL.of {K : W.Frag} (h : H a = some (.lst xs)) : SqL K H a xs := .inl (.inl h)
theorem SqT.of {K : W.Frag} (h : H a = some (.tup xs)) : SqT K H a xs := .inl (.inl h)
theorem Inv.list (I : Inv X pins σ H s) (h : SqL X.K H a xs) : ∃ its : List Value, Vals xs its ∧ PlainL s.heap a its.toArray ∧ xs.length ≤ sizeLine := by
  rcases h with h | ⟨o, its, n, hk, hc, hd, hs, hz, r⟩
  · obtain ⟨z, its, n, r, e⟩ := h.ok I.hok
    exact ⟨its, r, ⟨_, n, e, rfl, rfl, rfl⟩, z⟩
  · refine ⟨its.toList, r, ⟨o, n, I.kIn a o hk, hc, hd, by simpa using hs⟩, ?_⟩
    have e := r.length
    simp only [Array.length_toList] at e
    omega
theorem Inv.tuple (I : Inv X pins σ H s) (h : SqT X.K H a xs) : ∃ its : List Value, Vals xs its ∧ IsTup s.heap a its.toArray ∧ xs.length ≤ sizeLine := by
  rcases h with h | ⟨o, its, n, hk, hc, hs, hz, r⟩
  · obtain ⟨z, its, r, p⟩ := h.ok I.hok
    exact ⟨its, r, p, z⟩
  · refine ⟨its.toList, r, ⟨o, I.kIn a o hk, hc, n, by simpa using hs⟩, ?_⟩
    have e := r.length
    simp only [Array.length_toList] at e
    omega
theorem Inv.list_inj (I : Inv X pins σ H s) (h : SqL X.K H a xs) (h' : SqL X.K H a ys) : xs = ys := by
  obtain ⟨its, r, ⟨o, n, e, _, _, d⟩, _⟩ := I.list h
  obtain ⟨its', r', ⟨o', n', e', _, _, d'⟩, _⟩ := I.list h'
  rw [e] at e'; cases e'
  rw [d] at d'
  injection d' with d1 _
  have : its = its' := by simpa using congrArg Array.toList d1
  subst this
  exact r.inj r'
theorem Inv.tuple_inj (I : Inv X pins σ H s) (h : SqT X.K H a xs) (h' : SqT X.K H a ys) : xs = ys := by
  obtain ⟨its, r, ⟨o, e, _, n, d⟩, _⟩ := I.tuple h
  obtain ⟨its', r', ⟨o', e', _, n', d'⟩, _⟩ := I.tuple h'
  rw [e] at e'; cases e'
  rw [d] at d'
  injection d' with d1 _
  have : its = its' := by simpa using congrArg Array.toList d1
  subst this
  exact r.inj r'
end
abbrev Cx.wish (X : Cx) (E : Value → Shared → Prop) : Cx := { X with xe := E }
abbrev Cx.nox (X : Cx) : Cx := X.wish fun _ _ => False
theorem Cx.Ok.wish {X : Cx} (ok : X.Ok) (E : Value → Shared → Prop) : (X.wish E).Ok :=
  ⟨ok.mod, ok.kind, ok.glob, ok.blt, ok.above, ok.inj, ok.has, ok.cab, ok.hd, ok.frames, ok.stk, ok.exf, ok.bs, ok.bsz, ok.noex, ok.exfs, ok.funs, ok.frf⟩
theorem Cx.Ok.unwish {X : Cx} {E : Value → Shared → Prop} (ok : (X.wish E).Ok) : X.Ok :=
  ⟨ok.mod, ok.kind, ok.glob, ok.blt, ok.above, ok.inj, ok.has, ok.cab, ok.hd, ok.frames, ok.stk, ok.exf, ok.bs, ok.bsz, ok.noex, ok.exfs, ok.funs, ok.frf⟩
section
variable {X : Cx} {pins : List (Addr × Obj)} {σ : St} {H : Hp} {s : Shared} {E : Value → Shared → Prop}
theorem Inv.wish (I : Inv X pins σ H s) (E : Value → Shared → Prop) : Inv (X.wish E) pins σ H s := ⟨I.ok.wish E, I.os, I.bare, I.base, I.loc, I.cell, I.free, I.freeC, I.pin, I.hok, I.len⟩
theorem Inv.unwish (I : Inv (X.wish E) pins σ H s) : Inv X pins σ H s := ⟨I.ok.unwish, I.os, I.bare, I.base, I.loc, I.cell, I.free, I.freeC, I.pin, I.hok, I.len⟩
theorem SP.unwish {D : Ends} {f : Flow} {s' : Shared} (h : SP (X.wish E) pins D f s') : SP X pins D f s' := by
  cases f with
  | next => obtain ⟨σ', H', I, q⟩ := h; exact ⟨σ', H', I.unwish, q⟩
  | brk => obtain ⟨σ', H', I, q⟩ := h; exact ⟨σ', H', I.unwish, q⟩
  | cont => obtain ⟨σ', H', I, q⟩ := h; exact ⟨σ', H', I.unwish, q⟩
  | ret u => obtain ⟨v, σ', H', I, r, q⟩ := h; exact ⟨v, σ', H', I.unwish, r, q⟩
theorem PSs.nox {st : List Stmt} {t : TS} (h : PSs X.nox st t) : PSs X st t := fun pins s σ H D I hw =>
  wpAny_mono (h pins s σ H D (I.wish _) hw) (fun _ _ q => q.unwish) fun _ _ z => False.elim z
end
section
variable {X : Cx} {st : Stmt} {rest : List Stmt} {t u : TS} {e : Expr} {te : TE} {pos : Pos}
def tNext : TS := fun D σ H => D.nx σ H
def tSeq (t u : TS) : TS := fun D σ H => t { D with nx := u D } σ H
theorem pss_nil : PSs X [] tNext := fun _ _ σ H _ I h => wpAny_execs_nil ⟨σ, H, I, h⟩
theorem pss_cons (h1 : PS X st t) (h2 : PSs X rest u) : PSs X (st :: rest) (tSeq t u) := by
  intro pins s σ H D I h
  refine wpAny_execs_cons (thn (h1 pins s σ H { D with nx := u D } I h) fun f s1 q => ?_)
  cases f with
  | next =>
    obtain ⟨σ', H', I', q⟩ := q
    exact h2 pins s1 σ' H' D I' q
  | ret v => exact q
  | brk => exact q
  | cont => exact q
theorem pss_one (h1 : PS X st t) : PSs X [st] t := by
  intro pins s σ H D I h
  refine wpAny_execs_cons (thn (h1 pins s σ H D I h) fun f s1 q => ?_)
  cases f with
  | next => exact wpAny_execs_nil q
  | ret v => exact q
  | brk => exact q
  | cont => exact q
theorem Inv.quiet {pins : List (Addr × Obj)} {σ : St} {H : Hp} {s : Shared} (I : Inv X pins σ H s) : interactive X.env = false := by simp [interactive, I.ok.kind]
def tDrop (te : TE) : TS := fun D σ H => te σ H fun _ H1 => D.nx σ H1
theorem ps_expr (he : PE X e te) (hs : swapsWith e none pos.line X.env = pure false := by rfl) : PS X (.Expr e pos) (tDrop te) := by
  intro pins s σ H D I h
  exact wpAny_Expr_any (thn (he pins s σ H _ I h) fun v s1 ⟨x, H1, I1, r1, q1⟩ => ⟨σ, H1, I1, q1⟩) I.quiet hs
def tRet (te : TE) : TS := fun D σ H => te σ H D.rt
theorem ps_ret (he : PE X e te) : PS X (.Return (some e) pos) (tRet te) := by
  intro pins s σ H D I h
  exact wpAny_Return_some (thn (he pins s σ H _ I h) fun v s1 ⟨x, H1, I1, r1, q1⟩ => ⟨x, σ, H1, I1, r1, q1⟩)
def tRetN : TS := fun D _ H => D.rt .non H
theorem ps_retN : PS X (.Return none pos) tRetN := fun _ _ σ H _ I h => wpAny_Return_none ⟨.non, σ, H, I, rfl, h⟩
def tIfS (c : TT) (t u : TS) : TS := fun D σ H => c σ H fun b H1 => if b = true then t D σ H1 else u D σ H1
theorem ps_if {c : Expr} {a b : List Stmt} {tc : TT} (hc : PT X c tc) (ha : PSs X a t) (hb : PSs X b u) : PS X (.If c a b pos) (tIfS tc t u) := by
  intro pins s σ H D I h
  refine wpAny_If (thn (hc pins s σ H _ I h) fun d s1 ⟨H1, I1, q1⟩ => ?_)
  cases d with
  | true => exact ha pins s1 σ H1 D I1 q1
  | false => exact hb pins s1 σ H1 D I1 q1
def tNever : TS := fun _ _ _ => False
theorem ps_never : PS X st tNever := fun _ _ _ _ _ _ h => h.elim
end
abbrev TG := V → St → Hp → (St → Hp → Prop) → Prop
def PG (X : Cx) (target : Expr) (t : TG) : Prop :=
  ∀ (pins : List (Addr × Obj)) (s : Shared) (σ : St) (H : Hp) (v : V) (u : Value) (Q : St → Hp → Prop), Inv X pins σ H s → RelV v u → t v σ H Q →
    wpAny (model X.prog X.w) X.A (assign target X.env u) (fun _ s' => ∃ σ' H', Inv X pins σ' H' s' ∧ Q σ' H') X.xe s
abbrev TIp := V → V → Hp → VK → Prop
def PIp (X : Cx) (op : Operator) (t : TIp) : Prop :=
  ∀ (pins : List (Addr × Obj)) (s : Shared) (σ : St) (H : Hp) (x y : V) (v u : Value) (Q : VK), Inv X pins σ H s → RelV x v → RelV y u → t x y H Q →
    wpAny (model X.prog X.w) X.A (inplaceOp op v u) (EP X pins σ Q) X.xe s
section
variable {X : Cx} {pos : Pos}
def gName (i : Nat) : TG := fun v σ H Q => Q (σ.set i (some v)) H
theorem pg_name {i : Nat} {x : Str} (hN : X.N.Nodup) (hi : X.N[i]? = some x) (hx : Loc X.env.scope x) (hf : X.fn x = true ∨ X.env.scope.names.lookup x = some .local := by first | exact .inl rfl | exact .inr rfl | assumption) : PG X (.Name x pos) (gName i) := by
  intro pins s σ H v u Q I r h
  exact wpAny_assign_Name (store_ok I hN hi hx r (fun s' I' => ⟨_, H, I', h⟩) hf)
def tAsg (te : TE) (g : TG) : TS := fun D σ H => te σ H fun x H1 => g x σ H1 D.nx
theorem ps_set {i : Nat} {x : Str} {e : Expr} {te : TE} {pos' : Pos} (hN : X.N.Nodup) (hi : X.N[i]? = some x) (hx : Loc X.env.scope x) (he : PE X e te) (hs : swapsWith e (some (.Name x pos')) pos.line X.env = pure false := by rfl) (hf : X.fn x = true ∨ X.env.scope.names.lookup x = some .local := by first | exact .inl rfl | exact .inr rfl | assumption) :
    PS X (.Assign [.Name x pos'] e pos) (tAsg te (gName i)) := by
  intro pins s σ H D I h
  refine wpAny_Assign_Name (thn (he pins s σ H _ I h) fun v s1 ⟨y, H1, I1, r1, q1⟩ => ?_) hs
  exact store_ok I1 hN hi hx r1 (fun s2 I2 => ⟨_, H1, I2, q1⟩) hf
def tAug (i : Nat) (te : TE) (ti : TIp) : TS := fun D σ H => ∃ x, σ[i]? = some (some x) ∧ te σ H fun y H1 => ti x y H1 fun z H2 => D.nx (σ.set i (some z)) H2
theorem ps_aug {i : Nat} {x : Str} {e : Expr} {te : TE} {op : Operator} {ti : TIp} {pos' : Pos} (hN : X.N.Nodup) (hi : X.N[i]? = some x) (hx : Loc X.env.scope x) (he : PE X e te) (ho : PIp X op ti) (hf : X.fn x = true ∨ X.env.scope.names.lookup x = some .local := by first | exact .inl rfl | exact .inr rfl | assumption) :
    PS X (.AugAssign (.Name x pos') op e pos) (tAug i te ti) := by
  intro pins s σ H D I h
  obtain ⟨v, e1, h⟩ := h
  obtain ⟨m, hn, hl⟩ := I.loc
  have vis : Vis X.env.scope x := by rcases hx with k | k; exact .inl k; exact .inr (.inl k)
  obtain ⟨u, r, l⟩ := hl i x v hi e1 vis
  refine wpAny_AugAssign_Name ?_
  have go : wpAny (model X.prog X.w) X.A (eval e X.env) (fun w s₂ => wpAny (model X.prog X.w) X.A (inplaceOp op u w) (fun r s₃ => wpAny (model X.prog X.w) X.A (storeName X.env x r) (fun _ => SP X pins D .next) X.xe s₃) X.xe s₂) X.xe s := by
    refine thn (he pins s σ H _ I h) fun w s1 ⟨y, H1, I1, r1, q1⟩ => ?_
    refine thn (ho pins s1 σ H1 v y u w _ I1 r r1 q1) fun z s2 ⟨zv, H2, I2, r2, q2⟩ => ?_
    exact store_ok I2 hN hi hx r2 (fun s3 I3 => ⟨_, H2, I3, q2⟩) hf
  rcases l with ⟨hk, hm⟩ | ⟨hk, c, hc, hcell⟩
  · exact wpAny_loadName_local I.ok.kind hk hn hm go
  · rcases hk with hk | hk
    · exact wpAny_loadName_cell I.ok.kind hk hc hcell go
    · rcases hx with k | k
      · have : X.env.scope.names.lookup x = some .free := hk
        rw [k] at this; cases this
      · have : X.env.scope.names.lookup x = some .free := hk
        rw [k] at this; cases this
def ipI (f : Int → Int → Int) : TIp := fun x y H Q => ∃ i j, x = .int i ∧ y = .int j ∧ Q (.int (f i j)) H
theorem ip_add : PIp X .Add (ipI fun i j => i + j) := by
  intro pins s σ H x y v u Q I r1 r2 h
  obtain ⟨i, j, e1, e2, q⟩ := h
  subst e1; subst e2
  obtain ⟨t, rfl⟩ := r1
  obtain ⟨t', rfl⟩ := r2
  exact iadd_int ⟨.int _, H, I.tok _, ⟨_, rfl⟩, q⟩
theorem ip_sub : PIp X .Sub (ipI fun i j => i - j) := by
  intro pins s σ H x y v u Q I r1 r2 h
  obtain ⟨i, j, e1, e2, q⟩ := h
  subst e1; subst e2
  obtain ⟨t, rfl⟩ := r1
  obtain ⟨t', rfl⟩ := r2
  exact isub_int ⟨.int _, H, I.tok _, ⟨_, rfl⟩, q⟩
end
section
variable {X : Cx} {pos : Pos}
def tWhile (c : TT) (tb : TS) : TS := fun D σ H => ∃ W : Nat → St → Hp → Prop, (∃ m, W m σ H) ∧ ∀ m σ H, W m σ H →
  c σ H fun b H1 => if b = true then ∃ N : St → Hp → Prop, (∀ σ' H', N σ' H' → ∃ m', m' < m ∧ W m' σ' H') ∧ tb { D with nx := N, ct := N, bk := D.nx } σ H1 else D.nx σ H1
theorem ps_while {c : Expr} {body : List Stmt} {tc : TT} {tb : TS} (hp : PassesOwn (model X.prog X.w) X.A X.env X.xe) (hc : PT X c tc) (hb : PSs X body tb) : PS X (.While c body [] pos) (tWhile tc tb) := by
  intro pins s σ H D I h
  obtain ⟨W, ⟨m0, w0⟩, turn⟩ := h
  refine wpAny_While (codeAny_whileLoop (fun n s' => ∃ σ' H', Inv X pins σ' H' s' ∧ W n σ' H') ?_ m0 ⟨σ, H, I, w0⟩)
  rintro n s1 ⟨σ1, H1, I1, w1⟩
  refine wpAny_passesOwn hp (thn (hc pins s1 σ1 H1 _ I1 (turn n σ1 H1 w1)) fun b s2 ⟨H2, I2, q2⟩ => ?_)
  cases b with
  | true =>
    obtain ⟨N, hN, q2⟩ := q2
    rw [if_pos rfl]
    refine wpAny_passesOwn hp (thn (hb pins s2 σ1 H2 _ I2 q2) fun f s3 q3 => ?_)
    cases f with
    | next =>
      obtain ⟨σ3, H3, I3, n3⟩ := q3
      obtain ⟨m', hm, w3⟩ := hN σ3 H3 n3
      exact ⟨m', hm, σ3, H3, I3, w3⟩
    | cont =>
      obtain ⟨σ3, H3, I3, n3⟩ := q3
      obtain ⟨m', hm, w3⟩ := hN σ3 H3 n3
      exact ⟨m', hm, σ3, H3, I3, w3⟩
    | brk => exact q3
    | ret v => exact q3
  | false =>
    rw [if_neg Bool.false_ne_true]
    exact wpAny_execs_nil ⟨σ1, H2, I2, q2⟩
end
structure It where
  go : Nat → Hp → Prop
  yld : Nat → Hp → V → Hp → Prop
  stop : Nat → Hp → Prop
def FpOk (X : Cx) (pins : List (Addr × Obj)) (H : Hp) (b : Addr) : Prop :=
  H b = none ∧ b ≠ X.env.locals ∧ b ∉ X.fs ∧ (b ∈ X.ex ∨ X.s₀.heap.objs.size ≤ b) ∧ (∀ x c, X.env.cells.lookup x = some c → c ≠ b) ∧ ∀ p ∈ X.pn ++ pins, p.1 ≠ b
theorem Inv.fpOk {X : Cx} {pins : List (Addr × Obj)} {σ : St} {H H' : Hp} {s : Shared} {b : Addr} (I : Inv X pins σ H s) (hb : s.heap.objs.size ≤ b) (hn : H' b = none) : FpOk X pins H' b := by
  refine ⟨hn, Nat.ne_of_gt (Nat.lt_of_lt_of_le I.lt hb), I.nofs hb, .inr (Nat.le_trans I.sz hb), fun x c e z => ?_, fun p hp z => ?_⟩
  · obtain ⟨v, q⟩ := I.cell x c e
    exact absurd (Nat.lt_of_lt_of_le q.lt (by rw [z]; exact hb)) (Nat.lt_irrefl _)
  · exact absurd (Nat.lt_of_lt_of_le (Heap.lt_size (I.pin p hp).1) (by rw [z]; exact hb)) (Nat.lt_irrefl _)
structure Turn (P : Program) (w : World) (K : W.Frag) (tg : Expr) (J : It) (fp : List Addr) (it : Addr) (tn : Nat → Heap → Prop) : Prop where
  mem : it ∈ fp
  obj : ∀ i h, tn i h → ∀ b ∈ fp, ∃ o, h.get? b = some o ∧ ∀ v, o.data ≠ .cell v
  keep : ∀ i h h', tn i h → (∀ b ∈ fp, ∀ o, h.get? b = some o → h'.get? b = some o) → tn i h'
  item : ∀ (X : Cx), X.prog = P → X.w = w → X.K = K → X.calm = true → ∀ (i : Nat) (pins : List (Addr × Obj)) (s : Shared) (σ : St) (H : Hp) (E : Value → Shared → Prop), Inv X pins σ H s → (∀ b ∈ fp, FpOk X pins H b) → tn i s.heap → J.go i H →
    wpAny (model P w) X.A (pyNext (.ref it)) (fun r s1 => ∃ u, r = some u ∧
      wpAny (model P w) X.A (letOwnedTupleGo tg (.ref it) u) (fun _ s2 => ∃ x H', Inv X pins σ H' s2 ∧ RelV x u ∧ J.yld i H x H' ∧ tn (i + 1) s2.heap ∧ ∀ b ∈ fp, H' b = none) E s1) E s
  done : ∀ (X : Cx), X.prog = P → X.w = w → X.K = K → X.calm = true → ∀ (i : Nat) (pins : List (Addr × Obj)) (s : Shared) (σ : St) (H : Hp) (E : Value → Shared → Prop), Inv X pins σ H s → (∀ b ∈ fp, FpOk X pins H b) → tn i s.heap → J.stop i H →
    wpAny (model P w) X.A (pyNext (.ref it)) (fun r s1 => r = none ∧ Inv X pins σ H s1) E s
  self : ∀ (A : Around) (i : Nat) (s : Shared) (Q : Value → Shared → Prop) (E : Value → Shared → Prop), tn i s.heap → Q (.ref it) s → wpAny (model P w) A (pyIter (.ref it)) Q E s
abbrev TI := St → Hp → (It → Hp → Prop) → Prop
def PIE (X : Cx) (pins : List (Addr × Obj)) (σ : St) (tg : Expr) (R : It → Hp → Prop) (itv : Value) (s2 : Shared) : Prop :=
  ∃ (it : Addr) (fp : List Addr) (tn : Nat → Heap → Prop) (J : It) (H' : Hp), itv = .ref it ∧ Inv X pins σ H' s2 ∧ Turn X.prog X.w X.K tg J fp it tn ∧ tn 0 s2.heap ∧ (∀ b ∈ fp, FpOk X pins H' b) ∧ R J H'
def PI (X : Cx) (tg iter : Expr) (wi : TI) : Prop :=
  ∀ (pins : List (Addr × Obj)) (s : Shared) (σ : St) (H : Hp) (R : It → Hp → Prop), Inv X pins σ H s → wi σ H R →
    wpAny (model X.prog X.w) X.A (eval iter X.env) (fun v s1 => wpAny (model X.prog X.w) X.A (pyIter v) (PIE X pins σ tg R) X.xe s1) X.xe s
theorem go_of {M : Model} {A : Around} {E : Value → Shared → Prop} {s : Shared} {tg : Expr} {it : Addr} {u : Value} {o : Obj} {n : String} {vs : Array Value} {Q : Unit → Shared → Prop} (ho : s.heap.get? it = some o) (hc : o.cls = .type n) (hd : o.data = .fields vs)
    (hn : ["enumerate", "zip", "dict_itemiterator", "dict_reverseitemiterator", "odict_iterator", "itertools.zip_longest", "itertools.pairwise"].contains n = false) (hQ : Q () s) : wpAny M A (letOwnedTupleGo tg (.ref it) u) Q E s := by
  unfold letOwnedTupleGo
  cases tg <;> first
    | exact wpAny_pure hQ
    | (cases u <;> first
        | exact wpAny_pure hQ
        | (refine wpAny_bind (wpAny_load ho ?_)
           rw [hc, hd]
           show wpAny M A (if (["enumerate", "zip", "dict_itemiterator", "dict_reverseitemiterator", "odict_iterator", "itertools.zip_longest", "itertools.pairwise"].contains n && vs[0]? == some (rawInt _)) = true then _ else _) Q E s
           rw [if_neg (by intro h; rw [hn, Bool.false_and] at h; cases h)]
           exact wpAny_pure hQ))
def Itl (K : W.Frag) (a : Addr) : It :=
  ⟨fun i H => ∃ xs x, SqL K H a xs ∧ xs[i]? = some x, fun i H x H' => H' = H ∧ ∀ xs, SqL K H a xs → xs[i]? = some x, fun i H => ∃ xs, SqL K H a xs ∧ xs.length ≤ i⟩
def Itt (K : W.Frag) (a : Addr) : It :=
  ⟨fun i H => ∃ xs x, SqT K H a xs ∧ xs[i]? = some x, fun i H x H' => H' = H ∧ ∀ xs, SqT K H a xs → xs[i]? = some x, fun i H => ∃ xs, SqT K H a xs ∧ xs.length ≤ i⟩
def Itr (lo : Int) (n : Nat) : It := ⟨fun i _ => i < n, fun i H x H' => H' = H ∧ x = .int (lo + i), fun i _ => n ≤ i⟩
theorem turn_list {P : Program} {w : World} {K : W.Frag} {tg : Expr} (a it : Addr) : Turn P w K tg (Itl K a) [it] it (fun i h => h.IsListIter it a i) where
  mem := by simp
  obj := fun i h st b hb => by
    have e : b = it := by simpa using hb
    subst e
    obtain ⟨o, e, c, d⟩ := st
    exact ⟨o, e, fun v z => by rw [d] at z; cases z⟩
  keep := fun i h h' st k => st.at fun o e => k it (by simp) o e
  item := by
    intro X hP hw hK hc i pins s σ H E I hf st hg
    subst hP hw hK
    obtain ⟨xs, x, hq, hx⟩ := hg
    obtain ⟨its, rv, p, hz⟩ := I.list hq
    obtain ⟨u, hu, ru⟩ := rv.get hx
    obtain ⟨f0, f1, f2, f3, f4, f5⟩ := hf it (by simp)
    refine wpAny_pyNext_list_item st p.isList (x := u) (by simpa using hu) fun h' st' sb => ?_
    have I1 : Inv X pins σ H { s with heap := h' } := I.turned (t' := s.toks) (fun b o hb e => (sb.2 b hb).trans e) f0 f1 f3 f4 f5
    obtain ⟨o, e, c, d⟩ := id st'
    exact ⟨u, rfl, go_of (s := { s with heap := h' }) e c d (by decide) ⟨x, H, I1, ru, ⟨rfl, fun ys hy => by rw [I.list_inj hy hq]; exact hx⟩, st', fun b hb => (hf b hb).1⟩⟩
  done := by
    intro X hP hw hK hc i pins s σ H E I hf st hg
    subst hP hw hK
    obtain ⟨xs, hq, hx⟩ := hg
    obtain ⟨its, rv, p, hz⟩ := I.list hq
    obtain ⟨f0, f1, f2, f3, f4, f5⟩ := hf it (by simp)
    have hl := rv.length
    exact wpAny_pyNext_list_end (I.ok.hd hc) st p.isList (by simp; omega) fun h' eb => ⟨rfl, I.turned (t' := s.toks) (fun b o hb e => eb b o hb e) f0 f1 f3 f4 f5⟩
  self := fun _ _ _ _ _ st h => wpAny_pyIter_listiter st h
theorem turn_tuple {P : Program} {w : World} {K : W.Frag} {tg : Expr} (a it : Addr) : Turn P w K tg (Itt K a) [it] it (fun i h => h.IsTupleIter it a i) where
  mem := by simp
  obj := fun i h st b hb => by
    have e : b = it := by simpa using hb
    subst e
    obtain ⟨o, e, c, d⟩ := st
    exact ⟨o, e, fun v z => by rw [d] at z; cases z⟩
  keep := fun i h h' st k => st.at fun o e => k it (by simp) o e
  item := by
    intro X hP hw hK hc i pins s σ H E I hf st hg
    subst hP hw hK
    obtain ⟨xs, x, hq, hx⟩ := hg
    obtain ⟨its, rv, p, hz⟩ := I.tuple hq
    obtain ⟨u, hu, ru⟩ := rv.get hx
    obtain ⟨f0, f1, f2, f3, f4, f5⟩ := hf it (by simp)
    refine wpAny_pyNext_tuple_item st (show s.heap.IsTuple a its.toArray from p) (x := u) (by simpa using hu) fun h' st' sb => ?_
    have I1 : Inv X pins σ H { s with heap := h' } := I.turned (t' := s.toks) (fun b o hb e => (sb.2 b hb).trans e) f0 f1 f3 f4 f5
    obtain ⟨o, e, c, d⟩ := id st'
    exact ⟨u, rfl, go_of (s := { s with heap := h' }) e c d (by decide) ⟨x, H, I1, ru, ⟨rfl, fun ys hy => by rw [I.tuple_inj hy hq]; exact hx⟩, st', fun b hb => (hf b hb).1⟩⟩
  done := by
    intro X hP hw hK hc i pins s σ H E I hf st hg
    subst hP hw hK
    obtain ⟨xs, hq, hx⟩ := hg
    obtain ⟨its, rv, p, hz⟩ := I.tuple hq
    obtain ⟨f0, f1, f2, f3, f4, f5⟩ := hf it (by simp)
    have hl := rv.length
    exact wpAny_pyNext_tuple_end (I.ok.hd hc) st (show s.heap.IsTuple a its.toArray from p) (by simp; omega) fun h' eb => ⟨rfl, I.turned (t' := s.toks) (fun b o hb e => eb b o hb e) f0 f1 f3 f4 f5⟩
  self := fun _ _ _ _ _ st h => wpAny_pyIter_tupleiter st h
theorem turn_range {P : Program} {w : World} {K : W.Frag} {tg : Expr} (it : Addr) (lo : Int) (n : Nat) : Turn P w K tg (Itr lo n) [it] it (fun i h => IsRangeIter h it (lo + (i : Nat) * 1) ((n : Int) - (i : Nat)) 1) where
  mem := by simp
  obj := fun i h st b hb => by
    have e : b = it := by simpa using hb
    subst e
    exact ⟨_, st, fun v z => by
      have z' : Data.fields _ = Data.cell v := z
      cases z'⟩
  keep := fun i h h' st k => k it (by simp) _ st
  item := by
    intro X hP hw hK hc i pins s σ H E I hf st hg
    subst hP hw hK
    obtain ⟨f0, f1, f2, f3, f4, f5⟩ := hf it (by simp)
    have W := Walks.range (prog := X.prog) (w := X.w) (I.ok.hd hc) it lo 1 n
    refine W.item i s _ _ hg st fun v h' tk hv st' kk => ?_
    obtain ⟨t, rfl⟩ := hv
    have I1 : Inv X pins σ H { s with heap := h', toks := tk } := I.turned (fun b o hb e => kk b o (by simpa using hb) e) f0 f1 f3 f4 f5
    refine ⟨_, rfl, go_of (s := { s with heap := h', toks := tk }) (n := "range_iterator") st' rfl rfl (by decide) ⟨.int (lo + i), H, I1, ⟨t, ?_⟩, ⟨rfl, rfl⟩, st', fun b hb => (hf b hb).1⟩⟩
    rw [Int.mul_one]
  done := by
    intro X hP hw hK hc i pins s σ H E I hf st hg
    subst hP hw hK
    obtain ⟨f0, f1, f2, f3, f4, f5⟩ := hf it (by simp)
    exact wpAny_pyNext_range_end (I.ok.hd hc) st (by have : n ≤ i := hg; omega) fun h' eb => ⟨rfl, I.turned (t' := s.toks) (fun b o hb e => eb b o hb e) f0 f1 f3 f4 f5⟩
  self := fun _ _ _ _ _ st h => wpAny_pyIter_rangeiter st h
end L2
namespace L2
open PySem PySem.Spec PyProof.Rows
section
variable {X : Cx} {tg : Expr}
def iList (K : W.Frag) (tl : TE) : TI := fun σ H R => tl σ H fun x H1 => ∃ a, x = .ref a ∧ (∃ xs, SqL K H1 a xs) ∧ R (Itl K a) H1
def iTup (K : W.Frag) (tl : TE) : TI := fun σ H R => tl σ H fun x H1 => ∃ a, x = .ref a ∧ (∃ xs, SqT K H1 a xs) ∧ R (Itt K a) H1
theorem pi_list {l : Expr} {tl : TE} (hl : PE X l tl) : PI X tg l (iList X.K tl) := by
  intro pins s σ H R I h
  refine thn (hl pins s σ H _ I h) fun v s1 ⟨x, H1, I1, r1, q1⟩ => ?_
  obtain ⟨a, e, ⟨xs, hq⟩, q⟩ := q1
  subst e
  cases r1
  obtain ⟨its, rv, p, hz⟩ := I1.list hq
  refine wpAny_pyIter_list p.isList ?_
  refine ⟨s1.heap.objs.size, [s1.heap.objs.size], _, _, H1, rfl, I1.kept (t' := s1.toks) fun b o e => Heap.get?_push_of_some _ e, turn_list a _, ⟨_, Heap.get?_push_size _ rfl, rfl, rfl⟩, fun b hb => ?_, q⟩
  have e : b = s1.heap.objs.size := by simpa using hb
  subst e
  exact I1.fpOk (Nat.le_refl _) (I1.hok.fresh (Nat.le_refl _))
theorem pi_tup {l : Expr} {tl : TE} (hl : PE X l tl) : PI X tg l (iTup X.K tl) := by
  intro pins s σ H R I h
  refine thn (hl pins s σ H _ I h) fun v s1 ⟨x, H1, I1, r1, q1⟩ => ?_
  obtain ⟨a, e, ⟨xs, hq⟩, q⟩ := q1
  subst e
  cases r1
  obtain ⟨its, rv, p, hz⟩ := I1.tuple hq
  refine wpAny_pyIter_tuple (show s1.heap.IsTuple a its.toArray from p) ?_
  refine ⟨s1.heap.objs.size, [s1.heap.objs.size], _, _, H1, rfl, I1.kept (t' := s1.toks) fun b o e => Heap.get?_push_of_some _ e, turn_tuple a _, ⟨_, Heap.get?_push_size _ rfl, rfl, rfl⟩, fun b hb => ?_, q⟩
  have e : b = s1.heap.objs.size := by simpa using hb
  subst e
  exact I1.fpOk (Nat.le_refl _) (I1.hok.fresh (Nat.le_refl _))
theorem range_it {pins : List (Addr × Obj)} {σ : St} {H : Hp} {s : Shared} {R : It → Hp → Prop} {E : Value → Shared → Prop} {lo hi : Int} {t u v : Tok} {tk : Nat} (I : Inv X pins σ H s) (h1 : -(2 ^ 62) ≤ lo) (h2 : lo < 2 ^ 62) (h3 : -(2 ^ 62) ≤ hi) (h4 : hi < 2 ^ 62)
    (q : R (Itr lo (hi - lo).toNat) H) : wpAny (model X.prog X.w) X.A (pyIter (.ref s.heap.objs.size)) (PIE X pins σ tg R) E { s with heap := s.heap.push { cls := .type "range", data := .fields #[.int lo t, .int hi u, .int 1 v] }, toks := tk } := by
  refine wpAny_pyIter_range (IsRange.new ..) (small_one h1 h2 h3 h4) ?_
  have I1 : Inv X pins σ H { s with heap := s.heap.push { cls := .type "range", data := .fields #[.int lo t, .int hi u, .int 1 v] }, toks := tk } := I.kept fun b o e => Heap.get?_push_of_some _ e
  refine ⟨(s.heap.push { cls := .type "range", data := .fields #[.int lo t, .int hi u, .int 1 v] }).objs.size, [(s.heap.push { cls := .type "range", data := .fields #[.int lo t, .int hi u, .int 1 v] }).objs.size], _, _, H, rfl,
    I1.kept (t' := tk) fun b o e => Heap.get?_push_of_some _ e, turn_range _ lo (hi - lo).toNat, ?_, fun b hb => ?_, q⟩
  · have e1 : lo + ((0 : Nat) : Int) * 1 = lo := by simp
    have e2 : (((hi - lo).toNat : Nat) : Int) - ((0 : Nat) : Int) = Builtin.Range.rangeSize lo hi 1 := by rw [rangeSize_one]; split <;> omega
    show IsRangeIter _ _ (lo + ((0 : Nat) : Int) * 1) ((((hi - lo).toNat : Nat) : Int) - ((0 : Nat) : Int)) 1
    rw [e1, e2]
    exact Heap.get?_push_size _ rfl
  · have e : b = (s.heap.push { cls := .type "range", data := .fields #[.int lo t, .int hi u, .int 1 v] }).objs.size := by simpa using hb
    subst e
    exact I1.fpOk (Nat.le_refl _) (I1.hok.fresh (Nat.le_refl _))
def iRng1 (ta : TA) : TI := fun σ H R => ta σ H fun vs H1 => ∃ j : Int, vs = [.int j] ∧ -(2 ^ 62) ≤ j ∧ j < 2 ^ 62 ∧ R (Itr 0 j.toNat) H1
def iRng2 (ta : TA) : TI := fun σ H R => ta σ H fun vs H1 => ∃ i j : Int, vs = [.int i, .int j] ∧ (-(2 ^ 62) ≤ i ∧ i < 2 ^ 62 ∧ -(2 ^ 62) ≤ j ∧ j < 2 ^ 62) ∧ R (Itr i (j - i).toNat) H1
theorem pi_range1 {a : Expr} {ta : TA} {p pos : Pos} (hg : Gl X "range") (hm : X.mg "range" = none) (ha : PA X [a] ta) (hs : starEach [a] X.env = [(false, eval a X.env)] := by rfl) : PI X tg (.Call (.Name "range" p) [a] [] pos) (iRng1 ta) := by
  intro pins s σ H R I h
  refine Call_ (ld_blt I hg hm boot_range (PyProof.Rows.callWith_type1 (thn (ha pos pins s σ H _ I h) fun us s1 ⟨vs, H1, I1, r1, q1⟩ => ?_) hs rfl))
  obtain ⟨j, e, q1, q2, q⟩ := q1
  subst e
  cases r1 with
  | cons r rr =>
    cases rr
    obtain ⟨t, rfl⟩ := r
    exact call_range_1 (range_it I1 (by omega) (by omega) q1 q2 (by simpa using q))
theorem pi_range2 {a b : Expr} {ta : TA} {p pos : Pos} (hg : Gl X "range") (hm : X.mg "range" = none) (ha : PA X [a, b] ta) (hs : starEach [a, b] X.env = [(false, eval a X.env), (false, eval b X.env)] := by rfl) (hs2 : starEach [b] X.env = [(false, eval b X.env)] := by rfl) :
    PI X tg (.Call (.Name "range" p) [a, b] [] pos) (iRng2 ta) := by
  intro pins s σ H R I h
  refine Call_ (ld_blt I hg hm boot_range (PyProof.Rows.callWith_type1 (thn (ha pos pins s σ H _ I h) fun us s1 ⟨vs, H1, I1, r1, q1⟩ => ?_) (by rw [hs, hs2]) (by rw [hs2]; rfl)))
  obtain ⟨i, j, e, ⟨q1, q2, q3, q4⟩, q⟩ := q1
  subst e
  cases r1 with
  | cons r rr =>
    cases rr with
    | cons r' rr =>
      cases rr
      obtain ⟨t, rfl⟩ := r
      obtain ⟨t', rfl⟩ := r'
      exact call_range_2 (range_it I1 q1 q2 q3 q4 q)
def tFor (wi : TI) (g : TG) (tb : TS) : TS := fun D σ H => wi σ H fun J H1 => ∃ W : Nat → Nat → St → Hp → Prop, (∃ m, W 0 m σ H1) ∧ ∀ i m σ H, W i m σ H →
  (J.stop i H ∧ D.nx σ H) ∨ (J.go i H ∧ ∃ N : St → Hp → Prop, (∀ σ' H', N σ' H' → ∃ m', m' < m ∧ W (i + 1) m' σ' H') ∧ ∀ x H', J.yld i H x H' → g x σ H' fun σ2 H2 => tb { D with nx := N, ct := N, bk := D.nx } σ2 H2)
def pinsAt (fp : List Addr) (h : Heap) : List (Addr × Obj) := fp.filterMap fun b => (h.get? b).map fun o => (b, o)
theorem mem_pinsAt {fp : List Addr} {h : Heap} {b : Addr} {o : Obj} (hb : b ∈ fp) (e : h.get? b = some o) : (b, o) ∈ pinsAt fp h := List.mem_filterMap.mpr ⟨b, hb, by rw [e]; rfl⟩
theorem of_pinsAt {fp : List Addr} {h : Heap} {p : Addr × Obj} (hp : p ∈ pinsAt fp h) : p.1 ∈ fp ∧ h.get? p.1 = some p.2 := by
  obtain ⟨b, hb, e⟩ := List.mem_filterMap.mp hp
  cases q : h.get? b with
  | none => rw [q] at e; cases e
  | some o =>
    rw [q] at e
    have e' : (b, o) = p := Option.some.inj e
    subst e'
    exact ⟨hb, q⟩
theorem Inv.pinned {pins : List (Addr × Obj)} {σ : St} {H : Hp} {s : Shared} {fp : List Addr} (I : Inv X pins σ H s) (hf : ∀ b ∈ fp, FpOk X pins H b) (ho : ∀ b ∈ fp, ∃ o, s.heap.get? b = some o ∧ ∀ v, o.data ≠ .cell v) : Inv X (pins ++ pinsAt fp s.heap) σ H s :=
  I.pins_of fun p hp => (List.mem_append.mp hp).elim (fun z => I.pin p (List.mem_append_right _ z)) fun z => by
    obtain ⟨hb, e⟩ := of_pinsAt z
    obtain ⟨f0, f1, f2, _⟩ := hf p.1 hb
    obtain ⟨o, e', d⟩ := ho p.1 hb
    rw [e] at e'; cases e'
    exact ⟨e, f0, f1, f2, d⟩
theorem Inv.unpinned {pins pl : List (Addr × Obj)} {σ : St} {H : Hp} {s : Shared} (I : Inv X (pins ++ pl) σ H s) : Inv X pins σ H s := I.pins_of fun p hp => I.pin p (List.mem_append_right _ (List.mem_append_left _ hp))
theorem ps_for {iter : Expr} {body : List Stmt} {wi : TI} {g : TG} {tb : TS} {pos : Pos} (hp : PassesOwn (model X.prog X.w) X.A X.env X.xe) (hc : X.calm = true) (hi : PI X tg iter wi) (hg : PG X tg g) (hb : PSs X body tb)
    (hs : ∀ x, foldedSetIterable iter X.env x = pure x := by intro _; rfl) : PS X (.For tg iter body [] pos) (tFor wi g tb) := by
  intro pins s σ H D I h
  refine wpAny_For (thn (hi pins s σ H _ I h) fun v s1 h1 => thn h1 fun itv s2 h2 => ?_) hs
  obtain ⟨it, fp, tn, J, H2, e, I2, T, st2, f2, W, ⟨m0, w0⟩, turn⟩ := h2
  subst e
  have stat : ∀ {H' : Hp}, (∀ b ∈ fp, H' b = none) → ∀ b ∈ fp, FpOk X pins H' b := fun hn b hb => ⟨hn b hb, (f2 b hb).2⟩
  refine codeAny_forLoop_any (fun n s' => ∃ i σ' H', Inv X pins σ' H' s' ∧ tn i s'.heap ∧ (∀ b ∈ fp, H' b = none) ∧ W i n σ' H') ?_ m0 ⟨0, σ, H2, I2, st2, fun b hb => (f2 b hb).1, w0⟩
  rintro n s3 ⟨i, σ3, H3, I3, st3, fr3, w3⟩
  rcases turn i n σ3 H3 w3 with ⟨stop, qn⟩ | ⟨go, N, hN, step⟩
  · refine wpAny_passesOwn hp (thn (T.done X rfl rfl rfl hc i pins s3 σ3 H3 X.xe I3 (stat fr3) st3 stop) fun r s4 ⟨hr, I4⟩ => ?_)
    subst hr
    exact wpAny_execs_nil ⟨σ3, H3, I4, qn⟩
  · refine wpAny_passesOwn hp (thn (T.item X rfl rfl rfl hc i pins s3 σ3 H3 X.xe I3 (stat fr3) st3 go) fun r s4 ⟨u, hr, h4⟩ => ?_)
    subst hr
    refine wpAny_passesOwn hp (thn h4 fun _ s5 ⟨x, H5, I5, r5, y5, st5, fr5⟩ => ?_)
    have I5' := I5.pinned (stat fr5) (T.obj _ _ st5)
    refine wpAny_passesOwn hp (thn (hg _ s5 σ3 H5 x u _ I5' r5 (step x H5 y5)) fun _ s6 ⟨σ6, H6, I6, q6⟩ => ?_)
    refine wpAny_passesOwn hp (thn (hb _ s6 σ6 H6 _ I6 q6) fun f s7 q7 => ?_)
    have again : ∀ {σ7 : St} {H7 : Hp}, Inv X (pins ++ pinsAt fp s5.heap) σ7 H7 s7 → N σ7 H7 → ∃ m, m < n ∧ ∃ i σ' H', Inv X pins σ' H' s7 ∧ tn i s7.heap ∧ (∀ b ∈ fp, H' b = none) ∧ W i m σ' H' := fun {σ7 H7} I7 n7 => by
      obtain ⟨m', hm, w7⟩ := hN σ7 H7 n7
      refine ⟨m', hm, i + 1, σ7, H7, I7.unpinned, T.keep _ _ _ st5 fun b hb o e => (I7.pin (b, o) (List.mem_append_right _ (List.mem_append_right _ (mem_pinsAt hb e)))).1, fun b hb => ?_, w7⟩
      obtain ⟨o, e, d⟩ := T.obj _ _ st5 b hb
      exact (I7.pin (b, o) (List.mem_append_right _ (List.mem_append_right _ (mem_pinsAt hb e)))).2.1
    cases f with
    | next => obtain ⟨σ7, H7, I7, n7⟩ := q7; exact again I7 n7
    | cont => obtain ⟨σ7, H7, I7, n7⟩ := q7; exact again I7 n7
    | brk => obtain ⟨σ7, H7, I7, q7⟩ := q7; exact ⟨σ7, H7, I7.unpinned, q7⟩
    | ret v => obtain ⟨x7, σ7, H7, I7, r7, q7⟩ := q7; exact ⟨x7, σ7, H7, I7.unpinned, r7, q7⟩
end
theorem for_list {K : W.Frag} {a : Addr} {xs : List V} {g : TG} {tb : TS} {D : Ends} {σ : St} {H : Hp} (Pv : Nat → St → Hp → Prop) (h0 : Pv 0 σ H) (hl : ∀ i σ H, i ≤ xs.length → Pv i σ H → SqL K H a xs)
    (hs : ∀ i x σ H, xs[i]? = some x → Pv i σ H → g x σ H fun σ2 H2 => tb { D with nx := Pv (i + 1), ct := Pv (i + 1), bk := D.nx } σ2 H2) (hd : ∀ σ H, Pv xs.length σ H → D.nx σ H) :
    ∃ W : Nat → Nat → St → Hp → Prop, (∃ m, W 0 m σ H) ∧ ∀ i m σ H, W i m σ H →
      ((Itl K a).stop i H ∧ D.nx σ H) ∨ ((Itl K a).go i H ∧ ∃ N : St → Hp → Prop, (∀ σ' H', N σ' H' → ∃ m', m' < m ∧ W (i + 1) m' σ' H') ∧ ∀ x H', (Itl K a).yld i H x H' → g x σ H' fun σ2 H2 => tb { D with nx := N, ct := N, bk := D.nx } σ2 H2) := by
  refine ⟨fun i m σ H => m = xs.length - i ∧ i ≤ xs.length ∧ Pv i σ H, ⟨xs.length, by simp, Nat.zero_le _, h0⟩, ?_⟩
  rintro i m σ H ⟨rfl, hi, p⟩
  have q := hl i σ H hi p
  by_cases hlt : i < xs.length
  · refine .inr ⟨⟨xs, xs[i], q, by simp [hlt]⟩, Pv (i + 1), fun σ' H' p' => ⟨xs.length - (i + 1), by omega, rfl, hlt, p'⟩, fun x H' y => ?_⟩
    obtain ⟨e, y⟩ := y
    subst e
    exact hs i x σ _ (y xs q) p
  · have e : i = xs.length := by omega
    subst e
    exact .inl ⟨⟨xs, q, Nat.le_refl _⟩, hd σ H p⟩
theorem for_tup {K : W.Frag} {a : Addr} {xs : List V} {g : TG} {tb : TS} {D : Ends} {σ : St} {H : Hp} (Pv : Nat → St → Hp → Prop) (h0 : Pv 0 σ H) (hl : ∀ i σ H, i ≤ xs.length → Pv i σ H → SqT K H a xs)
    (hs : ∀ i x σ H, xs[i]? = some x → Pv i σ H → g x σ H fun σ2 H2 => tb { D with nx := Pv (i + 1), ct := Pv (i + 1), bk := D.nx } σ2 H2) (hd : ∀ σ H, Pv xs.length σ H → D.nx σ H) :
    ∃ W : Nat → Nat → St → Hp → Prop, (∃ m, W 0 m σ H) ∧ ∀ i m σ H, W i m σ H →
      ((Itt K a).stop i H ∧ D.nx σ H) ∨ ((Itt K a).go i H ∧ ∃ N : St → Hp → Prop, (∀ σ' H', N σ' H' → ∃ m', m' < m ∧ W (i + 1) m' σ' H') ∧ ∀ x H', (Itt K a).yld i H x H' → g x σ H' fun σ2 H2 => tb { D with nx := N, ct := N, bk := D.nx } σ2 H2) := by
  refine ⟨fun i m σ H => m = xs.length - i ∧ i ≤ xs.length ∧ Pv i σ H, ⟨xs.length, by simp, Nat.zero_le _, h0⟩, ?_⟩
  rintro i m σ H ⟨rfl, hi, p⟩
  have q := hl i σ H hi p
  by_cases hlt : i < xs.length
  · refine .inr ⟨⟨xs, xs[i], q, by simp [hlt]⟩, Pv (i + 1), fun σ' H' p' => ⟨xs.length - (i + 1), by omega, rfl, hlt, p'⟩, fun x H' y => ?_⟩
    obtain ⟨e, y⟩ := y
    subst e
    exact hs i x σ _ (y xs q) p
  · have e : i = xs.length := by omega
    subst e
    exact .inl ⟨⟨xs, q, Nat.le_refl _⟩, hd σ H p⟩
theorem for_range {lo : Int} {n : Nat} {g : TG} {tb : TS} {D : Ends} {σ : St} {H : Hp} (Pv : Nat → St → Hp → Prop) (h0 : Pv 0 σ H)
    (hs : ∀ i σ H, i < n → Pv i σ H → g (.int (lo + i)) σ H fun σ2 H2 => tb { D with nx := Pv (i + 1), ct := Pv (i + 1), bk := D.nx } σ2 H2) (hd : ∀ σ H, Pv n σ H → D.nx σ H) :
    ∃ W : Nat → Nat → St → Hp → Prop, (∃ m, W 0 m σ H) ∧ ∀ i m σ H, W i m σ H →
      ((Itr lo n).stop i H ∧ D.nx σ H) ∨ ((Itr lo n).go i H ∧ ∃ N : St → Hp → Prop, (∀ σ' H', N σ' H' → ∃ m', m' < m ∧ W (i + 1) m' σ' H') ∧ ∀ x H', (Itr lo n).yld i H x H' → g x σ H' fun σ2 H2 => tb { D with nx := N, ct := N, bk := D.nx } σ2 H2) := by
  refine ⟨fun i m σ H => m = n - i ∧ i ≤ n ∧ Pv i σ H, ⟨n, by simp, Nat.zero_le _, h0⟩, ?_⟩
  rintro i m σ H ⟨rfl, hi, p⟩
  by_cases hlt : i < n
  · refine .inr ⟨hlt, Pv (i + 1), fun σ' H' p' => ⟨n - (i + 1), by omega, rfl, hlt, p'⟩, fun x H' y => ?_⟩
    obtain ⟨e, y⟩ := y
    subst e y
    exact hs i σ _ hlt p
  · have e : i = n := by omega
    subst e
    exact .inl ⟨Nat.le_refl _, hd σ H p⟩
theorem while_by {c : TT} {tb : TS} {D : Ends} {σ : St} {H : Hp} (Pv : St → Hp → Prop) (μ : St → Hp → Nat) (h0 : Pv σ H)
    (hs : ∀ σ H, Pv σ H → c σ H fun b H1 => if b = true then tb { D with nx := fun σ' H' => Pv σ' H' ∧ μ σ' H' < μ σ H, ct := fun σ' H' => Pv σ' H' ∧ μ σ' H' < μ σ H, bk := D.nx } σ H1 else D.nx σ H1)
    (mono : ∀ σ H Q Q', (∀ b H1, Q b H1 → Q' b H1) → c σ H Q → c σ H Q') : tWhile c tb D σ H := by
  refine ⟨fun m σ H => m = μ σ H ∧ Pv σ H, ⟨_, rfl, h0⟩, ?_⟩
  rintro m σ H ⟨rfl, p⟩
  refine mono σ H _ _ (fun b H1 q => ?_) (hs σ H p)
  cases b with
  | true => exact ⟨_, fun σ' H' ⟨p', l⟩ => ⟨_, l, rfl, p'⟩, q⟩
  | false => exact q
end L2
namespace L2
open PySem PySem.Spec PyProof.Rows
abbrev R2 := V → V → Hp → VK → Prop
def OpR (X : Cx) (f : Value → Value → Sem Value) (r : R2) : Prop :=
  ∀ (pins : List (Addr × Obj)) (s : Shared) (σ : St) (H : Hp) (x y : V) (v u : Value) (Q : VK), Inv X pins σ H s → RelV x v → RelV y u → r x y H Q →
    wpAny (model X.prog X.w) X.A (f v u) (EP X pins σ Q) X.xe s
def UnR (X : Cx) (f : Value → Sem Value) (r : V → Hp → VK → Prop) : Prop :=
  ∀ (pins : List (Addr × Obj)) (s : Shared) (σ : St) (H : Hp) (x : V) (v : Value) (Q : VK), Inv X pins σ H s → RelV x v → r x H Q →
    wpAny (model X.prog X.w) X.A (f v) (EP X pins σ Q) X.xe s
def CallR (X : Cx) (f : Value) (r : List V → Hp → VK → Prop) : Prop :=
  ∀ (pins : List (Addr × Obj)) (s : Shared) (σ : St) (H : Hp) (xs : List V) (us : List Value) (Q : VK), Inv X pins σ H s → Vals xs us → r xs H Q →
    wpAny (model X.prog X.w) X.A (call f us) (EP X pins σ Q) X.xe s
def TruR (X : Cx) (r : V → Hp → (Bool → Hp → Prop) → Prop) : Prop :=
  ∀ (pins : List (Addr × Obj)) (s : Shared) (σ : St) (H : Hp) (x : V) (v : Value) (Q : Bool → Hp → Prop), Inv X pins σ H s → RelV x v → r x H Q →
    wpAny (model X.prog X.w) X.A (truthy v) (TP X pins σ Q) X.xe s
def tOp (r : R2) (ta tb : TE) : TE := fun σ H Q => ta σ H fun x H1 => tb σ H1 fun y H2 => r x y H2 Q
def tUn (r : V → Hp → VK → Prop) (ta : TE) : TE := fun σ H Q => ta σ H fun x H1 => r x H1 Q
def rI (C : Int → Int → Prop) (g : Int → Int → V) : R2 := fun x y H Q => ∃ i j, x = .int i ∧ y = .int j ∧ C i j ∧ Q (g i j) H
def rI0 (g : Int → Int → V) : R2 := fun x y H Q => ∃ i j, x = .int i ∧ y = .int j ∧ Q (g i j) H
def rU (g : Int → V) : V → Hp → VK → Prop := fun x H Q => ∃ i, x = .int i ∧ Q (g i) H
section
variable {X : Cx} {a b c : Expr} {ta tb tc : TE} {pos : Pos}
theorem binT (ha : PE X a ta) (hb : PE X b tb) {pins : List (Addr × Obj)} {s : Shared} {σ : St} {H : Hp} {R : V → V → Hp → Prop} (I : Inv X pins σ H s)
    (h : ta σ H fun x H1 => tb σ H1 fun y H2 => R x y H2) {Q : Value → Shared → Prop} {f : Value → Value → Sem Value}
    (hf : ∀ v u s2 x y H2, Inv X pins σ H2 s2 → RelV x v → RelV y u → R x y H2 → wpAny (model X.prog X.w) X.A (f v u) Q X.xe s2) :
    wpAny (model X.prog X.w) X.A (eval a X.env) (fun v s₁ => wpAny (model X.prog X.w) X.A (eval b X.env) (fun u s₂ => wpAny (model X.prog X.w) X.A (f v u) Q X.xe s₂) X.xe s₁) X.xe s := by
  refine thn (ha pins s σ H _ I h) fun v s1 ⟨x, H1, I1, r1, q1⟩ => ?_
  refine thn (hb pins s1 σ H1 _ I1 q1) fun u s2 ⟨y, H2, I2, r2, q2⟩ => ?_
  exact hf v u s2 x y H2 I2 r1 r2 q2
theorem pe_op {op : Operator} {r : R2} (ho : OpR X (binaryOp op) r) (ha : PE X a ta) (hb : PE X b tb) : PE X (.BinOp a op b pos) (tOp r ta tb) := by
  intro pins s σ H Q I h
  exact wpAny_BinOp (binT ha hb I h fun v u s2 x y H2 I2 rx ry q => ho pins s2 σ H2 x y v u Q I2 rx ry q)
theorem pe_un {op : UnaryOp} {r : V → Hp → VK → Prop} (ho : UnR X (unaryOp op) r) (ha : PE X a ta) : PE X (.UnaryOp op a pos) (tUn r ta) := by
  intro pins s σ H Q I h
  exact UnaryOp_ (thn (ha pins s σ H _ I h) fun v s1 ⟨x, H1, I1, r1, q1⟩ => ho pins s1 σ H1 x v Q I1 r1 q1)
theorem opI {f : Value → Value → Sem Value} {C : Int → Int → Prop} {g : Int → Int → Int}
    (rule : ∀ (i j : Int) (t u : Tok) (s : Shared) (Q : Value → Shared → Prop) (E : Value → Shared → Prop), C i j → Q (.int (g i j) s.toks) { s with toks := s.toks + 1 } → wpAny (model X.prog X.w) X.A (f (.int i t) (.int j u)) Q E s) :
    OpR X f (rI C fun i j => .int (g i j)) := by
  intro pins s σ H x y v u Q I rx ry h
  obtain ⟨i, j, rfl, rfl, hc, q⟩ := h
  obtain ⟨t, rfl⟩ := rx
  obtain ⟨t', rfl⟩ := ry
  exact rule i j t t' s _ _ hc ⟨.int (g i j), H, I.tok _, ⟨_, rfl⟩, q⟩
theorem opI0 {f : Value → Value → Sem Value} {g : Int → Int → Int}
    (rule : ∀ (i j : Int) (t u : Tok) (s : Shared) (Q : Value → Shared → Prop) (E : Value → Shared → Prop), Q (.int (g i j) s.toks) { s with toks := s.toks + 1 } → wpAny (model X.prog X.w) X.A (f (.int i t) (.int j u)) Q E s) :
    OpR X f (rI0 fun i j => .int (g i j)) := by
  intro pins s σ H x y v u Q I rx ry h
  obtain ⟨i, j, rfl, rfl, q⟩ := h
  obtain ⟨t, rfl⟩ := rx
  obtain ⟨t', rfl⟩ := ry
  exact rule i j t t' s _ _ ⟨.int (g i j), H, I.tok _, ⟨_, rfl⟩, q⟩
theorem opB0 {f : Value → Value → Sem Value} {g : Int → Int → Bool}
    (rule : ∀ (i j : Int) (t u : Tok) (s : Shared) (Q : Value → Shared → Prop) (E : Value → Shared → Prop), Q (.bool (g i j)) s → wpAny (model X.prog X.w) X.A (f (.int i t) (.int j u)) Q E s) :
    OpR X f (rI0 fun i j => .bl (g i j)) := by
  intro pins s σ H x y v u Q I rx ry h
  obtain ⟨i, j, rfl, rfl, q⟩ := h
  obtain ⟨t, rfl⟩ := rx
  obtain ⟨t', rfl⟩ := ry
  exact rule i j t t' s _ _ ⟨.bl (g i j), H, I, rfl, q⟩
def CDiv (i j : Int) : Prop := 0 < j ∧ j < 1073741824
def CPow (i j : Int) : Prop := 0 ≤ j ∧ j ≤ 1000000 ∧ i.natAbs < 2 ^ 64
def CMul (i j : Int) : Prop := (-(2 ^ 64) < i ∧ i < 2 ^ 64) ∨ (-(2 ^ 64) < j ∧ j < 2 ^ 64)
theorem CMul.ok {i j : Int} (h : CMul i j) : IntMulOk i j := by
  rcases h with ⟨h1, h2⟩ | ⟨h1, h2⟩
  · exact .of_left (intBits_le_64 h1 h2)
  · exact .of_right (intBits_le_64 h1 h2)
theorem op_add : OpR X (binaryOp .Add) (rI0 fun i j => .int (i + j)) := opI0 fun _ _ _ _ _ _ _ q => add_int q
theorem op_sub : OpR X (binaryOp .Sub) (rI0 fun i j => .int (i - j)) := opI0 fun _ _ _ _ _ _ _ q => sub_int q
theorem op_mul : OpR X (binaryOp .Mult) (rI CMul fun i j => .int (i * j)) := opI fun _ _ _ _ _ _ _ hc q => mul_int q hc.ok
theorem op_fdiv : OpR X (binaryOp .FloorDiv) (rI CDiv fun i j => .int (i / j)) := opI fun i j _ _ _ _ _ hc q => by
  have h1 : (0 : Int) < j := hc.1
  have h2 : j < 1073741824 := hc.2
  exact floordiv_int (by omega) (by rw [Int.fdiv_eq_ediv_of_nonneg i (by omega)]; exact q) (.inl (PyProof.noPylong_small (by omega)))
theorem op_mod : OpR X (binaryOp .Mod) (rI (fun _ j => 0 < j) fun i j => .int (i % j)) := opI fun i j _ _ _ _ _ hc q => by
  have h1 : (0 : Int) < j := hc
  exact mod_int' (by omega) (by rw [Int.fmod_eq_emod_of_nonneg i (by omega)]; exact q)
theorem op_shl : OpR X (binaryOp .LShift) (rI CPow fun i j => .int (i * 2 ^ j.toNat)) := opI fun _ _ _ _ _ _ _ hc q => lshift_int_small hc.1 hc.2.1 hc.2.2 q
theorem op_and : OpR X (binaryOp .BitAnd) (rI0 fun i j => .int (Builtin.bitAnd i j)) := opI0 fun _ _ _ _ _ _ _ q => and_int q
theorem op_or : OpR X (binaryOp .BitOr) (rI0 fun i j => .int (Builtin.bitOr i j)) := opI0 fun _ _ _ _ _ _ _ q => or_int q
theorem unI {f : Value → Sem Value} {g : Int → Int}
    (rule : ∀ (i : Int) (t : Tok) (s : Shared) (Q : Value → Shared → Prop) (E : Value → Shared → Prop), Q (.int (g i) s.toks) { s with toks := s.toks + 1 } → wpAny (model X.prog X.w) X.A (f (.int i t)) Q E s) :
    UnR X f (rU fun i => .int (g i)) := by
  intro pins s σ H x v Q I rx h
  obtain ⟨i, rfl, q⟩ := h
  obtain ⟨t, rfl⟩ := rx
  exact rule i t s _ _ ⟨.int (g i), H, I.tok _, ⟨_, rfl⟩, q⟩
theorem un_neg : UnR X (unaryOp .USub) (rU fun i => .int (-i)) := unI fun _ _ _ _ _ q => neg_int q
end
def scal : V → V → Bool
  | .non, .non => true | .non, .int _ => true | .int _, .non => true | .non, .bl _ => true | .bl _, .non => true | .non, .str _ => true | .str _, .non => true
  | .int _, .int _ => true | .bl _, .bl _ => true | .str _, .str _ => true | .byt _, .byt _ => true
  | .int _, .str _ => true | .str _, .int _ => true | .bl _, .str _ => true | .str _, .bl _ => true
  | _, _ => false
def rEq : R2 := fun x y H Q => scal x y = true ∧ Q (.bl (decide (x = y))) H
def rNe : R2 := fun x y H Q => scal x y = true ∧ Q (.bl (!decide (x = y))) H
theorem dec_int {i j : Int} : decide (V.int i = V.int j) = (i == j) := by
  rw [Bool.eq_iff_iff]
  simp
theorem dec_bl {i j : Bool} : decide (V.bl i = V.bl j) = (i == j) := by
  rw [Bool.eq_iff_iff]
  simp
theorem dec_str {i j : Str} : decide (V.str i = V.str j) = (i == j) := by
  rw [Bool.eq_iff_iff]
  simp
theorem dec_byt {i j : Array UInt8} : decide (V.byt i = V.byt j) = (i.toList == j.toList) := by
  rw [Bool.eq_iff_iff]
  cases i
  cases j
  simp
section
variable {X : Cx} {a b c : Expr} {ta tb tc : TE} {pos : Pos}
theorem fin_bl {pins : List (Addr × Obj)} {σ : St} {H : Hp} {s : Shared} {Q : VK} {k k' : Bool} (I : Inv X pins σ H s) (q : Q (.bl k) H) (e : k = k') : EP X pins σ Q (.bool k') s := by
  subst e
  exact ⟨.bl k, H, I, rfl, q⟩
theorem op_eq : OpR X (compareOp .Eq) rEq := by
  intro pins s σ H x y v u Q I rx ry h
  obtain ⟨hs, q⟩ := h
  cases x with
  | non =>
    cases rx
    cases y with
    | non => cases ry; exact PySem.EqNone.eq_none_none (fin_bl I q (by simp))
    | bl j => cases ry; exact PySem.EqNone.eq_none_bool (fin_bl I q (by simp))
    | int j => obtain ⟨t', rfl⟩ := ry; exact PySem.EqNone.eq_none_int (fin_bl I q (by simp))
    | str j => obtain ⟨t', rfl⟩ := ry; exact PySem.EqNone.eq_none_str (fin_bl I q (by simp))
    | _ => exact absurd (show false = true from hs) Bool.false_ne_true
  | bl i =>
    cases rx
    cases y with
    | non => cases ry; exact PySem.EqNone.eq_bool_none (fin_bl I q (by simp))
    | bl j => cases ry; exact eq_bool (fin_bl I q dec_bl)
    | str j => obtain ⟨t', rfl⟩ := ry; exact PySem.EqMixed.eq_bool_str (fin_bl I q (by simp))
    | _ => exact absurd (show false = true from hs) Bool.false_ne_true
  | int i =>
    obtain ⟨t, rfl⟩ := rx
    cases y with
    | non => cases ry; exact PySem.EqNone.eq_int_none (fin_bl I q (by simp))
    | int j => obtain ⟨t', rfl⟩ := ry; exact eq_int (fin_bl I q dec_int)
    | str j => obtain ⟨t', rfl⟩ := ry; exact PySem.EqMixed.eq_int_str (fin_bl I q (by simp))
    | _ => exact absurd (show false = true from hs) Bool.false_ne_true
  | str i =>
    obtain ⟨t, rfl⟩ := rx
    cases y with
    | non => cases ry; exact PySem.EqNone.eq_str_none (fin_bl I q (by simp))
    | bl j => cases ry; exact PySem.EqMixed.eq_str_bool (fin_bl I q (by simp))
    | int j => obtain ⟨t', rfl⟩ := ry; exact PySem.EqMixed.eq_str_int (fin_bl I q (by simp))
    | str j => obtain ⟨t', rfl⟩ := ry; exact eq_str (fin_bl I q dec_str)
    | _ => exact absurd (show false = true from hs) Bool.false_ne_true
  | byt i =>
    obtain ⟨t, rfl⟩ := rx
    cases y with
    | byt j => obtain ⟨t', rfl⟩ := ry; exact W.eq_bytes (fin_bl I q dec_byt)
    | _ => exact absurd (show false = true from hs) Bool.false_ne_true
  | _ => cases y <;> exact absurd (show false = true from hs) Bool.false_ne_true
theorem op_ne : OpR X (compareOp .NotEq) rNe := by
  intro pins s σ H x y v u Q I rx ry h
  obtain ⟨hs, q⟩ := h
  cases x with
  | non =>
    cases rx
    cases y with
    | non => cases ry; exact PySem.EqNone.ne_none_none (fin_bl I q (by simp))
    | bl j => cases ry; exact PySem.EqNone.ne_none_bool (fin_bl I q (by simp))
    | int j => obtain ⟨t', rfl⟩ := ry; exact PySem.EqNone.ne_none_int (fin_bl I q (by simp))
    | str j => obtain ⟨t', rfl⟩ := ry; exact PySem.EqNone.ne_none_str (fin_bl I q (by simp))
    | _ => exact absurd (show false = true from hs) Bool.false_ne_true
  | bl i =>
    cases rx
    cases y with
    | non => cases ry; exact PySem.EqNone.ne_bool_none (fin_bl I q (by simp))
    | bl j => cases ry; exact ne_bool (fin_bl I q (congrArg not dec_bl))
    | str j => obtain ⟨t', rfl⟩ := ry; exact PySem.EqMixed.ne_bool_str (fin_bl I q (by simp))
    | _ => exact absurd (show false = true from hs) Bool.false_ne_true
  | int i =>
    obtain ⟨t, rfl⟩ := rx
    cases y with
    | non => cases ry; exact PySem.EqNone.ne_int_none (fin_bl I q (by simp))
    | int j => obtain ⟨t', rfl⟩ := ry; exact ne_int (fin_bl I q (congrArg not dec_int))
    | str j => obtain ⟨t', rfl⟩ := ry; exact PySem.EqMixed.ne_int_str (fin_bl I q (by simp))
    | _ => exact absurd (show false = true from hs) Bool.false_ne_true
  | str i =>
    obtain ⟨t, rfl⟩ := rx
    cases y with
    | non => cases ry; exact PySem.EqNone.ne_str_none (fin_bl I q (by simp))
    | bl j => cases ry; exact PySem.EqMixed.ne_str_bool (fin_bl I q (by simp))
    | int j => obtain ⟨t', rfl⟩ := ry; exact PySem.EqMixed.ne_str_int (fin_bl I q (by simp))
    | str j => obtain ⟨t', rfl⟩ := ry; exact ne_str (fin_bl I q (congrArg not dec_str))
    | _ => exact absurd (show false = true from hs) Bool.false_ne_true
  | byt i =>
    obtain ⟨t, rfl⟩ := rx
    cases y with
    | byt j => obtain ⟨t', rfl⟩ := ry; exact W.ne_bytes (fin_bl I q (congrArg not dec_byt))
    | _ => exact absurd (show false = true from hs) Bool.false_ne_true
  | _ => cases y <;> exact absurd (show false = true from hs) Bool.false_ne_true
theorem op_lt : OpR X (compareOp .Lt) (rI0 fun i j => .bl (decide (i < j))) := opB0 fun _ _ _ _ _ _ _ q => lt_int q
theorem op_le : OpR X (compareOp .LtE) (rI0 fun i j => .bl (decide (i ≤ j))) := opB0 fun _ _ _ _ _ _ _ q => le_int q
theorem op_isN : OpR X (compareOp .Is) (fun x y H Q => y = .non ∧ Q (.bl (decide (x = .non))) H) := by
  intro pins s σ H x y v u Q I rx ry h
  obtain ⟨rfl, q⟩ := h
  cases ry
  refine is_none_gen (fin_bl I q ?_)
  cases x <;> first
    | (cases rx; rfl)
    | (obtain ⟨t, rfl⟩ := rx; rfl)
theorem OpR.or {f : Value → Value → Sem Value} {r r' : R2} (h : OpR X f r) (h' : OpR X f r') : OpR X f (fun x y H Q => r x y H Q ∨ r' x y H Q) := by
  intro pins s σ H x y v u Q I rx ry q
  rcases q with q | q
  · exact h pins s σ H x y v u Q I rx ry q
  · exact h' pins s σ H x y v u Q I rx ry q
theorem nomark (b : Expr) {op : CmpOp} (h : op ≠ .In := by decide) (h2 : op ≠ .NotIn := by decide) : behindInMarks op b = false := by
  have e1 : (op == CmpOp.In) = false := by cases op <;> first | rfl | exact absurd rfl h
  have e2 : (op == CmpOp.NotIn) = false := by cases op <;> first | rfl | exact absurd rfl h2
  cases b <;> simp [behindInMarks, e1, e2]
theorem pe_cmpR {op : CmpOp} {r : R2} (ho : OpR X (compareOp op) r) (ha : PE X a ta) (hb : PE X b tb) (hm : behindInMarks op b = false) : PE X (.Compare a [op] [b] pos) (tOp r ta tb) := by
  intro pins s σ H Q I h
  exact wpAny_Compare1 (binT ha hb I h fun v u s2 x y H2 I2 rx ry q => ho pins s2 σ H2 x y v u Q I2 rx ry q) hm
def tTest (t : TE) : TT := fun σ H Q => t σ H fun x H' => ∃ k, x = .bl k ∧ Q k H'
theorem pt_cmpR {op : CmpOp} {r : R2} (ho : OpR X (compareOp op) r) (ha : PE X a ta) (hb : PE X b tb) (hm : behindInMarks op b = false) : PT X (.Compare a [op] [b] pos) (tTest (tOp r ta tb)) := by
  intro pins s σ H Q I h
  refine wpAny_isTrue_Compare1 (thn (ha pins s σ H _ I h) fun v s1 ⟨x, H1, I1, r1, q1⟩ => thn (hb pins s1 σ H1 _ I1 q1) fun u s2 ⟨y, H2, I2, r2, q2⟩ =>
    thn (ho pins s2 σ H2 x y v u _ I2 r1 r2 q2) fun c s3 ⟨z, H3, I3, r3, k, e, q3⟩ => ?_) hm
  subst e
  cases r3
  exact wpAny_truthy_bool ⟨H3, I3, q3⟩
def tChain (r r' : R2) (ta tb tc : TE) : TE := fun σ H Q => ta σ H fun x H1 => tb σ H1 fun y H2 => r x y H2 fun z H3 => ∃ k, z = .bl k ∧
  (if k = true then tc σ H3 fun w' H4 => r' y w' H4 Q else Q (.bl false) H3)
theorem pe_chain {op op' : CmpOp} {r r' : R2} (ho : OpR X (compareOp op) r) (ho' : OpR X (compareOp op') r') (ha : PE X a ta) (hb : PE X b tb) (hc : PE X c tc)
    (hm : lastMarks [op, op'] [b, c] = false := by with_unfolding_all rfl) : PE X (.Compare a [op, op'] [b, c] pos) (tChain r r' ta tb tc) := by
  intro pins s σ H Q I h
  refine Compare_chain (thn (ha pins s σ H _ I h) fun v s1 ⟨x, H1, I1, r1, q1⟩ => chain_link (thn (hb pins s1 σ H1 _ I1 q1) fun u s2 ⟨y, H2, I2, r2, q2⟩ =>
    thn (ho pins s2 σ H2 x y v u _ I2 r1 r2 q2) fun d s3 ⟨z, H3, I3, r3, k, e, q3⟩ => ?_)) hm
  subst e
  cases r3
  refine wpAny_truthy_bool ?_
  cases k with
  | false => exact ite_ff ⟨.bl false, H3, I3, rfl, q3⟩
  | true => exact ite_tt (chain_last (thn (hc pins s3 σ H3 _ I3 q3) fun w' s4 ⟨z', H4, I4, r4, q4⟩ => ho' pins s4 σ H4 y z' u w' Q I4 r2 r4 q4))
theorem pt_chain {op op' : CmpOp} {r r' : R2} (ho : OpR X (compareOp op) r) (ho' : OpR X (compareOp op') r') (ha : PE X a ta) (hb : PE X b tb) (hc : PE X c tc)
    (hm : lastMarks [op, op'] [b, c] = false := by with_unfolding_all rfl) : PT X (.Compare a [op, op'] [b, c] pos) (tTest (tChain r r' ta tb tc)) := by
  intro pins s σ H Q I h
  refine isTrue_chain (thn (ha pins s σ H _ I h) fun v s1 ⟨x, H1, I1, r1, q1⟩ => test_link (thn (hb pins s1 σ H1 _ I1 q1) fun u s2 ⟨y, H2, I2, r2, q2⟩ =>
    thn (ho pins s2 σ H2 x y v u _ I2 r1 r2 q2) fun d s3 ⟨z, H3, I3, r3, k, e, q3⟩ => ?_)) hm
  subst e
  cases r3
  refine wpAny_truthy_bool ?_
  cases k with
  | false =>
    obtain ⟨k', e', q'⟩ := q3
    cases e'
    exact ite_ff ⟨H3, I3, q'⟩
  | true =>
    refine ite_tt (test_last (thn (hc pins s3 σ H3 _ I3 q3) fun w' s4 ⟨z', H4, I4, r4, q4⟩ => thn (ho' pins s4 σ H4 y z' u w' _ I4 r2 r4 q4) fun d' s5 ⟨z2, H5, I5, r5, k2, e2, q5⟩ => ?_))
    subst e2
    cases r5
    exact wpAny_truthy_bool ⟨H5, I5, q5⟩
def TruV (K : W.Frag) (x : V) (H : Hp) (k : Bool) : Prop :=
  match x with
  | .non => k = false
  | .bl b => k = b
  | .int i => k = (i != 0)
  | .str y => y.length ≤ sizeLine ∧ k = ((y.length : Int) != 0)
  | .byt y => y.size ≤ sizeLine ∧ k = ((y.size : Int) != 0)
  | .ref p => (∃ xs, SqL K H p xs ∧ k = !xs.isEmpty) ∨ (∃ xs, SqT K H p xs ∧ k = !xs.isEmpty) ∨ ∃ kvs, H p = some (.dK kvs) ∧ k = !kvs.isEmpty
  | _ => False
theorem isEmpty_kv {κ : Type} {kvs : List (κ × V)} {vs : List (κ × Value)} (r : KV kvs vs) : (!vs.isEmpty) = !kvs.isEmpty := by
  cases r <;> rfl
theorem isEmpty_of {xs : List V} {its : List Value} (r : Vals xs its) : (!its.toArray.isEmpty) = !xs.isEmpty := by
  cases r <;> simp
theorem line63 : (sizeLine : Nat) < 2 ^ 63 := by rw [sizeLine_eq]; decide
theorem tru_ok : TruR X (fun x H Q => ∃ k, TruV X.K x H k ∧ Q k H) := by
  intro pins s σ H x v Q I rx h
  obtain ⟨k, e, q⟩ := h
  have hl := line63
  have hs : sizeLine = 16777216 := sizeLine_eq
  cases x with
  | non =>
    cases rx
    have e' : k = false := e
    subst e'
    exact truthy_none ⟨H, I, q⟩
  | bl b =>
    cases rx
    have e' : k = b := e
    subst e'
    exact wpAny_truthy_bool ⟨H, I, q⟩
  | int i =>
    obtain ⟨t, rfl⟩ := rx
    have e' : k = (i != 0) := e
    subst e'
    exact PySem.P.truthy_int ⟨H, I, q⟩
  | str y =>
    obtain ⟨t, rfl⟩ := rx
    obtain ⟨hy, e'⟩ : y.length ≤ sizeLine ∧ k = ((y.length : Int) != 0) := e
    subst e'
    exact PySem.P.truthy_str (by omega) ⟨H, I.tok _, q⟩
  | byt y =>
    obtain ⟨t, rfl⟩ := rx
    obtain ⟨hy, e'⟩ : y.size ≤ sizeLine ∧ k = ((y.size : Int) != 0) := e
    subst e'
    exact W.truthy_bytes (by omega) ⟨H, I.tok _, q⟩
  | ref p =>
    cases rx
    have e' : (∃ xs, SqL X.K H p xs ∧ k = !xs.isEmpty) ∨ (∃ xs, SqT X.K H p xs ∧ k = !xs.isEmpty) ∨ ∃ kvs, H p = some (.dK kvs) ∧ k = !kvs.isEmpty := e
    rcases e' with ⟨xs, hx, e'⟩ | ⟨xs, hx, e'⟩ | ⟨kvs, hx, e'⟩
    · subst e'
      obtain ⟨its, r, pl, hz⟩ := I.list hx
      have hlen := r.length
      exact wpAny_truthy_list pl.isList (by simp only [List.size_toArray]; omega) ⟨H, I.tok _, by rw [isEmpty_of r]; exact q⟩
    · subst e'
      obtain ⟨its, r, pl, hz⟩ := I.tuple hx
      have hlen := r.length
      exact truthy_tuple pl (by simp only [List.size_toArray]; omega) ⟨H, I.tok _, by rw [isEmpty_of r]; exact q⟩
    · subst e'
      obtain ⟨hz, hS, vs, r, m⟩ : kvs.length ≤ sizeLine ∧ (p == sysModules) = false ∧ ∃ vs, KV kvs vs ∧ s.heap.DictOf (mixKind X.prog X.w) p vs := I.hok p _ hx
      have hlen : kvs.length = vs.length := Paired.length r
      exact wpAny_truthy_dict hS m (by omega) ⟨H, I.tok _, by rw [isEmpty_kv r]; exact q⟩
  | _ => exact (show False from e).elim
theorem pt_truth (ha : PE X a ta) (he : ∀ whole, isTrue a X.env whole = (do let v ← whole; standAt a.pos; holding [v] (truthy v))) :
    PT X a (fun σ H Q => ta σ H fun x H' => ∃ k, TruV X.K x H' k ∧ Q k H') := by
  intro pins s σ H Q I h
  exact isTrue_plain (thn (ha pins s σ H _ I h) fun v s1 ⟨x, H1, I1, r1, q1⟩ => tru_ok pins s1 σ H1 x v Q I1 r1 q1) (he _)
theorem vals1 {x : V} {us : List Value} (r : Vals [x] us) : ∃ u, us = [u] ∧ RelV x u := by
  cases r with
  | cons r1 r2 => cases r2; exact ⟨_, rfl, r1⟩
end
end L2
namespace L2
open PySem PySem.Spec PyProof.Rows
structure ObjM (h : Heap) (x dx C : Addr) (mA : Str → Option Value) : Prop where
  obj : h.get? x = some (W.instObj C dx)
  ns : h.Ns1 dx mA
  ne : dx ≠ x
theorem lookIn_ns {h : Heap} {dx : Addr} {mA : Str → Option Value} (n : h.Ns1 dx mA) : ∃ od, h.get? dx = some od ∧ ∀ name, W.lookIn name od = some (mA name) := by
  obtain ⟨o, es, ep, ho, hd, hk, _, hm⟩ := n
  refine ⟨o, ho, fun name => ?_⟩
  have e := hm name
  unfold nsFind findBy at e
  rw [← Array.find?_toList] at e
  unfold W.lookIn
  rw [hd]
  dsimp only
  split
  · rename_i y q
    rw [q] at e
    exact congrArg some e
  · rename_i q
    rw [q] at e
    have a : es.toList.any (·.refKey) = false := by
      rw [List.any_eq_false]
      intro y hy
      obtain ⟨z, t, hkey⟩ := hk y (Array.mem_toList_iff.mp hy)
      simp [DictEntry.refKey, hkey]
    have a' : ¬ es.toList.any (·.refKey) = true := by rw [a]; exact Bool.false_ne_true
    rw [if_neg a']
    exact congrArg some e
theorem ObjM.look {h : Heap} {x dx C : Addr} {mA : Str → Option Value} (I : ObjM h x dx C mA) : ∃ od, W.InstAt h x (W.instObj C dx) C (some od) ∧ ∀ name, W.lookIn name od = some (mA name) :=
  let ⟨od, ho, hl⟩ := lookIn_ns I.ns
  ⟨od, ⟨I.obj, rfl, rfl, ho⟩, hl⟩
section
variable {prog : Program} {w : World} {A : Around} {E : Value → Shared → Prop} {s : Shared} {K : W.Frag} {x dx C f : Addr} {mA : Str → Option Value} {name : Str} {v : Value}
theorem get_map {expr : Bool} {Q : Value → Shared → Prop} (X : K.In s.heap) (I : ObjM s.heap x dx C mA) (hg : W.plainGet K C name = true) (hh : W.hasDictIn K C = true)
    (ha : W.findIn K (.ref C) name = some none) (hv : mA name = some v) (hv' : W.handedIn v = true) (h : Q v { s with toks := s.toks + 1 }) :
    wpAny (model prog w) A (getAttr (.ref x) name expr) Q E s := by
  obtain ⟨od, J, hl⟩ := I.look
  exact W.get_value X J (W.plainGet_of hg).1 (W.findObj_own hh ha rfl (by rw [hl, hv])) hv' h
theorem get_meth {pl : Sem Bool} {Q : Value × List Value → Shared → Prop} (X : K.In s.heap) (I : ObjM s.heap x dx C mA) (hg : W.plainGet K C name = true)
    (hf : W.findIn K (.ref C) name = some (some (.ref f))) (ht : W.isFn K (.ref f) = true) (hv : mA name = none) (h : Q (.ref f, [.ref x]) s) :
    wpAny (model prog w) A (getMethod (.ref x) name pl) Q E s := by
  obtain ⟨od, J, hl⟩ := I.look
  exact W.method_fn X J (W.plainGet_of hg).1 (W.plainGet_of hg).2 hf (beq_iff_eq.mp ht) (by show (W.lookIn name od).map (·.isSome) = some false; rw [hl, hv]; rfl) h
theorem set_map {ns : List Str} {Q : Unit → Shared → Prop} (X : K.In s.heap) (I : ObjM s.heap x dx C mA)
    (hs : W.findIn K (.ref C) "__setattr__" = some (some (.builtin "object.__setattr__"))) (hp : W.plainOver K C = true) (ht : W.takerIn K C name = some none) (hh : W.hasDictIn K C = true)
    (hw : PySem.Within mA ns) (hsz : ns.length ≤ sizeLine)
    (h : ∀ h', ObjM h' x dx C (fun y => if y = name then some v else mA y) → Heap.SameBut dx s.heap h' → Q () { s with heap := h', toks := s.toks + 2 }) :
    wpAny (model prog w) A (setAttr (.ref x) name v) Q E s := by
  obtain ⟨od, J, hl⟩ := I.look
  refine W.set_plain X J hs (W.osa_open (s := { s with toks := s.toks + 1 }) (r := none) X J hp ht fun b => ?_)
  obtain ⟨cd, hc, hd'⟩ := W.any_some hh
  have hx : s.heap.get? x = some ⟨.ref C, some dx, .plain, #[]⟩ := I.obj
  refine wpAny_bind (wpAny_pure (wpAny_bind (wpAny_bind (wpAny_loadPart hx (wpAny_bind (W.Looks.here (s := { s with toks := s.toks + 1 }) (W.looks_clsIn X hc) ?_))))))
  rw [hd']
  refine wpAny_pure (a := some dx) (wpAny_bind (wpAny_pure (wpAny_bind ?_)))
  refine wpAny_nsSet1 (s := { s with toks := s.toks + 1 }) I.ns fun h' hn2 hs2 => ?_
  obtain ⟨oD, esD, epD, hoD, hdD, hcD⟩ := hn2.count (PySem.Within.cons name v hw)
  refine wpAny_bind (wpAny_lookBehind hoD (by rw [hdD]; exact pastItsLine_dict (Nat.le_trans hcD (by rw [List.length_cons]; omega))) ?_)
  exact wpAny_pure (h _ ⟨(hs2.2 _ (Ne.symm I.ne)).trans I.obj, hn2, I.ne⟩ hs2)
theorem make_map {R : Result → Shared → Prop} {vs : List Value} {kw : List (Str × Value)} (X : K.In s.heap) (hm : W.makesIn K C = true)
    (hi : W.findIn K (.ref C) "__init__" = some (some (.ref f))) (hf : W.typeIn K (.ref f) = some (.type "function"))
    (h : codeAny (model prog w) (A.under (.builtin "type.__call__" ⟨.ref C :: vs, kw⟩)) (.call (.ref f) ⟨.ref (s.heap.objs.size + 1) :: vs, kw⟩) (W.InitBack (s.heap.objs.size + 1) R)
      { s with heap := (s.heap.push W.emptyDict).push (W.instObj C s.heap.objs.size) }) :
    codeAny (model prog w) A (.call (.ref C) ⟨vs, kw⟩) R s := by
  obtain ⟨hh, g, d, t, os⟩ := s
  exact W.make_core (W.makes_of X hm) (W.looks_findIn X hi) (fun self => W.bind_fn X self hf) (.inl rfl) h
end
def putF (f : Str) (v : V) : List (Str × V) → List (Str × V)
  | [] => [(f, v)]
  | (g, x) :: r => if g = f then (g, v) :: r else (g, x) :: putF f v r
theorem lookup_putF (f g : Str) (v : V) : ∀ fs : List (Str × V), (putF f v fs).lookup g = if g = f then some v else fs.lookup g
  | [] => by
    show List.lookup g [(f, v)] = _
    by_cases h : g = f
    · have hb : (g == f) = true := beq_iff_eq.mpr h
      simp only [List.lookup, hb, if_pos h]
    · have hb : (g == f) = false := beq_eq_false_iff_ne.mpr h
      simp only [List.lookup, hb, if_neg h]
  | (k, x) :: r => by
    have ih := lookup_putF f g v r
    rw [show putF f v ((k, x) :: r) = (if k = f then (k, v) :: r else (k, x) :: putF f v r) from rfl]
    by_cases hk : k = f
    · rw [if_pos hk]
      by_cases h : g = k
      · have hb : (g == k) = true := beq_iff_eq.mpr h
        simp only [List.lookup, hb, if_pos (h.trans hk)]
      · have hb : (g == k) = false := beq_eq_false_iff_ne.mpr h
        simp only [List.lookup, hb, if_neg (fun e : g = f => h (e.trans hk.symm))]
    · rw [if_neg hk]
      by_cases h : g = k
      · have hb : (g == k) = true := beq_iff_eq.mpr h
        simp only [List.lookup, hb, if_neg (fun e : g = f => hk (h.symm.trans e))]
      · have hb : (g == k) = false := beq_eq_false_iff_ne.mpr h
        simp only [List.lookup, hb]
        exact ih
theorem keys_putF (f : Str) (v : V) : ∀ fs : List (Str × V), f ∈ (putF f v fs).map (·.1) ∧ ∀ g, g ∈ fs.map (·.1) → g ∈ (putF f v fs).map (·.1)
  | [] => ⟨by simp [putF], fun g h => by simp at h⟩
  | (k, x) :: r => by
    obtain ⟨i1, i2⟩ := keys_putF f v r
    rw [show putF f v ((k, x) :: r) = (if k = f then (k, v) :: r else (k, x) :: putF f v r) from rfl]
    by_cases hk : k = f
    · rw [if_pos hk]
      subst hk
      exact ⟨by simp, fun g h => by simpa using h⟩
    · rw [if_neg hk]
      refine ⟨?_, fun g h => ?_⟩
      · rw [List.map_cons]
        exact List.mem_cons_of_mem _ i1
      · rw [List.map_cons] at h ⊢
        rcases List.mem_cons.mp h with e | e
        · exact List.mem_cons.mpr (.inl e)
        · exact List.mem_cons_of_mem _ (i2 g e)
theorem length_putF (f : Str) (v : V) : ∀ fs : List (Str × V), (putF f v fs).length ≤ fs.length + 1
  | [] => by simp [putF]
  | (k, x) :: r => by
    have ih := length_putF f v r
    rw [show putF f v ((k, x) :: r) = (if k = f then (k, v) :: r else (k, x) :: putF f v r) from rfl]
    by_cases hk : k = f
    · rw [if_pos hk, List.length_cons, List.length_cons]; omega
    · rw [if_neg hk, List.length_cons, List.length_cons]; omega
theorem RelO.some_of {v : V} {o : Option Value} (r : RelO (some v) o) : ∃ u, o = some u ∧ RelV v u := by
  cases o with
  | none => exact (show False from r).elim
  | some u => exact ⟨u, rfl, r⟩
theorem RelO.none_of {o : Option Value} (r : RelO none o) : o = none := by
  cases o with
  | none => rfl
  | some u => exact (show False from r).elim
theorem handed_of {v : V} {u : Value} (r : RelV v u) : W.handedIn u = true := by
  cases v with
  | non => cases (show u = Value.none from r); rfl
  | bl b => cases (show u = Value.bool b from r); rfl
  | int i => obtain ⟨t, e⟩ := (show ∃ t, u = Value.int i t from r); cases e; rfl
  | str x => obtain ⟨t, e⟩ := (show ∃ t, u = Value.str x t from r); cases e; rfl
  | byt b => obtain ⟨t, e⟩ := (show ∃ t, u = Value.bytes b t from r); cases e; rfl
  | flt b => obtain ⟨t, e⟩ := (show ∃ t, u = Value.float b t from r); cases e; rfl
  | ref a => cases (show u = Value.ref a from r); rfl
  | ty n => cases (show u = Value.type n from r); rfl
section
variable {P : Program} {w : World} {H H' : Hp} {h h' : Heap} {a C dx : Addr} {fs fs' : List (Str × V)}
theorem ins_get (hok : HOk P w H h) (e : H a = some (.ins C dx fs)) : ∃ mA, ObjM h a dx C mA ∧ (∀ f, RelO (fs.lookup f) (mA f)) ∧ PySem.Within mA (fs.map (·.1)) ∧ fs.length ≤ 1000 ∧ H dx = some (.own a) := by
  obtain ⟨d, z, ne, ob, mA, n, r, q⟩ := (show ObjOk P w H h a (.ins C dx fs) from hok a _ e)
  exact ⟨mA, ⟨ob, n, ne⟩, r, q, z, d⟩
end
structure Cls (K : W.Frag) (C : Addr) : Prop where
  pg : W.plainGet K C Str.empty = true
  hd : W.hasDictIn K C = true
  po : W.plainOver K C = true
  sa : W.findIn K (.ref C) "__setattr__" = some (some (.builtin "object.__setattr__"))
theorem Cls.get {K : W.Frag} {C : Addr} (c : Cls K C) (f : Str) : W.plainGet K C f = true := c.pg
def NoAttr (K : W.Frag) (C : Addr) (f : Str) : Prop := W.findIn K (.ref C) f = some none
theorem NoAttr.taker {K : W.Frag} {C : Addr} {f : Str} (n : NoAttr K C f) : W.takerIn K C f = some none := by
  unfold W.takerIn
  rw [show W.findIn K (.ref C) f = some none from n]
  rfl
structure Meth (K : W.Frag) (C : Addr) (m : Str) (f : Addr) : Prop where
  at_ : W.findIn K (.ref C) m = some (some (.ref f))
  fn : W.isFn K (.ref f) = true
  kp : W.keepIn K (.ref f) = true
section
variable {X : Cx} {pins : List (Addr × Obj)} {σ : St} {H : Hp} {s : Shared} {a C dx : Addr} {fs : List (Str × V)} {f : Str} {v : V} {A : Around} {E : Value → Shared → Prop}
theorem getattr_ok {b : Bool} {Q : Value → Shared → Prop} (I : Inv X pins σ H s) (e : H a = some (.ins C dx fs)) (c : Cls X.K C) (n : NoAttr X.K C f) (l : fs.lookup f = some v)
    (h : ∀ u s', Inv X pins σ H s' → RelV v u → Q u s') : wpAny (model X.prog X.w) A (getAttr (.ref a) f b) Q E s := by
  obtain ⟨mA, O, r, _, _, _⟩ := ins_get I.hok e
  obtain ⟨u, hu, ru⟩ := RelO.some_of (v := v) (o := mA f) (by rw [← l]; exact r f)
  exact get_map I.kIn O (c.get f) c.hd n hu (handed_of ru) (h u _ (I.tok _) ru)
theorem getmeth_ok {m : Str} {g : Addr} {pl : Sem Bool} {Q : Value × List Value → Shared → Prop} (I : Inv X pins σ H s) (e : H a = some (.ins C dx fs)) (c : Cls X.K C) (k : Meth X.K C m g) (l : fs.lookup m = none)
    (h : Q (.ref g, [.ref a]) s) : wpAny (model X.prog X.w) A (getMethod (.ref a) m pl) Q E s := by
  obtain ⟨mA, O, r, _, _, _⟩ := ins_get I.hok e
  have hn : mA m = none := RelO.none_of (by rw [← l]; exact r m)
  exact get_meth I.kIn O (c.get m) k.at_ k.fn hn h
theorem setattr_ok {y : V} {u : Value} {Q : Unit → Shared → Prop} (I : Inv X pins σ H s) (e : H a = some (.ins C dx fs)) (c : Cls X.K C) (n : NoAttr X.K C f) (hl : fs.length < 1000) (ry : RelV y u)
    (h : ∀ s', Inv X pins σ (upd H a (.ins C dx (putF f y fs))) s' → Q () s') : wpAny (model X.prog X.w) A (setAttr (.ref a) f u) Q E s := by
  obtain ⟨mA, O, r, wi, _, ho⟩ := ins_get I.hok e
  have hz : (fs.map (·.1)).length ≤ sizeLine := by rw [List.length_map, sizeLine_eq]; omega
  refine set_map I.kIn O c.sa c.po n.taker c.hd wi hz fun h' O' sb => h _ ?_
  have hd : ∃ o, h'.get? dx = some o := let ⟨o, _, _, e', _⟩ := O'.ns; ⟨o, e'⟩
  refine I.write (x := a) (e := dx) (by rw [e]; exact True.intro) (.inr ho) (fun b q hb z => (sb.2 b hb).trans z) hd ?_
  refine ⟨by rw [upd_ne O.ne]; exact ho, ?_, O.ne, O'.obj, _, O'.ns, fun g => ?_, fun g hg => ?_⟩
  · have := length_putF f y fs; omega
  · show RelO ((putF f y fs).lookup g) (if g = f then some u else mA g)
    rw [lookup_putF]
    by_cases q : g = f
    · rw [if_pos q, if_pos q]; exact ry
    · rw [if_neg q, if_neg q]; exact r g
  · by_cases q : g = f
    · rw [q]; exact (keys_putF f y fs).1
    · refine (keys_putF f y fs).2 g (wi g fun z => hg ?_)
      show (if g = f then some u else mA g) = none
      rw [if_neg q]; exact z
theorem Inv.made (I : Inv X pins σ H s) : Inv X pins σ (upd (upd H s.heap.objs.size (.own (s.heap.objs.size + 1))) (s.heap.objs.size + 1) (.ins C s.heap.objs.size []))
    { s with heap := (s.heap.push W.emptyDict).push (W.instObj C s.heap.objs.size) } := by
  have e1 : (s.heap.push W.emptyDict).get? s.heap.objs.size = some W.emptyDict := Heap.get?_push_size s.heap rfl
  have e2 : ((s.heap.push W.emptyDict).push (W.instObj C s.heap.objs.size)).get? (s.heap.objs.size + 1) = some (W.instObj C s.heap.objs.size) := by
    have := Heap.get?_push_size (s.heap.push W.emptyDict) (o := W.instObj C s.heap.objs.size) rfl
    rwa [Heap.size_push] at this
  have e3 : (s.heap.push W.emptyDict).Ns s.heap.objs.size (fun _ => none) := ⟨W.emptyDict, #[], _, e1, rfl, (fun e he => absurd he (by simp)), fun _ => rfl⟩
  have I1 := I.laid (a := s.heap.objs.size) (o := .own (s.heap.objs.size + 1)) (h' := s.heap.push W.emptyDict) (t' := s.toks) (fun b u q => Heap.get?_push_of_some _ q) (Nat.le_refl _) ⟨_, e1⟩
  refine I1.laid (a := s.heap.objs.size + 1) (o := .ins C s.heap.objs.size []) (t' := s.toks) (fun b u q => Heap.get?_push_of_some _ q) (Nat.le_of_eq (Heap.size_push _ _)) ?_
  have ne : s.heap.objs.size ≠ s.heap.objs.size + 1 := Nat.ne_of_lt (Nat.lt_succ_self _)
  refine ⟨by rw [upd_ne ne, upd_same], Nat.zero_le _, ne, e2, fun _ => none, (Heap.Ns1.of_empty e3).at fun o q => Heap.get?_push_of_some _ q, fun _ => True.intro, fun y hy => absurd rfl hy⟩
theorem attr_of {prog : Program} {w : World} {env : Env} {e : Expr} {f : Str} {pos : Pos} {s : Shared} {Q : Value → Shared → Prop} (hb : attributeBase e f env (eval e env) = eval e env)
    (h : wpAny (model prog w) A (eval e env) (fun o s₁ => wpAny (model prog w) A (getAttr o f true) Q E s₁) E s) : wpAny (model prog w) A (eval (.Attribute e f pos) env) Q E s :=
  Attribute_any_ h (by rw [arm_eval_Attribute, hb])
end
def tFld (K : W.Frag) (ta : TE) (f : Str) : TE := fun σ H Q => ta σ H fun x H1 => ∃ a C dx fs v, x = .ref a ∧ H1 a = some (.ins C dx fs) ∧ Cls K C ∧ NoAttr K C f ∧ fs.lookup f = some v ∧ Q v H1
def sFld (K : W.Frag) (ta tv : TE) (f : Str) : TS := fun D σ H => tv σ H fun y H1 => ta σ H1 fun x H2 => ∃ a C dx fs, x = .ref a ∧ H2 a = some (.ins C dx fs) ∧ Cls K C ∧ NoAttr K C f ∧ fs.length < 1000 ∧
  D.nx σ (upd H2 a (.ins C dx (putF f y fs)))
section
variable {X : Cx} {o e value : Expr} {f : Str} {pos pos' tpos : Pos} {ta tv : TE}
theorem pe_fld (he : PE X e ta) (hb : attributeBase e f X.env (eval e X.env) = eval e X.env) : PE X (.Attribute e f pos) (tFld X.K ta f) := by
  intro pins s σ H Q I h
  refine attr_of hb (thn (he pins s σ H _ I h) fun u s1 ⟨x, H1, I1, rx, a, C, dx, fs, v, ex, ea, c, n, l, q⟩ => ?_)
  subst ex
  obtain rfl : u = Value.ref a := rx
  exact getattr_ok I1 ea c n l fun u' s2 I2 ru => ⟨v, H1, I2, ru, q⟩
theorem ps_fld (ha : PE X o ta) (hv : PE X value tv) (hs : swapsWith value (some (.Attribute o f pos')) pos.line X.env = pure false) : PS X (.Assign [.Attribute o f pos'] value pos) (sFld X.K ta tv f) := by
  intro pins s σ H D I h
  refine plainObj_wpAny_Assign_Attribute (thn (hv pins s σ H _ I h) fun u s1 ⟨y, H1, I1, ry, q⟩ => thn (ha pins s1 σ H1 _ I1 q) fun ov s2 ⟨x, H2, I2, rx, a, C, dx, fs, ex, ea, c, n, l, q2⟩ => ?_) hs
  subst ex
  obtain rfl : ov = Value.ref a := rx
  exact setattr_ok I2 ea c n l ry fun s3 I3 => ⟨σ, _, I3, q2⟩
end
section
variable {X : Cx} {pins : List (Addr × Obj)} {σ : St} {H : Hp} {s : Shared} {A : Around} {E : Value → Shared → Prop} {Q : Value → Shared → Prop} {c : Value} {b : Bool}
inductive TyOf (K : W.Frag) (H : Hp) : V → Value → Prop where
  | non : TyOf K H .non (.type "NoneType")
  | bl (x : Bool) : TyOf K H (.bl x) (.type "bool")
  | int (i : Int) : TyOf K H (.int i) (.type "int")
  | str (x : Str) : TyOf K H (.str x) (.type "str")
  | flt (x : UInt64) : TyOf K H (.flt x) (.type "float")
  | lst {a : Addr} {xs : List V} (e : H a = some (.lst xs)) : TyOf K H (.ref a) (.type "list")
  | frz {a : Addr} {o : Obj} {xs : List V} (e : H a = some (.frz o (.lst xs))) : TyOf K H (.ref a) (.type "list")
  | tup {a : Addr} {xs : List V} (e : H a = some (.tup xs)) : TyOf K H (.ref a) (.type "tuple")
  | dK {a : Addr} {kvs : List (Key × V)} (e : H a = some (.dK kvs)) : TyOf K H (.ref a) (.type "dict")
  | dT {a : Addr} {kvs : List (List Key × V)} (e : H a = some (.dT kvs)) : TyOf K H (.ref a) (.type "dict")
  | ins {a C dx : Addr} {fs : List (Str × V)} (e : H a = some (.ins C dx fs)) (cl : Cls K C) (ha : W.findIn K (.ref C) "__class__" = some (some (.builtin "object.__class__")))
      (hn : W.specialIn K (.builtin "object.__class__") "__get__" = some (some (.builtin "getset_descriptor.__get__"))) (htk : W.takesIn K (.builtin "object.__class__") = some true)
      (hm : W.mroIn K C (.type "object") = some true) : TyOf K H (.ref a) (.ref C)
theorem isinst_ok {x : V} {u t : Value} (I : Inv X pins σ H s) (rx : RelV x u) (ty : TyOf X.K H x t) (e : W.kitOne X.K t c = some b) (h : ∀ tk, Q (.bool b) { s with toks := tk }) :
    wpAny (model X.prog X.w) A (call (.builtin "isinstance") [u, c]) Q E s := by
  cases ty with
  | non => cases (show u = Value.none from rx); exact W.kia_one W.kitx_none I.kIn True.intro e (fun z => nomatch z) h
  | bl y => cases (show u = Value.bool y from rx); exact W.kia_one W.kitx_bool I.kIn True.intro e (fun z => nomatch z) h
  | int i => obtain ⟨t, q⟩ := (show ∃ t, u = Value.int i t from rx); cases q; exact W.kia_one W.kitx_int I.kIn True.intro e (fun z => nomatch z) h
  | str y => obtain ⟨t, q⟩ := (show ∃ t, u = Value.str y t from rx); cases q; exact W.kia_one W.kitx_str I.kIn True.intro e (fun z => nomatch z) h
  | flt y => obtain ⟨t, q⟩ := (show ∃ t, u = Value.float y t from rx); cases q; exact W.kia_one W.kitx_float I.kIn True.intro e (fun z => nomatch z) h
  | @lst a xs ea =>
    cases (show u = Value.ref a from rx)
    obtain ⟨_, _, n, _, h1⟩ := (show ObjOk X.prog X.w H s.heap a (.lst xs) from I.hok a _ ea)
    exact W.kia_one W.kitx_list I.kIn ⟨_, h1, rfl⟩ e (fun z => nomatch z) h
  | @frz a ob xs ea =>
    cases (show u = Value.ref a from rx)
    obtain ⟨_, _, _, n, _, h1⟩ := (show ObjOk X.prog X.w H s.heap a (.frz ob (.lst xs)) from I.hok a _ ea)
    exact W.kia_one W.kitx_list I.kIn ⟨_, h1, rfl⟩ e (fun z => nomatch z) h
  | @tup a xs ea =>
    cases (show u = Value.ref a from rx)
    obtain ⟨_, _, _, p⟩ := (show ObjOk X.prog X.w H s.heap a (.tup xs) from I.hok a _ ea)
    obtain ⟨o, h1, h2, _⟩ := p
    exact W.kia_one W.kitx_tuple I.kIn ⟨o, h1, h2⟩ e (fun z => nomatch z) h
  | @dK a kvs ea =>
    cases (show u = Value.ref a from rx)
    obtain ⟨_, _, vs, _, p⟩ := (show ObjOk X.prog X.w H s.heap a (.dK kvs) from I.hok a _ ea)
    obtain ⟨o, es, ep, h1, h2, _⟩ := p
    exact W.kia_one W.kitx_dict I.kIn ⟨o, h1, h2.1⟩ e (fun z => nomatch z) h
  | @dT a kvs ea =>
    cases (show u = Value.ref a from rx)
    obtain ⟨_, _, xs, _, o, es, ep, h1, h2, _⟩ := (show ObjOk X.prog X.w H s.heap a (.dT kvs) from I.hok a _ ea)
    exact W.kia_one W.kitx_dict I.kIn ⟨o, h1, h2.1⟩ e (fun z => nomatch z) h
  | @ins a C dx fs ea cl ha hn htk hm =>
    cases (show u = Value.ref a from rx)
    obtain ⟨mA, O, _⟩ := ins_get I.hok ea
    obtain ⟨od, J, _⟩ := O.look
    exact W.kia_one (W.kitx_own (cl.get _) cl.hd ha hn htk hm) I.kIn J e (fun z => nomatch z) h
end
end L2
namespace L2
open PySem PySem.Spec PyProof.Rows
structure Room (k : Nat) (A : Around) : Prop where
  hd : A.handled = none
  dp : A.depth + 3 * k + 5 < recursionLimit
  un : A.units + 16 * k + 200 < cLine
  gd : A.guards = some []
theorem Room.mono {j k : Nat} {A : Around} (r : Room k A) (h : j ≤ k) : Room j A := ⟨r.hd, by have := r.dp; omega, by have := r.un; omega, r.gd⟩
theorem Room.deeper {k : Nat} {A : Around} (r : Room (k + 1) A) (env : Env) : Room k (A.deeper env) :=
  ⟨r.hd, by have := r.dp; show A.depth + 1 + 3 * k + 5 < _; omega, by have := r.un; show A.units + 3 + 16 * k + 200 < _; omega, r.gd⟩
theorem make_depth {A : Around} {C : Addr} {us : List Value} {kw : List (Str × Value)} : (A.under (.builtin "type.__call__" ⟨.ref C :: us, kw⟩)).depth = A.depth + 1 := by
  first | rfl | simp [Around.under, Code.weight, Code.isCreation, Code.isGuard, Code.isCaller, Code.frames, Code.isFrame, guardIds]
theorem make_units {A : Around} {C : Addr} {us : List Value} {kw : List (Str × Value)} : (A.under (.builtin "type.__call__" ⟨.ref C :: us, kw⟩)).units = A.units + 1 := by
  first | rfl | simp [Around.under, Code.cUnits, Code.frames, Code.isFrame]
theorem Room.make {k : Nat} {A : Around} (r : Room (k + 1) A) (C : Addr) (us : List Value) (kw : List (Str × Value)) : Room k (A.under (.builtin "type.__call__" ⟨.ref C :: us, kw⟩)) :=
  ⟨r.hd, by have := r.dp; rw [make_depth]; omega, by have := r.un; rw [make_units]; omega, by
    first | exact r.gd | (have g := r.gd; simp [Around.under, Code.guards, Code.isGuard, guardIds, pushGuards, g])⟩
theorem Room.depth {k : Nat} {A : Around} (r : Room k A) : A.depth < recursionLimit := by have := r.dp; omega
theorem Room.units {k : Nat} {A : Around} (r : Room k A) : A.units + 64 < cLine := by have := r.un; omega
theorem Room.units0 {k : Nat} {A : Around} (r : Room k A) : A.units < cLine := by have := r.un; omega
def tNil : TA := fun _ H Q => Q [] H
def tCons (ta : TE) (tr : TA) : TA := fun σ H Q => ta σ H fun x H1 => tr σ H1 fun xs H2 => Q (x :: xs) H2
section
variable {X : Cx} {e : Expr} {es : List Expr} {te : TE} {t : TA} {pos : Pos}
theorem pa_nil : PA X [] tNil := fun _ _ _ _ H Q I h => Calls.spliced_nil ⟨[], H, I, .nil, h⟩
theorem pa_cons (ha : PE X e te) (hr : PA X es t) (hs : starEach (e :: es) X.env = (false, eval e X.env) :: starEach es X.env := by rfl) : PA X (e :: es) (tCons te t) := by
  intro pos pins s σ H Q I h
  rw [hs]
  show wpAny _ _ (spliced ((false, eval e X.env) :: backTo pos (starEach es X.env))) _ _ s
  refine Calls.spliced_cons (thn (ha pins s σ H _ I h) fun u s1 ⟨x, H1, I1, r1, q1⟩ => ?_)
  exact thn (hr pos pins s1 σ H1 _ I1 q1) fun us s2 ⟨xs, H2, I2, r2, q2⟩ => ⟨x :: xs, H2, I2, .cons r1 r2, q2⟩
def tTup (t : TA) : TE := fun σ H Q => t σ H fun xs H1 => xs.length ≤ sizeLine ∧ ∀ p, H1 p = none → Q (.ref p) (upd H1 p (.tup xs))
def tLst (t : TA) : TE := fun σ H Q => t σ H fun xs H1 => xs.length ≤ sizeLine ∧ ∀ p, H1 p = none → Q (.ref p) (upd H1 p (.lst xs))
theorem pe_tup {x1} (h : PA X es t) : PE X (.Tuple es x1 pos) (tTup t) := by
  intro pins s σ H Q I hq
  refine wpAny_Tuple_spliced (thn (h pos pins s σ H _ I hq) fun us s1 ⟨xs, H1, I1, r, z, q⟩ => ⟨by rw [← r.length]; exact z, ?_⟩)
  have hf : H1 s1.heap.objs.size = none := I1.hok.fresh (Nat.le_refl _)
  refine ⟨.ref s1.heap.objs.size, upd H1 s1.heap.objs.size (.tup xs), I1.laid (t' := s1.toks) (fun b u e => Heap.get?_push_of_some _ e) (Nat.le_refl _) ?_, rfl, q _ hf⟩
  exact ⟨z, us, r, ⟨_, Heap.get?_push_size _ rfl, rfl, _, rfl⟩⟩
theorem pe_lst (h : PA X es t) : PE X (.List es pos) (tLst t) := by
  intro pins s σ H Q I hq
  refine wpAny_List_spliced (thn (h pos pins s σ H _ I hq) fun us s1 ⟨xs, H1, I1, r, z, q⟩ => ⟨by rw [← r.length]; exact z, ?_⟩)
  have hf : H1 s1.heap.objs.size = none := I1.hok.fresh (Nat.le_refl _)
  refine ⟨.ref s1.heap.objs.size, upd H1 s1.heap.objs.size (.lst xs), I1.laid (t' := s1.toks) (fun b u e => Heap.get?_push_of_some _ e) (Nat.le_refl _) ?_, rfl, q _ hf⟩
  exact ⟨z, us, 0, r, Heap.get?_push_size _ rfl⟩
end
abbrev Sp := List V → Hp → VK → XK → Prop
abbrev CXT := List Env → Hp → Shared → XK → Value → Shared → Prop
structure Env0 (P : Program) (w : World) (K : W.Frag) (mg : Str → Option Value) (base : Heap) (A : Around) (outer : List Env) (s : Shared) (H : Hp) : Prop where
  frames : A.frames = some outer
  mod : Mod K mg base
  bs : ∀ b o, base.get? b = some o → s.heap.get? b = some o ∧ H b = none
  bsz : base.objs.size ≤ s.heap.objs.size
  funs : s.heap.FunFrames base outer
  frf : ∀ b ∈ frs outer, H b = none
  hok : HOk P w H s.heap
  bare : AllBare s.gens
def CE (outer : List Env) (P : Program) (w : World) (H : Hp) (s : Shared) (Q : VK) (u : Value) (s' : Shared) : Prop :=
  ∃ v H', s'.os = s.os ∧ AllBare s'.gens ∧ Un (frs outer) [] H H' s.heap s'.heap ∧ HOk P w H' s'.heap ∧ RelV v u ∧ Q v H'
def CR (CX : CXT) (outer : List Env) (P : Program) (w : World) (H : Hp) (s : Shared) (Q : VK) (E : XK) (r : Result) (s' : Shared) : Prop :=
  match r with
  | .ok (.ret u) => CE outer P w H s Q u s'
  | .ok _ => False
  | .error e => CX outer H s E e s'
structure FnOk (P : Program) (w : World) (K : W.Frag) (mg : Str → Option Value) (base : Heap) (CX : CXT) (k : Nat) (f : Addr) (fd : FuncData) (ps : List Str) (sp : Sp) : Prop where
  len : ∀ vs H Q E, sp vs H Q E → vs.length = ps.length
  run : ∀ (A : Around) (outer : List Env) (s : Shared) (H : Hp) (args : Args) (us : List Value) (vs : List V) (Q : VK) (E : XK), Room k A → Env0 P w K mg base A outer s H → BindsTo s fd args (ps.zip us) → Vals vs us → sp vs H Q E →
    codeAny (model P w) A (.call (.ref f) args) (CR CX outer P w H s Q E) s
theorem Env0.make {P : Program} {w : World} {K : W.Frag} {mg : Str → Option Value} {base : Heap} {A : Around} {outer : List Env} {s : Shared} {H : Hp} (e : Env0 P w K mg base A outer s H) (C : Addr) (us : List Value) (kw : List (Str × Value)) :
    Env0 P w K mg base (A.under (.builtin "type.__call__" ⟨.ref C :: us, kw⟩)) outer s H := ⟨by first | exact e.frames | (simpa [Around.under, Code.envs, Code.isFrame, pushEnvs] using e.frames), e.mod, e.bs, e.bsz, e.funs, e.frf, e.hok, e.bare⟩
section
variable {X : Cx} {pins : List (Addr × Obj)} {σ : St} {H : Hp} {s s' : Shared}
theorem Inv.env0 (I : Inv X pins σ H s) : Env0 X.prog X.w X.K X.mg X.base X.A X.stack s H :=
  ⟨I.ok.frames, I.ok.mod, I.bs, Nat.le_trans I.ok.bsz I.sz, I.stack, I.stkFree, I.hok, I.bare⟩
theorem Inv.after {Q : VK} {u : Value} (I : Inv X pins σ H s) (h : CE X.stack X.prog X.w H s Q u s') : EP X pins σ Q u s' := by
  obtain ⟨v, H', os, bare, un, hok, r, q⟩ := h
  obtain ⟨hh, g, d, t, os'⟩ := s'
  obtain rfl : os' = s.os := os
  exact ⟨v, H', I.call (h' := hh) (g' := g) (d' := d) (t' := t) (ch := []) un hok bare (fun b z => absurd z (by simp)), r, q⟩
end
def tMeth (C : Addr) (m : Str) (sp : Sp) (dvs : List V) (E : XK) (ta : TE) (t : TA) : TE := fun σ H Q => ta σ H fun x H1 => ∃ a dx fs, x = .ref a ∧ H1 a = some (.ins C dx fs) ∧ fs.lookup m = none ∧
  t σ H1 fun vs H2 => sp (x :: (vs ++ dvs)) H2 Q E
def tMake (C : Addr) (sp : Sp) (dvs : List V) (E : XK) (t : TA) : TE := fun σ H Q => t σ H fun vs H1 => ∀ x dx, H1 x = none → H1 dx = none → dx ≠ x →
  sp (.ref x :: (vs ++ dvs)) (upd (upd H1 dx (.own x)) x (.ins C dx [])) (fun v H2 => v = .non ∧ Q (.ref x) H2) E
def Binds (K : W.Frag) (fd : FuncData) (ps : List Str) (ds : List Value) : Prop :=
  ∀ (s : Shared) (us : List Value), K.In s.heap → (us ++ ds).length = ps.length → BindsTo s fd ⟨us, []⟩ (ps.zip (us ++ ds))
theorem Binds.all {K : W.Frag} {fd : FuncData} {ps : List Str} (h : ∀ us : List Value, us.length = ps.length → bindArgs fd ⟨us, []⟩ = pure (ps.zip us)) : Binds K fd ps [] := fun s us _ hl => by
  rw [List.append_nil] at hl ⊢
  exact .of_eq (h us hl)
def Passes (CX : CXT) (X : Cx) (E : XK) : Prop := ∀ (pins : List (Addr × Obj)) (σ : St) (H : Hp) (s : Shared) (e : Value) (s' : Shared), Inv X pins σ H s → CX X.stack H s E e s' → X.xe e s'
section
variable {X : Cx} {CX : CXT} {k : Nat} {f C : Addr} {fd : FuncData} {ps : List Str} {sp : Sp} {dvs : List V} {ds : List Value} {E : XK} {x m : Str} {p pos apos : Pos} {e o : Expr} {es : List Expr} {ta : TE} {t : TA}
theorem run_fn {pins : List (Addr × Obj)} {σ : St} {H : Hp} {s : Shared} {Q : VK} {us : List Value} {vs : List V} (F : FnOk X.prog X.w X.K X.mg X.base CX k f fd ps sp) (hr : Room k X.A) (hb : Binds X.K fd ps ds) (hd : Vals dvs ds) (hx : Passes CX X E)
    (I : Inv X pins σ H s) (r : Vals vs us) (h : sp (vs ++ dvs) H Q E) : wpAny (model X.prog X.w) X.A (call (.ref f) us) (EP X pins σ Q) X.xe s := by
  have r2 : Vals (vs ++ dvs) (us ++ ds) := r.append hd
  have hl : (us ++ ds).length = ps.length := by rw [← r2.length]; exact F.len _ _ _ _ h
  refine wpAny_call (codeAny_mono (F.run X.A X.stack s H ⟨us, []⟩ (us ++ ds) (vs ++ dvs) Q E hr I.env0 (hb s us I.kIn hl) r2 h) fun r s' hq => ?_)
  cases r with
  | error e => exact hx pins σ H s e s' I hq
  | ok fl =>
    cases fl with
    | ret u => exact I.after hq
    | next => exact False.elim hq
    | brk => exact False.elim hq
    | cont => exact False.elim hq
theorem pe_meth {pl : Sem Bool} (he : PE X o ta) (c : Cls X.K C) (hm : Meth X.K C m f) (F : FnOk X.prog X.w X.K X.mg X.base CX k f fd ps sp) (hr : Room k X.A) (hb : Binds X.K fd ps ds) (hd : Vals dvs ds) (hx : Passes CX X E) (ha : PA X (e :: es) t)
    (hst : starEach (e :: es) X.env = (false, eval e X.env) :: starEach es X.env := by rfl) (hpl : (backTo pos (starEach es X.env)).any (·.1) = false := by rfl)
    (ht : eval (.Call (.Attribute o m apos) (e :: es) [] pos) X.env = (do
      let ov ← eval o X.env
      standAt apos.atName
      let (f, first) ← holding [ov] (getMethod ov m pl)
      callWith pos f first (backTo pos (starEach (e :: es) X.env)) (backToKw pos (keywordEach [] X.env))) := by rfl) :
    PE X (.Call (.Attribute o m apos) (e :: es) [] pos) (tMeth C m sp dvs E ta t) := by
  intro pins s σ H Q I h
  refine W.methodCall_KW (pl := pl) (thn (he pins s σ H _ I h) fun u s1 ⟨x, H1, I1, rx, a, dx, fs, ex, ea, l, q⟩ => ?_) ht
  subst ex
  obtain rfl : u = Value.ref a := rx
  refine getmeth_ok I1 ea c hm l ?_
  refine W.callWith_K (first := [.ref a]) (h₀ := X.base) I.ok.mod.kin hm.kp (thn (ha pos pins s1 σ H1 _ I1 q) fun us s2 ⟨vs, H2, I2, r, q2⟩ => ⟨I2.kIn, ?_⟩) hst hpl
  exact run_fn (us := .ref a :: us) (vs := .ref a :: vs) F hr hb hd hx I2 (.cons rfl r) q2
structure Mk (K : W.Frag) (C f : Addr) : Prop where
  makes : W.makesIn K C = true
  init : W.findIn K (.ref C) "__init__" = some (some (.ref f))
  fn : W.isFn K (.ref f) = true
  kp : W.keepIn K (.ref C) = true
theorem run_make {pins : List (Addr × Obj)} {σ : St} {H : Hp} {s : Shared} {Q : VK} {us : List Value} {vs : List V} (M : Mk X.K C f) (F : FnOk X.prog X.w X.K X.mg X.base CX k f fd ps sp) (hr : Room (k + 1) X.A) (hb : Binds X.K fd ps ds) (hd : Vals dvs ds)
    (hx : Passes CX X E) (I : Inv X pins σ H s) (r : Vals vs us)
    (h : ∀ x dx, H x = none → H dx = none → dx ≠ x → sp (.ref x :: (vs ++ dvs)) (upd (upd H dx (.own x)) x (.ins C dx [])) (fun v H2 => v = .non ∧ Q (.ref x) H2) E) :
    wpAny (model X.prog X.w) X.A (call (.ref C) us) (EP X pins σ Q) X.xe s := by
  have hq := h (s.heap.objs.size + 1) s.heap.objs.size (I.hok.fresh (Nat.le_succ _)) (I.hok.fresh (Nat.le_refl _)) (Nat.ne_of_lt (Nat.lt_succ_self _))
  have I2 := Inv.made (C := C) I
  have r2 : Vals (V.ref (s.heap.objs.size + 1) :: (vs ++ dvs)) (Value.ref (s.heap.objs.size + 1) :: (us ++ ds)) := .cons rfl (r.append hd)
  have hl : (Value.ref (s.heap.objs.size + 1) :: us ++ ds).length = ps.length := by
    have e := r2.length
    rw [F.len _ _ _ _ hq] at e
    exact e.symm
  refine wpAny_call (make_map (f := f) I.kIn M.makes M.init (beq_iff_eq.mp M.fn) (codeAny_mono (F.run _ X.stack _ _ ⟨Value.ref (s.heap.objs.size + 1) :: us, []⟩ (Value.ref (s.heap.objs.size + 1) :: (us ++ ds)) _ _ E (hr.make C us [])
    (I2.env0.make C us []) (hb _ (Value.ref (s.heap.objs.size + 1) :: us) I2.kIn hl) r2 hq) fun r s' hq' => ?_))
  cases r with
  | error e => exact hx pins σ _ _ e s' I2 hq'
  | ok fl =>
    cases fl with
    | ret u =>
      obtain ⟨v, H', I3, rv, ev, q3⟩ := I2.after hq'
      subst ev
      exact ⟨rv, ⟨V.ref (s.heap.objs.size + 1), H', I3, rfl, q3⟩⟩
    | next => exact False.elim hq'
    | brk => exact False.elim hq'
    | cont => exact False.elim hq'
theorem pe_make0 (M : Mk X.K C f) (F : FnOk X.prog X.w X.K X.mg X.base CX k f fd ps sp) (hr : Room (k + 1) X.A) (hg : Gl X x) (hm : X.mg x = some (.ref C)) (hb : Binds X.K fd ps ds) (hd : Vals dvs ds) (hx : Passes CX X E)
    (hdb : (x == ("__debug__" : Str)) = false := by decide) : PE X (.Call (.Name x p) [] [] pos) (tMake C sp dvs E tNil) := by
  intro pins s σ H Q I h
  refine wpAny_Call_Name_kw (ld_glob I hg hm ?_ hdb)
  exact W.callWith_K0 I.kIn M.kp (run_make (us := []) M F hr hb hd hx I .nil h)
end
section
variable {X : Cx} {CX : CXT} {k : Nat} {f C : Addr} {fd : FuncData} {ps ks : List Str} {sp : Sp} {E : XK} {x m : Str} {p pos apos kpos : Pos} {e o : Expr} {es : List Expr} {kws : List Keyword} {te ta : TE} {t tk : TA} {nm : Option Str}
variable {g : List Value → List Value → List Value} {gV : List V → List V → List V}
end
structure FnScope (N P : List Str) (sc : Scope) : Prop where
  kind : sc.kind = .function
  co : sc.isCoroutine = false
  gen : sc.isGenerator = false
  nd : N.Nodup
  pre : N.take P.length = P
  par : ∀ x ∈ P, sc.names.lookup x = some .local ∨ sc.names.lookup x = some .cell
  nofree : ∀ y ∈ sc.names, y.2 ≠ .free
theorem bindL_out {kindOf : Str → Option NameKind} {x : Str} : ∀ {binds : List (Str × Value)} {m : Str → Option Value}, (∀ v, (x, v) ∉ binds) → bindL kindOf binds m x = m x
  | [], _, _ => rfl
  | (n, v) :: r, m, h => by
    unfold bindL
    rw [bindL_out fun w hw => h w (List.mem_cons_of_mem _ hw)]
    split
    · have : x ≠ n := by rintro rfl; exact h v List.mem_cons_self
      simp [this]
    · rfl
theorem bindC_out {kindOf : Str → Option NameKind} {x : Str} : ∀ {binds : List (Str × Value)} {m : Str → Option Value}, (∀ v, (x, v) ∉ binds) → bindC kindOf binds m x = m x
  | [], _, _ => rfl
  | (n, v) :: r, m, h => by
    unfold bindC
    rw [bindC_out fun w hw => h w (List.mem_cons_of_mem _ hw)]
    split
    · rfl
    · have : x ≠ n := by rintro rfl; exact h v List.mem_cons_self
      simp [this]
theorem bindL_get {kindOf : Str → Option NameKind} {x : Str} {v : Value} : ∀ {P : List Str} {vs : List Value} {i : Nat} {m : Str → Option Value}, P.Nodup → P[i]? = some x → vs[i]? = some v → kindOf x = some .local →
    bindL kindOf (P.zip vs) m x = some v
  | [], _, _, _, _, h, _, _ => by simp at h
  | _ :: _, [], _, _, _, _, h, _ => by simp at h
  | p :: P, w :: vs, 0, m, nd, h1, h2, hk => by
    simp at h1 h2; subst h1; subst h2
    show bindL kindOf ((p, w) :: P.zip vs) m p = _
    unfold bindL
    rw [bindL_out fun v hv => (List.nodup_cons.mp nd).1 (List.of_mem_zip hv).1, if_pos hk]
    simp
  | p :: P, w :: vs, i + 1, m, nd, h1, h2, hk => by
    show bindL kindOf ((p, w) :: P.zip vs) m x = _
    unfold bindL
    exact bindL_get (i := i) (List.nodup_cons.mp nd).2 (by simpa using h1) (by simpa using h2) hk
theorem bindC_get {kindOf : Str → Option NameKind} {x : Str} {v : Value} : ∀ {P : List Str} {vs : List Value} {i : Nat} {m : Str → Option Value}, P.Nodup → P[i]? = some x → vs[i]? = some v → kindOf x ≠ some .local →
    bindC kindOf (P.zip vs) m x = some v
  | [], _, _, _, _, h, _, _ => by simp at h
  | _ :: _, [], _, _, _, _, h, _ => by simp at h
  | p :: P, w :: vs, 0, m, nd, h1, h2, hk => by
    simp at h1 h2; subst h1; subst h2
    show bindC kindOf ((p, w) :: P.zip vs) m p = _
    unfold bindC
    rw [bindC_out fun v hv => (List.nodup_cons.mp nd).1 (List.of_mem_zip hv).1, if_neg hk]
    simp
  | p :: P, w :: vs, i + 1, m, nd, h1, h2, hk => by
    show bindC kindOf ((p, w) :: P.zip vs) m x = _
    unfold bindC
    exact bindC_get (i := i) (List.nodup_cons.mp nd).2 (by simpa using h1) (by simpa using h2) hk
def start (N : List Str) (vs : List V) : St := vs.map some ++ List.replicate (N.length - vs.length) none
def cxOf (CX : CXT) (P : Program) (w : World) (K : W.Frag) (mg : Str → Option Value) (base : Heap) (N : List Str) (qual : Str) (scope : Scope) (f : Addr) (cd : Value) (A : Around) (outer : List Env) (s : Shared) (H : Hp) (E : XK) : Cx where
  prog := P
  w := w
  K := K
  mg := mg
  base := base
  A := A.deeper (envOfC qual scope s.heap.objs.size f cd)
  N := N
  s₀ := s
  H₀ := H
  env := envOfC qual scope s.heap.objs.size f cd
  outer := outer
  stack := envOfC qual scope s.heap.objs.size f cd :: outer
  ex := []
  calm := true
  fn := fun _ => true
  pn := []
  xe := fun e s' => wpAny (model P w) (A.deeper (envOfC qual scope s.heap.objs.size f cd)) (leaving (envOfC qual scope s.heap.objs.size f cd) e) (fun _ s'' => CX outer H s E e s'') (fun e' s'' => CX outer H s E e' s'') s'
theorem cell_has {sc : Scope} {n : Nat} {x : Str} (h : sc.names.lookup x = some .cell) : ∃ c, (cellsFrom n sc.names []).lookup x = some c := by
  have q := W.cellsFrom_some sc.names n [] (.inl h)
  exact Option.isSome_iff_exists.mp q
theorem inv_start {CX : CXT} {P : Program} {w : World} {K : W.Frag} {mg : Str → Option Value} {base : Heap} {N ps : List Str} {qual : Str} {scope : Scope} {f : Addr} {cd : Value} {A : Around} {outer : List Env} {s s1 : Shared} {H : Hp} {E : XK} {us : List Value} {vs : List V}
    (S : FnScope N ps scope) (hd : A.handled = none) (e0 : Env0 P w K mg base A outer s H) (hl : vs.length = ps.length) (r : Vals vs us)
    (x : InCallC s s.heap.objs.size (bindL (envOfC qual scope s.heap.objs.size f cd).kindOf (ps.zip us) fun _ => none) (cellsFrom (s.heap.objs.size + 1) scope.names []) (bindC (envOfC qual scope s.heap.objs.size f cd).kindOf (ps.zip us) fun _ => none) s1) :
    Inv (cxOf CX P w K mg base N qual scope f cd A outer s H E) [] (start N vs) H s1 := by
  have hpl : ps.length ≤ N.length := by have := congrArg List.length S.pre; rw [List.length_take] at this; omega
  obtain ⟨h1, tk, rfl, hk⟩ := x.done
  have noA : ∀ b : Addr, b ∉ (cxOf CX P w K mg base N qual scope f cd A outer s H E).ex := fun b z => absurd (show b ∈ ([] : List Addr) from z) (by simp)
  refine ⟨⟨e0.mod, S.kind, rfl, rfl, Nat.le_refl _, fun y z c h1 h2 => ?_, fun y hy => ?_, fun y c _ h => ?_, fun _ => hd, Around.frames_deeper e0.frames, .inr ⟨rfl, rfl⟩, fun b z => absurd z (noA b), e0.bs, e0.bsz, fun b _ _ => noA b, fun b z => absurd z (noA b), e0.funs, e0.frf⟩,
    rfl, e0.bare, Un.kept hk, ⟨_, x.toInCall.ns, fun i y v h1 h2 h3 => ?_⟩, fun y c h => ⟨_, x.cell y c h⟩, e0.hok.fresh (Nat.le_refl _), fun y c h => ?_, fun p hp => absurd (show p ∈ ([] : List (Addr × Obj)) from hp) (by simp), e0.hok.kept hk, ?_⟩
  · exact name_of_addr x.apart (PySem.mem_of_lookup h1) (PySem.mem_of_lookup h2)
  · have hy : scope.names.lookup y = some .cell ∨ scope.names.lookup y = some .free := hy
    rcases hy with hy | hy
    · exact cell_has hy
    · exact absurd rfl (S.nofree _ (PySem.mem_of_lookup hy))
  · exact Nat.le_of_lt (x.above y c (PySem.mem_of_lookup h))
  · have hi : i < vs.length := by
      unfold start at h2
      by_cases hi : i < vs.length
      · exact hi
      · rw [List.getElem?_append_right (by simpa using hi)] at h2
        rw [List.getElem?_replicate] at h2
        split at h2 <;> cases h2
    have ha : vs[i]? = some v := by
      unfold start at h2
      rw [List.getElem?_append_left (by simpa using hi), List.getElem?_map] at h2
      cases e : vs[i]? with
      | none => rw [e] at h2; cases h2
      | some a => rw [e] at h2; cases h2; rfl
    obtain ⟨u, hu, rv⟩ := r.get ha
    have hp : ps[i]? = some y := by
      rw [← S.pre, List.getElem?_take_of_lt (by omega)]; exact h1
    have ndP : ps.Nodup := by rw [← S.pre]; exact S.nd.sublist (List.take_sublist _ _)
    refine ⟨u, rv, ?_⟩
    rcases S.par y (List.mem_of_getElem? hp) with k | k
    · exact .inl ⟨k, bindL_get ndP hp hu k⟩
    · obtain ⟨c, e⟩ := cell_has (n := s.heap.objs.size + 1) k
      refine .inr ⟨.inl k, c, e, ?_⟩
      have q := x.cell y c e
      rw [bindC_get ndP hp hu (by show scope.names.lookup y ≠ _; rw [k]; decide)] at q
      exact q
  · exact e0.hok.fresh (Nat.le_of_lt (x.above y c (PySem.mem_of_lookup h)))
  · unfold start
    show _ = N.length
    rw [List.length_append, List.length_map, List.length_replicate]
    omega
theorem fn_of {CX : CXT} {P : Program} {w : World} {K : W.Frag} {mg : Str → Option Value} {base : Heap} {k : Nat} {f : Addr} {name qual : Str} {params : Arguments} {body : List Stmt} {scope : Scope} {dV kV doc pm cdv ct oc : Value} {an od : Option Addr}
    {osl : Array (Option Value)} {N ps : List Str} {sp : Sp} (lk : K.lookup f = some ⟨oc, od, .func (W.fnOf name qual params body scope dV kV doc pm an cdv ct), osl⟩) (hcd : W.codeIn K cdv qual = true) (S : FnScope N ps scope)
    (len : ∀ vs H Q E, sp vs H Q E → vs.length = ps.length)
    (hbody : ∀ (A : Around) (outer : List Env) (s : Shared) (H : Hp) (vs : List V) (Q : VK) (E : XK), Room k (A.deeper (envOfC qual scope s.heap.objs.size f cdv)) → sp vs H Q E →
      ∃ t, PSs (cxOf CX P w K mg base N qual scope f cdv A outer s H E) body t ∧ t { nx := fun _ H' => Q .non H', rt := Q } (start N vs) H) :
    FnOk P w K mg base CX (k + 1) f (W.fnOf name qual params body scope dV kV doc pm an cdv ct) ps sp := by
  refine ⟨len, fun A outer s H args us vs Q E hr e0 hb r hsp => ?_⟩
  have hl := len _ _ _ _ hsp
  have KX : K.In s.heap := e0.mod.kin.keeps fun b o e => (e0.bs b o e).1
  have lim : s.heap.NoLimit := e0.mod.nolimit.keeps fun b o e => (e0.bs b o e).1
  have hkind : ∀ y ∈ ps.zip us, scope.names.lookup y.1 = some .local ∨ (scope.names.lookup y.1 = some .cell ∧ ((cellsFrom (s.heap.objs.size + 1) scope.names []).lookup y.1).isSome = true) := fun ⟨n, v⟩ hy => by
    rcases S.par n (List.of_mem_zip hy).1 with q | q
    · exact .inl q
    · exact .inr ⟨q, W.cellsFrom_some _ _ _ (.inl q)⟩
  refine codeAny_call_function hr.depth (KX _ _ lk) rfl S.co S.gen rfl (W.codeRec_of KX hcd) (hb _ _ _ _ ?_)
  refine wpAny_newFunctionEnv_cells S.kind hkind fun env he s1 x => ?_
  subst he
  refine ⟨lim.keeps x.toInCall.keep, codeAny_func ?_⟩
  obtain ⟨t, ht, hq⟩ := hbody A outer s H vs Q E (hr.deeper _) hsp
  have I : Inv (cxOf CX P w K mg base N qual scope f cdv A outer s H E) [] (start N vs) H s1 := inv_start S hr.hd e0 hl r x
  refine wpAny_mono (ht [] s1 (start N vs) H _ I hq) (fun fl s' hs => ?_) fun e s' hs => hs
  have fin : ∀ {σ' : St} {H' : Hp} {v : V} {u : Value}, Inv (cxOf CX P w K mg base N qual scope f cdv A outer s H E) [] σ' H' s' → RelV v u → Q v H' → CE outer P w H s Q u s' :=
    fun {σ' H' v u} J rv q => ⟨v, H', J.os, J.bare, J.base, J.hok, rv, q⟩
  cases fl with
  | ret u =>
    obtain ⟨v, σ', H', J, rv, q⟩ := hs
    exact fin J rv q
  | next =>
    obtain ⟨σ', H', J, q⟩ := hs
    exact fin (v := V.non) (u := Value.none) J rfl q
  | brk =>
    obtain ⟨_, _, _, q⟩ := hs
    exact False.elim q
  | cont =>
    obtain ⟨_, _, _, q⟩ := hs
    exact False.elim q
end L2
namespace L2
open PySem PySem.Spec PyProof.Rows
section
variable {X : Cx} {x : Str} {p pos : Pos} {e : Expr} {es : List Expr} {t : TA} {id T : String} {r : List V → Hp → VK → Prop}
def tCB (r : List V → Hp → VK → Prop) (t : TA) : TE := fun σ H Q => t σ H fun vs H1 => r vs H1 Q
theorem pe_callB (hc : CallR X (.builtin id) r) (hg : Gl X x) (hm : X.mg x = none) (hv : bootBuiltins x = some (.builtin id)) (ha : PA X (e :: es) t) (hn : x ≠ "__name__" := by decide) (hdb : (x == ("__debug__" : Str)) = false := by decide)
    (he : starEach (e :: es) X.env = (false, eval e X.env) :: starEach es X.env := by rfl) (hpl : (backTo pos (starEach es X.env)).any (·.1) = false := by rfl) : PE X (.Call (.Name x p) (e :: es) [] pos) (tCB r t) := by
  intro pins s σ H Q I h
  refine wpAny_Call_Name_kw (ld_blt I hg hm hv ?_ hn hdb)
  exact PyProof.Rows.callWith_builtin1 (thn (ha pos pins s σ H _ I h) fun us s1 ⟨vs, H1, I1, r1, q1⟩ => hc pins s1 σ H1 vs us Q I1 r1 q1) he hpl
theorem pe_callTy (hc : CallR X (.type T) r) (hg : Gl X x) (hm : X.mg x = none) (hv : bootBuiltins x = some (.type T)) (ha : PA X (e :: es) t) (hn : x ≠ "__name__" := by decide) (hdb : (x == ("__debug__" : Str)) = false := by decide)
    (he : starEach (e :: es) X.env = (false, eval e X.env) :: starEach es X.env := by rfl) (hpl : (backTo pos (starEach es X.env)).any (·.1) = false := by rfl) : PE X (.Call (.Name x p) (e :: es) [] pos) (tCB r t) := by
  intro pins s σ H Q I h
  refine wpAny_Call_Name_kw (ld_blt I hg hm hv ?_ hn hdb)
  exact PyProof.Rows.callWith_type1 (thn (ha pos pins s σ H _ I h) fun us s1 ⟨vs, H1, I1, r1, q1⟩ => hc pins s1 σ H1 vs us Q I1 r1 q1) he hpl
end
end L2
namespace HT
open PySem PyProof.Rows
def lexLt : List Int → List Int → Bool
  | [], [] => false
  | [], _ :: _ => true
  | _ :: _, [] => false
  | x :: xs, y :: ys => if x = y then lexLt xs ys else decide (x < y)
theorem lexLt_cons (x y : Int) (xs ys : List Int) : lexLt (x :: xs) (y :: ys) = if x = y then lexLt xs ys else decide (x < y) := rfl
theorem lexLt_nil_nil : lexLt [] [] = false := rfl
theorem lexLt_nil_cons (y : Int) (ys : List Int) : lexLt [] (y :: ys) = true := rfl
theorem lexLt_cons_nil (x : Int) (xs : List Int) : lexLt (x :: xs) [] = false := rfl
theorem eqAt_int (A : Around) (s : Shared) (a : Int) (t : Tok) (c : Int) (u : Tok) : ∃ e, SeqAt.EqAt A s (.int a t) (.int c u) e ∧ (e = true ↔ a = c) :=
  ⟨(a == c), SeqAt.EqAt.int_int a t c u, by simp⟩
theorem rcLt_int (A : Around) (s : Shared) (a : Int) (t : Tok) (c : Int) (u : Tok) (prog : Program) (w : World) (E : Value → Shared → Prop) (Q : Value → Shared → Prop) (h : Q (.bool (decide (a < c))) s) :
    wpAny (model prog w) A (richCompare .Lt (.int a t) (.int c u)) Q E s :=
  (PyProof.Rows.lt_int h : wpAny (model prog w) A (compareOp .Lt (.int a t) (.int c u)) Q E s)
section
open PySem.SeqAt
open PySem.AutoSeq1 (wpAny_loadPart')
open PySem.MeetsSeq PySem.MeetsSeq2 PySem.MeetsSeq3
theorem tuple_lt_ints (l b : Addr) (items items2 : Array Value) (n n2 : Nat) (dd dd2 : Option Addr) (sl sl2 : Array (Option Value)) (ns ms : List Int) (hi : IntsAre items.toList ns) (hj : IntsAre items2.toList ms) :
    Meets (Builtin.«tuple.__lt__» ⟨[.ref l, .ref b], []⟩)
      (fun _ R s => s.heap.get? l = some { cls := .type "tuple", dict := dd, data := .seq items n, slots := sl } ∧ s.heap.get? b = some { cls := .type "tuple", dict := dd2, data := .seq items2 n2, slots := sl2 } ∧
        R (.ok (.ret (.bool (lexLt ns ms)))) s) :=
  .of_wp fun prog w A R s h => by
    obtain ⟨hp, g, d, tk, os⟩ := s; obtain ⟨hl, hb, h⟩ := h
    have f2 := AutoSeq1.sub_tuple_tuple
    have z1 : items.size = ns.length := by rw [← hi.length]; simp
    have z2 : items2.size = ms.length := by rw [← hj.length]; simp
    wp_walk using wpAny_loadPart' hl, wpAny_loadPart' hb, wpAny_forIn_list _ (fun rest b s' => b.1 = none ∧ s' = ⟨hp, g, d, tk, os⟩ ∧ ∃ (vs ws : List Value) (ns' ms' : List Int), rest = vs.zip ws ∧
      IntsAre vs ns' ∧ IntsAre ws ms' ∧ ns'.length + items2.size = ms'.length + items.size ∧ R (.ok (.ret (.bool (lexLt ns' ms')))) ⟨hp, g, d, tk, os⟩) _
    case turn =>
      rintro ⟨y, x⟩ rest b s' ⟨hb', rfl, vs, ws, ns', ms', hz, hvi, hwi, hlen, hR⟩
      cases hvi with
      | nil => rw [List.zip_nil_left] at hz; cases hz
      | cons a t hvi' =>
        cases hwi with
        | nil => rw [List.zip_nil_right] at hz; cases hz
        | cons c u hwi' =>
          rw [List.zip_cons_cons] at hz
          injection hz with hyx hrest
          injection hyx with hy hx
          subst hy hx
          rw [lexLt_cons] at hR
          simp only [List.length_cons] at hlen
          obtain ⟨e, he, hiff⟩ := eqAt_int A.in1 ⟨hp, g, d, tk, os⟩ a t c u
          refine wpAny_bind (he prog w _ _ ?_)
          cases e with
          | true =>
            rw [if_pos (hiff.mp rfl)] at hR
            wp_walk
            exact ⟨rfl, rfl, _, _, _, _, hrest, hvi', hwi', by omega, hR⟩
          | false =>
            rw [if_neg (fun q => absurd (hiff.mpr q) Bool.false_ne_true)] at hR
            have hri := rcLt_int A.in1 ⟨hp, g, d, tk, os⟩ a t c u prog w
            wp_walk using hri
            exact ⟨_, rfl, by simpa using hR⟩
    case fin =>
      rintro ⟨b1, b2⟩ s' ⟨hb', rfl, vs, ws, ns', ms', hz, hvi, hwi, hlen, hR⟩
      simp only at hb'
      subst hb'
      have hv : lexLt ns' ms' = decide (items.size < items2.size) := by
        cases hvi with
        | nil =>
          cases hwi with
          | nil =>
            simp only [List.length_nil] at hlen
            rw [lexLt_nil_nil]
            exact (decide_eq_false (by omega)).symm
          | cons c u hw =>
            simp only [List.length_nil, List.length_cons] at hlen
            rw [lexLt_nil_cons]
            exact (decide_eq_true (by omega)).symm
        | cons a t hv =>
          cases hwi with
          | nil =>
            simp only [List.length_nil, List.length_cons] at hlen
            rw [lexLt_cons_nil]
            exact (decide_eq_false (by omega)).symm
          | cons c u hw =>
            rw [List.zip_cons_cons] at hz
            cases hz
      rw [hv] at hR
      wp_walk
      exact ⟨_, rfl, by simpa [Builtin.Tuple.tupleCompareSizes] using hR⟩
    case h =>
      exact ⟨rfl, rfl, items.toList, items2.toList, ns, ms, rfl, hi, hj, by omega, h⟩
end
section
variable {prog : Program} {w : World} {A : Around} {E : Value → Shared → Prop} {s : Shared}
theorem lt_tupInts {l b : Addr} {items items2 : Array Value} {ns ms : List Int} {Q : Value → Shared → Prop} (hl : IsTup s.heap l items) (hb : IsTup s.heap b items2) (hi : IntsAre items.toList ns) (hj : IntsAre items2.toList ms)
    (hu : A.units < cLine) (h : Q (.bool (lexLt ns ms)) s) : wpAny (model prog w) A (compareOp .Lt (.ref l) (.ref b)) Q E s := by
  obtain ⟨⟨cls, dd, data, sl⟩, ho, hc, n, hd⟩ := id hl
  obtain ⟨⟨cls2, dd2, data2, sl2⟩, ho2, hc2, n2, hd2⟩ := id hb
  simp only at hc hd hc2 hd2
  subst hc hd hc2 hd2
  exact richCompare_meets_room (op := .Lt) ⟨_, ho, rfl⟩ ⟨_, ho2, rfl⟩ PySem.F.slot_tuple_lt PySem.F.entry_tuple_lt (PySem.F.args_tuple_lt_2 _ _) (tuple_lt_ints l b items items2 n n2 dd dd2 sl sl2 ns ms hi hj)
    ⟨ho, ho2, show Value.bool (lexLt ns ms) ≠ Value.notImplemented ∧ Q (.bool (lexLt ns ms)) s from ⟨(fun x => nomatch x), h⟩⟩ hu
theorem cat_tup {t b : Addr} {vs ws : List Value} {Q : Value → Shared → Prop} (ht : IsTup s.heap t vs.toArray) (hb : IsTup s.heap b ws.toArray) (hv : vs ≠ [])
    (h1 : ws = [] → Q (.ref t) s) (h2 : ws ≠ [] → Q (.ref s.heap.objs.size) { s with heap := s.heap.push { cls := .type "tuple", data := .seq (vs ++ ws).toArray } })
    (hsz : vs.length + ws.length ≤ sizeLine) : wpAny (model prog w) A (binaryOp .Add (.ref t) (.ref b)) Q E s := by
  obtain ⟨⟨cls, dd, data, sl⟩, ho, hc, n, hd⟩ := id ht
  obtain ⟨⟨cls2, dd2, data2, sl2⟩, ho2, hc2, n2, hd2⟩ := id hb
  simp only at hc hd hc2 hd2
  subst hc hd hc2 hd2
  have e : vs.toArray ++ ws.toArray = (vs ++ ws).toArray := by simp
  by_cases hw : ws = []
  · exact concat_meets ⟨_, ho, rfl⟩ ⟨_, ho2, rfl⟩ noFill_tuple_add seq_tuple_add PySem.F.slot_tuple_add PySem.F.entry_tuple_add (PySem.F.args_tuple_add_2 _ _)
      (tuple_addW1 t b vs.toArray ws.toArray n n2 dd dd2 sl sl2 (by simpa using hv) (by simp [hw])) ⟨ho, ho2, h1 hw⟩
  · refine concat_meets ⟨_, ho, rfl⟩ ⟨_, ho2, rfl⟩ noFill_tuple_add seq_tuple_add PySem.F.slot_tuple_add PySem.F.entry_tuple_add (PySem.F.args_tuple_add_2 _ _)
      (tuple_addW2 t b vs.toArray ws.toArray n n2 dd dd2 sl sl2 (by simpa using hv) (by simpa using hw) (by rw [List.size_toArray, List.size_toArray]; exact hsz)) ⟨ho, ho2, ?_⟩
    rw [e]
    exact h2 hw
def sIx (n d : Nat) : Option Int → Nat
  | none => d
  | some v => if v < 0 then (v + (n : Int)).toNat else min v.toNat n
theorem sIx_none (n d : Nat) : sIx n d none = d := rfl
theorem sIx_nat (n d k : Nat) : sIx n d (some (k : Int)) = min k n := by
  show (if (k : Int) < 0 then ((k : Int) + (n : Int)).toNat else min (k : Int).toNat n) = min k n
  rw [if_neg (by omega), Int.toNat_natCast]
end
end HT
namespace L2
open PySem PySem.Spec PyProof.Rows
abbrev TO := St → Hp → (Option Int → Hp → Prop) → Prop
def PO (X : Cx) (e : Option Expr) (t : TO) : Prop :=
  ∀ (pins : List (Addr × Obj)) (s : Shared) (σ : St) (H : Hp) (Q : Option Int → Hp → Prop), Inv X pins σ H s → t σ H Q →
    wpAny (model X.prog X.w) X.A (evalPart e X.env) (fun u s' => ∃ o H', Inv X pins σ H' s' ∧ IsPart u o ∧ Q o H') X.xe s
def tNoPart : TO := fun _ H Q => Q none H
def tPart (t : TE) : TO := fun σ H Q => t σ H fun x H1 => ∃ i, x = .int i ∧ Q (some i) H1
theorem intsAre_of {ns : List Int} : ∀ {us : List Value}, Vals (ns.map V.int) us → IntsAre us ns := by
  induction ns with
  | nil => intro us r; rw [List.map_nil] at r; cases r; exact .nil
  | cons n ns ih =>
    intro us r
    rw [List.map_cons] at r
    cases r with
    | cons r1 r2 =>
      obtain ⟨t, e⟩ := r1
      subst e
      exact .cons n t (ih r2)
section
variable {X : Cx} {e : Expr} {te : TE} {lo hi : Option Expr} {tl th : TO} {pos p2 : Pos}
theorem po_none : PO X none tNoPart := by
  intro pins s σ H Q I h
  rw [evalPart_none]
  exact wpAny_pure ⟨none, H, I, .none, h⟩
theorem po_some (h : PE X e te) : PO X (some e) (tPart te) := by
  intro pins s σ H Q I hw
  rw [evalPart_some]
  refine thn (h pins s σ H _ I hw) fun u s1 ⟨x, H1, I1, r1, q1⟩ => ?_
  obtain ⟨i, rfl, q⟩ := q1
  obtain ⟨t, rfl⟩ := r1
  exact ⟨some i, H1, I1, .int i t, q⟩
def SlR (X : Cx) (r : V → Option Int → Option Int → Hp → VK → Prop) : Prop :=
  ∀ (pins : List (Addr × Obj)) (s : Shared) (σ : St) (H : Hp) (x : V) (v vl vu : Value) (lo hi : Option Int) (sl : Addr) (Q : VK), Inv X pins σ H s → RelV x v → s.heap.IsSliceOf sl vl vu .none → IsPart vl lo → IsPart vu hi → r x lo hi H Q →
    ∃ T id, typeLookup (.type T) "__getitem__" = pure (some (.builtin id)) ∧ s.TypeIs v T ∧ wpAny (model X.prog X.w) X.A (getItem v (.ref sl)) (EP X pins σ Q) X.xe s
def tSl (r : V → Option Int → Option Int → Hp → VK → Prop) (te : TE) (tl th : TO) : TE := fun σ H Q => te σ H fun x H1 => tl σ H1 fun l H2 => th σ H2 fun u H3 => r x l u H3 Q
theorem pe_slice {r : V → Option Int → Option Int → Hp → VK → Prop} (hr : SlR X r) (he : PE X e te) (hl : PO X lo tl) (hu : PO X hi th) : PE X (.Subscript e (.Slice lo hi none p2) pos) (tSl r te tl th) := by
  intro pins s σ H Q I h
  refine Subscript_ (thn (he pins s σ H _ I h) fun v s1 ⟨x, H1, I1, r1, q1⟩ => ?_)
  refine wpAny_Slice (thn (hl pins s1 σ H1 _ I1 q1) fun vl s2 ⟨l, H2, I2, pl, q2⟩ => thn (hu pins s2 σ H2 _ I2 q2) fun vu s3 ⟨u, H3, I3, pu, q3⟩ => ?_)
  rw [evalPart_none]
  refine wpAny_pure ?_
  have I4 : Inv X pins σ H3 { s3 with heap := s3.heap.push { cls := .type "slice", data := .fields #[vl, vu, .none] } } := I3.kept (t' := s3.toks) fun b ob q => Heap.get?_push_of_some _ q
  obtain ⟨T, id, hT, ht, hg⟩ := hr pins { s3 with heap := s3.heap.push { cls := .type "slice", data := .fields #[vl, vu, .none] } } σ H3 x v vl vu l u s3.heap.objs.size Q I4 r1 (Heap.IsSliceOf.new ..) pl pu q3
  show wpAny (model X.prog X.w) X.A (subscriptTail e (.Slice lo hi none p2) v (.ref s3.heap.objs.size)) (EP X pins σ Q) X.xe { s3 with heap := s3.heap.push { cls := .type "slice", data := .fields #[vl, vu, .none] } }
  exact tail_any (ops := [.ref s3.heap.objs.size, v]) ht hT hg (by with_unfolding_all rfl)
def cutV (xs : List V) (lo hi : Option Int) : List V := (xs.drop (HT.sIx xs.length 0 lo)).take (HT.sIx xs.length xs.length hi - HT.sIx xs.length 0 lo)
theorem cutV_length (xs : List V) (lo hi : Option Int) : (cutV xs lo hi).length ≤ xs.length := by
  unfold cutV
  rw [List.length_take, List.length_drop]
  omega
def rLtT (K : W.Frag) : R2 := fun x y H Q => ∃ a b ns ms, x = .ref a ∧ y = .ref b ∧ SqT K H a (ns.map V.int) ∧ SqT K H b (ms.map V.int) ∧ Q (.bl (HT.lexLt ns ms)) H
theorem op_ltT (hu : X.A.units < cLine) : OpR X (compareOp .Lt) (rLtT X.K) := by
  intro pins s σ H x y v u Q I rx ry h
  obtain ⟨a, b, ns, ms, rfl, rfl, ha, hb, q⟩ := h
  cases rx
  cases ry
  obtain ⟨its, r1, p1, _⟩ := I.tuple ha
  obtain ⟨its2, r2, p2, _⟩ := I.tuple hb
  have i1 : IntsAre its.toArray.toList ns := intsAre_of r1
  have i2 : IntsAre its2.toArray.toList ms := intsAre_of r2
  exact HT.lt_tupInts p1 p2 i1 i2 hu ⟨.bl (HT.lexLt ns ms), H, I, rfl, q⟩
def rCatT (K : W.Frag) : R2 := fun x y H Q => ∃ a b xs ys, x = .ref a ∧ y = .ref b ∧ SqT K H a xs ∧ SqT K H b ys ∧ xs ≠ [] ∧ xs.length + ys.length ≤ sizeLine ∧
  (ys = [] → Q (.ref a) H) ∧ (ys ≠ [] → ∀ p, H p = none → Q (.ref p) (upd H p (.tup (xs ++ ys))))
theorem Vals.nil_iff {xs : List V} {us : List Value} (r : Vals xs us) : us = [] ↔ xs = [] := by
  cases r with
  | nil => simp
  | cons _ _ => simp
theorem op_catT : OpR X (binaryOp .Add) (rCatT X.K) := by
  intro pins s σ H x y v u Q I rx ry h
  obtain ⟨a, b, xs, ys, rfl, rfl, ha, hb, hx, hz, q1, q2⟩ := h
  cases rx
  cases ry
  obtain ⟨its, r1, p1, _⟩ := I.tuple ha
  obtain ⟨its2, r2, p2, _⟩ := I.tuple hb
  refine HT.cat_tup p1 p2 (fun z => hx (r1.nil_iff.mp z)) (fun z => ⟨.ref a, H, I, rfl, q1 (r2.nil_iff.mp z)⟩) (fun z => ?_) (by rw [← r1.length, ← r2.length]; exact hz)
  refine ⟨.ref s.heap.objs.size, _, I.laid (t' := s.toks) (o := .tup (xs ++ ys)) (fun b ob q => Heap.get?_push_of_some _ q) (Nat.le_refl _) ?_, rfl, q2 (fun w => z (r2.nil_iff.mpr w)) _ (I.hok.fresh (Nat.le_refl _))⟩
  exact ⟨by rw [List.length_append]; exact hz, _, r1.append r2, IsTup.new _ _⟩
end
end L2
namespace L2
open PySem PySem.Spec PyProof.Rows
def ixN (n : Nat) (i : Int) : Option Nat := if 0 ≤ i then (if i < n then some i.toNat else none) else if -(n : Int) ≤ i then some (i + n).toNat else none
def atI {α : Type} (xs : List α) (i : Int) : Option α := (ixN xs.length i).bind fun j => xs[j]?
theorem ixN_seq {n : Nat} {i : Int} {j : Nat} (h : ixN n i = some j) : seqIndex? i n = some j ∧ j < n ∧ -(n : Int) ≤ i ∧ i < n := by
  unfold ixN at h
  by_cases h0 : 0 ≤ i
  · rw [if_pos h0] at h
    by_cases h1 : i < n
    · rw [if_pos h1] at h
      have e : i.toNat = j := Option.some.inj h
      exact ⟨by rw [seqIndex_of h0 h1, e], by omega, by omega, h1⟩
    · rw [if_neg h1] at h; cases h
  · rw [if_neg h0] at h
    by_cases h1 : -(n : Int) ≤ i
    · rw [if_pos h1] at h
      have e : (i + n).toNat = j := Option.some.inj h
      exact ⟨by rw [seqIndex_neg (by omega) h1, e], by omega, h1, by omega⟩
    · rw [if_neg h1] at h; cases h
theorem atI_get {α : Type} {xs : List α} {i : Int} {v : α} (h : atI xs i = some v) : ∃ j, seqIndex? i xs.length = some j ∧ xs[j]? = some v ∧ j < xs.length ∧ -(xs.length : Int) ≤ i ∧ i < xs.length := by
  unfold atI at h
  cases e : ixN xs.length i with
  | none => rw [e] at h; cases h
  | some j =>
    rw [e] at h
    obtain ⟨h1, h2, h3, h4⟩ := ixN_seq e
    exact ⟨j, h1, h, h2, h3, h4⟩
theorem atI_nat {α : Type} {xs : List α} {j : Nat} {v : α} (h : xs[j]? = some v) : atI xs (j : Int) = some v := by
  have hj : j < xs.length := (List.getElem?_eq_some_iff.mp h).1
  have e : ixN xs.length (j : Int) = some j := by
    unfold ixN
    rw [if_pos (by omega), if_pos (by omega)]; simp
  unfold atI; rw [e]; exact h
def PlainIx (b : Expr) : Prop := ∀ o i, subscripted b false o i = operate [o, i] (getItem o i)
def IxR (X : Cx) (r : R2) : Prop :=
  ∀ (value slice : Expr) (pins : List (Addr × Obj)) (s : Shared) (σ : St) (H : Hp) (x y : V) (v u : Value) (Q : VK), Inv X pins σ H s → RelV x v → RelV y u → r x y H Q →
    subscripted slice false v u = operate [v, u] (getItem v u) → wpAny (model X.prog X.w) X.A (subscriptTail value slice v u) (EP X pins σ Q) X.xe s
def MtR (X : Cx) (id : String) (r : V → List V → Hp → VK → Prop) : Prop :=
  ∀ (pins : List (Addr × Obj)) (s : Shared) (σ : St) (H : Hp) (x : V) (xs : List V) (v : Value) (us : List Value) (Q : VK), Inv X pins σ H s → RelV x v → Vals xs us → r x xs H Q →
    wpAny (model X.prog X.w) X.A (call (.builtin id) (v :: us)) (EP X pins σ Q) X.xe s
section
variable {X : Cx} {a b : Expr} {ta tb : TE} {pos : Pos}
theorem pe_ix {r : R2} (hr : IxR X r) (ha : PE X a ta) (hb : PE X b tb) (hs : PlainIx b) : PE X (.Subscript a b pos) (tOp r ta tb) := by
  intro pins s σ H Q I h
  exact Subscript_ (binT ha hb I h fun v u s2 x y H2 I2 rx ry q => hr a b pins s2 σ H2 x y v u Q I2 rx ry q (hs _ _))
def rIxL (K : W.Frag) : R2 := fun x y H Q => ∃ p xs i v, x = .ref p ∧ y = .int i ∧ SqL K H p xs ∧ atI xs i = some v ∧ Q v H
def rIxT (K : W.Frag) : R2 := fun x y H Q => ∃ p xs i v, x = .ref p ∧ y = .int i ∧ SqT K H p xs ∧ atI xs i = some v ∧ Q v H
theorem ix_list : IxR X (rIxL X.K) := by
  intro value slice pins s σ H x y v u Q I rx ry h hs
  obtain ⟨p, xs, i, z, rfl, rfl, hq, he, q⟩ := h
  cases rx
  obtain ⟨t, rfl⟩ := ry
  obtain ⟨its, r, pl, hz⟩ := I.list hq
  obtain ⟨j, h1, h2, h3, h4, h5⟩ := atI_get he
  obtain ⟨w, ew, rw'⟩ := r.get h2
  have hl := r.length
  have hn := line63
  have fin : EP X pins σ Q w s := ⟨z, H, I, rw', q⟩
  by_cases h0 : 0 ≤ i
  · have hj : i.toNat = j := by
      rw [seqIndex_of h0 h5] at h1
      exact Option.some.inj h1
    exact item_listR pl.isList h0 (by omega) (by rw [hj]; simpa using ew) fin hs
  · have hj : (i + (its.toArray.size : Int)).toNat = j := by
      rw [seqIndex_neg (by omega) h4] at h1
      rw [List.size_toArray, ← hl]
      exact Option.some.inj h1
    exact subscriptTail_builtinR (x := w) pl.isList.typeIs slot_list_getitem.lookup
      (wpAny_getItem_list_neg (Q := fun r s' => r = w ∧ EP X pins σ Q r s') pl.isList (by omega) (by rw [List.size_toArray] <;> omega) (by omega) (by rw [hj]; simpa using ew) ⟨rfl, fin⟩) hs
theorem ix_tup : IxR X (rIxT X.K) := by
  intro value slice pins s σ H x y v u Q I rx ry h hs
  obtain ⟨p, xs, i, z, rfl, rfl, hq, he, q⟩ := h
  cases rx
  obtain ⟨t, rfl⟩ := ry
  obtain ⟨its, r, pl, hz⟩ := I.tuple hq
  obtain ⟨j, h1, h2, h3, h4, h5⟩ := atI_get he
  obtain ⟨w, ew, rw'⟩ := r.get h2
  have hl := r.length
  have hn := line63
  have fin : EP X pins σ Q w s := ⟨z, H, I, rw', q⟩
  exact subscriptTail_builtinR (x := w) pl.typeIs slot_tuple_getitem.lookup
    (getItem_tuple (j := j) (Q := fun r s' => r = w ∧ EP X pins σ Q r s') pl (by omega) (by omega) (by rw [List.size_toArray, ← hl]; exact h1) (by simpa using ew) ⟨rfl, fin⟩) hs
theorem slice_bounds (lo hi : Option Int) (n : Nat) : (sliceBounds lo hi none n).1 = ((HT.sIx n 0 lo : Nat) : Int) ∧ (sliceBounds lo hi none n).2.1 = ((HT.sIx n n hi : Nat) : Int) ∧ (sliceBounds lo hi none n).2.2 = 1 := by
  refine ⟨?_, ?_, rfl⟩
  · cases lo with
    | none => simp [sliceBounds, HT.sIx]
    | some i =>
      simp only [sliceBounds, HT.sIx, Option.getD_none, show (1 : Int) > 0 by decide, if_true]
      by_cases h : i < 0
      · simp only [h, if_true] <;> omega
      · simp only [h, if_false] <;> omega
  · cases hi with
    | none => simp [sliceBounds, HT.sIx]
    | some i =>
      simp only [sliceBounds, HT.sIx, Option.getD_none, show (1 : Int) > 0 by decide, if_true]
      by_cases h : i < 0
      · simp only [h, if_true] <;> omega
      · simp only [h, if_false] <;> omega
theorem slicePick_cut (its : List Value) (lo hi : Option Int) : slicePick its.toArray lo hi none = ((its.drop (HT.sIx its.length 0 lo)).take (HT.sIx its.length its.length hi - HT.sIx its.length 0 lo)).toArray := by
  obtain ⟨h1, h2, h3⟩ := slice_bounds lo hi its.toArray.size
  unfold slicePick
  rw [h1, h2, h3]
  simp only [sliceRange_one, pick_run, List.size_toArray] <;> rfl
def rSlL (K : W.Frag) : V → Option Int → Option Int → Hp → VK → Prop := fun x lo hi H Q => ∃ a xs, x = .ref a ∧ SqL K H a xs ∧ ∀ p, H p = none → Q (.ref p) (upd H p (.lst (cutV xs lo hi)))
theorem sl_list : SlR X (rSlL X.K) := by
  intro pins s σ H x v vl vu lo hi sl Q I rx hs pl pu h
  obtain ⟨a, xs, rfl, hx, q⟩ := h
  cases rx
  obtain ⟨its, r, ht, hz⟩ := I.list hx
  have hlen := r.length
  refine ⟨"list", _, slot_list_getitem.lookup, ht.isList.typeIs, ?_⟩
  refine wpAny_getItem_list_slice ht.isList hs pl pu .none (by simp) ?_ (by rw [List.size_toArray] <;> omega)
  rw [slicePick_cut, ← hlen]
  refine ⟨.ref s.heap.objs.size, _, I.laid (t' := s.toks) (o := .lst (cutV xs lo hi)) (fun b ob q => Heap.get?_push_of_some _ q) (Nat.le_refl _) ?_, rfl, q _ (I.hok.fresh (Nat.le_refl _))⟩
  exact ⟨Nat.le_trans (cutV_length xs lo hi) hz, _, 0, (r.drop (HT.sIx xs.length 0 lo)).take (HT.sIx xs.length xs.length hi - HT.sIx xs.length 0 lo), Heap.get?_push_size _ rfl⟩
def flatV : V → Bool
  | .non => true
  | .bl _ => true
  | .int _ => true
  | .str _ => true
  | _ => false
def eqV : V → V → Bool
  | .non, .non => true
  | .bl a, .bl b => a == b
  | .bl a, .int b => (if a then 1 else 0) == b
  | .int a, .bl b => a == (if b then 1 else 0)
  | .int a, .int b => a == b
  | .str a, .str b => a == b
  | _, _ => false
theorem eqAt_V {A : Around} {s : Shared} {y x : V} {u v : Value} (ry : RelV y u) (rx : RelV x v) (fy : flatV y = true) (fx : flatV x = true) : SeqAt.EqAt A s u v (eqV y x) := by
  cases y with
  | non =>
    cases ry
    cases x with
    | non => cases rx; exact SeqAt.EqAt.same _
    | bl b => cases rx; exact SeqAt.EqAt.none_bool b
    | int b => obtain ⟨t, rfl⟩ := rx; exact SeqAt.EqAt.none_int b t
    | str b => obtain ⟨t, rfl⟩ := rx; exact SeqAt.EqAt.none_str b t
    | _ => exact absurd (show false = true from fx) Bool.false_ne_true
  | bl a =>
    cases ry
    cases x with
    | non => cases rx; exact SeqAt.EqAt.bool_none a
    | bl b => cases rx; exact SeqAt.EqAt.bool_bool a b
    | int b => obtain ⟨t, rfl⟩ := rx; exact SeqAt.EqAt.bool_int a b t
    | str b => obtain ⟨t, rfl⟩ := rx; exact SeqAt.EqAt.bool_str a b t
    | _ => exact absurd (show false = true from fx) Bool.false_ne_true
  | int a =>
    obtain ⟨t', rfl⟩ := ry
    cases x with
    | non => cases rx; exact SeqAt.EqAt.int_none a t'
    | bl b => cases rx; exact SeqAt.EqAt.int_bool a t' b
    | int b => obtain ⟨t, rfl⟩ := rx; exact SeqAt.EqAt.int_int a t' b t
    | str b => obtain ⟨t, rfl⟩ := rx; exact SeqAt.EqAt.int_str a t' b t
    | _ => exact absurd (show false = true from fx) Bool.false_ne_true
  | str a =>
    obtain ⟨t', rfl⟩ := ry
    cases x with
    | non => cases rx; exact SeqAt.EqAt.str_none a t'
    | bl b => cases rx; exact SeqAt.EqAt.str_bool a t' b
    | int b => obtain ⟨t, rfl⟩ := rx; exact SeqAt.EqAt.str_int a t' b t
    | str b => obtain ⟨t, rfl⟩ := rx; exact SeqAt.EqAt.str_str a t' b t
    | _ => exact absurd (show false = true from fx) Bool.false_ne_true
  | _ => exact absurd (show false = true from fy) Bool.false_ne_true
def eqU (x : V) (u : Value) : Bool := match u with
  | .none => eqV .non x
  | .bool b => eqV (.bl b) x
  | .int i _ => eqV (.int i) x
  | .str z _ => eqV (.str z) x
  | _ => false
theorem eqU_of {x y : V} {u : Value} (r : RelV y u) (f : flatV y = true) : eqU x u = eqV y x := by
  cases y with
  | non => cases r; rfl
  | bl b => cases r; rfl
  | int i => obtain ⟨t, rfl⟩ := r; rfl
  | str z => obtain ⟨t, rfl⟩ := r; rfl
  | _ => exact absurd (show false = true from f) Bool.false_ne_true
theorem any_eqU {x : V} : ∀ {xs : List V} {us : List Value}, Vals xs us → xs.all flatV = true → us.any (eqU x) = xs.any fun y => eqV y x
  | _, _, .nil, _ => rfl
  | y :: xs, u :: us, .cons r t, f => by
    rw [List.all_cons, Bool.and_eq_true] at f
    rw [List.any_cons, List.any_cons, eqU_of r f.1, any_eqU t f.2]
theorem mem_eqAt {A : Around} {s : Shared} {x : V} {v : Value} (rx : RelV x v) (fx : flatV x = true) : ∀ {xs : List V} {us : List Value}, Vals xs us → xs.all flatV = true → ∀ u ∈ us, SeqAt.EqAt A s u v (eqU x u)
  | _, _, .nil, _ => fun u hu => by cases hu
  | y :: xs, u :: us, .cons r t, f => fun u' hu => by
    rw [List.all_cons, Bool.and_eq_true] at f
    rcases List.mem_cons.mp hu with rfl | hu
    · rw [eqU_of r f.1]; exact eqAt_V r rx f.1 fx
    · exact mem_eqAt rx fx t f.2 u' hu
def inV (x : V) (xs : List V) : Bool := xs.any fun y => eqV y x
def rIn (K : W.Frag) (neg : Bool) : R2 := fun x y H Q => ∃ p xs, y = .ref p ∧ (SqL K H p xs ∨ SqT K H p xs) ∧ flatV x = true ∧ xs.all flatV = true ∧ Q (.bl (if neg then !inV x xs else inV x xs)) H
theorem op_notIn_seq : OpR X (compareOp .NotIn) (rIn X.K true) := by
  intro pins s σ H x y v u Q I rx ry h
  obtain ⟨p, xs, rfl, hq, fx, fs, q⟩ := h
  cases ry
  rcases hq with hq | hq
  · obtain ⟨its, r, pl, hz⟩ := I.list hq
    refine SeqAt.notIn_listAt (eqU x) pl.isList (fun w hw => mem_eqAt rx fx r fs w (by simpa using hw)) ⟨.bl _, H, I, rfl, ?_⟩
    rw [show its.toArray.any (eqU x) = its.any (eqU x) by simp, any_eqU r fs]
    exact q
  · obtain ⟨its, r, pl, hz⟩ := I.tuple hq
    refine SeqAt.notIn_tupleAt (eqU x) pl (fun w hw => mem_eqAt rx fx r fs w (by simpa using hw)) ⟨.bl _, H, I, rfl, ?_⟩
    rw [show its.toArray.any (eqU x) = its.any (eqU x) by simp, any_eqU r fs]
    exact q
theorem call_len_seq : CallR X (.builtin "len") (fun xs H Q => ∃ p ys, xs = [.ref p] ∧ (SqL X.K H p ys ∨ SqT X.K H p ys) ∧ Q (.int ys.length) H) := by
  intro pins s σ H xs us Q I r h
  obtain ⟨p, ys, rfl, hq, q⟩ := h
  obtain ⟨u, rfl, rx⟩ := vals1 r
  cases rx
  have hn := line63
  rcases hq with hq | hq
  · obtain ⟨its, r', pl, hz⟩ := I.list hq
    have hlen := r'.length
    exact Calls.call_len_list pl.isList (by simp only [List.size_toArray] <;> omega) ⟨.int ys.length, H, I.tok _, ⟨s.toks + 1, by rw [List.size_toArray, hlen]⟩, q⟩
  · obtain ⟨its, r', pl, hz⟩ := I.tuple hq
    have hlen := r'.length
    exact len_tuple pl (by simp only [List.size_toArray] <;> omega) ⟨.int ys.length, H, I.tok _, ⟨s.toks + 1, by rw [List.size_toArray, hlen]⟩, q⟩
theorem call_tuple_of : CallR X (.type "tuple") (fun xs H Q => ∃ p ys, xs = [.ref p] ∧ ((SqL X.K H p ys ∧ ∀ l, H l = none → Q (.ref l) (upd H l (.tup ys))) ∨ (SqT X.K H p ys ∧ Q (.ref p) H))) := by
  intro pins s σ H xs us Q I r h
  obtain ⟨p, ys, rfl, h⟩ := h
  obtain ⟨u, rfl, rx⟩ := vals1 r
  cases rx
  rcases h with ⟨hq, q⟩ | ⟨hq, q⟩
  · obtain ⟨its, r', pl, hz⟩ := I.list hq
    have hlen := r'.length
    refine call_tuple_list pl.isList (fun h' kp => ?_) (by simp only [List.size_toArray] <;> omega)
    have I1 : Inv X pins σ H { s with heap := h' } := I.kept (t' := s.toks) kp
    have I2 : Inv X pins σ (upd H h'.objs.size (.tup ys)) { s with heap := h'.push { cls := .type "tuple", data := .seq its.toArray } } :=
      I1.laid (t' := s.toks) (fun b o e => Heap.get?_push_of_some _ e) (Nat.le_refl _) (show ObjOk X.prog X.w _ _ _ (.tup ys) from ⟨hz, its, r', IsTup.new _ _⟩)
    exact ⟨.ref h'.objs.size, _, I2, rfl, q _ (I1.hok.fresh (Nat.le_refl _))⟩
  · obtain ⟨its, r', pl, hz⟩ := I.tuple hq
    exact call_tuple_same pl ⟨.ref p, H, I, rfl, q⟩
def tyV (K : W.Frag) (T : String) (x : V) (H : Hp) : Prop := match x with
  | .str _ => T = "str"
  | .int _ => T = "int"
  | .ref p => (T = "list" ∧ ∃ xs, SqL K H p xs) ∨ (T = "tuple" ∧ ∃ o, K.lookup p = some o ∧ o.cls = .type "tuple" ∧ o.dict = none) ∨
      (T = "dict" ∧ ((∃ kvs, H p = some (.dK kvs)) ∨ ∃ kvs, H p = some (.dT kvs))) ∨ (T = "set" ∧ ∃ S n, H p = some (.set S n))
  | _ => False
theorem tyV_is {pins : List (Addr × Obj)} {σ : St} {H : Hp} {s : Shared} {T : String} {x : V} {v : Value} (I : Inv X pins σ H s) (r : RelV x v) (ty : tyV X.K T x H) :
    s.TypeIs v T ∧ ∀ a, v = .ref a → ∃ ob, s.heap.get? a = some ob ∧ ob.dict = none := by
  cases x with
  | str z =>
    obtain ⟨t, rfl⟩ := r
    cases (show T = "str" from ty)
    exact ⟨typeIs_str s z t, fun _ e => nomatch e⟩
  | int i =>
    obtain ⟨t, rfl⟩ := r
    cases (show T = "int" from ty)
    exact ⟨typeIs_int s i t, fun _ e => nomatch e⟩
  | ref p =>
    cases r
    rcases ty with ⟨rfl, xs, hq⟩ | ⟨rfl, o, hk, hc, hd⟩ | ⟨rfl, hk⟩ | ⟨rfl, S, n, hk⟩
    · obtain ⟨its, _, pl, _⟩ := I.list hq
      refine ⟨pl.isList.typeIs, fun a e => ?_⟩
      cases e
      obtain ⟨o, n, e, c, hd, _⟩ := pl
      exact ⟨o, e, hd⟩
    · refine ⟨⟨o, I.kIn p o hk, hc⟩, fun a e => ?_⟩
      cases e
      exact ⟨o, I.kIn _ o hk, hd⟩
    · have z : ∃ o, s.heap.get? p = some o ∧ o.ExactDict := by
        rcases hk with ⟨kvs, hk⟩ | ⟨kvs, hk⟩
        · obtain ⟨_, _, _, _, o, _, _, e, ex, _⟩ := I.hok p _ hk
          exact ⟨o, e, ex⟩
        · obtain ⟨_, _, _, _, o, _, _, e, ex, _⟩ := I.hok p _ hk
          exact ⟨o, e, ex⟩
      obtain ⟨o, e, ex⟩ := z
      refine ⟨⟨o, e, ex.1⟩, fun a e2 => ?_⟩
      cases e2
      exact ⟨o, e, ex.2.1⟩
    · obtain ⟨o, _, _, _, e, ex, _⟩ := I.hok p _ hk
      refine ⟨⟨o, e, ex.1⟩, fun a e2 => ?_⟩
      cases e2
      exact ⟨o, e, ex.2.1⟩
  | _ => exact False.elim ty
def tBM (K : W.Frag) (T : String) (r : V → List V → Hp → VK → Prop) (to : TE) (t : TA) : TE := fun σ H Q => to σ H fun x H1 => tyV K T x H1 ∧ t σ H1 fun xs H2 => r x xs H2 Q
variable {o e : Expr} {es : List Expr} {to : TE} {t : TA} {name : Str} {apos cpos : Pos} {T id : String} {r : V → List V → Hp → VK → Prop}
theorem pe_bm (pa : PlainAttrs T) (slot : Slot T name id) (hty : typeOf (.builtin id) = pure (.type "method_descriptor")) (hm : MtR X id r) (ho : PE X o to) (ha : PA X (e :: es) t)
    (hbase : attributeBase o name X.env (eval o X.env) = eval o X.env := by rfl)
    (hfew : ((backTo cpos (starEach (e :: es) X.env)).all (fun x => !x.1) && (backToKw cpos (keywordEach [] X.env)).all (fun x => x.1.isSome)
      && decide ((e :: es).length + ([] : List Keyword).length + (if ([] : List Keyword).isEmpty then 0 else 1) < 30)) = true := by rfl)
    (hline : (apos.endLine == cpos.line) = true := by rfl) (hs : starEach (e :: es) X.env = (false, eval e X.env) :: starEach es X.env := by rfl) (hplain : (backTo cpos (starEach es X.env)).any (·.1) = false := by rfl) :
    PE X (.Call (.Attribute o name apos) (e :: es) [] cpos) (tBM X.K T r to t) := by
  intro pins s σ H Q I h
  refine wpAny_Call_method_late hbase hfew hline rfl (thn (ho pins s σ H _ I h) fun v s1 ⟨x, H1, I1, r1, ty, q1⟩ => ?_)
  obtain ⟨h1, h2⟩ := tyV_is I1 r1 ty
  refine ⟨T, id, pa, slot, hty, h1, h2, ?_⟩
  have hA := ha cpos pins s1 σ H1 _ I1 q1
  rw [hs] at hA ⊢
  refine Calls.callWith_builtin (by show (false || (backTo cpos (starEach es X.env)).any (·.1)) = false; rw [hplain] <;> rfl) (Calls.evalArgs_plain ?_)
  exact thn hA fun us s2 ⟨vs, H2, I2, r2, q2⟩ => hm pins s2 σ H2 x vs v us Q I2 r1 r2 q2
/- xs.append(e), list.index on a module's tuple .. are MtR facts of 06m -/
end
end L2
namespace L2
open PySem PySem.Spec PyProof.Rows
def MtM (X : Cx) (id : String) (r : V → List V → Hp → VK → Prop) : Prop :=
  ∀ (pins : List (Addr × Obj)) (s : Shared) (σ : St) (H : Hp) (x : V) (xs : List V) (v : Value) (us : List Value) (Q : VK), Inv X pins σ H s → RelV x v → Vals xs us → r x xs H Q →
    wpAny (model X.prog X.w) X.A (call (.builtin id) (v :: us)) (EP X pins σ Q) X.xe s
theorem Vals.one : ∀ {x : V} {us : List Value}, Vals [x] us → ∃ u, us = [u] ∧ RelV x u
  | _, _, .cons r .nil => ⟨_, rfl, r⟩
theorem Vals.two : ∀ {x y : V} {us : List Value}, Vals [x, y] us → ∃ u v, us = [u, v] ∧ RelV x u ∧ RelV y v
  | _, _, _, .cons r (.cons q .nil) => ⟨_, _, rfl, r, q⟩
theorem Vals.rep {xs : List V} {us : List Value} (h : Vals xs us) : ∀ k : Nat, Vals (List.replicate k xs).flatten (List.replicate k us).flatten
  | 0 => .nil
  | k + 1 => by
    rw [List.replicate_succ, List.replicate_succ, List.flatten_cons, List.flatten_cons]
    exact Vals.append h (Vals.rep h k)
theorem foldl_rep (its : List Value) : ∀ (k : Nat) (acc : List Value),
    List.foldl (fun x1 x2 => x1 ++ x2) acc.toArray (List.replicate k its.toArray) = (acc ++ (List.replicate k its).flatten).toArray
  | 0, acc => by simp
  | k + 1, acc => by
    have e : acc.toArray ++ its.toArray = (acc ++ its).toArray := by simp
    have e2 : (acc ++ its) ++ (List.replicate k its).flatten = acc ++ (List.replicate (k + 1) its).flatten := by
      rw [List.replicate_succ, List.flatten_cons, List.append_assoc]
    rw [← e2, ← foldl_rep its k (acc ++ its), ← e, List.replicate_succ, List.foldl_cons]
section
variable {X : Cx} {pins : List (Addr × Obj)} {σ : St} {H : Hp} {s : Shared} {l b : Addr} {xs ys zs : List V}
theorem Inv.lset {its its' : List Value} {n : Nat} {f : Array Value → Array Value} {t' : Nat} (I : Inv X pins σ H s) (hH : H l = some (.lst xs))
    (e : s.heap.get? l = some { cls := .type "list", data := .seq its.toArray n }) (hf : f its.toArray = its'.toArray) (hv : Vals ys its') (hz : ys.length ≤ sizeLine) :
    Inv X pins σ (upd H l (.lst ys)) { s with heap := s.heap.update l (Obj.mapSeq f), toks := t' } := by
  have q := PySem.IsL.update e f
  rw [hf] at q
  refine I.write (x := l) (e := l) (by rw [hH]; exact trivial) (.inl rfl) (fun b' u hb hu => (Heap.get?_update_other s.heap (Obj.mapSeq f) (Ne.symm hb)).trans hu) ⟨_, q⟩ ?_
  exact ⟨hz, its', _, hv, q⟩
theorem Inv.lnew {its : List Value} {t' : Nat} (I : Inv X pins σ H s) (hv : Vals ys its) (hz : ys.length ≤ sizeLine) :
    Inv X pins σ (upd H s.heap.objs.size (.lst ys)) { s with heap := s.heap.push { cls := .type "list", data := .seq its.toArray }, toks := t' } :=
  I.laid (fun _ _ q => Heap.get?_push_of_some _ q) (Nat.le_refl _) ⟨hz, its, 0, hv, Heap.get?_push_size _ rfl⟩
theorem Inv.fresh (I : Inv X pins σ H s) : H s.heap.objs.size = none := I.hok.fresh (Nat.le_refl _)
theorem Inv.lstM (I : Inv X pins σ H s) (hH : H l = some (.lst xs)) : xs.length ≤ sizeLine ∧ ∃ (its : List Value) (n : Nat), Vals xs its ∧ xs.length = its.length ∧ s.heap.get? l = some { cls := .type "list", data := .seq its.toArray n } := by
  obtain ⟨z, its, n, r, e⟩ := I.hok l _ hH
  exact ⟨z, its, n, r, r.length, e⟩
theorem notLongL {n : Nat} (h : n ≤ sizeLine) : Builtin.List.listTooLong n = false := by
  unfold Builtin.List.listTooLong
  exact decide_eq_false (by omega)
end
section
variable {X : Cx}
def rAppend : V → List V → Hp → VK → Prop := fun x vs H Q => ∃ l xs y, x = .ref l ∧ vs = [y] ∧ H l = some (.lst xs) ∧ xs.length < sizeLine ∧ Q .non (upd H l (.lst (xs ++ [y])))
theorem mt_append : MtM X "list.append" rAppend := by
  intro pins s σ H x vs v us Q I rx rv h
  obtain ⟨l, xs, y, rfl, rfl, hH, hz, q⟩ := h
  cases rx
  obtain ⟨u, rfl, ru⟩ := rv.one
  obtain ⟨z, its, n, r, hl, e⟩ := I.lstM hH
  refine call_meets F.slot_list_append ⟨_, e, rfl⟩ F.entry_list_append (F.args_list_append_2 _ _) (PySem.list_append l its.toArray n u (by rw [List.size_toArray]; omega)) ⟨e, ?_⟩
  refine ⟨.non, _, I.lset (its' := its ++ [u]) hH e (by simp) (r.append (.cons ru .nil)) ?_, rfl, q⟩
  rw [List.length_append, List.length_singleton]
  omega
def rCat : R2 := fun x y H Q => ∃ l b xs zs, x = .ref l ∧ y = .ref b ∧ H l = some (.lst xs) ∧ H b = some (.lst zs) ∧ xs.length + zs.length ≤ sizeLine ∧ ∀ p, H p = none → Q (.ref p) (upd H p (.lst (xs ++ zs)))
theorem op_cat : OpR X (binaryOp .Add) rCat := by
  intro pins s σ H x y v u Q I rx ry h
  obtain ⟨l, b, xs, zs, rfl, rfl, hH, hB, hz, q⟩ := h
  cases rx
  cases ry
  obtain ⟨z, its, n, r, hl, e⟩ := I.lstM hH
  obtain ⟨z2, its2, n2, r2, hl2, e2⟩ := I.lstM hB
  refine PySem.P.add_list e e2 ?_ (by rw [List.size_toArray, List.size_toArray]; omega)
  have ea : its.toArray ++ its2.toArray = (its ++ its2).toArray := by simp
  rw [ea]
  exact ⟨.ref _, _, I.lnew (t' := s.toks) (r.append r2) (by rw [List.length_append]; omega), rfl, q _ I.fresh⟩
def rRep : R2 := fun x y H Q => ∃ l k xs, x = .ref l ∧ y = .int k ∧ H l = some (.lst xs) ∧ -(2 ^ 63) ≤ k ∧ k < 2 ^ 63 ∧ xs.length * k.toNat ≤ sizeLine ∧
  ∀ p, H p = none → Q (.ref p) (upd H p (.lst (List.replicate k.toNat xs).flatten))
theorem len_rep {α : Type} (xs : List α) (k : Nat) : (List.replicate k xs).flatten.length = k * xs.length := by
  induction k with
  | zero => simp
  | succ k ih => rw [List.replicate_succ, List.flatten_cons, List.length_append, ih, Nat.succ_mul, Nat.add_comm]
theorem op_rep : OpR X (binaryOp .Mult) rRep := by
  intro pins s σ H x y v u Q I rx ry h
  obtain ⟨l, k, xs, rfl, rfl, hH, h1, h2, hz, q⟩ := h
  cases rx
  obtain ⟨t, rfl⟩ := ry
  obtain ⟨z, its, n, r, hl, e⟩ := I.lstM hH
  have hlen : its.toArray.size * k.toNat ≤ sizeLine := by rw [List.size_toArray, ← hl]; exact hz
  have hcap : ¬ its.toArray.size * k.toNat > (2 ^ 63 - 1) / 8 := by
    have : (sizeLine : Nat) ≤ (2 ^ 63 - 1) / 8 := by decide
    omega
  have hfit : ¬ (!Builtin.List.listFitsIndex k) = true := by
    rw [fitsIndex_both h1 h2]
    exact Bool.false_ne_true
  have hlong : ¬ Builtin.List.listTooLong (its.toArray.size * k.toNat) = true := by
    rw [notLongL hlen]
    exact Bool.false_ne_true
  have hnew : List.foldl (fun x1 x2 => x1 ++ x2) #[] (List.replicate (if its.toArray.isEmpty = true then 0 else k.toNat) its.toArray) = (List.replicate k.toNat its).flatten.toArray := by
    have f0 : ∀ m : Nat, List.foldl (fun x1 x2 => x1 ++ x2) #[] (List.replicate m its.toArray) = (List.replicate m its).flatten.toArray := fun m => by
      have := foldl_rep its m []
      rw [List.nil_append] at this
      exact this
    rw [f0]
    cases its with
    | nil => simp
    | cons a r' => rw [if_neg (by simp)]
  refine wpAny_binaryOp_repeat_ref (T := "list") (U := "int") (by decide) ⟨_, e, rfl⟩ (fun s' => typeIs_int s' k t) noFill_list_mul F.fills_int_mul F.slot_int_rmul repeat_list F.slot_int_index.lookup
    (call_meets F.slot_int_rmul (typeIs_int s k t) F.entry_int_rmul (F.args_int_rmul_2 _ _) (int___rmul___int_list k t l its.toArray n)
      ⟨e, rfl, ⟨_, e, rfl⟩, call_meets F.slot_list_mul ⟨_, e, rfl⟩ F.entry_list_mul (F.args_list_mul_2 _ _) (AutoListH.list___mul___list_int_3 l its.toArray n k t hfit hcap hlong) ⟨e, ?_⟩⟩)
  rw [hnew]
  exact ⟨.ref _, _, I.lnew (t' := s.toks) (r.rep k.toNat) (by rw [len_rep, Nat.mul_comm]; exact hz), rfl, q _ I.fresh⟩
end
section
variable {prog : Program} {w : World} {A : Around} {E : Value → Shared → Prop} {s : Shared}
set_option maxRecDepth 100000 in
end
section
variable {X : Cx}
end
end L2
namespace Att
open PySem PySem.W PySem.Calls PyProof.Rows
theorem ints_of_wellAll {P : Params} {h : Heap} : ∀ (ns : List Int) (vs : List Value), WellAll P h vs (ns.map WData.int) → IntsAre vs ns := by
  intro ns
  induction ns with
  | nil =>
    intro vs w
    rw [List.map_nil] at w
    cases w
    exact .nil
  | cons n ns ih =>
    intro vs w
    rw [List.map_cons] at w
    cases w with
    | cons a b =>
      cases a
      exact .cons _ _ (ih _ b)
theorem script_of {l : OpenLaw} {n : Nat} (hn : l.most = some n) {P : Params} {h : Heap} {args : List WData} {vals : List Value}
    (hpre : l.row.toRowW.claim.pre args = true) (hwl : WellAll P h vals args) :
    ∃ a vs ns, vals = [Value.ref a] ∧ args = [WData.list (ns.map WData.int)] ∧ h.get? a = some { cls := .type "list", data := .seq vs.toArray } ∧ IntsAre vs ns ∧ ns.length ≤ n := by
  have hsh : WShape.hasAll [] args [.list .int] = true := (pre_splitW hpre).1
  have hc : l.pre.holds [] { args := args } = true := (pre_splitW hpre).2
  obtain ⟨d, r, rfl, h1, h2⟩ := hasAllW_cons hsh
  obtain rfl := hasAllW_nil h2
  obtain ⟨xs, rfl, h3⟩ := hasW_list h1
  obtain ⟨ns, rfl⟩ := items_int h3
  have hlen : ns.length ≤ n := by
    unfold OpenLaw.pre at hc
    have h4 : (WTm.not (.lt (.lit (.int (n : Int))) (.len (.arg 0)))).holds [] { args := [.list (ns.map .int)] } = true := by
      have h4 := (holds_andW hc).1
      rw [hn] at h4
      exact h4
    have h5 := condW_of h4 (w_not (w_lt w_lit (w_len_list (w_arg rfl))))
    rw [List.length_map] at h5
    refine Nat.le_of_not_lt fun q => ?_
    have q' : (n : Int) < ((ns.length : Nat) : Int) := by omega
    first
      | (rw [decide_eq_true q'] at h5; exact absurd h5 (by decide))
      | (simp at h5; omega)
  cases hwl with
  | cons w1 w2 =>
    cases w2
    cases w1 with
    | list ho hall => exact ⟨_, _, ns, rfl, rfl, ho, ints_of_wellAll ns _ hall, hlen⟩
theorem post_true (l : OpenLaw) (args : List WData) : l.row.toRowW.claim.post args (.bool true) args = true :=
  postW_of (r := l.row.toRowW) (X := (true == true))
    (show WShape.has [] (.bool true) .bool = true by first | rfl | decide | simp [WShape.has, WShape.arms, WShape.armsAll])
    (show (WTm.eq .res (.lit (.bool true))).value [] { args := args, res := some (.bool true), after := args } = some (.bool (true == true)) from w_eq_bool (w_res rfl) w_lit) rfl
theorem attach_call {l : OpenLaw} {n : Nat} {q : Program} {loose : List Str} {XP : (Str → Option Value) → Heap → Prop} {YP : World → Heap → Prop} {d : DefRec}
    (hn : l.most = some n) (hdf : d.params.defaults = [])
    (call : ∀ (w : World) (s₀ s₁ : Shared) (mg mb : Str → Option Value) (fa : Addr) (o : Obj) (pm cd doc : Value) (a : Addr) (vs : List Value) (ns : List Int),
      Ground q loose [] XP w s₀ mg mb s₁.heap → YP w s₁.heap →
      s₁.heap.get? fa = some o → o.data = .func (docDef d.name d.params d.body d.scope pm cd doc) → s₁.heap.CodeRec cd d.name → mg d.name = some (.ref fa) →
      s₁.heap.get? a = some { cls := .type "list", data := .seq vs.toArray } → IntsAre vs ns → ns.length ≤ n → s₁.gens = #[] →
      codeAny (model l.prog w) callerA (.call (.ref fa) ⟨[.ref a], []⟩) (fun r s' => r = .ok (.ret (.bool true)) ∧ OldK s₁.heap s'.heap ∧ s'.os = s₁.os ∧ AllBare s'.gens) s₁) :
    WalkO q loose XP YP l.row.toRowW d [] (fun f vs => PySem.call f vs) := by
  intro w s₀ s₁ mg mb G Y fa o pm cd doc dV kV ho hd hcd hD hmg hg args vals as hpre hlay hrd hwl hlo
  obtain rfl : dV = .none := Dflts.none hD hdf
  obtain rfl : kV = .none := Dflts.noKw hD
  obtain ⟨a, vs, ns, rfl, rfl, hobj, hints, hlen⟩ := script_of hn hpre hwl
  refine enter_call (codeAny_mono (call w s₀ s₁ mg mb fa o pm cd doc a vs ns G Y ho (fd_plain hd) hcd hmg hobj hints hlen hg) fun r s' hq => ?_)
  obtain ⟨rfl, h2, h3, h4⟩ := hq
  exact ⟨.inl ⟨.bool true, .bool true, [], rfl, fun _ => rfl, .bool true, post_true l _, fun _ => ⟨List.Pairwise.nil, fun _ hm => (nomatch hm)⟩⟩, h2, h3, h4⟩
section
variable {prog : Program} {w : World} {A : Around} {E : Value → Shared → Prop} {s : Shared} {K : Frag}
end
end Att
namespace L2
open PySem PySem.Spec PyProof.Rows
theorem vals_ints : ∀ {vs : List Value} {ns : List Int}, IntsAre vs ns → Vals (ns.map V.int) vs
  | _, _, .nil => .nil
  | _, _, .cons n t h => .cons ⟨t, rfl⟩ (vals_ints h)
def Only (H : Hp) : Prop := ∀ b, H b = none ∨ ∃ o xs, H b = some (.frz o (.lst xs))
theorem law_call {P : Program} {w : World} {K : W.Frag} {mg mb : Str → Option Value} {CX : CXT} {k : Nat} {fa a : Addr} {fd : FuncData} {x : Str} {sp : Sp} {s₁ : Shared} {vs : List Value} {ns : List Int}
    (KX : K.In s₁.heap) (hns : s₁.heap.Ns mainGlobals mg) (hb : s₁.heap.Ns builtinsNs mb) (hbb : ∀ x : Str, x ≠ "__name__" → mb x = bootBuiltins x) (hlim : s₁.heap.NoLimit) (hg : s₁.gens = #[])
    (ha : s₁.heap.get? a = some { cls := .type "list", data := .seq vs.toArray }) (hi : IntsAre vs ns) (hl : ns.length ≤ sizeLine) (hr : Room k callerA)
    (F : ∀ base : Heap, K.In base → base.Ns mainGlobals mg → FnOk P w K mg base CX k fa fd [x] sp) (hbind : ∀ (s : Shared) (u : Value), BindsTo s fd ⟨[u], []⟩ [(x, u)])
    (hsp : ∀ H : Hp, Only H → SqL K H a (ns.map V.int) → sp [.ref a] H (fun v _ => v = .bl true) fun _ _ _ => False)
    (hCX : ∀ H e s', CX [] H s₁ (fun _ _ _ => False) e s' → False) :
    codeAny (model P w) callerA (.call (.ref fa) ⟨[.ref a], []⟩) (fun r s' => r = .ok (.ret (.bool true)) ∧ OldK s₁.heap s'.heap ∧ s'.os = s₁.os ∧ AllBare s'.gens) s₁ := by
  have rv := vals_ints hi
  have lenV := hi.length
  have core : ∀ H : Hp, Only H → SqL K H a (ns.map V.int) → HOk P w H s₁.heap → (∀ b, H b ≠ none → b = a) → (H a ≠ none → K.lookup a = none) →
      codeAny (model P w) callerA (.call (.ref fa) ⟨[.ref a], []⟩) (fun r s' => r = .ok (.ret (.bool true)) ∧ OldK s₁.heap s'.heap ∧ s'.os = s₁.os ∧ AllBare s'.gens) s₁ := by
    intro H hO hS hok hA hK
    have base_of : ∀ {b : Addr} {o : Obj}, s₁.heap.get? b = some o → H b = none → (hidT s₁.heap H).get? b = some o := fun e n => hidT_get e n
    have noA : ∀ {b : Addr} {o : Obj} {es : Array DictEntry} {ep : Nat}, s₁.heap.get? b = some o → o.data = .dict es ep → H b = none := fun {b o es ep} e d => by
      cases q : H b with
      | none => rfl
      | some u =>
        have e' : b = a := hA b (by rw [q]; simp)
        subst e'
        rw [ha] at e; cases e
        have d' : Data.seq vs.toArray _ = Data.dict es ep := d
        cases d'
    have nsK : ∀ {b : Addr} {m : Str → Option Value}, s₁.heap.Ns b m → (hidT s₁.heap H).Ns b m := fun {b m} ⟨o, es, ep, e, d, r⟩ => ⟨o, es, ep, base_of e (noA e d), d, r⟩
    have hKb : K.In (hidT s₁.heap H) := fun b o e => base_of (KX b o e) (by
      cases q : H b with
      | none => rfl
      | some u =>
        have e' : b = a := hA b (by rw [q]; simp)
        subst e'
        rw [hK (by rw [q]; simp)] at e; cases e)
    have hM : Mod K mg (hidT s₁.heap H) := ⟨hKb, nsK hns, ⟨mb, nsK hb, hbb⟩, let ⟨mc, h1, h2⟩ := hlim; ⟨mc, nsK h1, h2⟩⟩
    have e0 : Env0 P w K mg (hidT s₁.heap H) callerA [] s₁ H := ⟨rfl, hM, fun b o e => of_hidT e, Nat.le_of_eq (hidT_size _ _), trivial, fun b hb => absurd (show b ∈ ([] : List Addr) from hb) (by simp), hok, .of_eq hg⟩
    refine codeAny_mono ((F _ hKb (nsK hns)).run callerA [] s₁ H ⟨[.ref a], []⟩ [.ref a] [.ref a] _ _ hr e0 (hbind s₁ (.ref a)) (.cons rfl .nil) (hsp H hO hS)) fun r s' h => ?_
    cases r with
    | error e => exact (hCX H e s' h).elim
    | ok fl =>
      cases fl with
      | next => exact False.elim h
      | brk => exact False.elim h
      | cont => exact False.elim h
      | ret u =>
        obtain ⟨v, H', os, bare, un, hok', r', q⟩ := h
        have q' : v = .bl true := q
        subst q'
        obtain rfl : u = Value.bool true := r'
        refine ⟨rfl, OldK.of_keep fun b o e => ?_, os, bare⟩
        cases q : H b with
        | none => exact un.keep b o e q (by intro z; exact absurd (show b ∈ ([] : List Addr) from z) (by simp)) (by simp)
        | some u =>
          rcases hO b with z | ⟨ob, xs, z⟩
          · rw [q] at z; cases z
          · have z2 := un.frzs b ob _ z
            obtain ⟨e1, _⟩ := hok b _ z
            obtain ⟨e2, _⟩ := hok' b _ z2
            rw [e] at e1; cases e1
            exact e2
  cases hk : K.lookup a with
  | some o =>
    have e := KX a o hk
    rw [ha] at e
    cases e
    refine core (fun _ => none) (fun _ => .inl rfl) (.inr ⟨_, vs.toArray, _, hk, rfl, rfl, rfl, by rw [List.size_toArray, lenV]; exact hl, by simpa using rv⟩) (fun b u z => by have z' : (none : Option HO) = some u := z; cases z') (fun b z => absurd rfl z) fun z => absurd rfl z
  | none =>
    refine core (fun b => if b = a then some (.frz { cls := .type "list", data := .seq vs.toArray } (.lst (ns.map V.int))) else none) (fun b => ?_) (.inl (.inr ⟨{ cls := .type "list", data := .seq vs.toArray }, if_pos rfl⟩)) (fun b u z => ?_) (fun b z => ?_) fun _ => hk
    · by_cases hb : b = a
      · exact .inr ⟨_, _, if_pos hb⟩
      · exact .inl (if_neg hb)
    · by_cases hb : b = a
      · have z' := (if_pos hb).symm.trans z
        cases z'
        subst hb
        exact ⟨ha, by rw [List.length_map]; exact hl, vs, _, rv, ha⟩
      · have z' := (if_neg hb).symm.trans z
        cases z'
    · by_cases hb : b = a
      · exact hb
      · exact absurd (if_neg hb) z
end L2
namespace L2
open PySem PySem.Spec PyProof.Rows
theorem walk_of {l : W.OpenLaw} {n k : Nat} {q : Program} {loose : List Str} {XP : (Str → Option Value) → Heap → Prop} {YP : World → Heap → Prop} {d : DefRec} {K : Params → W.Frag} {CX : World → CXT} {sp : World → Sp} {x : Str}
    (hn : l.most = some n) (hn2 : n ≤ sizeLine) (hdf : d.params.defaults = []) (hr : Room k callerA)
    (hY : ∀ (w : World) (h : Heap), YP w h → (K w.params).In h)
    (F : ∀ (w : World) (mg : Str → Option Value) (fa : Addr) (h : Heap), (K w.params).In h → h.Ns mainGlobals mg → mg d.name = some (.ref fa) →
      ∃ fd : FuncData, (∀ (s : Shared) (u : Value), BindsTo s fd ⟨[u], []⟩ [(x, u)]) ∧
        ∀ base : Heap, (K w.params).In base → base.Ns mainGlobals mg → FnOk l.prog w (K w.params) mg base (CX w) k fa fd [x] (sp w))
    (hsp : ∀ (w : World) (H : Hp) (a : Addr) (ns : List Int), ns.length ≤ n → Only H → SqL (K w.params) H a (ns.map V.int) → sp w [.ref a] H (fun v _ => v = .bl true) fun _ _ _ => False)
    (hCX : ∀ (w : World) (H : Hp) (s : Shared) (e : Value) (s' : Shared), CX w [] H s (fun _ _ _ => False) e s' → False) :
    W.WalkO q loose XP YP l.row.toRowW d [] (fun f vs => PySem.call f vs) := by
  refine Att.attach_call hn hdf fun w s₀ s₁ mg mb fa o pm cd doc a vs ns G Y ho hd hcd hmg hobj hints hlen hg => ?_
  have KX := hY w _ Y
  obtain ⟨fd, hb, hF⟩ := F w mg fa _ KX G.T.g hmg
  exact law_call KX G.T.g G.T.b G.T.builtins G.T.nolimit hg hobj hints (Nat.le_trans hlen hn2) hr hF hb (fun H hO hS => hsp w H a ns hlen hO hS) fun H e s' => hCX w H s₁ e s'
end L2
/- THE LAST THEOREM (shape; LID, My.* are yours):
   My.Adr: a structure of the addresses that your layer names (classes, functions); My.Txt K t: a structure (Prop) of the equations over K;
   My.txt_mk : {K} {implicit addresses ..} (e1 : nsIn K mainGlobals "law" = some (some (.ref f))) (e2 : K.lookup f = some ⟨oc, od, .func (fnOf "law" "law" params body scope dV kV doc pm an cdv ct), sl⟩) (e3 : codeIn K cdv "law" = true) .. : ∃ t, My.Txt K t
set_option maxRecDepth 100000 in
set_option maxHeartbeats 0 in
theorem PySem.Challenge.cw_LID_holds : PySem.Challenge.rw_LID.Holds := by
  w_on; o_law; k_head; (case hw => w_witness2)
  k_fill
  refine L2.walk_of (l := PySem.Challenge.rw_LID) (n := 63) (k := 40) (x := "script") (CX := fun w => ..) (sp := fun _ => My.sp_law) rfl (by decide) rfl ⟨rfl, by decide, by decide⟩ (fun w h Y => PySem.W.kIn_of Y) ?F ?S ?C
  case F =>
    intro w mg fa h KX G hmg
    have T : ∃ t, My.Txt (L2.KOf KX) t := by
      dsimp only [L2.KOf]                          -- K must stand as «<heap const> w.params» for k_is
      refine' My.txt_mk ?e1 ?e2 ?e3 ..
      (case e1 => PySem.W.k_is)                    -- in the order: a name -> its address -> its object -> its parts
      (case e2 => PySem.W.k_is)
      ..
    obtain ⟨t, T⟩ := T
    have e0 := hmg.symm.trans (PySem.W.mg_of KX G T.law)
    cases e0                                       -- fa is the law's own address
    exact ⟨_, fun s u => .of_eq rfl, fun base kb nb => My.law_fn T kb nb⟩     -- if «.of_eq rfl» comes too early: refine' ⟨_, ?b, fun base kb nb => My.law_fn T kb nb⟩; exact fun s u => .of_eq rfl
  case S => exact fun w H a ns hl hO hS => ..
  case C => exact ..
(the tactic k_is has no namespace: write k_is) -/
namespace L2
open PySem PySem.Spec PyProof.Rows
def defArgs (s : Stmt) : Arguments := match s with
  | .FunctionDef _ a _ _ _ _ _ _ _ _ => a
  | _ => { posonlyargs := [], args := [], vararg := none, kwonlyargs := [], kw_defaults := [], kwarg := none, defaults := [] }
def defBody (s : Stmt) : List Stmt := match s with
  | .FunctionDef _ _ b _ _ _ _ _ _ _ => b
  | _ => []
def defScope (s : Stmt) : Scope := match s with
  | .FunctionDef _ _ _ _ _ _ sc _ _ _ => sc
  | _ => { kind := .function, names := [], isGenerator := false, isCoroutine := false }
abbrev CX0 : CXT := fun _ _ _ _ _ _ => False
abbrev E0 : XK := fun _ _ _ => False
theorem pass0 {X : Cx} : Passes CX0 X E0 := fun _ _ _ _ _ _ _ h => h.elim
structure Fun (K : W.Frag) (x qual : Str) (st : Stmt) (f : Addr) (fd : FuncData) : Prop where
  ex : ∃ (oc : Value) (od : Option Addr) (kV doc pm : Value) (an : Option Addr) (cdv ct : Value) (osl : Array (Option Value)),
    fd = W.fnOf x qual (defArgs st) (defBody st) (defScope st) .none kV doc pm an cdv ct ∧ K.lookup f = some ⟨oc, od, .func fd, osl⟩ ∧ W.codeIn K cdv qual = true
  kp : W.keepIn K (.ref f) = true
section
variable {P : Program} {w : World} {K : W.Frag} {mg : Str → Option Value} {base : Heap}
theorem Fun.ok {x qual : Str} {st : Stmt} {f : Addr} {fd : FuncData} {N ps : List Str} {k : Nat} {sp : Sp} (F : Fun K x qual st f fd) (S : FnScope N ps (defScope st)) (len : ∀ vs H Q E, sp vs H Q E → vs.length = ps.length)
    (hbody : ∀ (cdv : Value) (A : Around) (outer : List Env) (s : Shared) (H : Hp) (vs : List V) (Q : VK) (E : XK), Room k (A.deeper (envOfC qual (defScope st) s.heap.objs.size f cdv)) → sp vs H Q E →
      ∃ t, PSs (cxOf CX0 P w K mg base N qual (defScope st) f cdv A outer s H E).nox (defBody st) t ∧ t { nx := fun _ H' => Q .non H', rt := Q } (start N vs) H) : FnOk P w K mg base CX0 (k + 1) f fd ps sp := by
  obtain ⟨oc, od, kV, doc, pm, an, cdv, ct, osl, rfl, lk, hcd⟩ := F.ex
  refine fn_of lk hcd S len fun A outer s H vs Q E hr hsp => ?_
  obtain ⟨t, h, q⟩ := hbody cdv A outer s H vs Q E hr hsp
  exact ⟨t, h.nox, q⟩
theorem Fun.binds {x qual : Str} {st : Stmt} {f : Addr} {fd : FuncData} {ps : List Str} (F : Fun K x qual st f fd)
    (h : ∀ (kV doc pm : Value) (an : Option Addr) (cdv ct : Value) (us : List Value), us.length = ps.length → bindArgs (W.fnOf x qual (defArgs st) (defBody st) (defScope st) .none kV doc pm an cdv ct) ⟨us, []⟩ = pure (ps.zip us)) : Binds K fd ps [] := by
  obtain ⟨oc, od, kV, doc, pm, an, cdv, ct, osl, rfl, lk, hcd⟩ := F.ex
  exact .all (h kV doc pm an cdv ct)
theorem fun_mk {x qual : Str} {st : Stmt} {f : Addr} {oc : Value} {od an : Option Addr} {osl : Array (Option Value)} {kV doc pm cdv ct : Value} (l : K.lookup f = some ⟨oc, od, .func (W.fnOf x qual (defArgs st) (defBody st) (defScope st) .none kV doc pm an cdv ct), osl⟩)
    (c : W.codeIn K cdv qual = true) (k : W.keepIn K (.ref f) = true) : Fun K x qual st f (W.fnOf x qual (defArgs st) (defBody st) (defScope st) .none kV doc pm an cdv ct) := ⟨⟨oc, od, kV, doc, pm, an, cdv, ct, osl, rfl, l, c⟩, k⟩
end
theorem hu_of {A : Around} {k : Nat} (hr : Room k A) : A.units + 1 < cLine := Nat.lt_of_le_of_lt (Nat.add_le_add_left (by decide : 1 ≤ 64) _) hr.units
section
variable {X : Cx}
theorem pv (i : Nat) {x : Str} {pos : Pos} (hN : X.N[i]? = some x := by rfl) (hv : Vis X.env.scope x := by first | exact Or.inl rfl | exact Or.inr (Or.inl rfl) | exact Or.inr (Or.inr rfl)) (hd : (x == ("__debug__" : Str)) = false := by decide)
    (hcd : (x == ("__classdict__" : Str)) = false := by decide) : PE X (.Name x pos) (tVar i) := pe_var hN hv hd hcd
end
theorem iteF {A B : Prop} (h : B) : if false = true then A else B := by
  rw [if_neg Bool.false_ne_true]
  exact h
theorem iteT {A B : Prop} (h : A) : if true = true then A else B := by
  rw [if_pos rfl]
  exact h
theorem ite2 {c A B : Prop} [Decidable c] (h1 : c → A) (h2 : ¬ c → B) : if c then A else B := by
  by_cases h : c
  · rw [if_pos h]
    exact h1 h
  · rw [if_neg h]
    exact h2 h
def Same (H H' : Hp) : Prop := ∀ b o, H b = some o → H' b = some o
theorem Same.refl (H : Hp) : Same H H := fun _ _ h => h
theorem Same.trans {H H1 H2 : Hp} (a : Same H H1) (b : Same H1 H2) : Same H H2 := fun c o h => b c o (a c o h)
theorem Same.free {H H' : Hp} (e : Same H H') {l : Addr} (h : H' l = Option.none) : H l = Option.none := by
  cases q : H l with
  | none => rfl
  | some o =>
    rw [e l o q] at h
    cases h
end L2
set_option maxHeartbeats 4000000
namespace L2
open PySem PySem.Spec PyProof.Rows
theorem obj_at {P : Program} {w : World} {H : Hp} {h : Heap} {a : Addr} {o : HO} (x : ObjOk P w H h a o) : ∃ u, h.get? a = some u := by
  cases o with
  | lst xs => obtain ⟨_, _, _, _, e⟩ := x; exact ⟨_, e⟩
  | tup xs => obtain ⟨_, _, _, _, e, _⟩ := x; exact ⟨_, e⟩
  | dK kvs => obtain ⟨_, _, _, _, o, _, _, e, _⟩ := x; exact ⟨_, e⟩
  | dT kvs => obtain ⟨_, _, _, _, o, _, _, e, _⟩ := x; exact ⟨_, e⟩
  | set S n => obtain ⟨o, _, _, _, e, _⟩ := x; exact ⟨_, e⟩
  | ins C dx fs => obtain ⟨_, _, _, e, _⟩ := x; exact ⟨_, e⟩
  | own y => obtain ⟨_, e⟩ := x; exact ⟨_, e⟩
  | xd fs => obtain ⟨_, ⟨_, _, _, e, _⟩, _⟩ := x; exact ⟨_, e⟩
  | rng lo hi => obtain ⟨_, _, _, e⟩ := x; exact ⟨_, e⟩
  | frz ob u => obtain ⟨e, _⟩ := x; exact ⟨_, e⟩
  | tbl ps => exact ⟨_, show h.get? a = some _ from x⟩
  | met f y => exact ⟨_, show h.get? a = some _ from x⟩
  | ext φ => obtain ⟨_, ⟨_, e⟩, _⟩ := x; exact ⟨_, e⟩
def Trc (h : Heap) (e : Addr) (cls : Value) (T : Addr) : Prop :=
  ∃ a0 oe vs oT ts, h.get? e = some oe ∧ (oe.cls = cls ∧ vs[0]? = some a0) ∧ oe.data = .fields vs ∧ vs[1]? = some (.ref T) ∧ T ≠ e ∧ h.get? T = some oT ∧ oT.data = .fields ts ∧ ts[3]? = some .none
theorem Trc.traced {h B : Heap} {e T : Addr} {cls : Value} (x : Trc h e cls T) (hT : B.get? T = none) : ∃ a0, h.TracedW B e cls a0 := by
  obtain ⟨a0, oe, vs, oT, ts, x1, x2, x3, x4, x5, x6⟩ := x
  exact ⟨a0, oe, vs, T, oT, ts, x1, x2, x3, x4, hT, x5, x6⟩
theorem trc_of {h B : Heap} {e : Addr} {cls a0 : Value} (x : h.TracedW B e cls a0) : ∃ T, Trc h e cls T ∧ B.get? T = none := by
  obtain ⟨oe, vs, T, oT, ts, x1, x2, x3, x4, hT, x5, x6⟩ := x
  exact ⟨T, ⟨a0, oe, vs, oT, ts, x1, x2, x3, x4, x5, x6⟩, hT⟩
structure Fly (h0 : Heap) (H : Hp) (e : Addr) (cls : Value) (h : Heap) : Prop where
  new : h0.get? e = none
  free : H e = none
  tr : ∃ T, Trc h e cls T ∧ h0.get? T = none ∧ H T = none
def CX1 (P : Program) (w : World) : CXT := fun outer H s E e s' =>
  ∃ (ea : Addr) (cls : Value) (H' : Hp), e = .ref ea ∧ s'.os = s.os ∧ AllBare s'.gens ∧ Un (frs outer) [] H H' s.heap s'.heap ∧ HOk P w H' s'.heap ∧ Fly s.heap H' ea cls s'.heap ∧ E cls none H'
section
variable {X : Cx} {pins : List (Addr × Obj)} {σ : St} {H : Hp} {s : Shared}
theorem frSub (hso : X.stack = X.env :: X.outer) {b : Addr} (hb : b ∈ X.fs) : b ∈ frs X.stack := by
  rw [hso]
  obtain ⟨env, he, hf⟩ := List.mem_filterMap.mp hb
  exact List.mem_filterMap.mpr ⟨env, List.mem_cons_of_mem _ he, hf⟩
theorem frObj (I : Inv X pins σ H s) {b : Addr} (hb : b ∈ frs X.stack) : ∃ o, s.heap.get? b = some o ∧ ∀ vs, o.data ≠ .fields vs := (I.stack.mem hb).2
theorem cx_left {h' : Heap} {e : Addr} {cls a0 : Value} {l : List Addr} {E : XK} (I : Inv X pins σ H s) (hex : X.ex = []) (hso : X.stack = X.env :: X.outer)
    (hl : ∀ b ∈ l, H b = none ∧ X.s₀.heap.get? b = none) (he : H e = none) (he0 : X.s₀.heap.get? e = none)
    (st : ∀ b o, b ∉ frs X.stack → b ∉ l → s.heap.get? b = some o → h'.get? b = some o) (up : s.heap.UpToSlots h')
    (tr : h'.TracedW (W.hideAll s.heap (frs X.stack ++ l)) e cls a0) (q : E cls none H) :
    CX1 X.prog X.w X.outer X.H₀ X.s₀ E (.ref e) { s with heap := h' } := by
  have noex : ∀ b, b ∉ X.ex := fun b z => by rw [hex] at z; exact absurd z (by simp)
  have nfr : ∀ b o, X.s₀.heap.get? b = some o → b ∉ X.fs → b ∉ frs X.stack := fun b o e1 nb z => by
    rcases List.mem_cons.mp (I.stkSub b z) with r | r
    · exact absurd (Nat.lt_of_lt_of_le (Heap.lt_size e1) I.ok.above) (by rw [r]; exact Nat.lt_irrefl _)
    · exact nb r
  have nl : ∀ b o, X.s₀.heap.get? b = some o → b ∉ l := fun b o e1 z => by rw [(hl b z).2] at e1; cases e1
  have frUp : ∀ b, b ∈ frs X.stack → ∃ o sl, s.heap.get? b = some o ∧ (∀ vs, o.data ≠ .fields vs) ∧ h'.get? b = some { o with slots := sl } := fun b hb => by
    obtain ⟨o, e1, nd⟩ := frObj I hb
    obtain ⟨sl, e2⟩ := up b o e1 nd
    exact ⟨o, sl, e1, nd, e2⟩
  obtain ⟨T, trc, hT⟩ := trc_of tr
  refine ⟨e, cls, H, rfl, I.os, I.bare, ⟨fun b o e1 n hb _ => ?_, fun b o e1 n hb _ => ?_, fun b o e1 n _ => I.base.free b o e1 n (noex b), fun b o e1 _ => ?_, I.base.tups, I.base.frzs, I.base.tbls⟩, fun a o ea => ?_, ⟨he0, he, T, trc, ?_, ?_⟩, q⟩
  · exact st b o (nfr b o e1 hb) (nl b o e1) (I.base.keep b o e1 n hb (noex b))
  · obtain ⟨sl, e2⟩ := I.base.slot b o e1 n hb (noex b)
    obtain ⟨o', sl', e3, nd, e4⟩ := frUp b (frSub hso hb)
    rw [e2] at e3
    cases e3
    exact ⟨sl', e4⟩
  · obtain ⟨o', e2⟩ := I.base.there b o e1 (noex b)
    by_cases hb : b ∈ frs X.stack
    · obtain ⟨_, _, _, _, e4⟩ := frUp b hb
      exact ⟨_, e4⟩
    · exact ⟨o', st b o' hb (nl b o e1) e2⟩
  · refine (I.hok a o ea).stay (fun b u hb e1 => st b u (fun z => ?_) (fun z => ?_) e1) (fun _ z => z) fun _ _ z => z
    · have n := I.stkFree b z
      rcases hb with r | r
      · rw [r, ea] at n; cases n
      · rw [r] at n; cases n
    · have n := (hl b z).1
      rcases hb with r | r
      · rw [r, ea] at n; cases n
      · rw [r] at n; cases n
  all_goals
    have nfT : T ∉ frs X.stack := fun z => by
      obtain ⟨o, sl, _, nd, e4⟩ := frUp T z
      obtain ⟨_, _, _, oT, ts, _, _, _, _, _, e5, e6, _⟩ := trc
      rw [e4] at e5
      cases e5
      exact nd ts e6
    have old : T ∈ l ∨ s.heap.get? T = none := by
      by_cases z : T ∈ l
      · exact .inl z
      · refine .inr ?_
        cases e1 : s.heap.get? T with
        | none => rfl
        | some o =>
          rw [W.hideAll_get _ e1 (fun m => (List.mem_append.mp m).elim nfT z)] at hT
          cases hT
  · rcases old with z | z
    · exact (hl T z).2
    · cases e1 : X.s₀.heap.get? T with
      | none => rfl
      | some o =>
        obtain ⟨o', e2⟩ := I.base.there T o e1 (noex T)
        rw [z] at e2
        cases e2
  · rcases old with z | z
    · exact (hl T z).1
    · cases e1 : H T with
      | none => rfl
      | some o =>
        obtain ⟨u, e2⟩ := obj_at (I.hok T o e1)
        rw [z] at e2
        cases e2
end
def PassesS (CX : CXT) (X : Cx) (E : St → XK) : Prop := ∀ (pins : List (Addr × Obj)) (σ : St) (H : Hp) (s : Shared) (e : Value) (s' : Shared), Inv X pins σ H s → CX X.stack H s (E σ) e s' → X.xe e s'
def Raises (X : Cx) (E : St → XK) : Prop := ∀ (pins : List (Addr × Obj)) (σ : St) (H : Hp) (s : Shared) (h' : Heap) (e : Addr) (cls : Value) (vs : List Value), Inv X pins σ H s → Heap.MadeExcOf s.heap h' e cls vs → E σ cls none H → X.xe (.ref e) { s with heap := h' }
def tCallX (sp : Sp) (dvs : List V) (E : St → XK) (t : TA) : TE := fun σ H Q => t σ H fun vs H1 => sp (vs ++ dvs) H1 Q (E σ)
section
variable {X : Cx} {CX : CXT} {k : Nat} {f C : Addr} {fd : FuncData} {ps : List Str} {sp : Sp} {dvs : List V} {ds : List Value} {E : St → XK} {x m : Str} {p pos apos : Pos} {e o : Expr} {es : List Expr} {ta : TE} {t : TA}
theorem run_fnX {pins : List (Addr × Obj)} {σ : St} {H : Hp} {s : Shared} {Q : VK} {us : List Value} {vs : List V} (F : FnOk X.prog X.w X.K X.mg X.base CX k f fd ps sp) (hr : Room k X.A) (hb : Binds X.K fd ps ds) (hd : Vals dvs ds) (hx : PassesS CX X E)
    (I : Inv X pins σ H s) (r : Vals vs us) (h : sp (vs ++ dvs) H Q (E σ)) : wpAny (model X.prog X.w) X.A (call (.ref f) us) (EP X pins σ Q) X.xe s := by
  have r2 : Vals (vs ++ dvs) (us ++ ds) := r.append hd
  have hl : (us ++ ds).length = ps.length := by rw [← r2.length]; exact F.len _ _ _ _ h
  refine wpAny_call (codeAny_mono (F.run X.A X.stack s H ⟨us, []⟩ (us ++ ds) (vs ++ dvs) Q (E σ) hr I.env0 (hb s us I.kIn hl) r2 h) fun r s' hq => ?_)
  cases r with
  | error e => exact hx pins σ H s e s' I hq
  | ok fl =>
    cases fl with
    | ret u => exact I.after hq
    | next => exact False.elim hq
    | brk => exact False.elim hq
    | cont => exact False.elim hq
theorem pe_callX (F : FnOk X.prog X.w X.K X.mg X.base CX k f fd ps sp) (hr : Room k X.A) (hg : Gl X x) (hm : X.mg x = some (.ref f)) (hk : W.keepIn X.K (.ref f) = true) (hb : Binds X.K fd ps ds) (hd : Vals dvs ds) (hx : PassesS CX X E)
    (ha : PA X (e :: es) t) (hdb : (x == ("__debug__" : Str)) = false := by decide) (he : starEach (e :: es) X.env = (false, eval e X.env) :: starEach es X.env := by rfl) (hpl : (backTo pos (starEach es X.env)).any (·.1) = false := by rfl) :
    PE X (.Call (.Name x p) (e :: es) [] pos) (tCallX sp dvs E t) := by
  intro pins s σ H Q I h
  refine wpAny_Call_Name_kw (ld_glob I hg hm ?_ hdb)
  refine W.callWith_K (h₀ := X.base) I.ok.mod.kin hk (thn (ha pos pins s σ H _ I h) fun us s1 ⟨vs, H1, I1, r, q⟩ => ⟨I1.kIn, ?_⟩) he hpl
  exact run_fnX F hr hb hd hx I1 r q
end
theorem passS0 {X : Cx} {E : St → XK} : PassesS CX0 X E := fun _ _ _ _ _ _ _ h => h.elim
section
variable {P : Program} {w : World} {K : W.Frag} {mg : Str → Option Value} {base : Heap} {N : List Str} {qual : Str} {scope : Scope} {f : Addr} {cd : Value} {A : Around} {outer : List Env} {s₁ : Shared} {H₁ : Hp} {E : XK}
theorem pass_def : PassesS (CX1 P w) (cxOf (CX1 P w) P w K mg base N qual scope f cd A outer s₁ H₁ E) (fun _ => E) := by
  intro pins σ H s e s' I hx
  obtain ⟨ea, cls, H', rfl, ho, hg, un, hok, fl, q⟩ := hx
  have I' := I.call' (ch := []) ho un hok hg (fun b z => absurd z (by simp))
  obtain ⟨T, trc, hT0, hTH⟩ := fl.tr
  have up : ∀ b, s.heap.get? b = none → s₁.heap.get? b = none := fun b hb => by
    cases e1 : s₁.heap.get? b with
    | none => rfl
    | some o =>
      obtain ⟨o', e2⟩ := I.base.there b o e1 (by intro z; exact absurd (show b ∈ ([] : List Addr) from z) (by simp))
      rw [hb] at e2
      cases e2
  have hB : ∀ b ∈ [ea, T], (W.hideAll s'.heap (frs (cxOf (CX1 P w) P w K mg base N qual scope f cd A outer s₁ H₁ E).stack ++ [ea, T])).get? b = none := fun b hb => W.hideAll_none _ (List.mem_append_right _ hb)
  obtain ⟨a0, tw⟩ := trc.traced (hB T (by simp))
  show wpAny (model P w) (A.deeper (envOfC qual scope s₁.heap.objs.size f cd)) (leaving (envOfC qual scope s₁.heap.objs.size f cd) (.ref ea)) _ _ s'
  refine wpAny_leaving_nextW (outer := outer) (L := s₁.heap.objs.size) I'.ok.frames (W.funFrames_hide I'.stack fun env he a ha => List.mem_append_left _ (List.mem_filterMap.mpr ⟨env, he, ha⟩)) rfl tw (fun b o z => W.of_hideAll _ z) (hB ea (by simp)) fun h' hL => ?_
  obtain ⟨k1, k2, k3, k4⟩ := hL
  exact cx_left (X := cxOf (CX1 P w) P w K mg base N qual scope f cd A outer s₁ H₁ E) (l := [ea, T]) I' rfl rfl
    (fun b hb => by
      rcases List.mem_cons.mp hb with z | z
      · rw [z]; exact ⟨fl.free, up ea fl.new⟩
      · rw [List.mem_singleton.mp z]; exact ⟨hTH, up T hT0⟩)
    fl.free (up ea fl.new) (fun b o z1 z2 e1 => k1 b o (W.hideAll_get _ e1 fun m => (List.mem_append.mp m).elim z1 z2)) k4 k3 q
theorem raises_def : Raises (cxOf (CX1 P w) P w K mg base N qual scope f cd A outer s₁ H₁ E) (fun _ => E) := by
  intro pins σ H s h1 e cls vs I hm q
  show wpAny (model P w) (A.deeper (envOfC qual scope s₁.heap.objs.size f cd)) (leaving (envOfC qual scope s₁.heap.objs.size f cd) (.ref e)) _ _ { s with heap := h1 }
  have hn : H e = none := by
    cases e1 : H e with
    | none => rfl
    | some o =>
      obtain ⟨u, e2⟩ := obj_at (I.hok e o e1)
      rw [hm.new] at e2
      cases e2
  have h0 : s₁.heap.get? e = none := by
    cases e1 : s₁.heap.get? e with
    | none => rfl
    | some o =>
      obtain ⟨o', e2⟩ := I.base.there e o e1 (by intro z; exact absurd (show e ∈ ([] : List Addr) from z) (by simp))
      rw [hm.new] at e2
      cases e2
  refine wpAny_leaves_madeW (base := W.hideAll s.heap (frs (cxOf (CX1 P w) P w K mg base N qual scope f cd A outer s₁ H₁ E).stack ++ [])) (h := s.heap) (outer := outer) (L := s₁.heap.objs.size) (cls := cls) (args := vs) I.ok.frames rfl (fun b o z => W.of_hideAll _ z)
    (W.funFrames_hide I.stack fun env he a ha => List.mem_append_left _ (List.mem_filterMap.mpr ⟨env, he, ha⟩)) hm fun h' t fl _ _ ups => ?_
  obtain ⟨k1, k2, k3, k4⟩ := fl
  exact cx_left (X := cxOf (CX1 P w) P w K mg base N qual scope f cd A outer s₁ H₁ E) (s := s) (l := []) I rfl rfl (fun b z => absurd z (by simp)) hn h0
    (fun b o z1 z2 e1 => k1 b o (W.hideAll_get _ e1 fun m => (List.mem_append.mp m).elim z1 z2)) ((Heap.UpToSlots.of_keeps hm.keeps).trans ups) k4 q
end
theorem Fun.okX {P : Program} {w : World} {K : W.Frag} {mg : Str → Option Value} {base : Heap} {x qual : Str} {st : Stmt} {f : Addr} {fd : FuncData} {N ps : List Str} {k : Nat} {sp : Sp} (F : Fun K x qual st f fd) (S : FnScope N ps (defScope st)) (len : ∀ vs H Q E, sp vs H Q E → vs.length = ps.length)
    (hbody : ∀ (X : Cx) (cdv : Value) (A : Around) (outer : List Env) (s : Shared) (H : Hp) (vs : List V) (Q : VK) (E : XK), X = cxOf (CX1 P w) P w K mg base N qual (defScope st) f cdv A outer s H E → PassesS (CX1 P w) X (fun _ => E) → Raises X (fun _ => E) →
      Room k X.A → sp vs H Q E → ∃ t, PSs X (defBody st) t ∧ t { nx := fun _ H' => Q .non H', rt := Q } (start N vs) H) : FnOk P w K mg base (CX1 P w) (k + 1) f fd ps sp := by
  obtain ⟨oc, od, kV, doc, pm, an, cdv, ct, osl, rfl, lk, hcd⟩ := F.ex
  refine fn_of lk hcd S len fun A outer s H vs Q E hr hsp => ?_
  exact hbody _ cdv A outer s H vs Q E rfl pass_def raises_def hr hsp
section
variable {X : Cx}
theorem PS.nox {st : Stmt} {t : TS} (h : PS X.nox st t) : PS X st t := fun pins s σ H D I hw =>
  wpAny_mono (h pins s σ H D (I.wish _) hw) (fun _ _ q => q.unwish) fun _ _ z => False.elim z
end
abbrev bmV : List Value := [.type "ValueError", .type "Exception", .type "BaseException", .type "object"]
theorem excAt {K : W.Frag} {h : Heap} {C : Addr} {bmB : List Value} {newId : String} (I : K.In h) (q : W.excIn K C bmB newId = true) :
    ∃ bm N nm qn bs hdct sn sub ab col dd k0 k1 k2 k3 k5 mN, h.get? C = some (excClassObj nm qn C N bs bm hdct sn sub ab col dd k0 k1 k2 k3 k5 newId) ∧ h.Ns N mN ∧ mN "__init__" = none ∧ OwnTail h bmB bm := by
  unfold W.excIn at q
  split at q
  case h_2 => cases q
  case h_1 dd cd sl lk =>
    split at q
    case h_2 => cases q
    case h_1 C' bm k0 k1 k2 k3 nid k5 em es =>
      rw [Bool.and_eq_true, Bool.and_eq_true, Bool.and_eq_true, Bool.and_eq_true, Bool.and_eq_true] at q
      obtain ⟨⟨⟨⟨⟨q1, q2⟩, q3⟩, q4⟩, q5⟩, q6⟩ := q
      have e1 : C' = C := beq_iff_eq.mp q1
      have e2 : nid = newId := beq_iff_eq.mp q2
      have e3 : cd.hasDel = false := by cases hh : cd.hasDel with
        | false => rfl
        | true => rw [hh] at q3; cases q3
      subst e1 e2
      have e4 : sl = #[k0, k1, k2, k3, some (.builtin nid), k5] := by
        cases sl with
        | mk l => exact congrArg Array.mk es
      cases cd with
      | mk name bases mro ns qualname hasDict slotNames subclasses abstract collection hasDel =>
        simp only at em e3
        subst em e3 e4
        exact ⟨bm, ns, name, qualname, bases, hasDict, slotNames, subclasses, abstract, collection, dd, k0, k1, k2, k3, k5, _, I _ _ lk,
          .of_isNs (W.isNs_of_in I q5), W.nsMap_none_of_in I q5 (beq_iff_eq.mp q6), W.tail_of_in I q4⟩
structure OwnX (K : W.Frag) (mg : Str → Option Value) (x : Str) (C : Addr) : Prop where
  bound : mg x = some (.ref C)
  ok : W.excIn K C bmV "ValueError.__new__" = true
def tRaise (C : Addr) (E : St → XK) (t : TA) : TS := fun _ σ H => t σ H fun vs H1 => vs.length ≤ sizeLine ∧ E σ (.ref C) none H1
theorem ps_raise {X : Cx} {E : St → XK} {x : Str} {C : Addr} {np cpos pos : Pos} {e₀ : Expr} {rest : List Expr} {t : TA} (hc : X.calm = true) (hg : Gl X x) (O : OwnX X.K X.mg x C) (hr : Raises X E) (ha : PA X (e₀ :: rest) t)
    (hd : (x == ("__debug__" : Str)) = false := by decide) (he : starEach (e₀ :: rest) X.env = (false, eval e₀ X.env) :: starEach rest X.env := by rfl) (hpl : (backTo cpos (starEach rest X.env)).any (·.1) = false := by rfl) :
    PS X (.Raise (some (.Call (.Name x np) (e₀ :: rest) [] cpos)) none pos) (tRaise C E t) := by
  intro pins s σ H D I h
  obtain ⟨bm, N, nm, qn, bs, hdct, sn, sub, ab, col, dd, k0, k1, k2, k3, k5, mN, hC, hN, hni, T⟩ := excAt I.ok.mod.kin O.ok
  refine wpAny_Raise_call_subT (C := C) (nm := nm) (q := qn) (N := N) (bs := bs) (bm := bm) (hdct := hdct) (sn := sn) (sub := sub) (ab := ab) (col := col) (dd := dd) (k0 := k0) (k1 := k1) (k2 := k2) (k3 := k3) (k5 := k5) (mN := mN)
    PySem.F.excBase_ValueError (T.hasType (by decide +kernel)) (I.ok.hd hc) (by rw [he]; show (false || (backTo cpos (starEach rest X.env)).any (·.1)) = false; rw [hpl]; rfl) hni (ld_glob I hg O.bound ⟨rfl, ?_⟩ hd)
  have h2 := ha cpos pins s σ H _ I h
  rw [he] at h2 ⊢
  refine Calls.evalArgs_plain (thn h2 fun us s2 ⟨vs, H2, I2, r, q1, q2⟩ => ⟨rfl, by rw [← r.length]; exact q1, I2.bk _ _ hC, hN.keeps I2.bk, T.keeps I2.bk, fun h' e hm => ?_⟩)
  exact hr pins σ H2 s2 h' e _ _ I2 hm q2
end L2
namespace L2
open PySem PySem.Spec PyProof.Rows
theorem closure_fold {env : Env} : ∀ (names : List (Str × NameKind)) (acc : List (Str × Addr)), (∀ y ∈ names, y.2 = .free → ∃ c, env.cells.lookup y.1 = some c) →
    ∃ cl, (forIn (m := Sem) names acc fun (y : Str × NameKind) cs => (do if (y.2 == NameKind.free) = true then (do let c ← cellOf env y.1; pure (ForInStep.yield ((y.1, c) :: cs))) else pure (ForInStep.yield cs))) = pure cl ∧
      (∀ y c, cl.lookup y = some c → acc.lookup y = some c ∨ env.cells.lookup y = some c) ∧ (∀ y ∈ names, y.2 = .free → (cl.lookup y.1).isSome = true) ∧ ∀ y, (acc.lookup y).isSome = true → (cl.lookup y).isSome = true
  | [], acc, _ => ⟨acc, rfl, fun _ _ e => .inl e, (fun _ h => absurd h (by simp)), fun _ e => e⟩
  | (n, k) :: r, acc, h => by
    by_cases hk : k = .free
    · subst hk
      obtain ⟨c, hc⟩ := h (n, .free) List.mem_cons_self rfl
      obtain ⟨cl, e1, e2, e3, e4⟩ := closure_fold r ((n, c) :: acc) fun y hy => h y (List.mem_cons_of_mem _ hy)
      have look : ∀ y, List.lookup y ((n, c) :: acc) = if (y == n) = true then some c else acc.lookup y := fun y => by
        rw [List.lookup_cons]; cases (y == n) <;> rfl
      refine ⟨cl, ?_, fun y d e => ?_, fun y hy hf => ?_, fun y e => ?_⟩
      · rw [List.forIn_cons]
        have hco : cellOf env n = pure c := by unfold cellOf; rw [hc]
        simp only [beq_self_eq_true, if_true, hco, pure_bind]
        exact e1
      · rcases e2 y d e with z | z
        · rw [look] at z
          by_cases hy : (y == n) = true
          · rw [if_pos hy] at z
            have : y = n := by simpa using hy
            subst this
            rw [hc]; exact .inr z
          · rw [if_neg hy] at z; exact .inl z
        · exact .inr z
      · rcases List.mem_cons.mp hy with z | z
        · subst z
          exact e4 n (by rw [look, if_pos (by simp)]; rfl)
        · exact e3 y z hf
      · refine e4 y ?_
        rw [look]
        split
        · rfl
        · exact e
    · obtain ⟨cl, e1, e2, e3, e4⟩ := closure_fold r acc fun y hy => h y (List.mem_cons_of_mem _ hy)
      refine ⟨cl, ?_, e2, fun y hy hf => ?_, e4⟩
      · rw [List.forIn_cons]
        have hb : (k == NameKind.free) = false := by simpa using hk
        simp only [hb, Bool.false_eq_true, if_false, pure_bind]
        exact e1
      · rcases List.mem_cons.mp hy with z | z
        · subst z; exact absurd hf hk
        · exact e3 y z hf
theorem closure_of {scope : Scope} {env : Env} (h : ∀ y ∈ scope.names, y.2 = .free → ∃ c, env.cells.lookup y.1 = some c) :
    ∃ cl, closureFor scope env = pure cl ∧ (∀ y c, cl.lookup y = some c → env.cells.lookup y = some c) ∧ ∀ y ∈ scope.names, y.2 = .free → (cl.lookup y.1).isSome = true := by
  obtain ⟨cl, e1, e2, e3, _⟩ := closure_fold scope.names [] h
  refine ⟨cl, ?_, fun y c e => (e2 y c e).elim (fun z => by cases z) id, e3⟩
  have e : closureFor scope env = ((forIn (m := Sem) scope.names ([] : List (Str × Addr)) fun (y : Str × NameKind) cs => (do if (y.2 == NameKind.free) = true then (do let c ← cellOf env y.1; pure (ForInStep.yield ((y.1, c) :: cs))) else pure (ForInStep.yield cs))) >>= pure) := rfl
  rw [e, e1]
  rfl
def cxC (X : Cx) (scope : Scope) (cl : List (Str × Addr)) (x : Str) (C : Addr) (s₂ : Shared) (H₂ : Hp) (fp : List Addr) (pins : List (Addr × Obj)) : Cx where
  prog := X.prog
  w := X.w
  K := X.K
  mg := X.mg
  base := X.base
  A := X.A
  N := x :: X.N
  s₀ := s₂
  H₀ := H₂
  env := compEnvC scope cl C X.env
  outer := X.stack
  stack := X.stack
  ex := fp
  fn := fun _ => false
  calm := X.calm
  pn := X.pn ++ pins
  xe := fun _ _ => False
structure CScope (sc : Scope) (N : List Str) (scope : Scope) (x : Str) : Prop where
  kind : scope.kind = .function
  cell : ∀ y ∈ scope.names, y.2 ≠ .cell
  free : ∀ y ∈ scope.names, y.2 = .free → sc.names.lookup y.1 = some .cell ∨ sc.names.lookup y.1 = some .free
  names : ∀ y ∈ scope.names, y.2 = .local → scope.names.lookup y.1 = some .local
  var : scope.names.lookup x = some .local
  fresh : x ∉ N
  other : ∀ y ∈ N, scope.names.lookup y ≠ some .local
theorem relabel_lookup {scope : Scope} {env : Env} : ∀ {names : List (Str × NameKind)} {y : Str} {k : NameKind},
    (names.map fun (n, k) => if (k == NameKind.free && env.scope.kind == .function && env.kindOf n == some .cell) then (n, NameKind.cell) else (n, k)).lookup y = some k →
      ∃ k', names.lookup y = some k' ∧ (k' = k ∨ (k' = .free ∧ k = .cell))
  | [], _, _, h => by simp at h
  | (n, k0) :: r, y, k, h => by
    rw [List.map_cons] at h
    by_cases hy : (y == n) = true
    · have : y = n := by simpa using hy
      subst this
      by_cases hc : (k0 == NameKind.free && env.scope.kind == .function && env.kindOf y == some .cell) = true
      · simp only [hc, if_true, List.lookup_cons, beq_self_eq_true] at h
        cases h
        rw [Bool.and_eq_true, Bool.and_eq_true] at hc
        exact ⟨k0, by simp [List.lookup_cons], .inr ⟨by simpa using hc.1.1, rfl⟩⟩
      · simp only [hc, Bool.false_eq_true, if_false, List.lookup_cons, beq_self_eq_true] at h
        cases h
        exact ⟨k0, by simp [List.lookup_cons], .inl rfl⟩
    · have hy' : (y == n) = false := by simpa using hy
      have h' : (r.map fun (n, k) => if (k == NameKind.free && env.scope.kind == .function && env.kindOf n == some .cell) then (n, NameKind.cell) else (n, k)).lookup y = some k := by
        by_cases hc : (k0 == NameKind.free && env.scope.kind == .function && env.kindOf n == some .cell) = true
        · simp only [hc, if_true, List.lookup_cons, hy'] at h; exact h
        · simp only [hc, Bool.false_eq_true, if_false, List.lookup_cons, hy'] at h; exact h
      obtain ⟨k', e1, e2⟩ := relabel_lookup (scope := scope) (env := env) h'
      exact ⟨k', by rw [List.lookup_cons, hy']; exact e1, e2⟩
section
variable {X : Cx} {scope : Scope} {cl : List (Str × Addr)} {x : Str} {C D : Addr} {s₂ : Shared} {H₂ : Hp} {fp : List Addr} {pins : List (Addr × Obj)} {σ : St}
abbrev plainL (its : List Value) (n : Nat) : Obj := { cls := .type "list", data := .seq its.toArray n }
theorem inv_block {h₁ : Heap} {t' : Nat} {its : List Value} {n : Nat} (I : Inv X pins σ H₂ s₂) (S : CScope X.env.scope X.N scope x) (hfp : ∀ b ∈ fp, FpOk X pins H₂ b) (hfo : ∀ b ∈ fp, ∃ o, s₂.heap.get? b = some o)
    (hcl : ∀ y c, cl.lookup y = some c → X.env.cells.lookup y = some c)
    (hcf : ∀ y ∈ scope.names, y.2 = .free → (cl.lookup y.1).isSome = true) (hD : s₂.heap.objs.size ≤ D) (hC : s₂.heap.objs.size ≤ C) (hDC : D ≠ C) (hns : ∃ m, h₁.Ns C m) (hd : h₁.get? D = some (plainL its n))
    (keep : ∀ b o, s₂.heap.get? b = some o → h₁.get? b = some o) :
    Inv (cxC X scope cl x C s₂ H₂ fp pins) [(D, plainL its n)] (none :: σ) H₂ { s₂ with heap := h₁, toks := t' } := by
  have lk : ∀ {y : Str} {k : NameKind}, (compEnvC scope cl C X.env).kindOf y = some k → ∃ k', scope.names.lookup y = some k' ∧ (k' = k ∨ (k' = .free ∧ k = .cell)) := fun {y k} h => relabel_lookup (scope := scope) h
  have isfree : ∀ {y : Str}, ((compEnvC scope cl C X.env).kindOf y = some .cell ∨ (compEnvC scope cl C X.env).kindOf y = some .free) → scope.names.lookup y = some .free := fun {y} h => by
    rcases h with h | h
    · obtain ⟨k', e1, e2⟩ := lk h
      rcases e2 with z | z
      · subst z; exact absurd rfl (S.cell _ (PySem.mem_of_lookup e1))
      · rw [z.1] at e1; exact e1
    · obtain ⟨k', e1, e2⟩ := lk h
      rcases e2 with z | z
      · rw [z] at e1; exact e1
      · exact absurd z.2 (by decide)
  have sz := I.sz
  have new : ∀ b, s₂.heap.objs.size ≤ b → b ∉ frs X.stack := fun b hb z => by
    rcases List.mem_cons.mp (I.stkSub b z) with r | r
    · exact absurd (Nat.lt_of_lt_of_le I.lt hb) (by rw [r]; exact Nat.lt_irrefl _)
    · exact I.nofs hb r
  have neC : ∀ b o, s₂.heap.get? b = some o → b ≠ C := fun b o e => Nat.ne_of_lt (Nat.lt_of_lt_of_le (Heap.lt_size e) hC)
  refine ⟨⟨I.ok.mod, S.kind, I.ok.glob, I.ok.blt, hC, fun y z c h1 h2 => I.ok.inj y z c (hcl y c h1) (hcl z c h2), fun y hy => ?_, fun y c h => absurd h (by show ¬ (false = true); decide), I.ok.hd, I.ok.frames, .inl rfl, fun b hb => ⟨?_, fun y c h => ?_⟩, I.bs, Nat.le_trans I.ok.bsz sz, fun b o e hb => ?_, fun b hb z => ?_, I.stack, I.stkFree⟩,
    rfl, I.bare, Un.kept keep, ?_, fun y c h => ?_, I.hok.fresh hC, fun y c h => I.freeC y c (hcl y c h), fun p hp => ?_, I.hok.kept keep, ?_⟩
  · have e := isfree hy
    exact Option.isSome_iff_exists.mp (hcf (y, .free) (PySem.mem_of_lookup e) rfl)
  · obtain ⟨o, e⟩ := hfo b hb
    exact neC b o e
  · exact (hfp b hb).2.2.2.2.1 y c (hcl y c h)
  · obtain ⟨_, _, _, hx, _⟩ := hfp b hb
    rcases hx with r | r
    · exact I.ok.noex b o e r
    · exact absurd (Nat.lt_of_lt_of_le (Heap.lt_size (I.ok.bs b o e).1) r) (Nat.lt_irrefl _)
  · obtain ⟨_, hL, hf, _⟩ := hfp b hb
    rcases List.mem_cons.mp (I.stkSub b z) with r | r
    · exact hL r
    · exact hf r
  · obtain ⟨m, hm⟩ := hns
    obtain ⟨m', _, hl⟩ := I.loc
    refine ⟨m, hm, fun i y v e1 e2 e3 => ?_⟩
    cases i with
    | zero => cases (show some (none : Option V) = some (some v) from e2)
    | succ i =>
      have e1' : X.N[i]? = some y := e1
      have e2' : σ[i]? = some (some v) := e2
      have fr : scope.names.lookup y = some .free := by
        rcases e3 with z | z
        · obtain ⟨k', q1, q2⟩ := lk z
          rcases q2 with q2 | q2
          · rw [q2] at q1; exact absurd q1 (S.other y (List.mem_of_getElem? e1'))
          · exact absurd q2.2 (by decide)
        · exact isfree z
      have kd : (compEnvC scope cl C X.env).kindOf y = some .cell ∨ (compEnvC scope cl C X.env).kindOf y = some .free := by
        rcases e3 with z | z
        · obtain ⟨k', q1, q2⟩ := lk z
          rw [fr] at q1
          cases q1
          rcases q2 with q2 | q2
          · cases q2
          · exact absurd q2.2 (by decide)
        · exact z
      have kx := S.free (y, .free) (PySem.mem_of_lookup fr) rfl
      obtain ⟨u, r, q⟩ := hl i y v e1' e2' (.inr kx)
      refine ⟨u, r, .inr ⟨kd, ?_⟩⟩
      obtain ⟨c, hc⟩ := Option.isSome_iff_exists.mp (hcf (y, .free) (PySem.mem_of_lookup fr) rfl)
      refine ⟨c, hc, ?_⟩
      rcases q with ⟨ql, _⟩ | ⟨_, c', hc', z⟩
      · have ql' : X.env.scope.names.lookup y = some .local := ql
        rcases kx with kx | kx <;> (rw [ql'] at kx; cases kx)
      · have := hcl y c hc
        rw [hc'] at this
        cases this
        obtain ⟨o, ho, hd⟩ := z
        exact ⟨o, keep _ _ ho, hd⟩
  · obtain ⟨v, o, ho, hd⟩ := I.cell y c (hcl y c h)
    exact ⟨v, o, keep _ _ ho, hd⟩
  · rcases List.mem_append.mp hp with z | z
    · obtain ⟨e, n0, ne, nf, d⟩ := I.pin p z
      refine ⟨keep _ _ e, n0, neC _ _ e, fun q => ?_, d⟩
      rcases List.mem_cons.mp (I.stkSub _ q) with r | r
      · exact ne r
      · exact nf r
    · rw [List.mem_singleton.mp z]
      exact ⟨hd, I.hok.fresh hD, hDC, new D hD, fun v q => nomatch q⟩
  · show σ.length + 1 = X.N.length + 1
    rw [I.len]
theorem inv_back {h'' : Heap} {s' : Shared} {H' : Hp} {σ' : St} {its : List Value} {n : Nat} {ys : List V} (I : Inv X pins σ H₂ s₂) (hfp : ∀ b ∈ fp, FpOk X pins H₂ b) (hD : s₂.heap.objs.size ≤ D) (hC : s₂.heap.objs.size ≤ C)
    (J : Inv (cxC X scope cl x C s₂ H₂ fp pins) [(D, plainL its n)] σ' H' s') (hs : Heap.SameBut C s'.heap h'') (r : Vals ys its) (hz : ys.length ≤ sizeLine) :
    Inv X pins σ (upd H' D (.lst ys)) { s' with heap := h'' } ∧ H' D = none := by
  obtain ⟨eD, nD, neD, _, _⟩ := J.pin (D, plainL its n) (List.mem_append_right _ List.mem_cons_self)
  have kp : ∀ b, b ≠ C → h''.get? b = s'.heap.get? b := fun b hb => hs.2 b hb
  have neC : ∀ b o, s₂.heap.get? b = some o → b ≠ C := fun b o e => Nat.ne_of_lt (Nat.lt_of_lt_of_le (Heap.lt_size e) hC)
  have neD' : ∀ b o, s₂.heap.get? b = some o → b ≠ D := fun b o e => Nat.ne_of_lt (Nat.lt_of_lt_of_le (Heap.lt_size e) hD)
  have trC : ∀ b u, H' b = some u → b ≠ C := fun b u e z => by
    have f : H' C = none := J.free
    rw [z, f] at e; cases e
  have un := J.base
  refine ⟨I.call' (ch := fp) J.os ⟨fun b o e m hb hx => ?_, fun b o e m hb hx => ?_, fun b o e m hx => ?_, fun b o e hx => ?_, fun b xs e => ?_, fun b o u e => ?_, fun b ps e => ?_⟩ ?_ J.bare (fun b hb => ?_), nD⟩
  · exact (kp b (neC b o e)).trans (un.keep b o e m hb hx)
  · obtain ⟨sl, q⟩ := un.slot b o e m hb hx
    exact ⟨sl, (kp b (neC b o e)).trans q⟩
  · rw [upd_ne (neD' b o e)]; exact un.free b o e m hx
  · obtain ⟨o', q⟩ := un.there b o e hx
    exact ⟨o', (kp b (neC b o e)).trans q⟩
  · have q := un.tups b xs e
    rw [upd_ne (ne_of_none q nD)]; exact q
  · have q := un.frzs b o u e
    rw [upd_ne (ne_of_none q nD)]; exact q
  · obtain ⟨m, q⟩ := un.tbls b ps e
    exact ⟨m, by rw [upd_ne (ne_of_none q nD)]; exact q⟩
  · intro a o e
    by_cases ha : a = D
    · subst ha
      rw [upd_same] at e
      cases e
      exact ⟨hz, its, n, r, (kp _ neD).trans eD⟩
    · rw [upd_ne ha] at e
      refine (J.hok a o e).stay (fun b u hb q => (kp b ?_).trans q) (fun b q => by rw [upd_ne (ne_of_none q nD)]; exact q) fun b xs q => by rw [upd_ne (ne_of_none q nD)]; exact q
      rcases hb with z | z
      · rw [z]; exact trC a o e
      · exact trC b _ z
  · obtain ⟨_, h2, _, h4, h5, h6⟩ := hfp b hb
    exact ⟨h4, h2, h5, h6⟩
end
def CompW (J : It) (σ : St) (tt : TT) (te : TE) (Q : VK) (H1 : Hp) : Prop := ∃ W : Nat → Nat → List V → Hp → Prop, (∃ m, W 0 m [] H1) ∧ ∀ i m ys H2, W i m ys H2 →
  (J.stop i H2 ∧ ys.length ≤ sizeLine ∧ ∀ p, H2 p = none → Q (.ref p) (upd H2 p (.lst ys))) ∨
  (J.go i H2 ∧ ys.length < sizeLine ∧ ∃ N : List V → Hp → Prop, (∀ zs H', N zs H' → ∃ m', m' < m ∧ W (i + 1) m' zs H') ∧ ∀ x H3, J.yld i H2 x H3 → tt (some x :: σ) H3 fun b H4 => if b = true then te (some x :: σ) H4 fun y H5 => N (ys ++ [y]) H5 else N ys H4)
def tComp (wi : TI) (tt : TT) (te : TE) : TE := fun σ H Q => wi σ H fun J H1 => CompW J σ tt te Q H1
def tTrue : TT := fun _ H Q => Q true H
theorem goT {σ : St} {H : Hp} {Q : Bool → Hp → Prop} (h : Q true H) : tTrue σ H Q := h
def PTs (Y : Cx) (ifs : List Expr) (t : TT) : Prop :=
  ∀ (pins : List (Addr × Obj)) (s : Shared) (σ : St) (H : Hp) (Q : Bool → Hp → Prop), Inv Y pins σ H s → t σ H Q →
    wpAny (model Y.prog Y.w) Y.A (forIn ifs true fun c r => if r = true then do let ok ← isTrue c Y.env (eval c Y.env); pure (ForInStep.yield ok) else pure (ForInStep.yield r)) (TP Y pins σ Q) Y.xe s
theorem pts_nil {Y : Cx} : PTs Y [] tTrue := fun pins s σ H Q I h => wpAny_tests_nil ⟨H, I, h⟩
theorem pts_one {Y : Cx} {c : Expr} {t : TT} (h : PT Y c t) : PTs Y [c] t := fun pins s σ H Q I q => wpAny_tests_one (h pins s σ H Q I q)
section
variable {X : Cx} {scope : Scope} {x : Str} {elt iter : Expr} {ifs : List Expr} {px pos : Pos} {wi : TI} {tt : TT} {te : TE}
theorem never_mono {α : Type} {M : Model} {A : Around} {t : Sem α} {Q : α → Shared → Prop} {E : Value → Shared → Prop} {s : Shared} (h : wpAny M A t Q (fun _ _ => False) s) : wpAny M A t Q E s := wpAny_mono h (fun _ _ z => z) fun _ _ z => z.elim
theorem pe_comp (hc : X.calm = true) (S : CScope X.env.scope X.N scope x) (hi : PI X (.Name x px) iter wi)
    (ht : ∀ (cl : List (Str × Addr)) (C : Addr) (s₂ : Shared) (H₂ : Hp) (fp : List Addr) (pins : List (Addr × Obj)), PTs (cxC X scope cl x C s₂ H₂ fp pins) ifs tt)
    (he : ∀ (cl : List (Str × Addr)) (C : Addr) (s₂ : Shared) (H₂ : Hp) (fp : List Addr) (pins : List (Addr × Obj)), PE (cxC X scope cl x C s₂ H₂ fp pins) elt te)
    (hN : X.N.Nodup) (hs : ∀ v, foldedSetIterable iter X.env v = pure v := by intro _; rfl) : PE X (.ListComp elt [⟨.Name x px, iter, ifs, 0⟩] scope pos) (tComp wi tt te) := by
  intro pins s σ H Q I h
  obtain ⟨cl, hcl0, hcl1, hcl2⟩ := closure_of (scope := scope) (env := X.env) (fun y hy hf => I.ok.has y.1 (S.free y hy hf))
  rw [eval_ListComp]
  refine wpAny_comprehension_free (use := none) (E := X.xe) rfl hs hcl0 S.kind S.names (thn (hi pins s σ H _ I h) fun xv s1 h1 => thn h1 fun itv s2 h2 => ?_)
  obtain ⟨it, fp, tn, J, H2, e, I2, T, st2, f2, W, ⟨m0, w0⟩, turn⟩ := h2
  subst e
  refine wpAny_newObj_type (wpAny_newFunctionEnv S.cell (by intro y hy; cases hy) (fun h₁ hns hsb => ?_) S.kind)
  dsimp only at hns hsb ⊢
  generalize hP : s2.heap.push { cls := .type "list", dict := none, data := .seq ([] : List Value).toArray } = P2 at hns hsb ⊢
  have hC : P2.objs.size = s2.heap.objs.size + 1 := by rw [← hP, Heap.size_push]
  have hDC : s2.heap.objs.size ≠ P2.objs.size := by rw [hC]; exact Nat.ne_of_lt (Nat.lt_succ_self _)
  have hCle : s2.heap.objs.size ≤ P2.objs.size := by rw [hC]; exact Nat.le_succ _
  have old : ∀ b o, s2.heap.get? b = some o → h₁.get? b = some o := fun b o e => by
    have hb := Heap.lt_size e
    exact hsb.extBut b o (by rw [hC]; exact Nat.ne_of_lt (Nat.lt_succ_of_lt hb)) (Heap.get?_push_of_some _ (hP ▸ Heap.get?_push_of_some _ e))
  have hd : h₁.get? s2.heap.objs.size = some (plainL [] 0) := hsb.extBut _ _ hDC (Heap.get?_push_of_some _ (hP ▸ Heap.get?_push_size _ rfl))
  have fo : ∀ b ∈ fp, ∃ o, s2.heap.get? b = some o := fun b hb => by
    obtain ⟨o, e, _⟩ := T.obj _ _ st2 b hb
    exact ⟨o, e⟩
  have neD : ∀ b ∈ fp, b ≠ s2.heap.objs.size := fun b hb => by
    obtain ⟨o, e⟩ := fo b hb
    exact Nat.ne_of_lt (Heap.lt_size e)
  have JY : Inv (cxC X scope cl x P2.objs.size s2 H2 fp pins) [(s2.heap.objs.size, plainL [] 0)] (none :: σ) H2 { s2 with heap := h₁, toks := s2.toks + ([] : List (Str × Value)).length } :=
    inv_block I2 S f2 fo hcl1 hcl2 (Nat.le_refl _) hCle hDC ⟨_, hns⟩ hd old
  have stat : ∀ {H' : Hp} {its : List Value} {n : Nat}, (∀ b ∈ fp, H' b = none) → ∀ b ∈ fp, FpOk (cxC X scope cl x P2.objs.size s2 H2 fp pins) [(s2.heap.objs.size, plainL its n)] H' b := fun {H' its n} hn b hb => by
    obtain ⟨_, g1, g2, g3, g4, g5⟩ := f2 b hb
    obtain ⟨o, e⟩ := fo b hb
    refine ⟨hn b hb, ?_, fun z => ?_, .inl hb, fun y c q => g4 y c (hcl1 y c q), fun p hp => ?_⟩
    · show b ≠ P2.objs.size
      exact Nat.ne_of_lt (Nat.lt_of_lt_of_le (Heap.lt_size e) hCle)
    · rcases List.mem_cons.mp (I2.stkSub b z) with r | r
      · exact g1 r
      · exact g2 r
    · rcases List.mem_append.mp hp with z | z
      · exact g5 p z
      · rw [List.mem_singleton.mp z]; exact fun q => neD b hb q.symm
  have nodup : (cxC X scope cl x P2.objs.size s2 H2 fp pins).N.Nodup := List.nodup_cons.mpr ⟨S.fresh, hN⟩
  have loc : Loc (cxC X scope cl x P2.objs.size s2 H2 fp pins).env.scope x := .inl (lookup_relabel_local S.var)
  have loop : ∀ s4 : Shared, s4 = { s2 with heap := h₁, toks := s2.toks + ([] : List (Str × Value)).length } →
      codeAny (model X.prog X.w) X.A (.compLoop (.ListComp elt [⟨.Name x px, iter, ifs, 0⟩] scope pos) 0 (.ref it) (.ref s2.heap.objs.size) (compEnvC scope cl P2.objs.size X.env))
        (compPost (model X.prog X.w) X.A X.xe none (EP X pins σ Q) (.ref s2.heap.objs.size) P2.objs.size) s4 := by
    rintro s4 rfl
    refine codeAny_loop rfl (fun n s' => ∃ i ys its c H' v0, Inv (cxC X scope cl x P2.objs.size s2 H2 fp pins) [(s2.heap.objs.size, plainL its c)] (v0 :: σ) H' s' ∧ tn i s'.heap ∧ (∀ b ∈ fp, H' b = none) ∧ Vals ys its ∧ W i n ys H') ?_ m0
      ⟨0, [], [], 0, H2, none, JY, T.keep _ _ _ st2 (fun b _ o e => old b o e), fun b hb => (f2 b hb).1, .nil, w0⟩
    rintro n s3 ⟨i, ys, its, c, H3, v0, I3, st3, fr3, rv, w3⟩
    show wpAny _ _ ((compTurn (.ListComp elt [⟨.Name x px, iter, ifs, 0⟩] scope pos) 0 (.ref it) (.ref s2.heap.objs.size) (compEnvC scope cl P2.objs.size X.env)).onRaise (fun z => do noteFrame z (compEnvC scope cl P2.objs.size X.env); theTreesLotGoes z)) _ _ s3
    refine wpAny_noted ?_
    rw [compTurn_list]
    rcases turn i n ys H3 w3 with ⟨stop, hz, qn⟩ | ⟨go, hz, NN, hNN, step⟩
    · refine wpAny_bind (wpAny_standAt (wpAny_bind (thn (T.done (cxC X scope cl x P2.objs.size s2 H2 fp pins) rfl rfl rfl hc i _ s3 _ H3 _ I3 (stat fr3) st3 stop) fun r s5 ⟨hr, I5⟩ => ?_)))
      subst hr
      refine wpAny_pure ?_
      obtain ⟨mC, hmC, _⟩ := I5.loc
      refine ⟨mC, hmC, fun h'' hs'' => ?_⟩
      obtain ⟨I6, nD⟩ := inv_back I2 f2 (Nat.le_refl _) hCle I5 hs'' rv hz
      exact ⟨.ref s2.heap.objs.size, _, I6, rfl, qn _ nD⟩
    · refine wpAny_bind (wpAny_standAt (wpAny_bind (thn (T.item (cxC X scope cl x P2.objs.size s2 H2 fp pins) rfl rfl rfl hc i _ s3 _ H3 _ I3 (stat fr3) st3 go) fun r s5 ⟨u, hr, h5⟩ => ?_)))
      subst hr
      refine wpAny_bind (thn h5 fun _ s6 ⟨xv, H6, I6, r6, y6, st6, fr6⟩ => ?_)
      have I6' := I6.pinned (stat fr6) (T.obj _ _ st6)
      refine wpAny_bind (wpAny_assign_Name (store_ok (i := 0) I6' nodup rfl loc r6 (fun s7 I7 => ?_) (.inr (lookup_relabel_local S.var))))
      have q7 := step xv H6 y6
      refine wpAny_bind (never_mono (thn (ht cl P2.objs.size s2 H2 fp pins _ s7 _ H6 _ I7 q7) fun ok s8 ⟨H8, I8, q8⟩ => ?_))
      have back : ∀ {H9 : Hp} {s9 : Shared}, Inv (cxC X scope cl x P2.objs.size s2 H2 fp pins) ([(s2.heap.objs.size, plainL its c)] ++ pinsAt fp s6.heap) (some xv :: σ) H9 s9 → tn (i + 1) s9.heap ∧ ∀ b ∈ fp, H9 b = none := fun {H9 s9} I9 => by
        refine ⟨T.keep _ _ _ st6 fun b hb o e => (I9.pin (b, o) (List.mem_append_right _ (List.mem_append_right _ (mem_pinsAt hb e)))).1, fun b hb => ?_⟩
        obtain ⟨o, e, d⟩ := T.obj _ _ st6 b hb
        exact (I9.pin (b, o) (List.mem_append_right _ (List.mem_append_right _ (mem_pinsAt hb e)))).2.1
      cases ok with
      | false =>
        obtain ⟨m', hm, w8⟩ := hNN ys H8 q8
        obtain ⟨t8, fr8⟩ := back I8
        exact wpAny_pure ⟨rfl, m', hm, i + 1, ys, its, c, H8, _, I8.unpinned, t8, fr8, rv, w8⟩
      | true =>
        refine wpAny_bind (wpAny_bind (never_mono (thn (he cl P2.objs.size s2 H2 fp pins _ s8 _ H8 _ I8 q8) fun yv s9 ⟨y, H9, I9, r9, q9⟩ => ?_)))
        obtain ⟨m', hm, w9⟩ := hNN _ _ q9
        obtain ⟨t9, fr9⟩ := back I9
        have I9' := I9.unpinned
        obtain ⟨eD, nD, neL, nf, _⟩ := I9'.pin (s2.heap.objs.size, plainL its c) (List.mem_append_right _ List.mem_cons_self)
        refine wpAny_bind (wpAny_list_append_plain (items := its.toArray) ⟨c, eD⟩ (fun h10 hp10 hs10 => ?_) (by rw [List.size_toArray, ← rv.length]; exact Nat.le_of_lt hz))
        obtain ⟨c', e10⟩ := hp10
        have e10' : h10.get? s2.heap.objs.size = some (plainL (its ++ [yv]) c') := by rw [e10]; simp
        have I10 : Inv (cxC X scope cl x P2.objs.size s2 H2 fp pins) [] (some xv :: σ) H9 { s9 with heap := h10 } := by
          have I9e : Inv (cxC X scope cl x P2.objs.size s2 H2 fp pins) [] (some xv :: σ) H9 s9 := I9'.pins_of fun p hp => absurd hp (by simp)
          refine I9e.turned (t' := s9.toks) (it := s2.heap.objs.size) (fun b o hb q => (hs10.2 b hb).trans q) nD neL (.inr (Nat.le_refl _)) (fun y cc q => ?_) fun p hp => ?_
          · obtain ⟨v, z⟩ := I2.cell y cc (hcl1 y cc q)
            exact Nat.ne_of_lt z.lt
          · have hp' : p ∈ X.pn ++ pins := by
              have z : p ∈ (X.pn ++ pins) ++ [] := hp
              simpa using z
            exact Nat.ne_of_lt (Heap.lt_size (I2.pin p hp').1)
        have I11 : Inv (cxC X scope cl x P2.objs.size s2 H2 fp pins) [(s2.heap.objs.size, plainL (its ++ [yv]) c')] (some xv :: σ) H9 { s9 with heap := h10 } :=
          I10.pins_of fun p hp => by rw [List.mem_singleton.mp hp]; exact ⟨e10', nD, neL, nf, fun v q => nomatch q⟩
        refine wpAny_pure (wpAny_pure ⟨rfl, m', hm, i + 1, ys ++ [y], its ++ [yv], c', H9, _, I11, ?_, fr9, rv.append (.cons r9 .nil), w9⟩)
        exact T.keep _ _ _ t9 fun b hb o q => (hs10.2 b (neD b hb)).trans q
  exact codeAny_compStart_list (loop _ rfl) (T.self X.A 0 _ _ _ (T.keep _ _ _ st2 (fun b _ o e => old b o e)) (loop _ rfl))
end
section
variable {K : W.Frag} {a : Addr} {xs : List V} {tt : TT} {te : TE} {σ : St} {H : Hp} {Q : VK}
theorem comp_tup (Pv : Nat → List V → Hp → Prop) (h0 : Pv 0 [] H) (hl : ∀ i ys H, i ≤ xs.length → Pv i ys H → SqT K H a xs ∧ ys.length ≤ i) (hz : xs.length ≤ sizeLine)
    (hs : ∀ i x ys H, xs[i]? = some x → Pv i ys H → tt (some x :: σ) H fun b H4 => if b = true then te (some x :: σ) H4 fun y H5 => Pv (i + 1) (ys ++ [y]) H5 else Pv (i + 1) ys H4)
    (hd : ∀ ys H p, Pv xs.length ys H → H p = none → Q (.ref p) (upd H p (.lst ys))) : CompW (Itt K a) σ tt te Q H := by
  refine ⟨fun i m ys H => m = xs.length - i ∧ i ≤ xs.length ∧ Pv i ys H, ⟨xs.length, by simp, Nat.zero_le _, h0⟩, ?_⟩
  rintro i m ys H2 ⟨rfl, hi, p⟩
  obtain ⟨q, hn⟩ := hl i ys H2 hi p
  by_cases hlt : i < xs.length
  · refine .inr ⟨⟨xs, xs[i], q, by simp [hlt]⟩, by omega, Pv (i + 1), fun zs H' p' => ⟨xs.length - (i + 1), by omega, rfl, hlt, p'⟩, fun x H3 y => ?_⟩
    obtain ⟨e, y⟩ := y
    subst e
    exact hs i x ys _ (y xs q) p
  · have e : i = xs.length := by omega
    subst e
    exact .inl ⟨⟨xs, q, Nat.le_refl _⟩, by omega, fun b hb => hd ys H2 b p hb⟩
theorem comp_lst (Pv : Nat → List V → Hp → Prop) (h0 : Pv 0 [] H) (hl : ∀ i ys H, i ≤ xs.length → Pv i ys H → SqL K H a xs ∧ ys.length ≤ i) (hz : xs.length ≤ sizeLine)
    (hs : ∀ i x ys H, xs[i]? = some x → Pv i ys H → tt (some x :: σ) H fun b H4 => if b = true then te (some x :: σ) H4 fun y H5 => Pv (i + 1) (ys ++ [y]) H5 else Pv (i + 1) ys H4)
    (hd : ∀ ys H p, Pv xs.length ys H → H p = none → Q (.ref p) (upd H p (.lst ys))) : CompW (Itl K a) σ tt te Q H := by
  refine ⟨fun i m ys H => m = xs.length - i ∧ i ≤ xs.length ∧ Pv i ys H, ⟨xs.length, by simp, Nat.zero_le _, h0⟩, ?_⟩
  rintro i m ys H2 ⟨rfl, hi, p⟩
  obtain ⟨q, hn⟩ := hl i ys H2 hi p
  by_cases hlt : i < xs.length
  · refine .inr ⟨⟨xs, xs[i], q, by simp [hlt]⟩, by omega, Pv (i + 1), fun zs H' p' => ⟨xs.length - (i + 1), by omega, rfl, hlt, p'⟩, fun x H3 y => ?_⟩
    obtain ⟨e, y⟩ := y
    subst e
    exact hs i x ys _ (y xs q) p
  · have e : i = xs.length := by omega
    subst e
    exact .inl ⟨⟨xs, q, Nat.le_refl _⟩, by omega, fun b hb => hd ys H2 b p hb⟩
theorem comp_rng {lo : Int} {n : Nat} (Pv : Nat → List V → Hp → Prop) (h0 : Pv 0 [] H) (hl : ∀ i ys H, i ≤ n → Pv i ys H → ys.length ≤ i) (hz : n ≤ sizeLine)
    (hs : ∀ i ys H, i < n → Pv i ys H → tt (some (.int (lo + i)) :: σ) H fun b H4 => if b = true then te (some (.int (lo + i)) :: σ) H4 fun y H5 => Pv (i + 1) (ys ++ [y]) H5 else Pv (i + 1) ys H4)
    (hd : ∀ ys H p, Pv n ys H → H p = none → Q (.ref p) (upd H p (.lst ys))) : CompW (Itr lo n) σ tt te Q H := by
  refine ⟨fun i m ys H => m = n - i ∧ i ≤ n ∧ Pv i ys H, ⟨n, by simp, Nat.zero_le _, h0⟩, ?_⟩
  rintro i m ys H2 ⟨rfl, hi, p⟩
  have hn := hl i ys H2 hi p
  by_cases hlt : i < n
  · refine .inr ⟨hlt, by omega, Pv (i + 1), fun zs H' p' => ⟨n - (i + 1), by omega, rfl, hlt, p'⟩, fun x H3 y => ?_⟩
    obtain ⟨e, y⟩ := y
    subst e y
    exact hs i ys _ hlt p
  · have e : i = n := by omega
    subst e
    exact .inl ⟨Nat.le_refl _, by omega, fun b hb => hd ys H2 b p hb⟩
end
end L2
namespace L2
open PySem PySem.Spec PyProof.Rows
def rngV (lo : Int) (n : Nat) : List V := (List.range n).map fun (i : Nat) => V.int (lo + (i : Int))
theorem rngV_length (lo : Int) (n : Nat) : (rngV lo n).length = n := by simp [rngV]
theorem vals_of_get {xs : List V} {us : List Value} (hl : xs.length = us.length) (h : ∀ (i : Nat) x u, xs[i]? = some x → us[i]? = some u → RelV x u) : Vals xs us := by
  induction xs generalizing us with
  | nil => cases us with
    | nil => exact .nil
    | cons _ _ => simp at hl
  | cons x xs ih => cases us with
    | nil => simp at hl
    | cons u us => exact .cons (h 0 x u rfl rfl) (ih (by simpa using hl) fun i y v h1 h2 => h (i + 1) y v (by simpa using h1) (by simpa using h2))
section
variable {X : Cx}
theorem call_rng1 : CallR X (.type "range") (fun xs H Q => ∃ j, xs = [.int j] ∧ ∀ p, H p = none → Q (.ref p) (upd H p (.rng 0 j))) := by
  intro pins s σ H xs us Q I r h
  obtain ⟨j, rfl, q⟩ := h
  obtain ⟨u, rfl, ru⟩ := vals1 r
  obtain ⟨t, rfl⟩ := ru
  refine call_range_1 ⟨.ref s.heap.objs.size, _, I.laid (fun b o e => Heap.get?_push_of_some _ e) (Nat.le_refl _) ?_, rfl, q _ (I.hok.fresh (Nat.le_refl _))⟩
  exact ⟨_, _, _, Heap.get?_push_size _ rfl⟩
theorem call_list_rng (hc : X.calm = true) : CallR X (.type "list") (fun xs H Q => ∃ p lo hi, xs = [.ref p] ∧ H p = some (.rng lo hi) ∧ -(2 ^ 62) ≤ lo ∧ lo < 2 ^ 62 ∧ -(2 ^ 62) ≤ hi ∧ hi < 2 ^ 62 ∧ (hi - lo).toNat ≤ 2 ^ 24 ∧
    ∀ l, H l = none → Q (.ref l) (upd H l (.lst (rngV lo (hi - lo).toNat)))) := by
  intro pins s σ H xs us Q I r h
  obtain ⟨p, lo, hi, rfl, hp, h1, h2, h3, h4, h5, q⟩ := h
  obtain ⟨u, rfl, ru⟩ := vals1 r
  cases ru
  obtain ⟨t, u, v, e⟩ := I.hok p _ hp
  refine call_list_range (I.ok.hd hc) e (small_one h1 h2 h3 h4) (rangeSize_nat lo hi) h5 fun h' tk acc' c' hk hS hacc => ?_
  refine ⟨.ref s.heap.objs.size, _, I.laid (o := .lst (rngV lo (hi - lo).toNat)) hk (Nat.le_refl _) ?_, rfl, q _ (I.hok.fresh (Nat.le_refl _))⟩
  refine ⟨by rw [rngV_length]; exact h5, acc'.toList, c', vals_of_get (by rw [rngV_length, Array.length_toList, hacc.1]) fun i x u e1 e2 => ?_, by simpa using hS⟩
  have e2' : acc'[i]? = some u := by simpa using e2
  obtain ⟨t', rfl⟩ := hacc.2 i u e2'
  have hi' : i < (hi - lo).toNat := by
    have := (List.getElem?_eq_some_iff.mp e1).1
    rw [rngV_length] at this
    exact this
  have : x = V.int (lo + (i : Int)) := by
    simp [rngV, hi'] at e1
    exact e1.symm
  subst this
  exact ⟨t', by rw [Int.mul_one]⟩
def eqVs (xs ys : List V) : Bool := xs.length == ys.length && (xs.zip ys).all fun p => eqV p.1 p.2
theorem eqVs_ints (ns ms : List Int) : eqVs (ns.map V.int) (ms.map V.int) = decide (ns = ms) := by
  unfold eqVs
  induction ns generalizing ms with
  | nil => cases ms with
    | nil => rfl
    | cons m ms => simp
  | cons n ns ih => cases ms with
    | nil => simp
    | cons m ms =>
      have := ih ms
      simp only [List.length_map, List.map_cons, List.length_cons, List.zip_cons_cons, List.all_cons] at this ⊢
      have e : (ns.length + 1 == ms.length + 1) = (ns.length == ms.length) := by
        rw [Bool.eq_iff_iff]; simp
      rw [e]
      have e2 : eqV (V.int n) (V.int m) = (n == m) := rfl
      rw [e2]
      by_cases hh : n = m
      · subst hh
        simp only [beq_self_eq_true, Bool.true_and]
        rw [this, Bool.eq_iff_iff]; simp
      · have : (n == m) = false := by simpa using hh
        rw [this]
        simp [hh]
theorem zipAll {e : Nat → Bool} : ∀ (xs ys : List V) (k : Nat), xs.length = ys.length → (∀ (i : Nat) x y, xs[i]? = some x → ys[i]? = some y → e (k + i) = eqV x y) → ((List.range' k xs.length).all e) = (xs.zip ys).all fun p => eqV p.1 p.2
  | [], ys, k, _, _ => by simp
  | x :: xs, [], k, h, _ => by simp at h
  | x :: xs, y :: ys, k, h, he => by
    have ih := zipAll xs ys (k + 1) (by simpa using h) fun i x' y' h1 h2 => by
      have := he (i + 1) x' y' (by simpa using h1) (by simpa using h2)
      rw [show k + 1 + i = k + (i + 1) by omega]
      exact this
    rw [List.length_cons, List.range'_succ, List.all_cons, List.zip_cons_cons, List.all_cons, ih]
    have := he 0 x y rfl rfl
    rw [Nat.add_zero] at this
    rw [this]
theorem rangeAll {e : Nat → Bool} {xs ys : List V} {n : Nat} (hn : n = xs.length) (hl : xs.length = ys.length) (he : ∀ (i : Nat) x y, xs[i]? = some x → ys[i]? = some y → e i = eqV x y) : (List.range n).all e = (xs.zip ys).all fun p => eqV p.1 p.2 := by
  subst hn
  rw [List.range_eq_range']
  exact zipAll xs ys 0 hl fun i x y h1 h2 => by rw [Nat.zero_add]; exact he i x y h1 h2
def eqAtV (xs ys : List V) (j : Nat) : Bool := match xs[j]?, ys[j]? with
  | some x, some y => eqV x y
  | _, _ => false
theorem eqAt_items {A : Around} {s : Shared} {xs ys : List V} {us vs : List Value} (r1 : Vals xs us) (r2 : Vals ys vs) (f1 : xs.all flatV = true) (f2 : ys.all flatV = true) :
    ∀ j (h1 : j < us.toArray.size) (h2 : j < vs.toArray.size), SeqAt.EqAt A s us.toArray[j] vs.toArray[j] (eqAtV xs ys j) := by
  intro j h1 h2
  have l1 := r1.length
  have l2 := r2.length
  have h1' : j < us.length := by simpa using h1
  have h2' : j < vs.length := by simpa using h2
  obtain ⟨u, e1, q1⟩ := r1.get (i := j) (x := xs[j]'(by omega)) (by simp)
  obtain ⟨v, e2, q2⟩ := r2.get (i := j) (x := ys[j]'(by omega)) (by simp)
  have e1' : us.toArray[j] = u := by
    have := (List.getElem?_eq_some_iff.mp e1).2
    simpa using this
  have e2' : vs.toArray[j] = v := by
    have := (List.getElem?_eq_some_iff.mp e2).2
    simpa using this
  have e3 : eqAtV xs ys j = eqV (xs[j]'(by omega)) (ys[j]'(by omega)) := by
    unfold eqAtV
    rw [List.getElem?_eq_getElem (by omega), List.getElem?_eq_getElem (by omega)]
  rw [e1', e2', e3]
  exact eqAt_V q1 q2 (List.all_eq_true.mp f1 _ (List.getElem_mem _)) (List.all_eq_true.mp f2 _ (List.getElem_mem _))
theorem eqAtV_all {xs ys : List V} {n : Nat} (hn : n = xs.length) (hl : xs.length = ys.length) : (List.range n).all (eqAtV xs ys) = eqVs xs ys := by
  unfold eqVs
  rw [rangeAll hn hl fun i x y h1 h2 => by unfold eqAtV; rw [h1, h2]]
  simp [hl]
theorem eqVs_ne {xs ys : List V} (h : xs.length ≠ ys.length) : eqVs xs ys = false := by
  unfold eqVs
  have : (xs.length == ys.length) = false := by simpa using h
  rw [this, Bool.false_and]
def rEqL (K : W.Frag) (neg : Bool) : R2 := fun x y H Q => ∃ a b xs ys, x = .ref a ∧ y = .ref b ∧ SqL K H a xs ∧ SqL K H b ys ∧ xs.all flatV = true ∧ ys.all flatV = true ∧ Q (.bl (if neg then !eqVs xs ys else eqVs xs ys)) H
theorem op_neL (hu : X.A.units < cLine) : OpR X (compareOp .NotEq) (rEqL X.K true) := by
  intro pins s σ H x y v u Q I rx ry h
  obtain ⟨a, b, xs, ys, rfl, rfl, ha, hb, f1, f2, q⟩ := h
  cases rx
  cases ry
  obtain ⟨its, r1, p1, _⟩ := I.list ha
  obtain ⟨its2, r2, p2, _⟩ := I.list hb
  have l1 := r1.length
  have l2 := r2.length
  by_cases hl : xs.length = ys.length
  · refine SeqAt.RcNeAt.lists (e := eqAtV xs ys) p1.isList p2.isList (by simp; omega) hu (eqAt_items r1 r2 f1 f2) _ _ _ _ ⟨.bl (!eqVs xs ys), H, I, ?_, q⟩
    show _ = Value.bool _
    rw [eqAtV_all (by simp; omega) hl]
  · refine SeqAt.RcNeAt.lists_lengths p1.isList p2.isList (by simp; omega) hu _ _ _ _ ⟨.bl (!eqVs xs ys), H, I, ?_, q⟩
    show _ = Value.bool _
    rw [eqVs_ne hl]
    rfl
theorem countU {x : V} : ∀ {xs : List V} {us : List Value}, Vals xs us → xs.all flatV = true → us.countP (eqU x) = xs.countP fun y => eqV y x
  | _, _, .nil, _ => rfl
  | y :: xs, u :: us, .cons r t, f => by
    rw [List.all_cons, Bool.and_eq_true] at f
    rw [List.countP_cons, List.countP_cons, eqU_of r f.1, countU t f.2]
def rCount (K : W.Frag) : V → List V → Hp → VK → Prop := fun o vs H Q => ∃ p xs x, o = .ref p ∧ vs = [x] ∧ SqL K H p xs ∧ flatV x = true ∧ xs.all flatV = true ∧ Q (.int (xs.countP fun y => eqV y x)) H
theorem mt_count : MtM X "list.count" (rCount X.K) := by
  intro pins s σ H o vs v us Q I ro rv h
  obtain ⟨p, xs, x, rfl, rfl, hp, fx, fs, q⟩ := h
  cases ro
  obtain ⟨u, rfl, ru⟩ := rv.one
  obtain ⟨its, r, pl, hz⟩ := I.list hp
  obtain ⟨⟨cls, dd, data, sl⟩, ho, hc, n, hd⟩ := pl.isList
  simp only at hc hd
  subst hc hd
  refine call_meets PySem.F.slot_list_count ⟨_, ho, rfl⟩ PySem.F.entry_list_count (PySem.F.args_list_count_2 _ _) (SeqAt.list_countAt p its.toArray n dd sl u (eqU x)) ⟨ho, fun y hy => mem_eqAt ru fx r fs y (by simpa using hy), ?_⟩
  refine ⟨.int (xs.countP fun y => eqV y x), H, I.tok _, ⟨s.toks, ?_⟩, q⟩
  rw [show its.toArray.toList = its from rfl, countU r fs]
def rIndex (K : W.Frag) : V → List V → Hp → VK → Prop := fun o vs H Q => ∃ p xs x j, o = .ref p ∧ vs = [x] ∧ SqL K H p xs ∧ flatV x = true ∧ xs.all flatV = true ∧ (∃ y, xs[j]? = some y ∧ eqV y x = true) ∧ (∀ (i : Nat) y, i < j → xs[i]? = some y → eqV y x = false) ∧ Q (.int (j : Int)) H
theorem mt_index : MtM X "list.index" (rIndex X.K) := by
  intro pins s σ H o vs v us Q I ro rv h
  obtain ⟨p, xs, x, j, rfl, rfl, hp, fx, fs, ⟨y, hy, hit⟩, hno, q⟩ := h
  cases ro
  obtain ⟨u, rfl, ru⟩ := rv.one
  obtain ⟨its, r, pl, hz⟩ := I.list hp
  obtain ⟨⟨cls, dd, data, sl⟩, ho, hc, n, hd⟩ := pl.isList
  simp only at hc hd
  subst hc hd
  have hl := r.length
  have hj : j < xs.length := (List.getElem?_eq_some_iff.mp hy).1
  have hjs : j < its.toArray.size := by simp; omega
  have at_ : ∀ (i : Nat) (hi : i < its.toArray.size) (z : V), xs[i]? = some z → eqU x its.toArray[i] = eqV z x := fun i hi z hz => by
    obtain ⟨w, e1, e2⟩ := r.get hz
    have : its.toArray[i] = w := by
      have := (List.getElem?_eq_some_iff.mp e1).2
      simpa using this
    rw [this]
    exact eqU_of e2 (List.all_eq_true.mp fs _ (List.mem_of_getElem? hz))
  refine call_meets PySem.F.slot_list_index ⟨_, ho, rfl⟩ PySem.F.entry_list_index (PySem.F.args_list_index_2 _ _)
    (SeqAt.list_indexAt p its.toArray n dd sl u (eqU x) j hjs (by have := hz; rw [sizeLine_eq] at this; omega) (by rw [at_ j hjs y hy]; exact hit) fun m hm hlt => ?_) ⟨ho, fun z hz => mem_eqAt ru fx r fs z (by simpa using hz), ?_⟩
  · have hm' : m < xs.length := by omega
    rw [at_ m hm _ (List.getElem?_eq_getElem hm')]
    exact hno m _ hlt (List.getElem?_eq_getElem hm')
  · exact ⟨.int (j : Int), H, I.tok _, ⟨s.toks, rfl⟩, q⟩
end
end L2
namespace L2
open PySem PySem.Spec PyProof.Rows
section
variable {X : Cx}
theorem inv_walked {pins : List (Addr × Obj)} {σ : St} {H : Hp} {s : Shared} {o : Obj} {h' : Heap} {tk : Nat} (I : Inv X pins σ H s)
    (k : ∀ b u, b ∉ [s.heap.objs.size] → (s.heap.push o).get? b = some u → h'.get? b = some u) : Inv X pins σ H { s with heap := h', toks := tk } := by
  have I1 : Inv X pins σ H { s with heap := s.heap.push o } := I.kept (t' := s.toks) fun b u e => Heap.get?_push_of_some _ e
  obtain ⟨f0, f1, _, f3, f4, f5⟩ := I.fpOk (b := s.heap.objs.size) (Nat.le_refl _) (I.hok.fresh (Nat.le_refl _))
  have z := Inv.turned (s := { s with heap := s.heap.push o }) (h' := h') (t' := tk) (it := s.heap.objs.size) I1 (fun b u hb e => k b u (by simpa using hb) e) f0 f1 f3 f4 f5
  exact z
theorem call_all (hc : X.calm = true) : CallR X (.builtin "all") (fun xs H Q => ∃ (p : Addr) (bs : List Bool), xs = [.ref p] ∧ SqL X.K H p (bs.map V.bl) ∧ Q (.bl (bs.all id)) H) := by
  intro pins s σ H xs us Q I r h
  obtain ⟨p, bs, rfl, hp, q⟩ := h
  obtain ⟨u, rfl, ru⟩ := vals1 r
  cases ru
  obtain ⟨its, rv, pl, hz⟩ := I.list hp
  have hl := rv.length
  rw [List.length_map] at hl
  have hne : p ≠ s.heap.objs.size := by
    obtain ⟨o, ho, _⟩ := pl.isList
    exact Nat.ne_of_lt (Heap.lt_size ho)
  have tr : TruthOf X.prog X.w X.A.in1 (fun i v => its.toArray[i]? = some v) (fun i => (bs[i]?).getD false) := fun i v s' Q' E' hP hQ => by
    have e : its[i]? = some v := by simpa using hP
    have hi : i < bs.length := by have := (List.getElem?_eq_some_iff.mp e).1; omega
    obtain ⟨w, e1, e2⟩ := rv.get (i := i) (x := V.bl bs[i]) (by simp [hi])
    rw [e] at e1
    cases e1
    cases e2
    refine wpAny_truthy_bool ?_
    have hQ2 : Q' ((bs[i]?).getD false) s' := hQ
    rw [List.getElem?_eq_getElem hi] at hQ2
    exact hQ2
  refine call_all_walk (wpAny_pyIter_list pl.isList ⟨s.heap.objs.size, _, _, _, _, _, _, rfl, Walks.list (A := X.A.in1) (show X.A.in1.handled = none from I.ok.hd hc) s.heap.objs.size p hne its.toArray, ⟨⟨_, Heap.get?_push_size _ rfl, rfl, rfl⟩, pl.isList.at fun o e => Heap.get?_push_of_some _ e⟩, tr, fun h' tk k => ?_⟩)
  have Iw : Inv X pins σ H { s with heap := h', toks := tk } := inv_walked I k
  refine ⟨.bl (bs.all id), H, Iw, ?_, q⟩
  show _ = Value.bool _
  congr 1
  have : ∀ (l : List Bool), (List.range l.length).all (fun i => (l[i]?).getD false) = l.all id := fun l => by
    rw [Bool.eq_iff_iff]
    simp only [List.all_eq_true, List.mem_range, id]
    constructor
    · intro h x hx
      obtain ⟨i, hi, e⟩ := List.getElem_of_mem hx
      have := h i hi
      rw [List.getElem?_eq_getElem hi, e] at this
      exact this
    · intro h i hi
      rw [List.getElem?_eq_getElem hi]
      exact h _ (List.getElem_mem _)
  rw [List.size_toArray, ← hl]
  exact this bs
theorem collect_tup {prog : Program} {w : World} {A : Around} {E : Value → Shared → Prop} {s : Shared} {l : Addr} {vs : List Value} {Q : List Value → Shared → Prop} (hl : IsTup s.heap l vs.toArray) (hsz : vs.length ≤ sizeLine)
    (h : Q vs { s with heap := (s.heap.push (seqObj "list" #[] 0)).update s.heap.objs.size (Obj.mapSeq (· ++ vs.toArray)) }) : wpAny (model prog w) A (collect (.ref l)) Q E s := by
  obtain ⟨o, ho, hc, n, hd⟩ := id hl
  have ho1 : (s.heap.push (seqObj "list" #[] 0)).get? l = some o := Heap.get?_push_of_some _ ho
  have hS : (s.heap.push (seqObj "list" #[] 0)).get? s.heap.objs.size = some (seqObj "list" #[] 0) := Heap.get?_push_size _ rfl
  unfold collect
  refine wpAny_bind (wpAny_runValue (codeAny_builtin entry_proto_collect' ?_))
  show wpAny _ _ (newList [] >>= fun v => again (.builtin "list.__iadd__" ⟨[v, .ref l], []⟩)) _ _ s
  refine wpAny_bind (wpAny_newList (wpAny_pure ⟨Code.quiet_builtin _ (by decide +kernel), codeAny_builtin entry_list_iadd' ?_⟩))
  show wpAny _ _ (Builtin.List.listExtendWith (.ref s.heap.objs.size) (.ref l) (.ref s.heap.objs.size)) _ _ _
  unfold Builtin.List.listExtendWith
  refine wpAny_bind (wpAny_typeOf (T := "tuple") ⟨o, ho1, hc⟩ ?_)
  have e1 : (Builtin.List.listSameRef (.ref s.heap.objs.size) (.ref l) || Value.type "tuple" == Value.type "list" || Value.type "tuple" == Value.type "tuple") = true := by
    rw [show (Value.type "tuple" == Value.type "tuple") = true from rfl, Bool.or_true]
  rw [if_pos e1]
  refine wpAny_bind (listItems_at ho1 hd (wpAny_bind (listItems_at hS rfl ?_)))
  rw [if_neg (by simp)]
  refine wpAny_bind (listUpdate_at hS rfl ?_ (Nat.zero_le _) (by rw [Array.size_append, List.size_toArray]; simp; omega))
  refine wpAny_pure ?_
  have hU := get?_update_seq hS (· ++ vs.toArray)
  refine wpAny_bind (wpAny_load hU ?_)
  show wpAny _ _ (pure ((#[] : Array Value) ++ vs.toArray).toList) Q E _
  rw [Array.empty_append, List.toList_toArray]
  exact wpAny_pure h
theorem sorted_tup {prog : Program} {w : World} {A : Around} {E : Value → Shared → Prop} {s : Shared} {l : Addr} {vs : List Value} {ns : List Int} {Q : Value → Shared → Prop} (hl : IsTup s.heap l vs.toArray) (hI : IntsAre vs ns) (h64 : vs.length < 64)
    (h : ∀ (out : Array Value) (ns' : List Int), IntsAre out.toList ns' → ns'.Perm ns → ns'.Pairwise (· ≤ ·) → Q (.ref (s.heap.objs.size + 1)) { s with heap := sortedAll s.heap vs out }) :
    wpAny (model prog w) A (call (.builtin "sorted") [.ref l]) Q E s := by
  refine Calls.call_function_entry kind_sorted plain_sorted entry_sorted (args_sorted1 _) ?_
  have hz : ((s.heap.push (seqObj "list" #[] 0)).update s.heap.objs.size (Obj.mapSeq (· ++ vs.toArray))).objs.size = s.heap.objs.size + 1 := by rw [Heap.size_update, size_push']
  have hL : (((s.heap.push (seqObj "list" #[] 0)).update s.heap.objs.size (Obj.mapSeq (· ++ vs.toArray))).push (seqObj "list" vs.toArray 0)).get? (s.heap.objs.size + 1) = some (seqObj "list" vs.toArray 0) := by
    rw [← hz]
    exact Heap.get?_push_size _ rfl
  unfold Builtin.«sorted»
  refine wpAny_bind (m := checkCount "sorted" 1 1 _) (wpAny_pure (wpAny_bind (collect_tup hl (by rw [sizeLine_eq]; omega) (wpAny_bind (wpAny_newList ?_)))))
  show wpAny _ _ _ _ _ { s with heap := ((s.heap.push (seqObj "list" #[] 0)).update s.heap.objs.size (Obj.mapSeq (· ++ vs.toArray))).push (seqObj "list" vs.toArray 0) }
  rw [hz]
  refine wpAny_bind (wpAny_holding (wpAny_call_entry PyProof.Rows.slot_list_sort ⟨_, hL, rfl⟩ PyProof.Rows.entry_list_sort (list_sort_tree hL hI h64 fun out ns' a1 a2 a3 => ⟨_, rfl, wpAny_pure ⟨_, rfl, h out ns' a1 a2 a3⟩⟩) (args_list_sort _)))
theorem call_sortedT : CallR X (.builtin "sorted") (fun xs H Q => ∃ (p : Addr) (ns : List Int), xs = [.ref p] ∧ SqT X.K H p (ns.map V.int) ∧ ns.length < 64 ∧ ∀ (l : Addr) (ns' : List Int), H l = none → ns'.Perm ns → ns'.Pairwise (· ≤ ·) → Q (.ref l) (upd H l (.lst (ns'.map V.int)))) := by
  intro pins s σ H xs us Q I r h
  obtain ⟨p, ns, rfl, hp, h64, q⟩ := h
  obtain ⟨u, rfl, ru⟩ := vals1 r
  cases ru
  obtain ⟨its, rv, pl, hz⟩ := I.tuple hp
  have hl := rv.length
  rw [List.length_map] at hl
  refine sorted_tup pl (intsAre_of rv) (by omega) fun out ns' h1 h2 h3 => ?_
  obtain ⟨e, he⟩ := sortedAll_at s.heap its out
  have hfresh : H (s.heap.objs.size + 1) = none := I.hok.fresh (Nat.le_succ _)
  have hv : Vals (ns'.map V.int) out.toList := vals_ints h1
  have hlen : ns'.length = ns.length := h2.length_eq
  refine ⟨.ref (s.heap.objs.size + 1), _, I.laid (t' := s.toks) (o := .lst (ns'.map V.int)) (fun b o z => sortedAll_old z) (Nat.le_succ _) ⟨by rw [List.length_map, sizeLine_eq]; omega, out.toList, e, hv, by simpa [seqObj] using he⟩, rfl, q _ ns' hfresh h2 h3⟩
theorem op_catT0 : OpR X (binaryOp .Add) (fun x y H Q => ∃ a b ys, x = .ref a ∧ y = .ref b ∧ SqT X.K H a [] ∧ SqT X.K H b ys ∧ Q (.ref b) H) := by
  intro pins s σ H x y v u Q I rx ry h
  obtain ⟨a, b, ys, rfl, rfl, ha, hb, q⟩ := h
  cases rx
  cases ry
  obtain ⟨its, r1, p1, _⟩ := I.tuple ha
  obtain ⟨its2, r2, p2, _⟩ := I.tuple hb
  cases r1
  obtain ⟨⟨cls, dd, data, sl⟩, ho, hc, n, hd⟩ := id p1
  obtain ⟨⟨cls2, dd2, data2, sl2⟩, ho2, hc2, n2, hd2⟩ := id p2
  simp only at hc hd hc2 hd2
  subst hc hd hc2 hd2
  exact concat_meets ⟨_, ho, rfl⟩ ⟨_, ho2, rfl⟩ noFill_tuple_add seq_tuple_add PySem.F.slot_tuple_add PySem.F.entry_tuple_add (PySem.F.args_tuple_add_2 _ _)
    (tuple_addW0 a b #[] its2.toArray n n2 dd dd2 sl sl2 rfl) ⟨ho, ho2, ⟨.ref b, H, I, rfl, q⟩⟩
end
end L2
namespace L2
open PySem PySem.Spec PyProof.Rows
def PF (X : Cx) (e : Expr) (P : St → Hp → Prop) (k : Nat) : Prop :=
  ∀ (pins : List (Addr × Obj)) (s : Shared) (σ : St) (H : Hp) (Q : Value → Shared → Prop), Inv X pins σ H s → P σ H → (∀ y t s', Inv X pins σ H s' → y.length ≤ k → Q (.str y t) s') → wpAny (model X.prog X.w) X.A (eval e X.env) Q X.xe s
def PJ (X : Cx) (es : List Expr) (P : St → Hp → Prop) (n : Nat) : Prop :=
  ∀ (pins : List (Addr × Obj)) (s : Shared) (σ : St) (H : Hp) (acc : Str) (Q : Str → Shared → Prop), Inv X pins σ H s → P σ H → acc.length + n ≤ sizeLine → (∀ out s', Inv X pins σ H s' → out.length ≤ acc.length + n → Q out s') →
    Joins (model X.prog X.w) X.A X.xe (evalEach es X.env) acc Q s
section
variable {X : Cx} {e : Expr} {es : List Expr} {P R : St → Hp → Prop} {k n : Nat}
theorem pj_nil : PJ X [] (fun _ _ => True) 0 := fun pins s σ H acc Q I _ _ h => h acc s I (Nat.le_refl _)
theorem pj_cons (h1 : PF X e P k) (h2 : PJ X es R n) (he : evalEach (e :: es) X.env = eval e X.env :: evalEach es X.env := by rfl) : PJ X (e :: es) (fun σ H => P σ H ∧ R σ H) (k + n) := by
  intro pins s σ H acc Q I hp hz hq
  rw [he]
  refine h1 pins s σ H _ I hp.1 fun y t s1 I1 hy => ?_
  have hl : (acc ++ y).length = acc.length + y.length := strLen_append acc y
  refine ⟨y, t, rfl, by omega, ?_⟩
  exact h2 pins s1 σ H _ _ I1 hp.2 (by omega) fun out s2 I2 ho => hq out s2 I2 (by omega)
theorem pe_fstr {v₁ v₂ : Expr} {rest : List Expr} {pos : Pos} (h : PJ X (v₁ :: v₂ :: rest) P n) (hn : n ≤ sizeLine) : PE X (.JoinedStr (v₁ :: v₂ :: rest) pos) (fun σ H Q => P σ H ∧ ∀ x, Q (.str x) H) := by
  intro pins s σ H Q I hq
  have hz : Str.empty.length = 0 := rfl
  refine wpAny_JoinedStr (h pins s σ H _ _ I hq.1 (by omega) fun out s' I' ho => ⟨by omega, ?_⟩)
  exact ⟨.str out, H, I'.tok _, ⟨_, rfl⟩, hq.2 out⟩
theorem pf_text {x : Str} {j pos} (h : x.length ≤ k) : PF X (.Constant (.str x) j pos) (fun _ _ => True) k := fun pins s σ H Q I _ hq => Calls.Constant_str (hq x _ _ (I.tok _) h)
def isI (te : TE) : St → Hp → Prop := fun σ H => te σ H fun v H' => H' = H ∧ ∃ i : Int, v = .int i ∧ i.natAbs.log2 < 1900
def isT (K : W.Frag) (te : TE) : St → Hp → Prop := fun σ H => te σ H fun v H' => H' = H ∧ ∃ (a : Addr) (ns : List Int), v = .ref a ∧ SqT K H a (ns.map V.int) ∧ ns.length ≤ 64 ∧ ∀ i ∈ ns, i.natAbs.log2 < 1900
variable {te : TE} {pos : Pos}
theorem int_len {i : Int} (h : i.natAbs.log2 < 1900) : (Str.ofString (toString i)).length ≤ 1901 := by
  rw [PySem.ofString_length]
  exact int_text_length_le (by decide) h
theorem pf_int (h : PE X e te) : PF X (.FormattedValue e (-1) none pos) (isI te) 1901 := by
  intro pins s σ H Q I hp hq
  refine wpAny_FormattedValue_plain (thn (h pins s σ H _ I hp) fun u s1 ⟨v, H1, I1, r, eH, i, ev, hb⟩ => ?_)
  subst eH ev
  obtain ⟨t, rfl⟩ := r
  exact wpAny_formatField_int (by omega) (hq _ _ _ (I1.tok _) (int_len hb))
theorem pf_intR (h : PE X e te) : PF X (.FormattedValue e 114 none pos) (isI te) 1901 := by
  intro pins s σ H Q I hp hq
  refine wpAny_FormattedValue_repr (thn (h pins s σ H _ I hp) fun u s1 ⟨v, H1, I1, r, eH, i, ev, hb⟩ => ?_)
  subst eH ev
  obtain ⟨t, rfl⟩ := r
  have hl := int_len hb
  have hz : (Str.ofString (toString i)).length ≤ sizeLine := by rw [sizeLine_eq]; omega
  refine wpAny_pyReprObj_gives (typeIs_int _ i t) F.slot_int_repr F.entry_int_repr (F.args_int_repr_1 _) (gives_int_repr i t (by omega)) ?_ rfl hz
  exact wpAny_formatField_str (hq _ _ _ (I1.tok _) hl) (hq _ _ _ ((I1.tok _).tok _) hl) hz
theorem tupLen {ts : List Str} {m : Nat} (h : ∀ t ∈ ts, t.length ≤ m) : (tupleText ts).length ≤ ts.length * (m + 2) + 4 := by
  have hp : ∀ l : List Str, (∀ t ∈ l, t.length ≤ m) → piled l ≤ l.length * (m + 2) := fun l => by
    induction l with
    | nil => intro _; simp [piled]
    | cons t r ih =>
      intro hh
      have := ih fun u hu => hh u (List.mem_cons_of_mem _ hu)
      have h1 := hh t List.mem_cons_self
      rw [piled_cons, List.length_cons, Nat.succ_mul]
      omega
  have hj : (Str.join ", " ts).length ≤ piled ts := by
    cases ts with
    | nil => exact Nat.le_refl _
    | cons t r => have := join_length_add (t :: r) (by simp); omega
  unfold tupleText
  rw [strLen_append, strLen_append]
  have e1 : (("(" : String) : Str).length = 1 := rfl
  have e2 : ((if ts.length == 1 then ",)" else ")" : String) : Str).length ≤ 2 := by
    split
    · exact Nat.le_of_eq rfl
    · exact Nat.le_succ_of_le (Nat.le_of_eq rfl)
  have := hp ts h
  have e1' : (Str.ofString "(").length = 1 := rfl
  omega
theorem pf_tupR {k : Nat} (hr : Room k X.A) (h : PE X e te) : PF X (.FormattedValue e 114 none pos) (isT X.K te) 200000 := by
  intro pins s σ H Q I hp hq
  refine wpAny_FormattedValue_repr (thn (h pins s σ H _ I hp) fun u s1 ⟨v, H1, I1, r, eH, a, ns, ev, ht, hn, hb⟩ => ?_)
  subst eH ev
  cases r
  obtain ⟨its, rv, pl, hz⟩ := I1.tuple ht
  obtain ⟨o, ho, hc, n, hd⟩ := pl
  have hall : ∀ (ns : List Int) (us : List Value), (∀ i ∈ ns, i.natAbs.log2 < 1900) → Vals (ns.map V.int) us → ReprAllK X.prog X.w [] s1.heap 0 us (ns.map fun i => Str.ofString (toString i)) := by
    intro ns
    induction ns with
    | nil => intro us _ rr; cases rr; exact .nil
    | cons i ns ih =>
      intro us hh rr
      cases rr with
      | cons r1 r2 =>
        obtain ⟨t, rfl⟩ := r1
        exact .cons (ReprK.of_is (ReprIs.int t (by have := hh i List.mem_cons_self; omega)) _ _ _) (ih _ (fun j hj => hh j (List.mem_cons_of_mem _ hj)) r2)
  have hlen : (tupleText (ns.map fun i => Str.ofString (toString i))).length ≤ 200000 := by
    have := tupLen (ts := ns.map fun i => Str.ofString (toString i)) (m := 1901) fun t ht => by
      obtain ⟨i, hi, rfl⟩ := List.mem_map.mp ht
      exact int_len (hb i hi)
    rw [List.length_map] at this
    have h2 : ns.length * (1901 + 2) ≤ 64 * 1903 := Nat.mul_le_mul_right _ hn
    omega
  have hu := hr.units
  refine wpAny_pyReprObj_tupleK ho hc hd (by simp) (hall ns its hb rv) hr.gd (fun b _ => Clear.nil b) (by omega) (fun b o z => z) (fun h' u tk hk => ?_) (by rw [sizeLine_eq]; omega)
  have I2 : Inv X pins σ H1 { s1 with heap := h', toks := tk } := I1.kept hk
  exact wpAny_formatField_str (hq _ _ _ I2 hlen) (hq _ _ _ (I2.tok _) hlen) (by rw [sizeLine_eq]; omega)
end
end L2
namespace L2
open PySem PySem.Spec PyProof.Rows
def excO (a : Addr) (cls : Value) : HO := .ext fun h => ∃ oe vs, h.get? a = some oe ∧ oe.cls = cls ∧ oe.data = .fields vs
theorem excO_ok {P : Program} {w : World} {H : Hp} {h : Heap} {a T : Addr} {cls : Value} (x : Trc h a cls T) : ObjOk P w H h a (excO a cls) := by
  obtain ⟨_, oe, vs, _, _, e1, e2, e3, _⟩ := x
  exact ⟨⟨oe, vs, e1, e2.1, e3⟩, ⟨oe, e1⟩, fun h1 h2 ⟨o, ws, q1, q2, q3⟩ k => ⟨o, ws, k _ q1, q2, q3⟩⟩
section
variable {X : Cx} {pins : List (Addr × Obj)} {σ : St} {H H' : Hp} {s : Shared} {h' : Heap}
theorem Inv.stepN {g' : Array GenState} {t' : Nat} {d' : Drawn} {ch : List Addr} (I : Inv X pins σ H s)
    (hch : ∀ b ∈ ch, X.s₀.heap.get? b = none ∧ b ≠ X.env.locals ∧ (∀ x c, X.env.cells.lookup x = some c → c ≠ b) ∧ ∀ p ∈ X.pn ++ pins, p.1 ≠ b)
    (keep : ∀ b o, b ∉ frs X.stack → b ∉ ch → s.heap.get? b = some o → h'.get? b = some o)
    (slot : ∀ b o, b ∈ frs X.stack → s.heap.get? b = some o → ∃ sl, h'.get? b = some { o with slots := sl })
    (hex : X.ex = []) (hso : X.stack = X.env :: X.outer) (hchH : ∀ b ∈ ch, H b = none) (hg : AllBare g') :
    Inv X pins σ H { s with heap := h', gens := g', drawn := d', toks := t' } := by
  have noex : ∀ b, b ∉ X.ex := fun b z => by rw [hex] at z; exact absurd z (by simp)
  have nfr : ∀ b o, X.s₀.heap.get? b = some o → b ∉ X.fs → b ∉ frs X.stack := fun b o e1 nb z => by
    rcases List.mem_cons.mp (I.stkSub b z) with r | r
    · exact absurd (Nat.lt_of_lt_of_le (Heap.lt_size e1) I.ok.above) (by rw [r]; exact Nat.lt_irrefl _)
    · exact nb r
  have nch : ∀ b o, X.s₀.heap.get? b = some o → b ∉ ch := fun b o e1 z => by rw [(hch b z).1] at e1; cases e1
  have ns : ∀ m, s.heap.Ns X.env.locals m → h'.Ns X.env.locals m := fun m hm => by
    obtain ⟨o, es, ep, ho, r⟩ := hm
    by_cases hb : X.env.locals ∈ frs X.stack
    · obtain ⟨sl, e⟩ := slot _ o hb ho
      exact ⟨_, es, ep, e, r⟩
    · exact ⟨o, es, ep, keep _ o hb (fun z => (hch _ z).2.1 rfl) ho, r⟩
  have cellK : ∀ x c, X.env.cells.lookup x = some c → ∀ v, s.heap.IsCell c v → h'.IsCell c v := fun x c e v ⟨o, ho, hd⟩ => by
    by_cases hb : c ∈ frs X.stack
    · obtain ⟨sl, q⟩ := slot c o hb ho
      exact ⟨_, q, hd⟩
    · exact ⟨o, keep c o hb (fun z => (hch c z).2.2.1 x c e rfl) ho, hd⟩
  refine ⟨I.ok, I.os, hg, ⟨fun b o e n hb hx => ?_, fun b o e n hb hx => ?_, fun b o e n hx => I.base.free b o e n hx, fun b o e hx => ?_, I.base.tups, I.base.frzs, I.base.tbls⟩, ?_, fun x c e => ?_, I.free, I.freeC, fun p hp => ?_, fun a o e => ?_, I.len⟩
  · exact keep b o (nfr b o e hb) (nch b o e) (I.base.keep b o e n hb hx)
  · obtain ⟨sl, e1⟩ := I.base.slot b o e n hb hx
    obtain ⟨sl', e2⟩ := slot b _ (frSub hso hb) e1
    exact ⟨sl', e2⟩
  · obtain ⟨o', e1⟩ := I.base.there b o e hx
    by_cases hb : b ∈ frs X.stack
    · obtain ⟨sl, e2⟩ := slot b o' hb e1
      exact ⟨_, e2⟩
    · exact ⟨o', keep b o' hb (nch b o e) e1⟩
  · obtain ⟨m, hn, hl⟩ := I.loc
    refine ⟨m, ns m hn, fun i x v e1 e2 e3 => ?_⟩
    obtain ⟨u, r, l⟩ := hl i x v e1 e2 e3
    refine ⟨u, r, ?_⟩
    rcases l with l | ⟨k, c, e, z⟩
    · exact .inl l
    · exact .inr ⟨k, c, e, cellK x c e _ z⟩
  · obtain ⟨v, z⟩ := I.cell x c e
    exact ⟨v, cellK x c e v z⟩
  · obtain ⟨e, n, ne, nf, d⟩ := I.pin p hp
    refine ⟨keep p.1 p.2 (fun z => ?_) (fun z => (hch p.1 z).2.2.2 p hp rfl) e, n, ne, nf, d⟩
    rcases List.mem_cons.mp (I.stkSub _ z) with r | r
    · exact ne r
    · exact nf r
  · refine (I.hok a o e).stay (fun b u hb q => keep b u (fun z => ?_) (fun z => ?_) q) (fun _ z => z) fun _ _ z => z
    · have n := I.stkFree b z
      rcases hb with r | r
      · rw [r, e] at n; cases n
      · rw [r] at n; cases n
    · have n := hchH b z
      rcases hb with r | r
      · rw [r, e] at n; cases n
      · rw [r] at n; cases n
theorem Inv.track {D : Addr} {o : HO} (I : Inv X pins σ H s) (hD : H D = none) (h0 : X.s₀.heap.get? D = none) (hL : D ≠ X.env.locals) (hc : ∀ x c, X.env.cells.lookup x = some c → c ≠ D) (hp : ∀ p ∈ X.pn ++ pins, p.1 ≠ D)
    (hok : ObjOk X.prog X.w (upd H D o) s.heap D o) : Inv X pins σ (upd H D o) s := by
  have ne : ∀ b u, H b = some u → b ≠ D := fun b u e z => by rw [z, hD] at e; cases e
  have n0 : ∀ b ob, X.s₀.heap.get? b = some ob → b ≠ D := fun b ob e z => by rw [z, h0] at e; cases e
  refine ⟨I.ok, I.os, I.bare, ⟨I.base.keep, I.base.slot, fun b ob e n hx => by rw [upd_ne (n0 b ob e)]; exact I.base.free b ob e n hx, I.base.there, fun b xs e => ?_, fun b ob u e => ?_, fun b ps e => ?_⟩, I.loc, I.cell, by rw [upd_ne (Ne.symm hL)]; exact I.free,
    fun x c e => by rw [upd_ne (hc x c e)]; exact I.freeC x c e, fun p hpp => ?_, fun a u e => ?_, I.len⟩
  · have q := I.base.tups b xs e
    rw [upd_ne (ne b _ q)]; exact q
  · have q := I.base.frzs b ob u e
    rw [upd_ne (ne b _ q)]; exact q
  · obtain ⟨m, q⟩ := I.base.tbls b ps e
    exact ⟨m, by rw [upd_ne (ne b _ q)]; exact q⟩
  · obtain ⟨e, n, r⟩ := I.pin p hpp
    exact ⟨e, by rw [upd_ne (hp p hpp)]; exact n, r⟩
  · by_cases ha : a = D
    · subst ha
      rw [upd_same] at e
      cases e
      exact hok
    · rw [upd_ne ha] at e
      exact (I.hok a u e).stay (fun b v _ q => q) (fun b q => by rw [upd_ne (ne b _ q)]; exact q) fun b xs q => by rw [upd_ne (ne b _ q)]; exact q
theorem Inv.forget {i : Nat} {x : Str} {m : Str → Option Value} {v : Option Value} {t' : Nat} (I : Inv X pins σ H s) (hN : X.N.Nodup) (hi : X.N[i]? = some x)
    (hl : ∀ (i : Nat) (x : Str) (v : V), X.N[i]? = some x → σ[i]? = some (some v) → Vis X.env.scope x → ∃ u, RelV v u ∧ Look X.env s.heap m x u)
    (hn' : h'.Ns X.env.locals (fun y => if y = x then v else m y)) (hs : Heap.SameBut X.env.locals s.heap h') : Inv X pins (σ.set i none) H { s with heap := h', toks := t' } := by
  have hiσ : i < σ.length := by rw [I.len]; exact (List.getElem?_eq_some_iff.mp hi).1
  have ne0 : ∀ b o, X.s₀.heap.get? b = some o → b ≠ X.env.locals := fun b o e => Nat.ne_of_lt (Nat.lt_of_lt_of_le (Heap.lt_size e) I.ok.above)
  refine ⟨I.ok, I.os, I.bare, ⟨fun b o e n hb hx => (hs.2 b (ne0 b o e)).trans (I.base.keep b o e n hb hx), fun b o e n hb hx => ?_, I.base.free, fun b o e hx => ?_, I.base.tups, I.base.frzs, I.base.tbls⟩, ⟨_, hn', fun j y v' e1 e2 e3 => ?_⟩, fun y c e => ?_, I.free, I.freeC, fun p hp => ?_, fun a o e => ?_, by simpa using I.len⟩
  · obtain ⟨sl, e1⟩ := I.base.slot b o e n hb hx
    exact ⟨sl, (hs.2 b (ne0 b o e)).trans e1⟩
  · obtain ⟨o', e1⟩ := I.base.there b o e hx
    exact ⟨o', (hs.2 b (ne0 b o e)).trans e1⟩
  · by_cases hj : j = i
    · subst hj
      rw [List.getElem?_set_self hiσ] at e2
      cases e2
    · rw [List.getElem?_set_ne (Ne.symm hj)] at e2
      obtain ⟨u', r', q⟩ := hl j y v' e1 e2 e3
      refine ⟨u', r', ?_⟩
      rcases q with ⟨k, e⟩ | ⟨k, c, e, z⟩
      · refine .inl ⟨k, ?_⟩
        have : y ≠ x := fun e => hj (nodup_ix hN e1 (e ▸ hi))
        simp [this, e]
      · exact .inr ⟨k, c, e, z.sameBut hs (I.cne y c e)⟩
  · obtain ⟨w', z⟩ := I.cell y c e
    exact ⟨w', z.sameBut hs (I.cne y c e)⟩
  · obtain ⟨e, n, ne, nf, d⟩ := I.pin p hp
    exact ⟨(hs.2 p.1 ne).trans e, n, ne, nf, d⟩
  · refine (I.hok a o e).stay (fun c w' hc q => (hs.2 c ?_).trans q) (fun _ q => q) fun _ _ q => q
    rintro rfl
    have hf := I.free
    rcases hc with z | hc
    · rw [← z] at e; rw [hf] at e; cases e
    · rw [hf] at hc; cases hc
abbrev Cx.inn (X : Cx) (A' : Around) (c : Bool) (pn' : List (Addr × Obj)) (xe' : Value → Shared → Prop) : Cx := { X with A := A', calm := c, pn := pn', xe := xe' }
theorem Inv.inn {A' : Around} {c : Bool} {pn' pins' : List (Addr × Obj)} {xe' : Value → Shared → Prop} (I : Inv X pins σ H s) (hf : A'.frames = X.A.frames) (hh : c = true → A'.handled = none) (hp : ∀ p ∈ pn' ++ pins', p ∈ X.pn ++ pins) :
    Inv (X.inn A' c pn' xe') pins' σ H s :=
  ⟨⟨I.ok.mod, I.ok.kind, I.ok.glob, I.ok.blt, I.ok.above, I.ok.inj, I.ok.has, I.ok.cab, hh, hf.trans I.ok.frames, I.ok.stk, I.ok.exf, I.ok.bs, I.ok.bsz, I.ok.noex, I.ok.exfs, I.ok.funs, I.ok.frf⟩,
    I.os, I.bare, I.base, I.loc, I.cell, I.free, I.freeC, fun p h => I.pin p (hp p h), I.hok, I.len⟩
theorem Inv.out {A' : Around} {c : Bool} {pn' pins' : List (Addr × Obj)} {xe' : Value → Shared → Prop} (I : Inv (X.inn A' c pn' xe') pins' σ H s) (hf : X.A.frames = some X.stack) (hh : X.calm = true → X.A.handled = none) (hp : ∀ p ∈ X.pn ++ pins, p ∈ pn' ++ pins') :
    Inv X pins σ H s :=
  ⟨⟨I.ok.mod, I.ok.kind, I.ok.glob, I.ok.blt, I.ok.above, I.ok.inj, I.ok.has, I.ok.cab, hh, hf, I.ok.stk, I.ok.exf, I.ok.bs, I.ok.bsz, I.ok.noex, I.ok.exfs, I.ok.funs, I.ok.frf⟩,
    I.os, I.bare, I.base, I.loc, I.cell, I.free, I.freeC, fun p h => I.pin p (hp p h), I.hok, I.len⟩
end
theorem isType_ok {M : Model} {K : W.Frag} {h : Heap} {C : Addr} (I : K.In h) (hc : W.isClsIn K C = true) : W.Looks M h (isType (.ref C)) true := by
  unfold W.isClsIn W.clsIn at hc
  split at hc
  · rename_i c' d' cd' sl' lk
    intro A Q E s k q
    unfold isType loadHead
    exact wpAny_bind (wpAny_loadPart (k _ _ (I _ _ lk)) (wpAny_pure q))
  · cases hc
theorem matches_ok {M : Model} {A : Around} {E : Value → Shared → Prop} {K : W.Frag} {s : Shared} {e C CN : Addr} {oe : Obj} {Q : Bool → Shared → Prop} (I : K.In s.heap) (he : s.heap.get? e = some oe) (hc : oe.cls = .ref C)
    (hnt : W.instIn K (.ref CN) (.type "tuple") = some false) (hxc : W.mroIn K CN (.type "BaseException") = some true) (hcl : W.isClsIn K CN = true) (hm : W.mroIn K C (.ref CN) = some true) (hq : Q true s) :
    wpAny M A (excMatches (.ref e) (.ref CN)) Q E s := by
  have L1 := W.looks_instIn (M := M) I hnt
  have L2 := W.looks_mroIn (M := M) I hxc
  have L3 := W.looks_mroIn (M := M) I hm
  have L0 : W.Looks M s.heap (isType (.ref CN)) true := isType_ok I hcl
  have LE : W.Looks M s.heap (isExcClass (.ref CN)) true := L0.andThen (by simpa using L2)
  have LT : W.Looks M s.heap (typeOf (.ref e)) (.ref C) := hc ▸ (W.Looks.ld he).andThen .now
  obtain ⟨hp, g, d, tk, os⟩ := s
  unfold excMatches
  refine wpAny_bind (L1.at ?_)
  simp only [Bool.false_eq_true, if_false, pure_bind, List.forIn_cons, List.forIn_nil, bind_assoc]
  refine wpAny_bind (LE.at ?_)
  simp only [Bool.not_true, Bool.false_eq_true, if_false, pure_bind]
  refine wpAny_bind (LT.at ?_)
  refine wpAny_bind (L3.at ?_)
  simp only [if_true, pure_bind]
  exact wpAny_pure hq
def tTry (K : W.Frag) (CN : Addr) (tb : (St → XK) → TS) (ie : Nat) (ts : TS) : TS := fun D σ H =>
  tb (fun σ' cls _ H' => ∃ C, cls = .ref C ∧ W.mroIn K C (.ref CN) = some true ∧ ∀ e, H' e = none → ts { nx := fun σ2 H2 => D.nx (σ2.set ie none) H2, rt := fun _ _ => False } (σ'.set ie (some (.ref e))) (upd H' e (excO e (.ref C)))) D σ H
section
variable {X : Cx} {body suite : List Stmt} {b₀ : Stmt} {x nm : Str} {CN : Addr} {np hpos pos : Pos} {ie : Nat} {tb : (St → XK) → TS} {ts : TS}
theorem ps_try (hc : X.calm = true) (hex : X.ex = []) (hso : X.stack = X.env :: X.outer) (hfr : X.env.frame = some X.env.locals) (hg : Gl X x) (hm : X.mg x = some (.ref CN))
    (hnt : W.instIn X.K (.ref CN) (.type "tuple") = some false) (hxc : W.mroIn X.K CN (.type "BaseException") = some true) (hcl : W.isClsIn X.K CN = true)
    (hN : X.N.Nodup) (hi : X.N[ie]? = some nm) (hl : X.env.scope.names.lookup nm = some .local)
    (hb : ∀ (pn' : List (Addr × Obj)) (xe' : Value → Shared → Prop) (E : St → XK), PassesS (CX1 X.prog X.w) (X.inn X.A X.calm pn' xe') E → PSs (X.inn X.A X.calm pn' xe') body (tb E))
    (hs : ∀ (A' : Around) (pn' : List (Addr × Obj)) (xe' : Value → Shared → Prop), PSs (X.inn A' false pn' xe') (b₀ :: suite) ts) (hd : (x == ("__debug__" : Str)) = false := by decide) :
    PS X (.Try body [.ExceptHandler (some (.Name x np)) (some nm) (b₀ :: suite) hpos] [] [] pos) (tTry X.K CN tb ie ts) := by
  intro pins s σ H D I h
  refine wpAny_Try_except ?_
  have pass : PassesS (CX1 X.prog X.w) (X.inn X.A X.calm (X.pn ++ pins) (fun e s₁ => wpAny (model X.prog X.w) X.A (noteFrame e X.env) (fun _ s₂ => wpAny (model X.prog X.w) X.A (setFlight e none) (fun _ s₃ =>
      wpAny (model X.prog X.w) X.A (handleBy e X.env [.ExceptHandler (some (.Name x np)) (some nm) (b₀ :: suite) hpos]) (SP X pins D) X.xe s₃) X.xe s₂) X.xe s₁))
      (fun σ' cls _ H' => ∃ C, cls = .ref C ∧ W.mroIn X.K C (.ref CN) = some true ∧ ∀ e, H' e = none → ts { nx := fun σ2 H2 => D.nx (σ2.set ie none) H2, rt := fun _ _ => False } (σ'.set ie (some (.ref e))) (upd H' e (excO e (.ref C)))) := by
    intro pins' σ' H' s' e s'' I' hx
    obtain ⟨ea, cls, H'', rfl, ho, hgn, un, hok, fl, C, rfl, hmro, q⟩ := hx
    have Ic := I'.call' (ch := []) ho un hok hgn (fun b z => absurd z (by simp))
    have I1 : Inv X pins σ' H'' s'' := Ic.out (pins := pins) I.ok.frames I.ok.hd fun p hp => List.mem_append_left _ hp
    obtain ⟨T, trc, hT0, hTH⟩ := fl.tr
    have old : ∀ b, s'.heap.get? b = none → X.s₀.heap.get? b = none := fun b hb' => by
      cases e1 : X.s₀.heap.get? b with
      | none => rfl
      | some o =>
        obtain ⟨o', e2⟩ := I'.base.there b o e1 (by intro z; rw [show (X.inn X.A X.calm (X.pn ++ pins) _).ex = X.ex from rfl, hex] at z; exact absurd z (by simp))
        rw [hb'] at e2
        cases e2
    have apart : ∀ b, s'.heap.get? b = none → X.s₀.heap.get? b = none ∧ b ≠ X.env.locals ∧ (∀ y c, X.env.cells.lookup y = some c → c ≠ b) ∧ ∀ p ∈ X.pn ++ pins, p.1 ≠ b := fun b hb' => by
      refine ⟨old b hb', ?_, fun y c hy z => ?_, fun p hp z => ?_⟩
      · rintro rfl
        obtain ⟨m, ⟨o, _, _, e2, _⟩, _⟩ := I'.loc
        have e3 : s'.heap.get? X.env.locals = some o := e2
        rw [hb'] at e3
        cases e3
      · obtain ⟨v, o, e2, _⟩ := I'.cell y c hy
        rw [z, hb'] at e2
        cases e2
      · have e2 := (I'.pin p (List.mem_append_left _ hp)).1
        rw [z, hb'] at e2
        cases e2
    have hch : ∀ b ∈ [ea, T], X.s₀.heap.get? b = none ∧ b ≠ X.env.locals ∧ (∀ y c, X.env.cells.lookup y = some c → c ≠ b) ∧ ∀ p ∈ X.pn ++ pins, p.1 ≠ b := fun b hb' => by
      rcases List.mem_cons.mp hb' with z | z
      · rw [z]; exact apart ea fl.new
      · rw [List.mem_singleton.mp z]; exact apart T hT0
    have hchH : ∀ b ∈ [ea, T], H'' b = none := fun b hb' => by
      rcases List.mem_cons.mp hb' with z | z
      · rw [z]; exact fl.free
      · rw [List.mem_singleton.mp z]; exact hTH
    have hB : ∀ b ∈ [ea, T], (W.hideAll s''.heap (frs X.stack ++ [ea, T])).get? b = none := fun b hb' => W.hideAll_none _ (List.mem_append_right _ hb')
    have hst : (W.hideAll s''.heap (frs X.stack ++ [ea, T])).StaysIn s''.heap := fun b o z => W.of_hideAll _ z
    have hff : s''.heap.FunFrames (W.hideAll s''.heap (frs X.stack ++ [ea, T])) X.stack := W.funFrames_hide I1.stack fun env he a ha => List.mem_append_left _ (List.mem_filterMap.mpr ⟨env, he, ha⟩)
    obtain ⟨a0, tw⟩ := trc.traced (hB T (by simp))
    show wpAny (model X.prog X.w) X.A (noteFrame (.ref ea) X.env) _ X.xe s''
    refine wpAny_noteFrame_onW (outer := X.outer) (L := X.env.locals) (hso ▸ I.ok.frames) (hso ▸ hff) hfr tw hst (hB ea (by simp)) fun h4 hN4 => ?_
    obtain ⟨n1, n2, n3, n4⟩ := hN4
    refine wpAny_setFlight_noneW n1 n2 n3 fun h5 m1 m2 m3 m4 => ?_
    have kp5 : ∀ b o, b ∉ frs X.stack → b ∉ [ea, T] → s''.heap.get? b = some o → h5.get? b = some o := fun b o z1 z2 e1 => m1 b o (W.hideAll_get _ e1 fun m => (List.mem_append.mp m).elim z1 z2)
    have sl5 : ∀ b o, b ∈ frs X.stack → s''.heap.get? b = some o → ∃ sl, h5.get? b = some { o with slots := sl } := fun b o hb' e1 => by
      obtain ⟨o', e2, nd⟩ := frObj I1 hb'
      rw [e1] at e2
      cases e2
      obtain ⟨sl, e3⟩ := n4 b o e1 nd
      exact ⟨sl, m4 b _ e3 nd⟩
    have I5 : Inv X pins σ' H'' { s'' with heap := h5 } := I1.stepN (g' := s''.gens) (d' := s''.drawn) (t' := s''.toks) hch kp5 sl5 hex hso hchH I1.bare
    have hfm : (X.A.mark (some (.ref ea))).frames = X.A.frames := rfl
    refine wpAny_handleBy_cons (codeAny_handlers_test ?_) (by intro q; cases q)
    have J5 : Inv (X.inn (X.A.mark (some (.ref ea))) false (X.pn ++ pins) (notedBy (model X.prog X.w) (X.A.mark (some (.ref ea))) X.env (cameBackBy (model X.prog X.w) X.A X.env X.xe))) [] σ' H'' { s'' with heap := h5 } :=
      I5.inn hfm (fun z => by cases z) fun p hp => by simpa using hp
    refine ld_glob J5 hg hm ?_ hd
    obtain ⟨T5, trc5, hT5⟩ := trc_of m3
    obtain ⟨_, oe, _, _, _, e5, c5, _⟩ := id trc5
    refine matches_ok I5.kIn e5 c5.1 hnt hxc hcl hmro ?_
    refine codeAny_handlers_suite_as ?_
    refine wpAny_setFlight_noneW m1 m2 m3 fun h6 p1 p2 p3 p4 => ?_
    have kp6 : ∀ b o, b ∉ frs X.stack → b ∉ [ea, T] → s''.heap.get? b = some o → h6.get? b = some o := fun b o z1 z2 e1 => p1 b o (W.hideAll_get _ e1 fun m => (List.mem_append.mp m).elim z1 z2)
    have sl6 : ∀ b o, b ∈ frs X.stack → s''.heap.get? b = some o → ∃ sl, h6.get? b = some { o with slots := sl } := fun b o hb' e1 => by
      obtain ⟨o', e2, nd⟩ := frObj I1 hb'
      rw [e1] at e2
      cases e2
      obtain ⟨sl, e3⟩ := sl5 b o hb' e1
      exact ⟨sl, p4 b _ e3 nd⟩
    have I6 : Inv X pins σ' H'' { s'' with heap := h6 } := I1.stepN (g' := s''.gens) (d' := s''.drawn) (t' := s''.toks) hch kp6 sl6 hex hso hchH I1.bare
    obtain ⟨T6, trc6, _⟩ := trc_of p3
    have I7 : Inv X pins σ' (upd H'' ea (excO ea (.ref C))) { s'' with heap := h6 } :=
      I6.track fl.free (hch ea (by simp)).1 (hch ea (by simp)).2.1 (hch ea (by simp)).2.2.1 (hch ea (by simp)).2.2.2 (excO_ok trc6)
    have J7 : Inv (X.inn (X.A.mark (some (.ref ea))) false (X.pn ++ pins) (fun _ _ => False)) [] σ' (upd H'' ea (excO ea (.ref C))) { s'' with heap := h6 } :=
      I7.inn hfm (fun z => by cases z) fun p hp => by simpa using hp
    refine store_ok (X := X.inn (X.A.mark (some (.ref ea))) false (X.pn ++ pins) (fun _ _ => False)) (i := ie) (v := .ref ea) J7 hN hi (.inl hl) rfl (fun s8 J8 => ?_) (.inr hl)
    refine never_mono (thn (hs _ _ _ [] s8 _ _ _ J8 (q ea fl.free)) fun f s9 q9 => ?_)
    cases f with
    | next =>
      obtain ⟨σ9, H9, J9, d9⟩ := q9
      have J9' : Inv X pins σ9 H9 s9 := J9.out (pins := pins) I.ok.frames I.ok.hd fun p hp => by simpa using hp
      obtain ⟨m9, hn9, hl9⟩ := id J9'.loc
      refine wpAny_nameGoes_keeps hl hn9 (by rw [I.ok.kind]; rfl) fun h10 v hn10 hs10 => ?_
      exact ⟨σ9.set ie none, H9, J9'.forget hN hi hl9 hn10 hs10, d9⟩
    | ret u => obtain ⟨v, σ9, H9, J9, r9, d9⟩ := q9; exact d9.elim
    | brk => obtain ⟨σ9, H9, J9, d9⟩ := q9; exact d9.elim
    | cont => obtain ⟨σ9, H9, J9, d9⟩ := q9; exact d9.elim
  have Ib : Inv (X.inn X.A X.calm (X.pn ++ pins) (fun e s₁ => wpAny (model X.prog X.w) X.A (noteFrame e X.env) (fun _ s₂ => wpAny (model X.prog X.w) X.A (setFlight e none) (fun _ s₃ =>
      wpAny (model X.prog X.w) X.A (handleBy e X.env [.ExceptHandler (some (.Name x np)) (some nm) (b₀ :: suite) hpos]) (SP X pins D) X.xe s₃) X.xe s₂) X.xe s₁)) [] σ H s := I.inn rfl I.ok.hd fun p hp => by simpa using hp
  refine thn (hb _ _ _ pass [] s σ H D Ib h) fun f s1 q1 => ?_
  have bk : ∀ {σ1 : St} {H1 : Hp}, Inv (X.inn X.A X.calm (X.pn ++ pins) (fun e s₁ => wpAny (model X.prog X.w) X.A (noteFrame e X.env) (fun _ s₂ => wpAny (model X.prog X.w) X.A (setFlight e none) (fun _ s₃ =>
      wpAny (model X.prog X.w) X.A (handleBy e X.env [.ExceptHandler (some (.Name x np)) (some nm) (b₀ :: suite) hpos]) (SP X pins D) X.xe s₃) X.xe s₂) X.xe s₁)) [] σ1 H1 s1 → Inv X pins σ1 H1 s1 := fun {σ1 H1} J => J.out (pins := pins) I.ok.frames I.ok.hd fun p hp => by simpa using hp
  cases f with
  | next => obtain ⟨σ1, H1, J1, d1⟩ := q1; exact wpAny_execs_nil ⟨σ1, H1, bk J1, d1⟩
  | ret u => obtain ⟨v, σ1, H1, J1, r1, d1⟩ := q1; exact ⟨v, σ1, H1, bk J1, r1, d1⟩
  | brk => obtain ⟨σ1, H1, J1, d1⟩ := q1; exact ⟨σ1, H1, bk J1, d1⟩
  | cont => obtain ⟨σ1, H1, J1, d1⟩ := q1; exact ⟨σ1, H1, bk J1, d1⟩
end
end L2
namespace L2
open PySem PySem.Spec PyProof.Rows
structure ExcI (K : W.Frag) (C : Addr) : Prop where
  cl : W.isClsIn K C = true
  ga : W.findIn K (.ref C) "__getattribute__" = some (some (.builtin "BaseException.__getattribute__"))
  gt : W.findIn K (.ref C) "__getattr__" = some none
  cls : W.findIn K (.ref C) "__class__" = some (some (.builtin "object.__class__"))
  ob : W.mroIn K C (.type "object") = some true
  be : W.mroIn K C (.type "BaseException") = some true
section
variable {prog : Program} {w : World} {A : Around} {E : Value → Shared → Prop} {K : W.Frag} {h : Heap} {g : Array GenState} {d : Drawn} {t : Nat} {os : OsState} {a C : Addr} {o : Obj}
theorem excCls_get {R : Result → Shared → Prop} (X : K.In h) (F0 : ExcI K C) (hx : h.get? a = some o) (hc : o.cls = .ref C) (hq : R (.ok (.ret (.ref C))) ⟨h, g, d, t, os⟩) :
    codeAny (model prog w) A (.call (.builtin "getset_descriptor.__get__") ⟨[.builtin "object.__class__", .ref a, .ref C], []⟩) R ⟨h, g, d, t, os⟩ := by
  have hT5 : (⟨h, g, d, t, os⟩ : Shared).TypeIs (.builtin "object.__class__") "getset_descriptor" := F.typeOf_object_class
  have L1 := W.looks_mroIn (M := model prog w) X F0.ob
  have hown : (".".intercalate ("object.__class__".cutAt '.').dropLast) = "object" := F.owner_object_class
  refine codeAny_call_builtin F.slot_gs_get.plain F.entry_gs_get (F.slot_gs_get.check _ _ _ _ _ _ _ _ hT5 (F.args_gs_get _ _ _) ?_)
  repeat (any_goals (first | assumption | (with_reducible refine wpAny_loadPart_at hx ?_; rw [hc]) | (rw [hown]; refine L1.at ?_) | wp_step))
  refine ⟨Code.quiet_builtin _ (by decide +kernel), codeAny_builtin F.entry_object_class ?_⟩
  repeat (any_goals (first | assumption | (with_reducible refine wpAny_loadPart_at hx ?_; rw [hc]) | wp_step))
theorem excCls_entry {tk : Tok} {Q : Fin → Shared → Prop} (X : K.In h) (F0 : ExcI K C) (hx : h.get? a = some o) (hc : o.cls = .ref C) (hq : Q (.done (.ret (.ref C))) ⟨h, g, d, t, os⟩) :
    wpAny (model prog w) A (Builtin.«object.__getattribute__» ⟨[.ref a, .str "__class__" tk], []⟩) Q E ⟨h, g, d, t, os⟩ := by
  have hT5 : (⟨h, g, d, t, os⟩ : Shared).TypeIs (.builtin "object.__class__") "getset_descriptor" := F.typeOf_object_class
  have L1 := W.looks_findIn (M := model prog w) X F0.cls
  have f5 := F.typeOf_object_class
  have f6 := F.slot_gs_get.lookup
  have f7 := F.slot_gs_set.lookup
  repeat (any_goals (first | assumption | (with_reducible refine wpAny_loadPart_at hx ?_; rw [hc]) | (with_reducible refine L1.at ?_) | wp_step))
  refine excCls_get X F0 hx hc ?_
  repeat (any_goals (first | assumption | wp_step))
theorem excCls_check {M : Model} {nameV : Value} {Q : Unit → Shared → Prop} (X : K.In h) (F0 : ExcI K C) (hx : h.get? a = some o) (hc : o.cls = .ref C) (hq : Q () ⟨h, g, d, t, os⟩) :
    wpAny M A (checkBuiltinCall "BaseException.__getattribute__" ⟨[.ref a, nameV], []⟩) Q E ⟨h, g, d, t, os⟩ := by
  have L1 := W.looks_mroIn (M := M) X F0.be
  have hk : builtinKind "BaseException.__getattribute__" = some .slot := by decide +kernel
  have hsp : splitId "BaseException.__getattribute__" = some ("BaseException", "__getattribute__") := by decide +kernel
  have hargs := F.args_bexc_ga (.ref a) nameV
  simp only [checkBuiltinCall, hk, hsp]
  refine wpAny_bind ?_
  unfold isInstance
  repeat (first | (with_reducible refine wpAny_loadPart_at hx ?_; rw [hc]) | (with_reducible refine L1.at ?_) | wp_step)
  exact hq
theorem excCls_by {tk : Tok} {Q : Value → Shared → Prop} (X : K.In h) (F0 : ExcI K C) (hx : h.get? a = some o) (hc : o.cls = .ref C) (hq : Q (.ref C) ⟨h, g, d, t, os⟩) :
    wpAny (model prog w) A (getAttrBy (.ref a) (.str "__class__" tk) false) Q E ⟨h, g, d, t, os⟩ := by
  have FB : Slot "ValueError" "__getattribute__" "BaseException.__getattribute__" := PySem.F.attr_ValueError.ga
  have f3 := FB.bind (.ref a)
  have L1 := W.looks_findIn (M := model prog w) X F0.ga
  have L2 := W.looks_findIn (M := model prog w) X F0.gt
  have hx2 : (Value.builtin "BaseException.__getattribute__" == Value.builtin "object.__getattribute__") = false := by decide +kernel
  have hx1 : (onTheHeap (Value.ref C) && Value.builtin "BaseException.__getattribute__" == Value.builtin "object.__getattribute__") = false := by rw [hx2]; exact Bool.and_false _
  repeat (any_goals (first | assumption | (with_reducible refine wpAny_loadPart_at hx ?_; rw [hc]) | (with_reducible refine L1.at ?_) | (with_reducible refine L2.at ?_) | wp_step))
  refine codeAny_call_builtin FB.plain F.entry_bexc_ga (excCls_check X F0 hx hc (excCls_entry X F0 hx hc ?_))
  repeat (any_goals (first | assumption | wp_step))
theorem excCls_attr {Q : Option Value → Shared → Prop} (X : K.In h) (F0 : ExcI K C) (hx : h.get? a = some o) (hc : o.cls = .ref C) (hq : Q (some (.ref C)) ⟨h, g, d, t + 1, os⟩) :
    wpAny (model prog w) A (getAttr? (.ref a) "__class__") Q E ⟨h, g, d, t, os⟩ := by
  unfold getAttr? getAttrBy?
  repeat (any_goals (first | assumption | with_reducible apply excCls_by X F0 hx hc | wp_step))
end
theorem kitx_exc {K : W.Frag} {a C : Addr} (F0 : ExcI K C) : W.KitX K (.ref a) (.ref C) (fun h => ∃ oe, h.get? a = some oe ∧ oe.cls = .ref C) where
  ty := fun M h _ ⟨oe, e, c⟩ => c ▸ (W.Looks.ld e).andThen .now
  it := fun M h X _ => isType_ok X F0.cl
  ne := fun h tp dd its n sl X htp => by
    refine Bool.eq_false_iff.mpr fun q => ?_
    have e : C = tp := Value.ref.inj (beq_iff_eq.mp q)
    subst e
    have hc := F0.cl
    unfold W.isClsIn W.clsIn at hc
    split at hc
    · rename_i c' d' cd' sl' lk
      have z := (X _ _ lk).symm.trans htp
      cases z
    · cases hc
  ca := fun {prog w A E Q s} X ⟨oe, e, c⟩ k => by
    obtain ⟨h, g, d, t, os⟩ := s
    exact excCls_attr X F0 e c k
inductive TyX (K : W.Frag) (H : Hp) : V → Value → Prop where
  | of {x : V} {t : Value} (h : TyOf K H x t) : TyX K H x t
  | tup {a : Addr} {xs : List V} (h : SqT K H a xs) : TyX K H (.ref a) (.type "tuple")
  | lst {a : Addr} {xs : List V} (h : SqL K H a xs) : TyX K H (.ref a) (.type "list")
  | exc {a C : Addr} (h : H a = some (excO a (.ref C))) (F0 : ExcI K C) : TyX K H (.ref a) (.ref C)
def clsV : V → Value → Prop
  | .ty n, c => c = .type n
  | .ref C, c => c = .ref C
  | _, _ => False
theorem call_isi {X : Cx} : CallR X (.builtin "isinstance") (fun xs H Q => ∃ x cv t c b, xs = [x, cv] ∧ clsV cv c ∧ TyX X.K H x t ∧ W.kitOne X.K t c = some b ∧ Q (.bl b) H) := by
  intro pins s σ H xs us Q I r h
  obtain ⟨x, cv, t, c, b, rfl, hcv, ty, e, q⟩ := h
  obtain ⟨u, v, rfl, ru, rv⟩ := r.two
  have hv : v = c := by
    cases cv with
    | ty n => exact (show v = _ from rv).trans (show c = _ from hcv).symm
    | ref C => exact (show v = _ from rv).trans (show c = _ from hcv).symm
    | _ => exact False.elim hcv
  subst hv
  have fin : ∀ tk, EP X pins σ Q (.bool b) { s with toks := tk } := fun tk => ⟨.bl b, H, I.tok tk, rfl, q⟩
  cases ty with
  | of ty => exact isinst_ok I ru ty e fin
  | @tup a xs ht =>
    cases (show u = Value.ref a from ru)
    obtain ⟨its, _, p, _⟩ := I.tuple ht
    obtain ⟨o, h1, h2, _⟩ := p
    exact W.kia_one W.kitx_tuple I.kIn ⟨o, h1, h2⟩ e (fun z => nomatch z) fin
  | @lst a xs ht =>
    cases (show u = Value.ref a from ru)
    obtain ⟨its, _, p, _⟩ := I.list ht
    obtain ⟨o, h1, h2, _⟩ := p.isList
    exact W.kia_one W.kitx_list I.kIn ⟨o, h1, h2⟩ e (fun z => nomatch z) fin
  | @exc a C ha F0 =>
    cases (show u = Value.ref a from ru)
    obtain ⟨⟨oe, vs, h1, h2, _⟩, _⟩ := (show ObjOk X.prog X.w H s.heap a (excO a (.ref C)) from I.hok a _ ha)
    exact W.kia_one (kitx_exc F0) I.kIn ⟨oe, h1, h2⟩ e (fun z => nomatch z) fin
theorem kit_ii {K : W.Frag} : W.kitOne K (.type "int") (.type "int") = some true := rfl
theorem kit_ib {K : W.Frag} : W.kitOne K (.type "int") (.type "bool") = some false := by kernel_rfl
theorem kit_tt {K : W.Frag} : W.kitOne K (.type "tuple") (.type "tuple") = some true := rfl
theorem kit_bb {K : W.Frag} : W.kitOne K (.type "bool") (.type "bool") = some true := rfl
theorem kit_ll {K : W.Frag} : W.kitOne K (.type "list") (.type "list") = some true := rfl
structure ClsI (K : W.Frag) (C : Addr) : Prop where
  cl : W.isClsIn K C = true
  ty : W.typeIn K (.ref C) = some (.type "type")
theorem kit_own {K : W.Frag} {C D : Addr} {b : Bool} (c : ClsI K D) (hm : W.mroIn K C (.ref D) = some b) : W.kitOne K (.ref C) (.ref D) = some (if C = D then true else b) := by
  unfold W.kitOne
  by_cases z : C = D
  · subst z
    rw [if_pos (by simp), if_pos rfl]
  · rw [if_neg (by simpa using z), if_neg z]
    unfold W.kitCls
    have h1 : (W.clsIn K D).isSome = true := c.cl
    have h2 : (W.typeIn K (.ref D) == some (.type "type")) = true := by rw [c.ty]; rfl
    simp only [h1, h2, Bool.and_self, if_true]
    exact hm
theorem kit_ve {K : W.Frag} {C : Addr} {b : Bool} (hm : W.mroIn K C (.type "ValueError") = some b) : W.kitOne K (.ref C) (.type "ValueError") = some b := by
  unfold W.kitOne
  rw [if_neg (by simp)]
  unfold W.kitCls
  have h1 : W.kitMeta "ValueError" = true := by decide +kernel
  simp only [h1, if_true]
  exact hm
end L2
namespace L2
open PySem PySem.Spec PyProof.Rows
section
variable {prog : Program} {w : World} {A : Around} {E : Value → Shared → Prop} {s : Shared} {q p : Addr} {k : Nat} {its : Array Value} {Q : Value → Shared → Prop}
end
section
variable {X : Cx}
end
end L2
namespace Mx
def upto (n : Nat) : List Int := (List.range n).map fun (i : Nat) => (i : Int)
theorem upto_length (n : Nat) : (upto n).length = n := by simp [upto]
theorem mem_upto {n : Nat} {x : Int} : x ∈ upto n ↔ 0 ≤ x ∧ x < n := by
  simp only [upto, List.mem_map, List.mem_range]
  constructor
  · rintro ⟨i, hi, rfl⟩; omega
  · rintro ⟨h0, h1⟩; exact ⟨x.toNat, by omega, by omega⟩
theorem upto_nodup (n : Nat) : (upto n).Nodup := by
  unfold upto List.Nodup
  rw [List.pairwise_map]
  exact (List.nodup_range (n := n)).imp (fun h e => h (by omega))
theorem upto_sorted (n : Nat) : (upto n).Pairwise (· ≤ ·) := by
  unfold upto
  rw [List.pairwise_map]
  exact (List.pairwise_lt_range (n := n)).imp (fun h => by omega)
def sortI (l : List Int) : List Int := l.mergeSort fun a b => decide (a ≤ b)
theorem sortI_perm (l : List Int) : (sortI l).Perm l := List.mergeSort_perm l _
theorem sortI_sorted (l : List Int) : (sortI l).Pairwise (· ≤ ·) := by
  have h := List.pairwise_mergeSort (le := fun a b : Int => decide (a ≤ b)) (by intro a b c; simp; omega) (by intro a b; simp; omega) l
  exact h.imp (fun h => by simpa using h)
theorem eq_sortI {l ys : List Int} (p : ys.Perm l) (s : ys.Pairwise (· ≤ ·)) : ys = sortI l :=
  List.Perm.eq_of_pairwise (fun a b _ _ h1 h2 => Int.le_antisymm h1 h2) s (sortI_sorted l) (p.trans (sortI_perm l).symm)
def Ord (l : List Int) : Prop := sortI l = upto l.length
theorem Ord.perm {l : List Int} (h : Ord l) : l.Perm (upto l.length) := by
  have p := (sortI_perm l).symm
  rw [h] at p
  exact p
theorem Ord.mem {l : List Int} (h : Ord l) {x : Int} (hx : x ∈ l) : 0 ≤ x ∧ x < l.length := mem_upto.mp (h.perm.mem_iff.mp hx)
end Mx
namespace L2
open PySem PySem.Spec PyProof.Rows
section
variable {κ : Type} [DecidableEq κ]
def valV (kvs : List (κ × V)) (k : κ) : Option V := (kvs.find? fun kv => decide (kv.1 = k)).map (·.2)
def putK (kvs : List (κ × V)) (k : κ) (v : V) : List (κ × V) :=
  if (kvs.any fun kv => decide (kv.1 = k)) = true then kvs.map (fun kv => if kv.1 = k then (kv.1, v) else kv) else kvs ++ [(k, v)]
theorem valV_nil {k : κ} : valV ([] : List (κ × V)) k = none := rfl
theorem valV_pos {p : κ × V} {r : List (κ × V)} {k : κ} (e : p.1 = k) : valV (p :: r) k = some p.2 := by simp [valV, List.find?_cons, e]
theorem valV_neg {p : κ × V} {r : List (κ × V)} {k : κ} (e : ¬ p.1 = k) : valV (p :: r) k = valV r k := by simp [valV, List.find?_cons, e]
theorem valV_any (k : κ) : ∀ kvs : List (κ × V), (kvs.any fun kv => decide (kv.1 = k)) = (valV kvs k).isSome
  | [] => rfl
  | p :: r => by
    rw [List.any_cons]
    by_cases e : p.1 = k
    · simp only [valV_pos e, decide_eq_true e, Bool.true_or, Option.isSome_some]
    · rw [valV_neg e, decide_eq_false e, Bool.false_or]; exact valV_any k r
theorem length_putK (kvs : List (κ × V)) (k : κ) (v : V) : (putK kvs k v).length ≤ kvs.length + 1 := by
  unfold putK
  split
  · rw [List.length_map]; omega
  · rw [List.length_append, List.length_cons, List.length_nil]; omega
theorem RelO.isSome_eq {o : Option V} {u : Option Value} (r : RelO o u) : o.isSome = u.isSome := by
  cases o with
  | none => cases u with
    | none => rfl
    | some _ => exact (show False from r).elim
  | some _ => cases u with
    | none => exact (show False from r).elim
    | some _ => rfl
theorem KV.val {kvs : List (κ × V)} {vs : List (κ × Value)} (r : KV kvs vs) (k : κ) : RelO (valV kvs k) (valueAt vs k) := by
  unfold KV at r
  induction r with
  | nil => exact True.intro
  | @cons p q ps qs h t ih =>
    obtain ⟨h1, h2⟩ := h
    by_cases e : p.1 = k
    · have e' : q.1 = k := h1.symm.trans e
      have b : valueAt (q :: qs) k = some q.2 := by simp [valueAt, List.find?_cons, e']
      rw [valV_pos e, b]; exact h2
    · have e' : ¬ q.1 = k := fun z => e (h1.trans z)
      have b : valueAt (q :: qs) k = valueAt qs k := by simp [valueAt, List.find?_cons, e']
      rw [valV_neg e, b]; exact ih
theorem KV.any {kvs : List (κ × V)} {vs : List (κ × Value)} (r : KV kvs vs) (k : κ) : (kvs.any fun kv => decide (kv.1 = k)) = vs.any fun kv => decide (kv.1 = k) := by
  unfold KV at r
  induction r with
  | nil => rfl
  | cons h t ih => rw [List.any_cons, List.any_cons, ih, h.1]
theorem KV.repl {kvs : List (κ × V)} {vs : List (κ × Value)} (r : KV kvs vs) (k : κ) {y : V} {u : Value} (ry : RelV y u) :
    KV (kvs.map fun kv => if kv.1 = k then (kv.1, y) else kv) (vs.map fun kv => if kv.1 = k then (kv.1, u) else kv) := by
  unfold KV at r ⊢
  induction r with
  | nil => exact .nil
  | @cons p q ps qs h t ih =>
    rw [List.map_cons, List.map_cons]
    refine .cons ?_ ih
    obtain ⟨h1, h2⟩ := h
    by_cases e : p.1 = k
    · rw [if_pos e, if_pos (h1.symm.trans e)]; exact ⟨h1, ry⟩
    · rw [if_neg e, if_neg (fun z => e (h1.trans z))]; exact ⟨h1, h2⟩
theorem KV.put {kvs : List (κ × V)} {vs : List (κ × Value)} (r : KV kvs vs) (k : κ) {y : V} {u : Value} (ry : RelV y u) : KV (putK kvs k y) (stored vs k u) := by
  unfold putK stored
  rw [r.any k]
  by_cases e : (vs.any fun kv => decide (kv.1 = k)) = true
  · rw [if_pos e, if_pos e]; exact r.repl k ry
  · rw [if_neg e, if_neg e]; exact Paired.snoc r ⟨rfl, ry⟩
theorem KV.length {kvs : List (κ × V)} {vs : List (κ × Value)} (r : KV kvs vs) : kvs.length = vs.length := Paired.length r
end
theorem kV_is {P : Program} {w : World} {k : Key} {u : Value} (r : RelV (kV k) u) : (mixKind P w).is k u = true := by
  cases k with
  | inl i => obtain ⟨t, e⟩ := (show ∃ t, u = Value.int i t from r); subst e; exact mixKind_int P w i t
  | inr x => obtain ⟨t, e⟩ := (show ∃ t, u = Value.str x t from r); subst e; exact mixKind_str P w x t
theorem items_are {P : Program} {w : World} : ∀ {ks : List Key} {us : List Value}, Vals (ks.map kV) us → ItemsAre (mixKind P w) ks us
  | [], _, r => by rw [List.map_nil] at r; cases r; exact .nil
  | k :: ks, _, r => by
    rw [List.map_cons] at r
    cases r with
    | cons h t => exact .cons (kV_is h) (items_are t)
abbrev KT (H : Hp) : List (List Key × V) → List (List Key × Addr × Value) → Prop := Paired fun p q => p.1 = q.1 ∧ H q.2.1 = some (.tup (p.1.map kV)) ∧ RelV p.2 q.2.2
theorem KT.val {H : Hp} {kvs : List (List Key × V)} {xs : List (List Key × Addr × Value)} (r : KT H kvs xs) (k : List Key) : RelO (valV kvs k) ((atKey xs k).map (·.2)) := by
  induction r with
  | nil => exact True.intro
  | @cons p q ps qs h t ih =>
    obtain ⟨h1, _, h2⟩ := h
    by_cases e : p.1 = k
    · have e' : q.1 = k := h1.symm.trans e
      have b : atKey (q :: qs) k = some q.2 := by simp [atKey, List.find?_cons, e']
      rw [valV_pos e, b]; exact h2
    · have e' : ¬ q.1 = k := fun z => e (h1.trans z)
      have b : atKey (q :: qs) k = atKey qs k := by simp [atKey, List.find?_cons, e']
      rw [valV_neg e, b]; exact ih
theorem KT.repl {H : Hp} {kvs : List (List Key × V)} {xs : List (List Key × Addr × Value)} (r : KT H kvs xs) (k : List Key) {y : V} {u : Value} (ry : RelV y u) :
    KT H (kvs.map fun kv => if kv.1 = k then (kv.1, y) else kv) (xs.map (putAt k u)) := by
  induction r with
  | nil => exact .nil
  | @cons p q ps qs h t ih =>
    rw [List.map_cons, List.map_cons]
    refine .cons ?_ ih
    obtain ⟨h1, h2, h3⟩ := h
    unfold putAt
    by_cases e : p.1 = k
    · rw [if_pos e, if_pos (h1.symm.trans e)]; exact ⟨h1, h2, ry⟩
    · rw [if_neg e, if_neg (fun z => e (h1.trans z))]; exact ⟨h1, h2, h3⟩
theorem KT.put {H : Hp} {kvs : List (List Key × V)} {xs : List (List Key × Addr × Value)} (r : KT H kvs xs) (k : List Key) {b : Addr} {y : V} {u : Value} (hb : H b = some (.tup (k.map kV))) (ry : RelV y u) :
    KT H (putK kvs k y) (storedH xs k b u) := by
  have e : (kvs.any fun kv => decide (kv.1 = k)) = (atKey xs k).isSome := by
    rw [valV_any, (r.val k).isSome_eq, Option.isSome_map]
  unfold putK storedH
  rw [e]
  by_cases q : (atKey xs k).isSome = true
  · rw [if_pos q, if_pos q]; exact r.repl k ry
  · rw [if_neg q, if_neg q]; exact Paired.snoc r ⟨rfl, hb, ry⟩
theorem KT.keeps {H H' : Hp} {kvs : List (List Key × V)} {xs : List (List Key × Addr × Value)} (r : KT H kvs xs) (ht : ∀ b ys, H b = some (.tup ys) → H' b = some (.tup ys)) : KT H' kvs xs :=
  Paired.mapP r fun _ _ z => ⟨z.1, ht _ _ z.2.1, z.2.2⟩
section
variable {P : Program} {w : World} {H : Hp} {h : Heap} {a : Addr}
theorem rd_of {u : HO} (ok : HOk P w H h) (e : Rd H a u) : ObjOk P w H h a u := e.ok ok
theorem dk_rd {kvs : List (Key × V)} (ok : HOk P w H h) (e : Rd H a (.dK kvs)) : kvs.length ≤ sizeLine ∧ (a == sysModules) = false ∧ ∃ vs, KV kvs vs ∧ h.DictOf (mixKind P w) a vs :=
  show ObjOk P w H h a (.dK kvs) from rd_of ok e
theorem dk_of {kvs : List (Key × V)} (ok : HOk P w H h) (e : H a = some (.dK kvs)) : kvs.length ≤ sizeLine ∧ (a == sysModules) = false ∧ ∃ vs, KV kvs vs ∧ h.DictOf (mixKind P w) a vs := dk_rd ok (.inl e)
theorem key_of {ks : List Key} (ok : HOk P w H h) (e : H a = some (.tup (ks.map kV))) : (tupleKind (mixKind P w)).is h ks a := by
  obtain ⟨_, its, r, o, h1, h2, n, h3⟩ := (show ObjOk P w H h a (.tup (ks.map kV)) from ok a _ e)
  exact ⟨o, its.toArray, n, h1, h2, h3, by simpa using items_are r⟩
theorem dt_rd {kvs : List (List Key × V)} (ok : HOk P w H h) (e : Rd H a (.dT kvs)) : kvs.length ≤ sizeLine ∧ (a == sysModules) = false ∧
    ∃ xs, KT H kvs xs ∧ h.DictOfH (tupleKind (mixKind P w)) a xs := by
  obtain ⟨z, y, xs, r, o, es, ep, h1, h2, h3, h4, h5⟩ := (show ObjOk P w H h a (.dT kvs) from rd_of ok e)
  refine ⟨z, y, xs, r, o, es, ep, h1, h2, h3, h4, fun x hx => ?_, h5⟩
  have all : ∀ {l : List (List Key × V)} {m : List (List Key × Addr × Value)}, KT H l m → ∀ x ∈ m, (tupleKind (mixKind P w)).is h x.1 x.2.1 := by
    intro l m q
    induction q with
    | nil => intro x hx; exact nomatch hx
    | @cons p q ps qs hq t ih =>
      intro x hx
      rcases List.mem_cons.mp hx with e | hx
      · subst e
        exact key_of ok (by rw [← hq.1]; exact hq.2.1)
      · exact ih x hx
  exact all r x hx
theorem dt_of {kvs : List (List Key × V)} (ok : HOk P w H h) (e : H a = some (.dT kvs)) : kvs.length ≤ sizeLine ∧ (a == sysModules) = false ∧
    ∃ xs, KT H kvs xs ∧ h.DictOfH (tupleKind (mixKind P w)) a xs := dt_rd ok (.inl e)
end
def DGet (H : Hp) (a : Addr) (y : V) (r : Option V) : Prop :=
  (∃ kvs k, Rd H a (.dK kvs) ∧ y = kV k ∧ r = valV kvs k) ∨ ∃ kvs k b, Rd H a (.dT kvs) ∧ y = .ref b ∧ H b = some (.tup (k.map kV)) ∧ r = valV kvs k
def DPut (H : Hp) (a : Addr) (y v : V) (H' : Hp) : Prop :=
  (∃ kvs k, H a = some (.dK kvs) ∧ y = kV k ∧ kvs.length < sizeLine ∧ H' = upd H a (.dK (putK kvs k v))) ∨
  ∃ kvs k b, H a = some (.dT kvs) ∧ y = .ref b ∧ H b = some (.tup (k.map kV)) ∧ kvs.length < sizeLine ∧ H' = upd H a (.dT (putK kvs k v))
theorem DGet.k {H : Hp} {a : Addr} {kvs : List (Key × V)} {k : Key} (e : H a = some (.dK kvs)) : DGet H a (kV k) (valV kvs k) := .inl ⟨kvs, k, .inl e, rfl, rfl⟩
theorem DPut.k {H : Hp} {a : Addr} {kvs : List (Key × V)} {k : Key} {v : V} (e : H a = some (.dK kvs)) (hl : kvs.length < sizeLine) : DPut H a (kV k) v (upd H a (.dK (putK kvs k v))) := .inl ⟨kvs, k, e, rfl, hl, rfl⟩
section
variable {X : Cx} {pins : List (Addr × Obj)} {σ : St} {H : Hp} {s : Shared} {a : Addr} {y v : V} {u r : Value} {o : Option V} {A : Around} {E : Value → Shared → Prop}
theorem Inv.big (I : Inv X pins σ H s) : sysModules < s.heap.objs.size := by
  have h : mainGlobals < s.heap.objs.size := (I.mod.glob.keeps I.bk).lt
  exact Nat.lt_trans (by decide) h
theorem d_getItem {Q : Value → Shared → Prop} (hu : A.units + 1 < cLine) (I : Inv X pins σ H s) (g : DGet H a y (some v)) (ry : RelV y u) (h : ∀ w' s', Inv X pins σ H s' → RelV v w' → Q w' s') :
    wpAny (model X.prog X.w) A (getItem (.ref a) u) Q E s := by
  rcases g with ⟨kvs, k, e, ey, l⟩ | ⟨kvs, k, b, e, ey, eb, l⟩
  · subst ey
    obtain ⟨z, hd, vs, rel, dd⟩ := dk_rd I.hok e
    obtain ⟨w', hw, rw'⟩ := RelO.some_of (v := v) (o := valueAt vs k) (by rw [l]; exact rel.val k)
    exact wpAny_getItem_of (kV_is ry) dd.mapOf hw (h w' _ (I.tok _) rw')
  · subst ey
    cases (show u = Value.ref b from ry)
    obtain ⟨z, hd, xs, rel, dd⟩ := dt_rd I.hok e
    obtain ⟨w', hw, rw'⟩ := RelO.some_of (v := v) (o := (atKey xs k).map (·.2)) (by rw [l]; exact rel.val k)
    obtain ⟨p, hp, hp2⟩ := Option.map_eq_some_iff.mp hw
    refine wpAny_getItem_heap (tupleKind_room_in1 hu) (key_of I.hok eb) dd hp ?_
    rw [hp2]
    exact h w' _ (I.tok _) rw'
theorem d_in {Q : Value → Shared → Prop} (hu : A.units + 1 < cLine) (I : Inv X pins σ H s) (g : DGet H a y o) (ry : RelV y u) (h : ∀ s', Inv X pins σ H s' → Q (.bool o.isSome) s') :
    wpAny (model X.prog X.w) A (compareOp .In u (.ref a)) Q E s := by
  rcases g with ⟨kvs, k, e, ey, l⟩ | ⟨kvs, k, b, e, ey, eb, l⟩
  · subst ey
    obtain ⟨z, hd, vs, rel, dd⟩ := dk_rd I.hok e
    refine wpAny_in_of (kV_is ry) hd dd.mapOf ?_
    rw [← (rel.val k).isSome_eq, ← l]
    exact h _ (I.tok _)
  · subst ey
    cases (show u = Value.ref b from ry)
    obtain ⟨z, hd, xs, rel, dd⟩ := dt_rd I.hok e
    refine wpAny_in_heap (tupleKind_room_in1 hu) (key_of I.hok eb) hd dd ?_
    have q := (rel.val k).isSome_eq
    rw [Option.isSome_map] at q
    rw [← q, ← l]
    exact h _ (I.tok _)
theorem d_write {h' : Heap} {t' : Nat} {ob : HO} (I : Inv X pins σ H s) (mu : Mut (H a)) (hs : Heap.SameBut a s.heap h') (he : ∃ q, h'.get? a = some q) (new : ObjOk X.prog X.w (upd H a ob) h' a ob) :
    Inv X pins σ (upd H a ob) { s with heap := h', toks := t' } :=
  I.write (x := a) (e := a) mu (.inl rfl) (fun b q hb z => (hs.2 b hb).trans z) he new
theorem dk_new {P : Program} {w : World} {H' : Hp} {h' : Heap} {kvs : List (Key × V)} {vs : List (Key × Value)} (z : kvs.length ≤ sizeLine) (hd : (a == sysModules) = false) (rel : KV kvs vs) (dd : h'.DictOf (mixKind P w) a vs) :
    ObjOk P w H' h' a (.dK kvs) := ⟨z, hd, vs, rel, dd⟩
theorem d_setItem {H' : Hp} {Q : Unit → Shared → Prop} (hu : A.units + 1 < cLine) (I : Inv X pins σ H s) (g : DPut H a y v H') (ry : RelV y u) (rv : RelV v r) (h : ∀ s', Inv X pins σ H' s' → Q () s') :
    wpAny (model X.prog X.w) A (setItem (.ref a) u r) Q E s := by
  rcases g with ⟨kvs, k, e, ey, l, eH⟩ | ⟨kvs, k, b, e, ey, eb, l, eH⟩
  · subst ey eH
    obtain ⟨z, hd, vs, rel, dd⟩ := dk_of I.hok e
    have hz : vs.length ≤ sizeLine := by rw [← rel.length]; exact z
    have hl : (putK kvs k v).length ≤ sizeLine := by have := length_putK kvs k v; omega
    refine wpAny_setItem_pairs (hsz := hz) (kV_is ry) dd fun h' dd' hs => h _ ?_
    have he : ∃ q, h'.get? a = some q := let ⟨q, _, _, hq, _⟩ := dd'; ⟨q, hq⟩
    exact d_write I (by rw [e]; exact True.intro) hs he (dk_new hl hd (rel.put k rv) dd')
  · subst ey eH
    cases (show u = Value.ref b from ry)
    obtain ⟨z, hd, xs, rel, dd⟩ := dt_of I.hok e
    have hz : xs.length ≤ sizeLine := by rw [← Paired.length rel]; exact z
    have hl : (putK kvs k v).length ≤ sizeLine := by have := length_putK kvs k v; omega
    refine wpAny_setItem_heap (hsz := hz) (tupleKind_room_in1 hu) (key_of I.hok eb) dd fun h' dd' hs => h _ ?_
    obtain ⟨q, es, ep, hq, h2, h3, h4, _, h5⟩ := dd'
    refine d_write I (by rw [e]; exact True.intro) hs ⟨q, hq⟩ ⟨hl, hd, _, (rel.put k eb rv).keeps fun c ys ec => ?_, q, es, ep, hq, h2, h3, h4, h5⟩
    rw [upd_ne (ne_of ec e (fun z => nomatch z))]
    exact ec
end
section
variable {X : Cx} {pins : List (Addr × Obj)} {σ : St} {H : Hp} {s : Shared} {a : Addr} {kvs : List (Key × V)} {k : Key} {u : Value} {A : Around} {E : Value → Shared → Prop}
end
def NoSl (i : Expr) : Prop := ∀ ov iv, subscripted i false ov iv = operate [ov, iv] (getItem ov iv)
theorem subD_of {prog : Program} {w : World} {A : Around} {E : Value → Shared → Prop} {s : Shared} {env : Env} {value slice : Expr} {pos : Pos} {T id : String} {Q : Value → Shared → Prop}
    (hl : typeLookup (.type T) "__getitem__" = pure (some (.builtin id))) (hs : NoSl slice)
    (h : wpAny (model prog w) A (eval value env) (fun o s₁ => wpAny (model prog w) A (eval slice env) (fun i s₂ => s₂.TypeIs o T ∧ wpAny (model prog w) A (getItem o i) Q E s₂) E s₁) E s) :
    wpAny (model prog w) A (eval (.Subscript value slice pos) env) Q E s := by
  refine Subscript_ (wpAny_mono h (fun o s₁ h₁ => wpAny_mono h₁ (fun i s₂ h₂ => ?_) fun _ _ x => x) fun _ _ x => x)
  obtain ⟨hT, h₂⟩ := h₂
  unfold subscriptTail
  refine wpAny_bind ?_
  rw [getitemInPython_of_ne hT.not_modules]
  refine wpAny_bind (wpAny_specialOf hT hl ?_)
  have fin : wpAny (model prog w) A (subscripted slice false o i) (fun r s₃ => wpAny (model prog w) A (letTemporaryGo value o r >>= fun _ => pure r) Q E s₃) E s₂ := by
    rw [hs o i]
    exact wpAny_operating (wpAny_mono h₂ (fun r s₃ h₃ => wpAny_bind (wpAny_letTemporaryGo (wpAny_pure h₃))) fun _ _ x => x)
  first
    | exact wpAny_pure (wpAny_bind fin)
    | exact wpAny_bind (wpAny_pure (wpAny_bind fin))
    | exact wpAny_bind fin
theorem dict_typeIs {X : Cx} {pins : List (Addr × Obj)} {σ : St} {H : Hp} {s : Shared} {a : Addr} {y : V} {o : Option V} (I : Inv X pins σ H s) (g : DGet H a y o) : s.TypeIs (.ref a) "dict" := by
  rcases g with ⟨kvs, k, e, _, _⟩ | ⟨kvs, k, b, e, _, _, _⟩
  · obtain ⟨_, _, vs, _, dd⟩ := dk_rd I.hok e
    exact dd.typeIs
  · obtain ⟨_, _, xs, _, dd⟩ := dt_rd I.hok e
    exact dd.typeIs
def tDGet (td ty : TE) : TE := fun σ H Q => td σ H fun x H1 => ty σ H1 fun y H2 => ∃ a v, x = .ref a ∧ DGet H2 a y (some v) ∧ Q v H2
def tDIn (ty td : TE) : TE := fun σ H Q => ty σ H fun y H1 => td σ H1 fun x H2 => ∃ a o, x = .ref a ∧ DGet H2 a y o ∧ Q (.bl o.isSome) H2
def sDPut (td ty tv : TE) : TS := fun D σ H => tv σ H fun v H1 => td σ H1 fun x H2 => ty σ H2 fun y H3 => ∃ a H4, x = .ref a ∧ DPut H3 a y v H4 ∧ D.nx σ H4
section
variable {X : Cx} {o i e value : Expr} {pos pos' tpos : Pos} {td ty tv : TE}
theorem pe_dget (hu : X.A.units + 1 < cLine) (ho : PE X o td) (hi : PE X i ty) (hs : NoSl i) : PE X (.Subscript o i pos) (tDGet td ty) := by
  intro pins s σ H Q I h
  refine subD_of PySem.F.slot_dict_getitem.lookup hs (thn (ho pins s σ H _ I h) fun u s1 ⟨x, H1, I1, rx, q1⟩ => thn (hi pins s1 σ H1 _ I1 q1) fun iv s2 ⟨y, H2, I2, ry, a, v, ex, g, q2⟩ => ?_)
  subst ex
  obtain rfl : u = Value.ref a := rx
  exact ⟨dict_typeIs I2 g, d_getItem hu I2 g ry fun w' s3 I3 rw' => ⟨v, H2, I3, rw', q2⟩⟩
theorem pc_din (hu : X.A.units + 1 < cLine) (hi : PE X i ty) (ho : PE X o td) : PC X .In i o (tDIn ty td) := by
  intro pins s σ H Q I h
  refine thn (hi pins s σ H _ I h) fun iv s1 ⟨y, H1, I1, ry, q1⟩ => thn (ho pins s1 σ H1 _ I1 q1) fun u s2 ⟨x, H2, I2, rx, a, ov, ex, g, q2⟩ => ?_
  subst ex
  obtain rfl : u = Value.ref a := rx
  exact d_in hu I2 g ry fun s3 I3 => ⟨.bl ov.isSome, H2, I3, rfl, q2⟩
theorem ps_dput (hu : X.A.units + 1 < cLine) (ho : PE X o td) (hi : PE X i ty) (hv : PE X value tv) (hs : swapsWith value (some (.Subscript o i pos')) pos.line X.env = pure false) :
    PS X (.Assign [.Subscript o i pos'] value pos) (sDPut td ty tv) := by
  intro pins s σ H D I h
  refine wpAny_Assign_Subscript (thn (hv pins s σ H _ I h) fun r s1 ⟨v, H1, I1, rv, q1⟩ => thn (ho pins s1 σ H1 _ I1 q1) fun u s2 ⟨x, H2, I2, rx, q2⟩ => thn (hi pins s2 σ H2 _ I2 q2) fun iv s3 ⟨y, H3, I3, ry, a, H4, ex, g, q3⟩ => ?_) hs
  subst ex
  obtain rfl : u = Value.ref a := rx
  exact d_setItem hu I3 g ry rv fun s4 I4 => ⟨σ, H4, I4, q3⟩
end
theorem dk_empty {P : Program} {w : World} {H : Hp} (h : Heap) (hb : sysModules < h.objs.size) : ObjOk P w H (h.push { cls := .type "dict", data := .dict #[] }) h.objs.size (.dK []) :=
  ⟨Nat.zero_le _, beq_eq_false_iff_ne.mpr (Ne.symm (Nat.ne_of_lt hb)), [], .nil, Heap.DictOf.new h⟩
def tDNewK : TE := fun _ H Q => ∀ p, H p = none → Q (.ref p) (upd H p (.dK []))
section
variable {X : Cx} {pos : Pos}
theorem pe_dnewK : PE X (.Dict [] [] pos) tDNewK := fun pins s σ H Q I h =>
  wpAny_Dict_empty ⟨.ref s.heap.objs.size, _, I.laid (a := s.heap.objs.size) (o := .dK []) (t' := s.toks) (fun _ _ q => Heap.get?_push_of_some _ q) (Nat.le_refl _) (dk_empty s.heap I.big), rfl, h _ (I.hok.fresh (Nat.le_refl _))⟩
end
def tPairs : List (TE × TE) → St → Hp → (List (V × V) → Hp → Prop) → Prop
  | [], _, H, Q => Q [] H
  | (tk, tv) :: r, σ, H, Q => tk σ H fun x H1 => tv σ H1 fun y H2 => tPairs r σ H2 fun ps H3 => Q ((x, y) :: ps) H3
abbrev VV : List (V × V) → List (Value × Value) → Prop := Paired fun p q => RelV p.1 q.1 ∧ RelV p.2 q.2
def PPs (X : Cx) (pos : Pos) (keys : List (Option Expr)) (values : List Expr) (trs : List (TE × TE)) : Prop :=
  ∀ (pins : List (Addr × Obj)) (s : Shared) (σ : St) (H : Hp) (Q : List (V × V) → Hp → Prop), Inv X pins σ H s → tPairs trs σ H Q →
    wpAny (model X.prog X.w) X.A (evalPairs (pairTrees keys values X.env pos)) (fun vs s' => ∃ ps H', Inv X pins σ H' s' ∧ VV ps vs ∧ Q ps H') X.xe s
theorem pps_nil {X : Cx} {pos : Pos} : PPs X pos [] [] [] := fun pins s σ H Q I h => pairTrees_nil_walk ⟨[], H, I, .nil, h⟩
theorem pps_cons {X : Cx} {pos : Pos} {k v : Expr} {ks : List (Option Expr)} {vs : List Expr} {tk tv : TE} {trs : List (TE × TE)} (hk : PE X k tk) (hv : PE X v tv) (hr : PPs X pos ks vs trs) :
    PPs X pos (some k :: ks) (v :: vs) ((tk, tv) :: trs) := fun pins s σ H Q I h =>
  pairTrees_cons_walk (thn (hk pins s σ H _ I h) fun u s1 ⟨x, H1, I1, rx, q1⟩ => thn (hv pins s1 σ H1 _ I1 q1) fun w2 s2 ⟨y, H2, I2, ry, q2⟩ =>
    thn (hr pins s2 σ H2 _ I2 q2) fun ws s3 ⟨ps, H3, I3, rel, q3⟩ => ⟨(x, y) :: ps, H3, I3, .cons ⟨rx, ry⟩ rel, q3⟩)
def mergeK (kvs more : List (Key × V)) : List (Key × V) := more.foldl (fun acc kv => putK acc kv.1 kv.2) kvs
theorem KV.merge : ∀ {more : List (Key × V)} {rs : List (Key × Value)} {kvs : List (Key × V)} {vs : List (Key × Value)}, KV more rs → KV kvs vs → KV (mergeK kvs more) (merged vs rs) := by
  intro more rs kvs vs r
  unfold KV at r
  induction r generalizing kvs vs with
  | nil => intro q; exact q
  | @cons p q ps qs h t ih =>
    intro r0
    have e : KV (putK kvs p.1 p.2) (stored vs q.1 q.2) := by
      have := r0.put p.1 h.2
      rw [← h.1]; exact this
    exact ih e
theorem length_mergeK : ∀ (more kvs : List (Key × V)), (mergeK kvs more).length ≤ kvs.length + more.length
  | [], kvs => by show kvs.length ≤ kvs.length + 0; omega
  | p :: r, kvs => by
    have h1 := length_mergeK r (putK kvs p.1 p.2)
    have h2 := length_putK kvs p.1 p.2
    show (mergeK (putK kvs p.1 p.2) r).length ≤ _
    rw [List.length_cons]; omega
theorem carries_of {P : Program} {w : World} : ∀ {kvs : List (Key × V)} {ws : List (Value × Value)}, VV (kvs.map fun kv => (kV kv.1, kv.2)) ws → ∃ rs, Carries (mixKind P w) ws rs ∧ KV kvs rs
  | [], _, r => by rw [List.map_nil] at r; cases r; exact ⟨[], True.intro, .nil⟩
  | p :: kvs, _, r => by
    rw [List.map_cons] at r
    cases r with
    | @cons a b as bs h t =>
      obtain ⟨rs, c, q⟩ := carries_of (P := P) (w := w) t
      obtain ⟨b1, b2⟩ := b
      exact ⟨(p.1, b2) :: rs, ⟨kV_is h.1, rfl, c⟩, .cons ⟨rfl, h.2⟩ q⟩
def tDisp (trs : List (TE × TE)) : TE := fun σ H Q => ∀ p, H p = none → tPairs trs σ (upd H p (.dK [])) fun ps H2 => H2 p = some (.dK []) ∧ ∃ kvs : List (Key × V), ps = kvs.map (fun kv => (kV kv.1, kv.2)) ∧ kvs.length ≤ 15 ∧ Q (.ref p) (upd H2 p (.dK (mergeK [] kvs)))
theorem pe_disp {X : Cx} {pos : Pos} {keys : List (Option Expr)} {values : List Expr} {trs : List (TE × TE)} (h : PPs X pos keys values trs) (hall : keys.all (·.isSome) = true) (hl : keys.length = values.length) (h0 : keys ≠ [])
    (h15 : keys.length ≤ 15) : PE X (.Dict keys values pos) (tDisp trs) := by
  intro pins s σ H Q I q
  have hn := I.hok.fresh (Nat.le_refl s.heap.objs.size)
  have I1 := I.laid (a := s.heap.objs.size) (o := .dK []) (h' := s.heap.push { cls := .type "dict", data := .dict #[] }) (t' := s.toks) (fun _ _ q => Heap.get?_push_of_some _ q) (Nat.le_refl _) (dk_empty s.heap I.big)
  refine wpAny_Dict_walk (knd := mixKind X.prog X.w) hall hl h0 h15 (thn (h pins _ σ _ _ I1 (q _ hn)) fun ws s2 ⟨ps, H2, I2, rel, e, kvs, ep, lk, q2⟩ => ?_)
  subst ep
  obtain ⟨rs, c, rk⟩ := carries_of (P := X.prog) (w := X.w) rel
  obtain ⟨z, hd, vs0, r0, dd⟩ := dk_of I2.hok e
  cases r0
  refine ⟨rs, c, dd, fun h' dd' hs => ⟨.ref s.heap.objs.size, _, ?_, rfl, q2⟩⟩
  have hz : (mergeK [] kvs).length ≤ sizeLine := by
    have h1 := length_mergeK kvs []
    rw [List.length_nil] at h1
    rw [sizeLine_eq]; omega
  have he : ∃ q, h'.get? s.heap.objs.size = some q := let ⟨q, _, _, hq, _⟩ := dd'; ⟨q, hq⟩
  exact d_write I2 (by rw [e]; exact True.intro) hs he (dk_new hz hd (rk.merge .nil) dd')
section
variable {X : Cx} {pins : List (Addr × Obj)} {σ : St} {H : Hp} {s : Shared} {a : Addr} {y d : V} {u r : Value} {o : Option V} {A : Around} {E : Value → Shared → Prop}
end
section
variable {X : Cx} {o e f : Expr} {apos cpos : Pos} {td ty tx : TE}
end
section
variable {X : Cx} {pins : List (Addr × Obj)} {σ : St} {H : Hp} {s : Shared} {a : Addr} {kvs : List (Key × V)} {A : Around} {E : Value → Shared → Prop}
end
section
variable {X : Cx} {pins : List (Addr × Obj)} {σ : St} {H : Hp} {s : Shared} {a : Addr} {y : V} {u : Value} {A : Around} {E : Value → Shared → Prop}
end
end L2
namespace L2
open PySem PySem.Spec PyProof.Rows
section
variable {X : Cx}
end
section
variable {κ : Type} [DecidableEq κ]
end
end L2
namespace L2
open PySem PySem.Spec PyProof.Rows
theorem relv_inj {x y : V} {u : Value} (h1 : RelV x u) (h2 : RelV y u) : x = y := by
  have q : Vals [x] [u] := .cons h1 .nil
  have q' : Vals [y] [u] := .cons h2 .nil
  exact (List.cons.inj (q.inj q')).1
theorem pget {α β : Type} {F : α → β → Prop} : ∀ {l₁ : List α} {l₂ : List β} {i : Nat} {a : α}, Paired F l₁ l₂ → l₁[i]? = some a → ∃ b, l₂[i]? = some b ∧ F a b
  | _, _, _, _, .nil, e => by simp at e
  | _, _, 0, _, .cons h _, e => by simp at e; subst e; exact ⟨_, rfl, h⟩
  | _, _, i + 1, a, .cons _ t, e => by
    obtain ⟨b, h1, h2⟩ := pget (i := i) (a := a) t (by simpa using e)
    exact ⟨b, by simpa using h1, h2⟩
theorem pget' {α β : Type} {F : α → β → Prop} : ∀ {l₁ : List α} {l₂ : List β} {i : Nat} {b : β}, Paired F l₁ l₂ → l₂[i]? = some b → ∃ a, l₁[i]? = some a ∧ F a b
  | _, _, _, _, .nil, e => by simp at e
  | _, _, 0, _, .cons h _, e => by simp at e; subst e; exact ⟨_, rfl, h⟩
  | _, _, i + 1, b, .cons _ t, e => by
    obtain ⟨a, h1, h2⟩ := pget' (i := i) (b := b) t (by simpa using e)
    exact ⟨a, by simpa using h1, h2⟩
theorem pimp {α β : Type} {F G : α → β → Prop} (f : ∀ a b, F a b → G a b) : ∀ {l₁ : List α} {l₂ : List β}, Paired F l₁ l₂ → Paired G l₁ l₂
  | _, _, .nil => .nil
  | _, _, .cons h t => .cons (f _ _ h) (pimp f t)
theorem papp {α β : Type} {F : α → β → Prop} : ∀ {l₁ m₁ : List α} {l₂ m₂ : List β}, Paired F l₁ l₂ → Paired F m₁ m₂ → Paired F (l₁ ++ m₁) (l₂ ++ m₂)
  | _, _, _, _, .nil, s => s
  | _, _, _, _, .cons h t, s => .cons h (papp t s)
theorem ptake {α β : Type} {F : α → β → Prop} : ∀ {l₁ : List α} {l₂ : List β} (n : Nat), Paired F l₁ l₂ → Paired F (l₁.take n) (l₂.take n)
  | _, _, 0, _ => .nil
  | _, _, _ + 1, .nil => .nil
  | _, _, n + 1, .cons h t => .cons h (ptake n t)
theorem pdrop {α β : Type} {F : α → β → Prop} : ∀ {l₁ : List α} {l₂ : List β} (n : Nat), Paired F l₁ l₂ → Paired F (l₁.drop n) (l₂.drop n)
  | _, _, 0, h => h
  | _, _, _ + 1, .nil => .nil
  | _, _, n + 1, .cons _ t => pdrop n t
theorem pfn {α β : Type} {F : α → β → Prop} (f : ∀ a b c, F a b → F a c → b = c) : ∀ {l : List α} {m n : List β}, Paired F l m → Paired F l n → m = n
  | _, _, _, .nil, .nil => rfl
  | _, _, _, .cons h t, .cons h' t' => by rw [f _ _ _ h h', pfn f t t']
theorem all_dec {α : Type} [DecidableEq α] {as bs : List α} (hl : as.length = bs.length) : (List.range as.length).all (fun j => decide (as[j]? = bs[j]?)) = decide (as = bs) := by
  by_cases h : as = bs
  · subst h
    rw [decide_eq_true rfl, List.all_eq_true]
    intro j _
    exact decide_eq_true rfl
  · rw [decide_eq_false h]
    cases e : (List.range as.length).all (fun j => decide (as[j]? = bs[j]?)) with
    | false => rfl
    | true =>
      rw [List.all_eq_true] at e
      refine absurd (List.ext_getElem? fun j => ?_) h
      by_cases hj : j < as.length
      · exact of_decide_eq_true (e j (List.mem_range.mpr hj))
      · rw [List.getElem?_eq_none (by omega), List.getElem?_eq_none (by omega)]
structure Dk (α : Type) [DecidableEq α] where
  rep : W.Frag → Hp → V → α → Prop
  dep : Nat
  mono : ∀ {K : W.Frag} {H H' : Hp} {x : V} {a : α}, Same H H' → rep K H x a → rep K H' x a
  fn : ∀ {X : Cx} {pins : List (Addr × Obj)} {σ : St} {H : Hp} {s : Shared} {x : V} {a b : α}, Inv X pins σ H s → rep X.K H x a → rep X.K H x b → a = b
  eqAt : ∀ {X : Cx} {pins : List (Addr × Obj)} {σ : St} {H : Hp} {s : Shared} {A : Around} {x y : V} {a b : α} {u v : Value}, Inv X pins σ H s → A.units + dep < cLine → rep X.K H x a → rep X.K H y b → RelV x u → RelV y v → SeqAt.EqAt A s u v (decide (a = b))
  rcAt : ∀ {X : Cx} {pins : List (Addr × Obj)} {σ : St} {H : Hp} {s : Shared} {A : Around} {x y : V} {a b : α} {u v : Value}, Inv X pins σ H s → A.units + dep < cLine → rep X.K H x a → rep X.K H y b → RelV x u → RelV y v → SeqAt.RcAt A s u v (decide (a = b))
  neAt : ∀ {X : Cx} {pins : List (Addr × Obj)} {σ : St} {H : Hp} {s : Shared} {A : Around} {x y : V} {a b : α} {u v : Value}, Inv X pins σ H s → A.units + dep < cLine → rep X.K H x a → rep X.K H y b → RelV x u → RelV y v → SeqAt.RcNeAt A s u v (!decide (a = b))
theorem beq_dec {i j : Int} : (i == j) = decide (i = j) := by
  by_cases h : i = j
  · subst h; simp
  · rw [decide_eq_false h]; simpa using h
def dInt : Dk Int where
  rep := fun _ _ x a => x = .int a
  dep := 0
  mono := fun _ h => h
  fn := fun _ h1 h2 => V.int.inj (h1.symm.trans h2)
  eqAt := fun _ _ h1 h2 r1 r2 => by
    subst h1 h2
    obtain ⟨t, rfl⟩ := r1
    obtain ⟨t', rfl⟩ := r2
    rw [← beq_dec]
    exact SeqAt.EqAt.int_int _ _ _ _
  rcAt := fun _ _ h1 h2 r1 r2 => by
    subst h1 h2
    obtain ⟨t, rfl⟩ := r1
    obtain ⟨t', rfl⟩ := r2
    rw [← beq_dec]
    exact SeqAt.RcAt.int_int _ _ _ _
  neAt := fun _ _ h1 h2 r1 r2 => by
    subst h1 h2
    obtain ⟨t, rfl⟩ := r1
    obtain ⟨t', rfl⟩ := r2
    rw [← beq_dec]
    exact SeqAt.RcNeAt.int_int _ _ _ _
section
variable {α : Type} [DecidableEq α]
theorem items_eq (k : Dk α) {X : Cx} {pins : List (Addr × Obj)} {σ : St} {H : Hp} {s : Shared} {A : Around} {xs ys : List V} {as bs : List α} {us vs : List Value} (I : Inv X pins σ H s) (hu : A.units + k.dep < cLine)
    (p : Paired (k.rep X.K H) xs as) (q : Paired (k.rep X.K H) ys bs) (r1 : Vals xs us) (r2 : Vals ys vs) :
    ∀ j (h1 : j < us.toArray.size) (h2 : j < vs.toArray.size), SeqAt.EqAt A s us.toArray[j] vs.toArray[j] (decide (as[j]? = bs[j]?)) := by
  intro j h1 h2
  have l1 := r1.length
  have l2 := r2.length
  have h1' : j < us.length := by simpa using h1
  have h2' : j < vs.length := by simpa using h2
  obtain ⟨u, e1, q1⟩ := r1.get (i := j) (x := xs[j]'(by omega)) (by simp)
  obtain ⟨v, e2, q2⟩ := r2.get (i := j) (x := ys[j]'(by omega)) (by simp)
  have e1' : us.toArray[j] = u := by
    have := (List.getElem?_eq_some_iff.mp e1).2
    simpa using this
  have e2' : vs.toArray[j] = v := by
    have := (List.getElem?_eq_some_iff.mp e2).2
    simpa using this
  obtain ⟨a, ea, ra⟩ := pget (i := j) (a := xs[j]'(by omega)) p (by simp)
  obtain ⟨b, eb, rb⟩ := pget (i := j) (a := ys[j]'(by omega)) q (by simp)
  rw [e1', e2', ea, eb]
  have e3 : decide (some a = some b) = decide (a = b) := by
    by_cases h : a = b
    · subst h; simp
    · simp [h]
  rw [e3]
  exact k.eqAt I hu ra rb q1 q2
theorem all_min {as bs : List α} {n m : Nat} (hn : n = as.length) (hm : m = bs.length) : ((List.range (min n m)).all (fun j => decide (as[j]? = bs[j]?)) && n == m) = decide (as = bs) := by
  subst hn hm
  by_cases h : as.length = bs.length
  · rw [h, Nat.min_self, ← h, all_dec h]
    simp [h]
  · have : (as.length == bs.length) = false := by simpa using h
    rw [this, Bool.and_false, decide_eq_false]
    rintro rfl
    exact h rfl
def dTup (k : Dk α) : Dk (List α) where
  rep := fun K H x as => ∃ p xs, x = .ref p ∧ SqT K H p xs ∧ Paired (k.rep K H) xs as
  dep := k.dep + 1
  mono := fun s ⟨p, xs, e, q, r⟩ => ⟨p, xs, e, by
    rcases q with (h | ⟨o, h⟩) | h
    · exact .inl (.inl (s _ _ h))
    · exact .inl (.inr ⟨o, s _ _ h⟩)
    · exact .inr h, pimp (fun _ _ z => k.mono s z) r⟩
  fn := fun I ⟨p, xs, e, q, r⟩ ⟨p', xs', e', q', r'⟩ => by
    rw [e] at e'
    cases e'
    have := I.tuple_inj q q'
    subst this
    exact pfn (F := k.rep _ _) (fun _ _ _ h1 h2 => k.fn I h1 h2) r r'
  eqAt := fun {X pins σ H s A x y a b u v} I hu ⟨p, xs, e, q, r⟩ ⟨p', xs', e', q', r'⟩ rx ry => by
    subst e e'
    cases rx
    cases ry
    by_cases hp : p = p'
    · subst hp
      have := I.tuple_inj q q'
      subst this
      have := pfn (F := k.rep _ _) (fun _ _ _ h1 h2 => k.fn I h1 h2) r r'
      subst this
      rw [decide_eq_true rfl]
      exact SeqAt.EqAt.same _
    · obtain ⟨its, v1, t1, _⟩ := I.tuple q
      obtain ⟨its', v2, t2, _⟩ := I.tuple q'
      refine SeqAt.EqAt.of_refs hp ?_
      have h := SeqAt.RcAt.tuples (A := A) (e := fun j => decide (a[j]? = b[j]?)) t1 t2 (by omega) (items_eq k I (by show A.units + 1 + k.dep < cLine; omega) r r' v1 v2)
      rw [all_min (by rw [List.size_toArray, ← v1.length, r.length]) (by rw [List.size_toArray, ← v2.length, r'.length])] at h
      exact h
  rcAt := fun {X pins σ H s A x y a b u v} I hu ⟨p, xs, e, q, r⟩ ⟨p', xs', e', q', r'⟩ rx ry => by
    subst e e'
    cases rx
    cases ry
    obtain ⟨its, v1, t1, _⟩ := I.tuple q
    obtain ⟨its', v2, t2, _⟩ := I.tuple q'
    have h := SeqAt.RcAt.tuples (A := A) (e := fun j => decide (a[j]? = b[j]?)) t1 t2 (by omega) (items_eq k I (by show A.units + 1 + k.dep < cLine; omega) r r' v1 v2)
    rw [all_min (by rw [List.size_toArray, ← v1.length, r.length]) (by rw [List.size_toArray, ← v2.length, r'.length])] at h
    exact h
  neAt := fun {X pins σ H s A x y a b u v} I hu ⟨p, xs, e, q, r⟩ ⟨p', xs', e', q', r'⟩ rx ry => by
    subst e e'
    cases rx
    cases ry
    obtain ⟨its, v1, t1, _⟩ := I.tuple q
    obtain ⟨its', v2, t2, _⟩ := I.tuple q'
    have h := SeqAt.RcNeAt.tuples (A := A) (e := fun j => decide (a[j]? = b[j]?)) t1 t2 (by omega) (items_eq k I (by show A.units + 1 + k.dep < cLine; omega) r r' v1 v2)
    rw [all_min (by rw [List.size_toArray, ← v1.length, r.length]) (by rw [List.size_toArray, ← v2.length, r'.length])] at h
    exact h
def dLst (k : Dk α) : Dk (List α) where
  rep := fun K H x as => ∃ p xs, x = .ref p ∧ SqL K H p xs ∧ Paired (k.rep K H) xs as
  dep := k.dep + 1
  mono := fun s ⟨p, xs, e, q, r⟩ => ⟨p, xs, e, by
    rcases q with (h | ⟨o, h⟩) | h
    · exact .inl (.inl (s _ _ h))
    · exact .inl (.inr ⟨o, s _ _ h⟩)
    · exact .inr h, pimp (fun _ _ z => k.mono s z) r⟩
  fn := fun I ⟨p, xs, e, q, r⟩ ⟨p', xs', e', q', r'⟩ => by
    rw [e] at e'
    cases e'
    have := I.list_inj q q'
    subst this
    exact pfn (F := k.rep _ _) (fun _ _ _ h1 h2 => k.fn I h1 h2) r r'
  eqAt := fun {X pins σ H s A x y a b u v} I hu ⟨p, xs, e, q, r⟩ ⟨p', xs', e', q', r'⟩ rx ry => by
    subst e e'
    cases rx
    cases ry
    by_cases hp : p = p'
    · subst hp
      have := I.list_inj q q'
      subst this
      have := pfn (F := k.rep _ _) (fun _ _ _ h1 h2 => k.fn I h1 h2) r r'
      subst this
      rw [decide_eq_true rfl]
      exact SeqAt.EqAt.same _
    · obtain ⟨its, v1, t1, _⟩ := I.list q
      obtain ⟨its', v2, t2, _⟩ := I.list q'
      refine SeqAt.EqAt.of_refs hp ?_
      have z1 : its.toArray.size = a.length := by rw [List.size_toArray, ← v1.length, r.length]
      have z2 : its'.toArray.size = b.length := by rw [List.size_toArray, ← v2.length, r'.length]
      by_cases hl : a.length = b.length
      · have h := SeqAt.RcAt.lists (A := A) (e := fun j => decide (a[j]? = b[j]?)) t1.isList t2.isList (by omega) (by omega) (items_eq k I (by show A.units + 1 + k.dep < cLine; omega) r r' v1 v2)
        rw [z1, all_dec hl] at h
        exact h
      · rw [decide_eq_false (fun z => hl (by rw [z]))]
        exact SeqAt.RcAt.lists_lengths t1.isList t2.isList (by rw [z1, z2]; simpa using hl) (by omega)
  rcAt := fun {X pins σ H s A x y a b u v} I hu ⟨p, xs, e, q, r⟩ ⟨p', xs', e', q', r'⟩ rx ry => by
    subst e e'
    cases rx
    cases ry
    obtain ⟨its, v1, t1, _⟩ := I.list q
    obtain ⟨its', v2, t2, _⟩ := I.list q'
    have z1 : its.toArray.size = a.length := by rw [List.size_toArray, ← v1.length, r.length]
    have z2 : its'.toArray.size = b.length := by rw [List.size_toArray, ← v2.length, r'.length]
    by_cases hl : a.length = b.length
    · have h := SeqAt.RcAt.lists (A := A) (e := fun j => decide (a[j]? = b[j]?)) t1.isList t2.isList (by omega) (by omega) (items_eq k I (by show A.units + 1 + k.dep < cLine; omega) r r' v1 v2)
      rw [z1, all_dec hl] at h
      exact h
    · rw [decide_eq_false (fun z => hl (by rw [z]))]
      exact SeqAt.RcAt.lists_lengths t1.isList t2.isList (by rw [z1, z2]; simpa using hl) (by omega)
  neAt := fun {X pins σ H s A x y a b u v} I hu ⟨p, xs, e, q, r⟩ ⟨p', xs', e', q', r'⟩ rx ry => by
    subst e e'
    cases rx
    cases ry
    obtain ⟨its, v1, t1, _⟩ := I.list q
    obtain ⟨its', v2, t2, _⟩ := I.list q'
    have z1 : its.toArray.size = a.length := by rw [List.size_toArray, ← v1.length, r.length]
    have z2 : its'.toArray.size = b.length := by rw [List.size_toArray, ← v2.length, r'.length]
    by_cases hl : a.length = b.length
    · have h := SeqAt.RcNeAt.lists (A := A) (e := fun j => decide (a[j]? = b[j]?)) t1.isList t2.isList (by omega) (by omega) (items_eq k I (by show A.units + 1 + k.dep < cLine; omega) r r' v1 v2)
      rw [z1, all_dec hl] at h
      exact h
    · rw [decide_eq_false (fun z => hl (by rw [z]))]
      exact SeqAt.RcNeAt.lists_lengths t1.isList t2.isList (by rw [z1, z2]; simpa using hl) (by omega)
variable {X : Cx}
def rEqD (k : Dk α) (K : W.Frag) (neg : Bool) : R2 := fun x y H Q => ∃ a b, k.rep K H x a ∧ k.rep K H y b ∧ Q (.bl (if neg then !decide (a = b) else decide (a = b))) H
theorem op_neD (k : Dk α) (hu : X.A.units + k.dep < cLine) : OpR X (compareOp .NotEq) (rEqD k X.K true) := by
  intro pins s σ H x y v u Q I rx ry h
  obtain ⟨a, b, ha, hb, q⟩ := h
  exact k.neAt I hu ha hb rx ry X.prog X.w X.xe _ ⟨.bl (!decide (a = b)), H, I, rfl, q⟩
noncomputable def eqU' (k : Dk α) (K : W.Frag) (H : Hp) (b : α) (u : Value) : Bool := @decide (∃ y, RelV y u ∧ k.rep K H y b) (Classical.propDecidable _)
theorem eqU'_of (k : Dk α) {pins : List (Addr × Obj)} {σ : St} {H : Hp} {s : Shared} {y : V} {a b : α} {u : Value} (I : Inv X pins σ H s) (r : RelV y u) (h : k.rep X.K H y a) : eqU' k X.K H b u = decide (a = b) := by
  unfold eqU'
  by_cases z : a = b
  · subst z
    rw [decide_eq_true rfl]
    exact @decide_eq_true _ (Classical.propDecidable _) ⟨y, r, h⟩
  · rw [decide_eq_false z]
    refine @decide_eq_false _ (Classical.propDecidable _) ?_
    rintro ⟨y', r', h'⟩
    have := relv_inj r r'
    subst this
    exact z (k.fn I h h')
theorem mem_eqD (k : Dk α) {pins : List (Addr × Obj)} {σ : St} {H : Hp} {s : Shared} {A : Around} {x : V} {b : α} {v : Value} (I : Inv X pins σ H s) (hu : A.units + k.dep < cLine) (rx : RelV x v) (hb : k.rep X.K H x b) :
    ∀ {xs : List V} {us : List Value} {as : List α}, Vals xs us → Paired (k.rep X.K H) xs as → (∀ u ∈ us, SeqAt.EqAt A s u v (eqU' k X.K H b u)) ∧ us.any (eqU' k X.K H b) = as.any fun a => decide (a = b)
  | _, _, _, .nil, .nil => ⟨fun u hu => (by cases hu), rfl⟩
  | y :: xs, u :: us, a :: as, .cons r t, .cons p q => by
    obtain ⟨h1, h2⟩ := mem_eqD k I hu rx hb t q
    have e := eqU'_of (b := b) k I r p
    refine ⟨fun w hw => ?_, by rw [List.any_cons, List.any_cons, e, h2]⟩
    rcases List.mem_cons.mp hw with rfl | hw
    · rw [e]; exact k.eqAt I hu p hb r rx
    · exact h1 w hw
def rInD (k : Dk α) (K : W.Frag) (neg : Bool) : R2 := fun x y H Q => ∃ b as, k.rep K H x b ∧ (dLst k).rep K H y as ∧ Q (.bl (if neg then !as.any (fun a => decide (a = b)) else as.any (fun a => decide (a = b)))) H
theorem op_inD (k : Dk α) (hu : X.A.units + 1 + k.dep < cLine) : OpR X (compareOp .In) (rInD k X.K false) := by
  intro pins s σ H x y v u Q I rx ry h
  obtain ⟨b, as, hb, ⟨p, xs, rfl, hq, hp⟩, q⟩ := h
  cases ry
  obtain ⟨its, r, pl, hz⟩ := I.list hq
  obtain ⟨h1, h2⟩ := mem_eqD k (A := X.A.in1) I hu rx hb r hp
  refine SeqAt.in_listAt (eqU' k X.K H b) pl.isList (fun w hw => h1 w (by simpa using hw)) ⟨.bl _, H, I, rfl, ?_⟩
  rw [show its.toArray.any (eqU' k X.K H b) = its.any (eqU' k X.K H b) by simp, h2]
  exact q
end
end L2
namespace L2
open PySem PySem.Spec PyProof.Rows
def IsIT (h : Heap) (ks : List Int) (a : Addr) : Prop := ∃ items : Array Value, h.IsTuple a items ∧ Paired (fun v (k : Int) => ∃ t, v = Value.int k t) items.toList ks
def IsITs (h : Heap) (kss : List (List Int)) (a : Addr) : Prop := ∃ items : Array Value, h.IsTuple a items ∧ Paired (fun v ks => ∃ b, v = Value.ref b ∧ IsIT h ks b) items.toList kss
theorem tup_inj {h : Heap} {a : Addr} {i j : Array Value} (x : h.IsTuple a i) (y : h.IsTuple a j) : i = j := by
  obtain ⟨o, e, _, n, d⟩ := x
  obtain ⟨o', e', _, n', d'⟩ := y
  rw [e] at e'
  cases e'
  rw [d] at d'
  injection d'
theorem IsIT.inj {h : Heap} {a : Addr} {x y : List Int} (p : IsIT h x a) (q : IsIT h y a) : x = y := by
  obtain ⟨i, t, r⟩ := p
  obtain ⟨j, t', r'⟩ := q
  have := tup_inj t t'
  subst this
  exact pfn (F := fun v (k : Int) => ∃ t, v = Value.int k t) (fun _ _ _ ⟨_, h1⟩ ⟨_, h2⟩ => by rw [h1] at h2; cases h2; rfl) r r'
theorem IsITs.inj {h : Heap} {a : Addr} {x y : List (List Int)} (p : IsITs h x a) (q : IsITs h y a) : x = y := by
  obtain ⟨i, t, r⟩ := p
  obtain ⟨j, t', r'⟩ := q
  have := tup_inj t t'
  subst this
  exact pfn (F := fun v ks => ∃ b, v = Value.ref b ∧ IsIT h ks b) (fun _ _ _ ⟨_, h1, g1⟩ ⟨_, h2, g2⟩ => by rw [h1] at h2; cases h2; exact g1.inj g2) r r'
theorem tup_keeps {h h' : Heap} {a d : Addr} {o : Obj} {es ep} {i : Array Value} (x : h.IsTuple a i) (ho : h.get? d = some o) (hd : o.data = .dict es ep) (hs : Heap.SameBut d h h') : h'.IsTuple a i := by
  obtain ⟨o', e, c, n, d'⟩ := x
  refine ⟨o', (hs.2 a ?_).trans e, c, n, d'⟩
  rintro rfl
  rw [e] at ho
  cases ho
  rw [d'] at hd
  cases hd
theorem IsIT.keeps {h h' : Heap} {a d : Addr} {o : Obj} {es ep} {x : List Int} (p : IsIT h x a) (ho : h.get? d = some o) (hd : o.data = .dict es ep) (hs : Heap.SameBut d h h') : IsIT h' x a :=
  let ⟨i, t, r⟩ := p; ⟨i, tup_keeps t ho hd hs, r⟩
theorem IsITs.keeps {h h' : Heap} {a d : Addr} {o : Obj} {es ep} {x : List (List Int)} (p : IsITs h x a) (ho : h.get? d = some o) (hd : o.data = .dict es ep) (hs : Heap.SameBut d h h') : IsITs h' x a :=
  let ⟨i, t, r⟩ := p; ⟨i, tup_keeps t ho hd hs, pimp (fun _ _ ⟨b, e, q⟩ => ⟨b, e, q.keeps ho hd hs⟩) r⟩
section
variable {A : Around} {s : Shared}
theorem items_at {α : Type} [DecidableEq α] {F : Value → α → Prop} {us vs : Array Value} {as bs : List α} (p : Paired F us.toList as) (q : Paired F vs.toList bs) (h : ∀ u v a b, F u a → F v b → SeqAt.EqAt A s u v (decide (a = b))) :
    ∀ j (h1 : j < us.size) (h2 : j < vs.size), SeqAt.EqAt A s us[j] vs[j] (decide (as[j]? = bs[j]?)) := by
  intro j h1 h2
  obtain ⟨a, ea, ra⟩ := pget (i := j) (a := us[j]) p (by simp [h1])
  obtain ⟨b, eb, rb⟩ := pget (i := j) (a := vs[j]) q (by simp [h2])
  rw [ea, eb]
  have e3 : decide (some a = some b) = decide (a = b) := by
    by_cases h : a = b
    · subst h; simp
    · simp [h]
  rw [e3]
  exact h _ _ _ _ ra rb
theorem eq_IT {x y : List Int} {a b : Addr} (hu : A.units < cLine) (p : IsIT s.heap x a) (q : IsIT s.heap y b) : SeqAt.EqAt A s (.ref a) (.ref b) (decide (x = y)) := by
  by_cases e : a = b
  · subst e
    have := p.inj q
    subst this
    rw [decide_eq_true rfl]
    exact SeqAt.EqAt.same _
  · obtain ⟨i, t, r⟩ := p
    obtain ⟨j, t', r'⟩ := q
    refine SeqAt.EqAt.of_refs e ?_
    have h := SeqAt.RcAt.tuples (A := A) (e := fun k => decide (x[k]? = y[k]?)) t t' hu (items_at r r' fun u v a b ⟨_, h1⟩ ⟨_, h2⟩ => by
      subst h1 h2
      rw [← beq_dec]
      exact SeqAt.EqAt.int_int _ _ _ _)
    rw [all_min (by rw [← Array.length_toList, r.length]) (by rw [← Array.length_toList, r'.length])] at h
    exact h
theorem eq_ITs {x y : List (List Int)} {a b : Addr} (hu : A.units + 1 < cLine) (p : IsITs s.heap x a) (q : IsITs s.heap y b) : SeqAt.EqAt A s (.ref a) (.ref b) (decide (x = y)) := by
  by_cases e : a = b
  · subst e
    have := p.inj q
    subst this
    rw [decide_eq_true rfl]
    exact SeqAt.EqAt.same _
  · obtain ⟨i, t, r⟩ := p
    obtain ⟨j, t', r'⟩ := q
    refine SeqAt.EqAt.of_refs e ?_
    have h := SeqAt.RcAt.tuples (A := A) (e := fun k => decide (x[k]? = y[k]?)) t t' (by omega) (items_at r r' fun u v a b ⟨_, h1, g1⟩ ⟨_, h2, g2⟩ => by
      subst h1 h2
      exact eq_IT (A := A.in1) hu g1 g2)
    rw [all_min (by rw [← Array.length_toList, r.length]) (by rw [← Array.length_toList, r'.length])] at h
    exact h
end
section
variable {prog : Program} {w : World} {A : Around} {E : Value → Shared → Prop} {s : Shared}
theorem items_int : ∀ {vs : List Value} {ks : List Int}, Paired (fun v (k : Int) => ∃ t, v = Value.int k t) vs ks → ItemsAre (intKind prog w) ks vs
  | _, _, .nil => .nil
  | _, _, .cons ⟨t, e⟩ r => by
    subst e
    exact .cons (by simp [intKind, Value.isInt]) (items_int r)
theorem IsIT.key {h : Heap} {ks : List Int} {a : Addr} (p : IsIT h ks a) : IsTupleKey (intKind prog w) h ks a := by
  obtain ⟨i, ⟨o, e, c, n, d⟩, r⟩ := p
  exact ⟨o, i, n, e, c, d, items_int r⟩
def hashIT (ks : List Int) : Int := reduceHash (Builtin.Tuple.tupleHashOf (ks.map hashInt))
def hashITs (kss : List (List Int)) : Int := reduceHash (Builtin.Tuple.tupleHashOf (kss.map hashIT))
def drawsITs (kss : List (List Int)) : Nat := (kss.map fun ks => ks.length + 1).sum + 1
theorem tup_typeIs {a : Addr} {i : Array Value} (x : s.heap.IsTuple a i) : s.TypeIs (.ref a) "tuple" := let ⟨o, e, c, _⟩ := x; ⟨o, e, c⟩
theorem pyHash_IT {ks : List Int} {a : Addr} {Q : Int → Shared → Prop} (hu : A.units < cLine) (hk : IsIT s.heap ks a) (h : Q (hashIT ks) { s with toks := s.toks + (ks.length + 1) }) : wpAny (model prog w) A (pyHash (.ref a)) Q E s :=
  wpAny_pyHash_tuple (knd := intKind prog w) hu hk.key h
theorem pyHash_ITs {kss : List (List Int)} {a : Addr} {Q : Int → Shared → Prop} (hu : A.units + 1 < cLine) (hk : IsITs s.heap kss a) (h : Q (hashITs kss) { s with toks := s.toks + drawsITs kss }) : wpAny (model prog w) A (pyHash (.ref a)) Q E s := by
  obtain ⟨items, tp, hi⟩ := hk
  have hT := tup_typeIs tp
  obtain ⟨o, ho, hcl, n, hd⟩ := tp
  unfold pyHash
  first | unfold pyHashByItsType | skip
  first | refine wpAny_bind (wpAny_cRoomFor_or (.inr (by omega)) ?_) | skip
  refine wpAny_bind (wpAny_specialOf hT F.slot_tuple_hash.lookup ?_)
  show wpAny _ _ (if (some (Value.builtin "tuple.__hash__") == some Value.none) = true then _ else _) Q E s
  rw [if_neg (by rw [beq_builtin_none]; exact Bool.false_ne_true)]
  refine wpAny_bind (wpAny_specialOf hT F.slot_tuple_hash.lookup ?_)
  show wpAny _ _ (callSpecialIfBoundUnlessNone? (.ref a) "__hash__" _ >>= _) Q E s
  refine wpAny_bind (wpAny_callSpecialIfBoundUnlessNone?_slot hT F.slot_tuple_hash (wpAny_call_entry F.slot_tuple_hash hT F.entry_tuple_hash ?_ (F.args_tuple_hash_1 _)))
  show wpAny _ _ (Builtin.Tuple.tupleItemsOf (.ref a) >>= _) _ _ s
  refine wpAny_bind (wpAny_tupleItemsOf ho hd ?_)
  refine wpAny_bind ?_
  rw [← Array.forIn_toList]
  refine wpAny_forIn_list _
    (fun rest (b : Array Int) s' => ∃ done left, kss = done ++ left ∧ Paired (fun v ks => ∃ b, v = Value.ref b ∧ IsIT s.heap ks b) rest left ∧ b.toList = done.map hashIT ∧ s' = { s with toks := s.toks + (done.map fun ks => ks.length + 1).sum })
    _ ?_ ?_ _ _ ⟨[], kss, rfl, hi, rfl, rfl⟩
  · rintro x rest b s' ⟨done, left, rfl, hl, hb, rfl⟩
    cases hl with
    | @cons _ ks _ left' h1 hl' =>
      obtain ⟨c, rfl, h1⟩ := h1
      refine wpAny_bind (pyHash_IT (A := A.in1) hu h1 ?_)
      first
        | exact wpAny_pure ⟨done ++ [ks], left', by simp, hl', by simp [hb], by simp [Nat.add_assoc]⟩
        | exact wpAny_bind (wpAny_pure (wpAny_pure ⟨done ++ [ks], left', by simp, hl', by simp [hb], by simp [Nat.add_assoc]⟩))
  · rintro b s' ⟨done, left, rfl, hl, hb, rfl⟩
    cases hl
    rw [List.append_nil] at h
    show wpAny _ _ (retInt (Builtin.Tuple.tupleHashOf b.toList)) _ _ _
    rw [hb]
    refine wpAny_ret_mkInt ?_
    show wpAny _ _ (if (decide (-(2 : Int) ^ 63 ≤ Builtin.Tuple.tupleHashOf (done.map hashIT)) && decide (Builtin.Tuple.tupleHashOf (done.map hashIT) < 2 ^ 63)) = true then _ else _) Q E _
    unfold hashITs reduceHash drawsITs at h
    by_cases hr : (decide (-(2 : Int) ^ 63 ≤ Builtin.Tuple.tupleHashOf (done.map hashIT)) && decide (Builtin.Tuple.tupleHashOf (done.map hashIT) < 2 ^ 63)) = true
    · rw [if_pos hr]
      rw [if_pos hr] at h
      exact wpAny_pure (by simpa [Nat.add_assoc] using h)
    · rw [if_neg hr]
      rw [if_neg hr] at h
      exact wpAny_bind (wpAny_rule (wpAny_pure (by simpa [Nat.add_assoc] using h)))
theorem quiet_of (n : Nat) {a : Addr} {items : Array Value} {Q : Bool → Shared → Prop} (tp : s.heap.IsTuple a items) (hv : ∀ v ∈ items.toList, ∀ (Q : Bool → Shared → Prop), Q true s → wpAny (model prog w) A (eqIsQuiet n v) Q E s) (h : Q true s) :
    wpAny (model prog w) A (eqIsQuiet (n + 1) (.ref a)) Q E s := by
  have hT := tup_typeIs tp
  obtain ⟨o, ho, hcl, n', hd⟩ := tp
  unfold eqIsQuiet
  refine wpAny_bind (wpAny_specialOf hT F.slot_tuple_eq.lookup ?_)
  show wpAny _ _ (isInstance (.ref a) (.type "tuple") >>= _) _ _ s
  refine wpAny_bind (wpAny_isInstance hT isSubtype_tuple_tuple ?_)
  simp only [Bool.not_true, Bool.false_eq_true, if_false]
  refine wpAny_bind (wpAny_seqItems ho hd ?_)
  refine wpAny_bind ?_
  show wpAny _ _ (forIn items _ _) _ _ s
  rw [← Array.forIn_toList]
  refine wpAny_forIn_list _ (fun rest r s' => r.1 = none ∧ s' = s ∧ ∀ v ∈ rest, v ∈ items.toList) _ ?_ ?_ _ _ ⟨rfl, rfl, fun v hv => hv⟩
  · rintro v rest r s' ⟨hr, rfl, hall⟩
    refine wpAny_bind (hv v (hall v List.mem_cons_self) _ ?_)
    simp only [Bool.not_true, Bool.false_eq_true, if_false]
    exact wpAny_pure ⟨rfl, rfl, fun u hu' => hall u (List.mem_cons_of_mem _ hu')⟩
  · rintro ⟨r1, r2⟩ s' ⟨hr, rfl, _⟩
    simp only at hr
    subst hr
    exact wpAny_pure h
theorem pmem {α β : Type} {F : α → β → Prop} : ∀ {l₁ : List α} {l₂ : List β}, Paired F l₁ l₂ → ∀ a ∈ l₁, ∃ b ∈ l₂, F a b
  | _, _, .nil, a, h => by cases h
  | _, _, .cons r t, a, h => by
    rcases List.mem_cons.mp h with rfl | h
    · exact ⟨_, List.mem_cons_self, r⟩
    · obtain ⟨b, m, q⟩ := pmem t a h
      exact ⟨b, List.mem_cons_of_mem _ m, q⟩
theorem quiet_IT (n : Nat) {ks : List Int} {a : Addr} {Q : Bool → Shared → Prop} (hk : IsIT s.heap ks a) (h : Q true s) : wpAny (model prog w) A (eqIsQuiet (n + 1) (.ref a)) Q E s := by
  obtain ⟨i, t, r⟩ := hk
  refine quiet_of n t (fun v hv Q' q => ?_) h
  obtain ⟨k, _, t', e⟩ := pmem r v hv
  subst e
  rw [eqIsQuiet_byValue n rfl]
  exact wpAny_pure q
theorem quiet_ITs (n : Nat) {kss : List (List Int)} {a : Addr} {Q : Bool → Shared → Prop} (hk : IsITs s.heap kss a) (h : Q true s) : wpAny (model prog w) A (eqIsQuiet (n + 2) (.ref a)) Q E s := by
  obtain ⟨i, t, r⟩ := hk
  refine quiet_of (n + 1) t (fun v hv Q' q => ?_) h
  obtain ⟨ks, _, b, e, g⟩ := pmem r v hv
  subst e
  exact quiet_IT n g q
def roomKind (prog : Program) (w : World) : HeapKind prog w (List (List Int)) where
  is := IsITs
  hash := hashITs
  draws := drawsITs
  room := fun A => A.units + 1 < cLine
  inj := fun p q => p.inj q
  keeps := fun p ho hd hs => p.keeps ho hd hs
  pyHash := fun hu hk h => pyHash_ITs hu hk h
  eqBool := fun hu hx hy h => eq_ITs hu hx hy _ _ _ _ h
  quiet := fun hk h => quiet_ITs 6 hk h
end
end L2
namespace L2
open PySem PySem.Spec PyProof.Rows
theorem pcomp {α β γ : Type} {F : α → β → Prop} {G : α → γ → Prop} {R : β → γ → Prop} (h : ∀ a b c, F a b → G a c → R b c) : ∀ {l : List α} {m : List β} {n : List γ}, Paired F l m → Paired G l n → Paired R m n
  | _, _, _, .nil, .nil => .nil
  | _, _, _, .cons r t, .cons r' t' => .cons (h _ _ _ r r') (pcomp h t t')
abbrev dInts : Dk (List Int) := dTup dInt
abbrev dRoomK : Dk (List (List Int)) := dTup dInts
section
variable {X : Cx} {pins : List (Addr × Obj)} {σ : St} {H : Hp} {s : Shared}
theorem it_of {a : Addr} {ks : List Int} (I : Inv X pins σ H s) (h : dInts.rep X.K H (.ref a) ks) : IsIT s.heap ks a := by
  obtain ⟨p, xs, e, q, r⟩ := h
  cases e
  obtain ⟨its, v, t, _⟩ := I.tuple q
  refine ⟨its.toArray, t, ?_⟩
  exact pcomp (F := RelV) (G := dInt.rep X.K H) (fun x u k h1 h2 => by
    have h2 : x = V.int k := h2
    subst h2
    exact h1) v r
theorem its_of {a : Addr} {kss : List (List Int)} (I : Inv X pins σ H s) (h : dRoomK.rep X.K H (.ref a) kss) : IsITs s.heap kss a := by
  obtain ⟨p, xs, e, q, r⟩ := h
  cases e
  obtain ⟨its, v, t, _⟩ := I.tuple q
  refine ⟨its.toArray, t, ?_⟩
  exact pcomp (F := RelV) (G := dInts.rep X.K H) (fun x u k h1 h2 => by
    obtain ⟨p, xs, e, q, r⟩ := id h2
    subst e
    cases h1
    exact ⟨p, rfl, it_of I h2⟩) v r
end
abbrev NL3 := List (List (List Int) × Addr × Int)
def PL (L : NL3) (xs : List (List (List Int) × Addr × Value)) : Prop := Paired (fun (p : List (List Int) × Addr × Int) (q : List (List Int) × Addr × Value) => p.1 = q.1 ∧ p.2.1 = q.2.1 ∧ ∃ t, q.2.2 = Value.int p.2.2 t) L xs
def NumO (d : Addr) (L : NL3) : HO := .ext fun h => (d == sysModules) = false ∧ ∃ xs, PL L xs ∧ ∃ o es ep, h.get? d = some o ∧ o.ExactDict ∧ o.data = .dict es ep ∧ es.toList = xs.map (fun x => (⟨hashITs x.1, .ref x.2.1, x.2.2⟩ : DictEntry)) ∧ (xs.map (·.1)).Nodup
theorem numO_ok {P : Program} {w : World} {H : Hp} {h : Heap} {d : Addr} {L : NL3} (x : (d == sysModules) = false ∧ ∃ xs, PL L xs ∧ ∃ o es ep, h.get? d = some o ∧ o.ExactDict ∧ o.data = .dict es ep ∧ es.toList = xs.map (fun x => (⟨hashITs x.1, .ref x.2.1, x.2.2⟩ : DictEntry)) ∧ (xs.map (·.1)).Nodup) :
    ObjOk P w H h d (NumO d L) := by
  refine ⟨x, ?_, fun h1 h2 ⟨y, xs, p, o, es, ep, e, r⟩ k => ⟨y, xs, p, o, es, ep, k _ e, r⟩⟩
  obtain ⟨_, _, _, o, _, _, e, _⟩ := x
  exact ⟨o, e⟩
def valN (L : NL3) (k : List (List Int)) : Option Int := (L.find? fun e => decide (e.1 = k)).map (·.2.2)
theorem pl_at {k : List (List Int)} : ∀ {L : NL3} {xs : List (List (List Int) × Addr × Value)}, PL L xs → (valN L k = none ∧ atKey xs k = none) ∨ ∃ n a t, valN L k = some n ∧ atKey xs k = some (a, .int n t)
  | _, _, .nil => .inl ⟨rfl, rfl⟩
  | e :: L, x :: xs, .cons r t => by
    obtain ⟨k1, a1, n1⟩ := e
    obtain ⟨k2, a2, v2⟩ := x
    obtain ⟨h1, h2, tk, h3⟩ := r
    dsimp only at h1 h2 h3
    subst h1 h2 h3
    by_cases z : k1 = k
    · subst z
      exact .inr ⟨n1, a1, tk, by simp [valN], by simp [atKey]⟩
    · have ih := pl_at (k := k) t
      have e1 : valN ((k1, a1, n1) :: L) k = valN L k := by simp [valN, z]
      have e2 : atKey ((k1, a1, Value.int n1 tk) :: xs) k = atKey xs k := by simp [atKey, z]
      rw [e1, e2]
      exact ih
def KeysK (K : W.Frag) (H : Hp) (L : NL3) : Prop := ∀ e ∈ L, dRoomK.rep K H (.ref e.2.1) e.1
section
variable {X : Cx} {pins : List (Addr × Obj)} {σ : St} {H : Hp} {s : Shared} {d b : Addr} {L : NL3} {k : List (List Int)}
theorem num_at (I : Inv X pins σ H s) (e : H d = some (NumO d L)) (hk : KeysK X.K H L) : (d == sysModules) = false ∧ ∃ xs, PL L xs ∧ s.heap.DictOfH (roomKind X.prog X.w) d xs := by
  obtain ⟨⟨y, xs, p, o, es, ep, e1, e2, e3, e4, e5⟩, _⟩ := (show ObjOk X.prog X.w H s.heap d (NumO d L) from I.hok d _ e)
  refine ⟨y, xs, p, o, es, ep, e1, e2, e3, e4, fun x hx => ?_, e5⟩
  have all : ∀ {L : NL3} {xs : List (List (List Int) × Addr × Value)}, KeysK X.K H L → PL L xs → ∀ x ∈ xs, IsITs s.heap x.1 x.2.1 := by
    intro L xs hk p
    induction p with
    | nil => intro x hx; cases hx
    | @cons e x L xs r t ih =>
      intro z hz
      rcases List.mem_cons.mp hz with rfl | hz
      · have := its_of I (hk e List.mem_cons_self)
        rw [r.1, r.2.1] at this
        exact this
      · exact ih (fun e' he' => hk e' (List.mem_cons_of_mem _ he')) z hz
  exact all hk p x hx
def rNotInN (K : W.Frag) : R2 := fun x y H Q => ∃ d L b k, y = .ref d ∧ x = .ref b ∧ H d = some (NumO d L) ∧ KeysK K H L ∧ dRoomK.rep K H (.ref b) k ∧ Q (.bl (!(valN L k).isSome)) H
theorem op_notInN (hu : X.A.units + 2 < cLine) : OpR X (compareOp .NotIn) (rNotInN X.K) := by
  intro pins s σ H x y v u Q I rx ry h
  obtain ⟨d, L, b, k, rfl, rfl, e, hk, hb, q⟩ := h
  cases rx
  cases ry
  obtain ⟨hd, xs, p, dd⟩ := num_at I e hk
  refine wpAny_notIn_heap (knd := roomKind X.prog X.w) (by show X.A.units + 1 + 1 < cLine; omega) (its_of I hb) hd dd ⟨.bl (!(valN L k).isSome), H, I.tok _, ?_, q⟩
  show _ = Value.bool _
  rcases pl_at (k := k) p with ⟨z1, z2⟩ | ⟨n, a, t, z1, z2⟩
  · rw [z1, z2]; rfl
  · rw [z1, z2]; rfl
def tNGet (K : W.Frag) (td ty : TE) : TE := fun σ H Q => td σ H fun x H1 => ty σ H1 fun y H2 => ∃ d L b k n, x = .ref d ∧ y = .ref b ∧ H2 d = some (NumO d L) ∧ KeysK K H2 L ∧ dRoomK.rep K H2 (.ref b) k ∧ valN L k = some n ∧ Q (.int n) H2
theorem pe_nget {o i : Expr} {pos : Pos} {td ty : TE} (hu : X.A.units + 2 < cLine) (ho : PE X o td) (hi : PE X i ty) (hs : NoSl i) : PE X (.Subscript o i pos) (tNGet X.K td ty) := by
  intro pins s σ H Q I h
  refine subD_of PySem.F.slot_dict_getitem.lookup hs (thn (ho pins s σ H _ I h) fun u s1 ⟨x, H1, I1, rx, q1⟩ => thn (hi pins s1 σ H1 _ I1 q1) fun iv s2 ⟨y, H2, I2, ry, d, L, b, k, n, ex, ey, e, hk, hb, hn, q2⟩ => ?_)
  subst ex ey
  cases rx
  cases ry
  obtain ⟨hd, xs, p, dd⟩ := num_at I2 e hk
  refine ⟨dd.typeIs, ?_⟩
  rcases pl_at (k := k) p with ⟨z1, z2⟩ | ⟨n', a, t, z1, z2⟩
  · rw [z1] at hn; cases hn
  · rw [z1] at hn
    cases hn
    exact wpAny_getItem_heap (knd := roomKind X.prog X.w) (by show X.A.units + 1 + 1 < cLine; omega) (its_of I2 hb) dd z2 ⟨.int n, H2, I2.tok _, ⟨t, rfl⟩, q2⟩
def sNPut (K : W.Frag) (td ty tv : TE) : TS := fun D σ H => tv σ H fun v H1 => td σ H1 fun x H2 => ty σ H2 fun y H3 => ∃ d L b k n, v = .int n ∧ x = .ref d ∧ y = .ref b ∧ H3 d = some (NumO d L) ∧ KeysK K H3 L ∧ dRoomK.rep K H3 (.ref b) k ∧ valN L k = none ∧ L.length < sizeLine ∧
  D.nx σ (upd H3 d (NumO d (L ++ [(k, b, n)])))
theorem ps_nput {o i value : Expr} {pos pos' : Pos} {td ty tv : TE} (hu : X.A.units + 2 < cLine) (ho : PE X o td) (hi : PE X i ty) (hv : PE X value tv) (hs : swapsWith value (some (.Subscript o i pos')) pos.line X.env = pure false) :
    PS X (.Assign [.Subscript o i pos'] value pos) (sNPut X.K td ty tv) := by
  intro pins s σ H D I h
  refine wpAny_Assign_Subscript (thn (hv pins s σ H _ I h) fun r s1 ⟨v, H1, I1, rv, q1⟩ => thn (ho pins s1 σ H1 _ I1 q1) fun u s2 ⟨x, H2, I2, rx, q2⟩ => thn (hi pins s2 σ H2 _ I2 q2) fun iv s3 ⟨y, H3, I3, ry, d, L, b, k, n, ev, ex, ey, e, hk, hb, hn, hl, q3⟩ => ?_) hs
  subst ev ex ey
  obtain ⟨t, rfl⟩ := rv
  cases rx
  cases ry
  obtain ⟨hd, xs, p, dd⟩ := num_at I3 e hk
  have z2 : atKey xs k = none := by
    rcases pl_at (k := k) p with ⟨z1, z2⟩ | ⟨n', a, t', z1, z2⟩
    · exact z2
    · rw [z1] at hn; cases hn
  refine wpAny_setItem_heap (knd := roomKind X.prog X.w) (hsz := by rw [← Paired.length p]; omega) (by show X.A.units + 1 + 1 < cLine; omega) (its_of I3 hb) dd fun h' dd' hsb => ⟨σ, _, ?_, q3⟩
  rw [storedH_new z2] at dd'
  obtain ⟨o', es, ep, e1, e2, e3, e4, _, e5⟩ := dd'
  refine I3.write (x := d) (e := d) (by rw [e]; exact True.intro) (.inl rfl) (fun b q hb z => (hsb.2 b hb).trans z) ⟨_, e1⟩ (numO_ok ⟨hd, _, papp p (.cons ⟨rfl, rfl, t, rfl⟩ .nil), o', es, ep, e1, e2, e3, e4, e5⟩)
theorem pe_dnewN {pos : Pos} : PE X (.Dict [] [] pos) (fun _ H Q => ∀ p, H p = none → Q (.ref p) (upd H p (NumO p []))) := fun pins s σ H Q I h =>
  wpAny_Dict_empty ⟨.ref s.heap.objs.size, _, I.laid (a := s.heap.objs.size) (o := NumO s.heap.objs.size []) (t' := s.toks) (fun _ _ q => Heap.get?_push_of_some _ q) (Nat.le_refl _)
    (numO_ok ⟨beq_eq_false_iff_ne.mpr (Ne.symm (Nat.ne_of_lt I.big)), [], .nil, _, #[], 0, Heap.get?_push_size _ rfl, ⟨rfl, rfl, rfl⟩, rfl, rfl, List.nodup_nil⟩), rfl, h _ (I.hok.fresh (Nat.le_refl _))⟩
end
end L2
namespace L2
open PySem PySem.Spec PyProof.Rows
section
variable {X : Cx} {pins : List (Addr × Obj)} {σ : St} {H : Hp} {s : Shared} {a : Addr} {kvs : List (Key × V)}
theorem Inv.freeze (I : Inv X pins σ H s) (e : H a = some (.dK kvs)) : ∃ ob, (∃ es ep, ob.data = .dict es ep) ∧ Inv X pins σ (upd H a (.frz ob (.dK kvs))) s := by
  obtain ⟨z, hd, vs, rel, dd⟩ := dk_of I.hok e
  obtain ⟨o, es, ep, ho, hc, hdat, r⟩ := id dd
  refine ⟨o, ⟨es, ep, hdat⟩, ?_⟩
  have := I.write (x := a) (e := a) (h' := s.heap) (t' := s.toks) (o := .frz o (.dK kvs)) (by rw [e]; exact True.intro) (.inl rfl) (fun b u _ q => q) ⟨o, ho⟩ ⟨ho, z, hd, vs, rel, dd⟩
  exact this
theorem frz_at {ob : Obj} {es : Array DictEntry} {ep : Nat} (I : Inv X pins σ H s) (e : H a = some (.frz ob (.dK kvs))) (hob : ob.data = .dict es ep) : (a == sysModules) = false ∧ ∃ vs, KV kvs vs ∧ s.heap.DictAt (mixKind X.prog X.w) a vs ep := by
  obtain ⟨ho, z, hd, vs, rel, o', es', ep', ho', hc, hdat, r⟩ := (show ObjOk X.prog X.w H s.heap a (.frz ob (.dK kvs)) from I.hok a _ e)
  rw [ho] at ho'
  cases ho'
  rw [hob] at hdat
  cases hdat
  exact ⟨hd, vs, rel, ob, es, ho, hc, hob, r⟩
end
def Itd (a : Addr) (ob : Obj) (kvs : List (Key × V)) : It :=
  ⟨fun i H => H a = some (.frz ob (.dK kvs)) ∧ i < kvs.length, fun i H x H' => H' = H ∧ ∃ kv, kvs[i]? = some kv ∧ x = kV kv.1, fun i H => H a = some (.frz ob (.dK kvs)) ∧ kvs.length ≤ i⟩
theorem key_rel {P : Program} {w : World} {k : Key} {u : Value} (h : (mixKind P w).is k u = true) : RelV (kV k) u := by
  rw [mixKind_is] at h
  rcases keyIs_shape h with ⟨i, t, rfl, rfl⟩ | ⟨x, t, rfl, rfl⟩
  · exact ⟨t, rfl⟩
  · exact ⟨t, rfl⟩
theorem turn_dict {P : Program} {w : World} {K : W.Frag} {tg : Expr} (a it : Addr) (ob : Obj) (kvs : List (Key × V)) {es : Array DictEntry} {ep : Nat} (hob : ob.data = .dict es ep) :
    Turn P w K tg (Itd a ob kvs) [it] it (fun i h => h.IsKeyIter it a i kvs.length ep) where
  mem := by simp
  obj := fun i h st b hb => by
    have e : b = it := by simpa using hb
    subst e
    obtain ⟨o, e, c, d⟩ := st
    exact ⟨o, e, fun v z => by rw [d] at z; cases z⟩
  keep := fun i h h' st k => st.at fun o e => k it (by simp) o e
  item := by
    intro X hP hw hK hc i pins s σ H E I hf st hg
    subst hP hw hK
    obtain ⟨e, hi⟩ := hg
    obtain ⟨hd, vs, rel, dd⟩ := frz_at I e hob
    obtain ⟨f0, f1, f2, f3, f4, f5⟩ := hf it (by simp)
    have hx : kvs[i]? = some kvs[i] := List.getElem?_eq_getElem hi
    obtain ⟨⟨k, v⟩, hv, hk, _⟩ := pget (F := fun (p : Key × V) (q : Key × Value) => p.1 = q.1 ∧ RelV p.2 q.2) rel hx
    rw [rel.length] at st
    refine wpAny_pyNext_dict_item (knd := mixKind X.prog X.w) st dd hv fun key h' hkey st' sb => ?_
    have I1 : Inv X pins σ H { s with heap := h' } := I.turned (t' := s.toks) (fun b o hb e => (sb.2 b hb).trans e) f0 f1 f3 f4 f5
    obtain ⟨o, e', c, d⟩ := id st'
    rw [← rel.length] at st'
    exact ⟨key, rfl, go_of (s := { s with heap := h' }) e' c d (by decide) ⟨kV k, H, I1, key_rel hkey, ⟨rfl, kvs[i], hx, by rw [hk]⟩, st', fun b hb => (hf b hb).1⟩⟩
  done := by
    intro X hP hw hK hc i pins s σ H E I hf st hg
    subst hP hw hK
    obtain ⟨e, hi⟩ := hg
    obtain ⟨hd, vs, rel, dd⟩ := frz_at I e hob
    obtain ⟨f0, f1, f2, f3, f4, f5⟩ := hf it (by simp)
    have hl := rel.length
    rw [rel.length] at st
    exact wpAny_pyNext_dict_end (knd := mixKind X.prog X.w) (I.ok.hd hc) st dd (List.getElem?_eq_none (by omega)) fun h' eb => ⟨rfl, I.turned (t' := s.toks) (fun b o hb e => eb b o hb e) f0 f1 f3 f4 f5⟩
  self := fun _ _ _ _ _ st h => wpAny_pyIter_keyiter st h
def iDict (tl : TE) : TI := fun σ H R => tl σ H fun x H1 => ∃ a kvs, x = .ref a ∧ H1 a = some (.dK kvs) ∧ ∀ ob, R (Itd a ob kvs) (upd H1 a (.frz ob (.dK kvs)))
section
variable {X : Cx} {tg : Expr}
theorem pi_dict {l : Expr} {tl : TE} (hl : PE X l tl) : PI X tg l (iDict tl) := by
  intro pins s σ H R I h
  refine thn (hl pins s σ H _ I h) fun v s1 ⟨x, H1, I1, r1, a, kvs, ex, ea, q⟩ => ?_
  subst ex
  cases r1
  obtain ⟨ob, ⟨es, ep, hob⟩, I2⟩ := I1.freeze ea
  obtain ⟨hd, vs, rel, dd⟩ := frz_at I2 upd_same hob
  refine wpAny_pyIter_dict (knd := mixKind X.prog X.w) hd dd ?_
  refine ⟨s1.heap.objs.size, [s1.heap.objs.size], _, _, _, rfl, I2.kept (t' := s1.toks) fun b o e => Heap.get?_push_of_some _ e, turn_dict a _ ob kvs hob, ⟨_, Heap.get?_push_size _ rfl, rfl, by rw [rel.length]; rfl⟩, fun b hb => ?_, q ob⟩
  have e : b = s1.heap.objs.size := by simpa using hb
  subst e
  exact I2.fpOk (Nat.le_refl _) (I2.hok.fresh (Nat.le_refl _))
end
theorem comp_dict {a : Addr} {ob : Obj} {kvs : List (Key × V)} {tt : TT} {te : TE} {σ : St} {H : Hp} {Q : VK} (Pv : Nat → List V → Hp → Prop) (h0 : Pv 0 [] H) (hl : ∀ i ys H, i ≤ kvs.length → Pv i ys H → H a = some (.frz ob (.dK kvs)) ∧ ys.length ≤ i) (hz : kvs.length ≤ sizeLine)
    (hs : ∀ i kv ys H, kvs[i]? = some kv → Pv i ys H → tt (some (kV kv.1) :: σ) H fun b H4 => if b = true then te (some (kV kv.1) :: σ) H4 fun y H5 => Pv (i + 1) (ys ++ [y]) H5 else Pv (i + 1) ys H4)
    (hd : ∀ ys H p, Pv kvs.length ys H → H p = none → Q (.ref p) (upd H p (.lst ys))) : CompW (Itd a ob kvs) σ tt te Q H := by
  refine ⟨fun i m ys H => m = kvs.length - i ∧ i ≤ kvs.length ∧ Pv i ys H, ⟨kvs.length, by simp, Nat.zero_le _, h0⟩, ?_⟩
  rintro i m ys H2 ⟨rfl, hi, p⟩
  obtain ⟨q, hn⟩ := hl i ys H2 hi p
  by_cases hlt : i < kvs.length
  · refine .inr ⟨⟨q, hlt⟩, by omega, Pv (i + 1), fun zs H' p' => ⟨kvs.length - (i + 1), by omega, rfl, hlt, p'⟩, fun x H3 y => ?_⟩
    obtain ⟨e, kv, y, ex⟩ := y
    subst e ex
    exact hs i kv ys _ y p
  · have e : i = kvs.length := by omega
    subst e
    exact .inl ⟨⟨q, Nat.le_refl _⟩, by omega, fun b hb => hd ys H2 b p hb⟩
section
variable {X : Cx}
theorem call_list_dict (hc : X.calm = true) : CallR X (.type "list") (fun xs H Q => ∃ p kvs, xs = [.ref p] ∧ H p = some (.dK kvs) ∧ ∀ l, H l = none → Q (.ref l) (upd H l (.lst (kvs.map fun kv => kV kv.1)))) := by
  intro pins s σ H xs us Q I r h
  obtain ⟨p, kvs, rfl, hp, q⟩ := h
  obtain ⟨u, rfl, ru⟩ := vals1 r
  cases ru
  obtain ⟨z, hd, vs, rel, dd⟩ := dk_of I.hok hp
  obtain ⟨ep, da⟩ := dd.dictAt
  refine W.kdl_call (W.kdl_dict (knd := mixKind X.prog X.w) hd) (I.ok.hd hc) da (by rw [← rel.length]; exact z) fun h' tk acc' c' hk hS hacc => ?_
  refine ⟨.ref s.heap.objs.size, _, I.laid (o := .lst (kvs.map fun kv => kV kv.1)) hk (Nat.le_refl _) ⟨by rw [List.length_map]; exact z, acc'.toList, c', ?_, by simpa using hS⟩, rfl, q _ (I.hok.fresh (Nat.le_refl _))⟩
  refine vals_of_get (by have h1 := hacc.1; have h2 := rel.length; simp; omega) fun i x u e1 e2 => ?_
  have e2' : acc'[i]? = some u := by simpa using e2
  obtain ⟨k, v, hv, hk'⟩ := hacc.2 i u e2'
  obtain ⟨kv, e3, e4, _⟩ := pget' (F := fun (p : Key × V) (q : Key × Value) => p.1 = q.1 ∧ RelV p.2 q.2) rel hv
  rw [List.getElem?_map, e3] at e1
  cases e1
  show RelV (kV kv.1) u
  rw [show kv.1 = k from e4]
  exact key_rel hk'
def rSetD : V → List V → Hp → VK → Prop := fun o vs H Q => ∃ p kvs k v, o = .ref p ∧ vs = [kV k, v] ∧ H p = some (.dK kvs) ∧ kvs.length < sizeLine ∧ (∀ y, valV kvs k = some y → Q y H) ∧ (valV kvs k = none → Q v (upd H p (.dK (putK kvs k v))))
theorem mt_setdefault : MtR X "dict.setdefault" rSetD := by
  intro pins s σ H o vs v us Q I ro rv h
  obtain ⟨p, kvs, k, y, rfl, rfl, hp, hl, q1, q2⟩ := h
  cases ro
  obtain ⟨u1, u2, rfl, r1, r2⟩ := rv.two
  obtain ⟨z, hd, ws, rel, dd⟩ := dk_of I.hok hp
  refine call_meetsIn PySem.F.slot_dict_setdefault dd.typeIs PySem.F.entry_dict_setdefault (PySem.F.args_dict_setdefault_3 _ _ _) (kt_meets_setdefault (mixKind X.prog X.w) p (kV_is r1) hd u2) ⟨ws, dd, by rw [← rel.length]; exact z, fun w' hw => ?_, fun hn h' dd' hs => ?_⟩
  · have hv := rel.val k
    rw [hw] at hv
    cases e : valV kvs k with
    | none => rw [e] at hv; exact hv.elim
    | some y' =>
      rw [e] at hv
      exact ⟨y', H, I.tok _, hv, q1 y' e⟩
  · have hv := rel.val k
    rw [hn] at hv
    have e : valV kvs k = none := by
      cases e : valV kvs k with
      | none => rfl
      | some y' => rw [e] at hv; exact hv.elim
    have he : ∃ q, h'.get? p = some q := let ⟨q, _, _, hq, _⟩ := dd'; ⟨q, hq⟩
    exact ⟨y, _, d_write I (by rw [hp]; exact True.intro) hs he (dk_new (by have := length_putK kvs k y; omega) hd (rel.put k r2) dd'), r2, q2 e⟩
end
end L2
namespace L2
open PySem PySem.Spec PyProof.Rows
section
variable {κ : PyProof.Rows.KeyKind} {xs ys : Array Keyed} {x n : Nat}
theorem srt_one : SortedToK κ xs 1 := fun i j h1 h2 => by
  obtain rfl : i = 0 := by omega
  obtain rfl : j = 0 := by omega
  exact KeyOrd.kle_refl _
theorem srt_ext (h : SortedToK κ xs x) (hx : 1 ≤ x) (hl : κ.kle (KK κ xs (x - 1)) (KK κ xs x)) : SortedToK κ xs (x + 1) := fun i j h1 h2 => by
  rcases Nat.lt_or_ge j x with z | z
  · exact h i j h1 z
  obtain rfl : j = x := by omega
  rcases Nat.lt_or_ge i j with y | y
  · exact KeyOrd.kle_trans (h i (j - 1) (by omega) (by omega)) hl
  obtain rfl : i = j := by omega
  exact KeyOrd.kle_refl _
theorem fal_ext (h : NonIncK κ xs x) (hx : 1 ≤ x) (hl : κ.kle (KK κ xs x) (KK κ xs (x - 1))) : NonIncK κ xs (x + 1) := fun i j h1 h2 => by
  rcases Nat.lt_or_ge j x with z | z
  · exact h i j h1 z
  obtain rfl : j = x := by omega
  rcases Nat.lt_or_ge i j with y | y
  · exact KeyOrd.kle_trans hl (h i (j - 1) (by omega) (by omega))
  obtain rfl : i = j := by omega
  exact KeyOrd.kle_refl _
theorem fal_as (e : ∀ k, KK κ ys k = KK κ xs k) (h : NonIncK κ xs n) : NonIncK κ ys n := fun i j h1 h2 => by
  have := h i j h1 h2
  rw [← e, ← e] at this
  exact this
theorem fal_one : NonIncK κ xs 1 := fun i j h1 h2 => srt_one j i (by omega) (by omega)
theorem srt_turn (h : NonIncK κ xs n) (hn : n ≤ xs.size) : SortedToK κ (mirror xs 0 n ((n - 0) / 2)) n := fun i j h1 h2 => by
  rw [KK_mirror hn, KK_mirror hn, if_pos ⟨by omega, by omega⟩, if_pos ⟨by omega, by omega⟩]
  exact h _ _ (by omega) (by omega)
end
structure Sta (kd : SortKind) (a₀ : Array Keyed) (st : SortSt) : Prop where
  perm : (arrOf st).Perm a₀
  kind : kindOf st = kd
  failed : failedOf st = none
  pend : pendingOf st = #[]
theorem Sta.sz {kd : SortKind} {a₀ : Array Keyed} {st : SortSt} (h : Sta kd a₀ st) : (arrOf st).size = a₀.size := h.perm.size_eq
theorem Sta.arr {kd : SortKind} {a₀ xs : Array Keyed} {st : SortSt} (h : Sta kd a₀ st) (p : xs.Perm (arrOf st)) : Sta kd a₀ (setArr st xs) := ⟨p.trans h.perm, h.kind, h.failed, h.pend⟩
section
variable {prog : Program} {w : World} {A : Around} {E : Value → Shared → Prop} {s : Shared} {a₀ : Array Keyed} {κ : PyProof.Rows.KeyKind} {kd : SortKind}
def Cmp (prog : Program) (w : World) (A : Around) (E : Value → Shared → Prop) (s : Shared) (κ : PyProof.Rows.KeyKind) (kd : SortKind) (a₀ : Array Keyed) : Prop :=
  ∀ (st : SortSt) (i j : Nat) (Q : Option Bool → SortSt → Prop), Sta kd a₀ st → i < a₀.size → j < a₀.size → Q (some (κ.blt (KK κ (arrOf st) i) (KK κ (arrOf st) j))) st → wpS (model prog w) A E s (ltAt' i j) Q st
theorem g_asc (C : Cmp prog w A E s κ kd a₀) {st : SortSt} {a m : Nat} {Q : AscSt → SortSt → Prop} (hm : m ≤ a₀.size) (ha : 1 ≤ a) (ham : a ≤ m) (B : Sta kd a₀ st) (hs : SortedToK κ (arrOf st) a)
    (h : ∀ n, a ≤ n → n ≤ m → SortedToK κ (arrOf st) n → (n = m ∨ κ.klt (KK κ (arrOf st) n) (KK κ (arrOf st) (n - 1))) → Q (none, n) st) : wpS (model prog w) A E s (ascLoop a m) Q st := by
  refine wpS_forRange (fun x c st' => st' = st ∧ c = (none, x) ∧ SortedToK κ (arrOf st) x) (fun x c st' h1 h2 ⟨e1, e2, r⟩ => ?_) (fun c st' ⟨e1, e2, r⟩ => ?_) ⟨rfl, rfl, hs⟩
  · subst e1 e2
    refine wpS_bind (C _ _ _ _ B (by omega) (by omega) ?_)
    cases e : κ.blt (KK κ (arrOf st') x) (KK κ (arrOf st') (x - 1)) with
    | true => exact wpS_pure (h x h1 (by omega) r (.inr e))
    | false => exact wpS_pure ⟨rfl, rfl, srt_ext r (by omega) e⟩
  · subst e1 e2
    have z : max a m = m := by omega
    rw [z] at r ⊢
    exact h m ham (Nat.le_refl _) r (.inl rfl)
theorem g_tail (C : Cmp prog w A E s κ kd a₀) {st : SortSt} {n m : Nat} {Q : Option Nat → SortSt → Prop} (hm : m ≤ a₀.size) (h1 : 1 ≤ n) (hn : n ≤ m) (B : Sta kd a₀ st) (hs : NonIncK κ (arrOf st) n)
    (h : ∀ k st', Sta kd a₀ st' → 1 ≤ k → k ≤ m → SortedToK κ (arrOf st') k → Q (some k) st') : wpS (model prog w) A E s (tail3 n m) Q st := by
  have B' := B.arr (mirror_perm (arrOf st) 0 n ((n - 0) / 2))
  exact wpS_bind (wpS_reverse (wpS_bind (g_asc C hm h1 hn B' (srt_turn hs (by rw [B.sz]; omega)) fun k k1 k2 r _ => wpS_pure (h k _ B' (by omega) k2 r))))
theorem g_desc (C : Cmp prog w A E s κ kd a₀) {st : SortSt} {n m : Nat} {Q : DescSt → SortSt → Prop} (hm : m ≤ a₀.size) (h1 : 1 ≤ n) (hn : n ≤ m) (B : Sta kd a₀ st) (hs : NonIncK κ (arrOf st) n)
    (h : ∀ k q st', Sta kd a₀ st' → n ≤ k → k ≤ m → NonIncK κ (arrOf st') k → q + 1 ≤ k → (∀ i, k - (q + 1) ≤ i → i < k → KK κ (arrOf st') i = KK κ (arrOf st') (k - 1)) → Q (none, k, q) st') :
    wpS (model prog w) A E s (descLoop n m) Q st := by
  have last : ∀ (ys : Array Keyed) (k : Nat), ∀ i, k + 1 - (0 + 1) ≤ i → i < k + 1 → KK κ ys i = KK κ ys (k + 1 - 1) := fun ys k i a b => by
    obtain rfl : i = k := by omega
    rfl
  refine wpS_forRange (fun x c st' => ∃ q, c = (none, x, q) ∧ Sta kd a₀ st' ∧ NonIncK κ (arrOf st') x ∧ q + 1 ≤ x ∧ ∀ i, x - (q + 1) ≤ i → i < x → KK κ (arrOf st') i = KK κ (arrOf st') (x - 1))
    (fun x c st' a1 a2 ⟨q, e, B', r, hq, eq⟩ => ?_) (fun c st' ⟨q, e, B', r, hq, eq⟩ => ?_) ⟨0, rfl, B, hs, by omega, fun i a b => by obtain rfl : i = n - 1 := (by omega); rfl⟩
  · subst e
    have sz : x ≤ (arrOf st').size := by rw [B'.sz]; omega
    refine wpS_bind (C _ x (x - 1) _ B' (by omega) (by omega) ?_)
    cases e : κ.blt (KK κ (arrOf st') x) (KK κ (arrOf st') (x - 1)) with
    | true =>
      have r' := fal_ext r (by omega) (KeyOrd.kle_of_klt e)
      show wpS _ _ _ _ (if q > 0 then _ else _) _ _
      rcases Nat.eq_zero_or_pos q with z | z
      · rw [if_neg (by omega)]
        exact wpS_pure ⟨0, rfl, B', r', by omega, last _ _⟩
      · rw [if_pos z]
        exact wpS_bind (wpS_reverse (wpS_pure ⟨0, rfl, B'.arr (mirror_perm _ _ _ _), fal_as (KK_mirror_equal sz eq) r', by omega, last _ _⟩))
    | false =>
      refine wpS_bind (C _ (x - 1) x _ B' (by omega) (by omega) ?_)
      cases e2 : κ.blt (KK κ (arrOf st') (x - 1)) (KK κ (arrOf st') x) with
      | true => exact wpS_pure (h x q st' B' a1 (by omega) r hq eq)
      | false =>
        have one : KK κ (arrOf st') x = KK κ (arrOf st') (x - 1) := KeyOrd.kle_antisymm e2 e
        refine wpS_pure ⟨q + 1, rfl, B', fal_ext r (by omega) e2, by omega, fun i b1 b2 => ?_⟩
        rw [show x + 1 - 1 = x from rfl]
        rcases Nat.lt_or_ge i x with z | z
        · rw [one]; exact eq i (by omega) z
        · obtain rfl : i = x := by omega
          rfl
  · subst e
    have z : max n m = m := by omega
    rw [z] at r hq eq ⊢
    exact h m q st' B' hn (Nat.le_refl _) r hq eq
theorem g_part (C : Cmp prog w A E s κ kd a₀) {st : SortSt} {n m : Nat} {Q : Option Nat → SortSt → Prop} (hm : m ≤ a₀.size) (hn : n + 1 ≤ m) (B : Sta kd a₀ st) (hs : NonIncK κ (arrOf st) (n + 1))
    (h : ∀ k st', Sta kd a₀ st' → 1 ≤ k → k ≤ m → SortedToK κ (arrOf st') k → Q (some k) st') : wpS (model prog w) A E s (descPart n m) Q st := by
  refine wpS_bind (wpS_lift (wpAny_rule ⟨rfl, wpS_bind (g_desc C hm (by omega) hn B hs fun k q st' B' k1 k2 r hq eq => ?_)⟩))
  show wpS _ _ _ _ (if q > 0 then _ else _) _ _
  rcases Nat.eq_zero_or_pos q with z | z
  · rw [if_neg (by omega)]
    exact g_tail (n := k) C hm (by omega) k2 B' r h
  · rw [if_pos z]
    exact wpS_bind (wpS_reverse (g_tail (n := k) C hm (by omega) k2 (B'.arr (mirror_perm _ _ _ _)) (fal_as (KK_mirror_equal (j := k) (by rw [B'.sz]; omega) eq) r) h))
theorem g_run (C : Cmp prog w A E s κ kd a₀) {st : SortSt} {m : Nat} {Q : Option Nat → SortSt → Prop} (hm : m ≤ a₀.size) (h1 : 1 ≤ m) (B : Sta kd a₀ st)
    (h : ∀ k st', Sta kd a₀ st' → 1 ≤ k → k ≤ m → SortedToK κ (arrOf st') k → Q (some k) st') : wpS (model prog w) A E s (countRun' 0 m) Q st := by
  rw [countRun0_eq]
  refine wpS_bind (g_asc C hm (Nat.le_refl 1) h1 B srt_one fun n n1 n2 r o => ?_)
  dsimp only
  rcases Nat.lt_or_ge n m with z | z
  case inr =>
    rw [if_pos (by simp; omega)]
    exact wpS_pure (h n st B n1 n2 r)
  rw [if_neg (by simp; omega)]
  have less : κ.klt (KK κ (arrOf st) n) (KK κ (arrOf st) (n - 1)) := o.resolve_left (by omega)
  rcases Nat.lt_or_ge 1 n with y | y
  case inr =>
    rw [if_neg (by omega)]
    obtain rfl : n = 1 := by omega
    exact g_part C hm (by omega) B (fal_ext fal_one (Nat.le_refl 1) (KeyOrd.kle_of_klt less)) h
  rw [if_pos y]
  refine wpS_bind (C _ _ _ _ B (by omega) (by omega) ?_)
  cases e : κ.blt (KK κ (arrOf st) 0) (KK κ (arrOf st) (n - 1)) with
  | true => exact wpS_pure (h n st B n1 n2 r)
  | false =>
    have all : ∀ k, 0 ≤ k → k < n → KK κ (arrOf st) k = KK κ (arrOf st) (n - 1) := fun k _ hk =>
      KeyOrd.kle_antisymm (r k (n - 1) (by omega) (by omega)) (KeyOrd.kle_trans (show κ.kle _ _ from e) (r 0 k (by omega) hk))
    have f1 : NonIncK κ (arrOf st) n := fun i j a b => by
      rw [all i (by omega) (by omega), all j (by omega) b]
      exact KeyOrd.kle_refl _
    exact wpS_bind (wpS_reverse (g_part C hm (by omega) (B.arr (mirror_perm _ _ _ _)) (fal_as (KK_mirror_equal (by rw [B.sz]; omega) all) (fal_ext f1 n1 (KeyOrd.kle_of_klt less))) h))
theorem srt_put {xs : Array Keyed} {k l : Nat} (h : SortedToK κ xs k) (hk : k < xs.size) (hl : l ≤ k) (lo : ∀ i, i < l → κ.kle (KK κ xs i) (KK κ xs k)) (hi : ∀ i, l ≤ i → i < k → κ.klt (KK κ xs k) (KK κ xs i)) :
    SortedToK κ (bubble xs k (k - l)) (k + 1) := by
  have at_ : ∀ i, i < k + 1 → KK κ (bubble xs k (k - l)) i = if i < l then KK κ xs i else if i = l then KK κ xs k else KK κ xs (i - 1) := fun i hi' => by
    rw [KK_bubble hk (by omega), show k - (k - l) = l by omega]
    rcases Nat.lt_trichotomy i l with z | z | z
    · rw [if_neg (by omega), if_neg (by omega), if_pos z]
    · rw [if_pos z, if_neg (by omega), if_pos z]
    · rw [if_neg (by omega), if_pos (by omega), if_neg (by omega), if_neg (by omega)]
  intro i j h1 h2
  rw [at_ i (by omega), at_ j h2]
  rcases Nat.lt_trichotomy j l with z | z | z
  · rw [if_pos (by omega), if_pos z]
    exact h i j h1 (by omega)
  · rw [if_neg (show ¬ j < l by omega), if_pos z]
    rcases Nat.lt_or_ge i l with y | y
    · rw [if_pos y]; exact lo i y
    · rw [if_neg (by omega), if_pos (by omega)]; exact KeyOrd.kle_refl _
  · rw [if_neg (show ¬ j < l by omega), if_neg (show ¬ j = l by omega)]
    rcases Nat.lt_trichotomy i l with y | y | y
    · rw [if_pos y]; exact h i (j - 1) (by omega) (by omega)
    · rw [if_neg (by omega), if_pos y]; exact KeyOrd.kle_of_klt (hi (j - 1) (by omega) (by omega))
    · rw [if_neg (by omega), if_neg (by omega)]; exact h (i - 1) (j - 1) (by omega) (by omega)
theorem g_insert (C : Cmp prog w A E s κ kd a₀) {st : SortSt} {n ok : Nat} {Q : Bool → SortSt → Prop} (hn : n ≤ a₀.size) (ho1 : 1 ≤ ok) (hok : ok ≤ n) (B : Sta kd a₀ st) (hs : SortedToK κ (arrOf st) ok)
    (h : ∀ st', Sta kd a₀ st' → SortedToK κ (arrOf st') n → Q true st') : wpS (model prog w) A E s (binarySort' 0 n ok) Q st := by
  rw [binarySort'_eq]
  simp only [Nat.zero_add]
  have m1 : max ok 1 = ok := by omega
  rw [m1]
  refine wpS_bind (wpS_mono (wpS_forRange (fun k c st' => c = (none, ()) ∧ Sta kd a₀ st' ∧ SortedToK κ (arrOf st') k) (Q := fun c st' => c = (none, ()) ∧ Sta kd a₀ st' ∧ SortedToK κ (arrOf st') n)
    (fun k c st' k1 k2 ⟨e, B', r⟩ => ?step) (fun c st' ⟨e, B', r⟩ => ?fin) ⟨rfl, B, hs⟩) fun c st' ⟨e, B', r⟩ => ?post)
  case step =>
    subst e
    refine wpS_bind (wpS_mono (wpS_forRange (fun x c st2 => st2 = st' ∧ ∃ l u, c = (none, l, u) ∧ l ≤ u ∧ u ≤ k ∧ u - l ≤ k - x ∧ (∀ i, i < l → κ.kle (KK κ (arrOf st') i) (KK κ (arrOf st') k)) ∧ ∀ i, u ≤ i → i < k → κ.klt (KK κ (arrOf st') k) (KK κ (arrOf st') i))
      (Q := fun c st2 => st2 = st' ∧ ∃ l u, c = (none, l, u) ∧ l ≤ k ∧ (∀ i, i < l → κ.kle (KK κ (arrOf st') i) (KK κ (arrOf st') k)) ∧ ∀ i, l ≤ i → i < k → κ.klt (KK κ (arrOf st') k) (KK κ (arrOf st') i))
      (fun x c st2 _ x2 ⟨e1, l, u, e2, p1, p2, p3, lo, hi⟩ => ?istep) (fun c st2 ⟨e1, l, u, e2, p1, p2, p3, lo, hi⟩ => ?ifin) ⟨rfl, 0, k, rfl, by omega, by omega, by omega, fun i z => by omega, fun i z1 z2 => by omega⟩) fun c st2 ⟨e1, l, u, e2, p1, lo, hi⟩ => ?ipost)
    case istep =>
      subst e1 e2
      dsimp only
      rcases Nat.lt_or_ge l u with z | z
      case inr =>
        rw [if_pos z]
        obtain rfl : l = u := by omega
        exact wpS_pure ⟨rfl, l, l, rfl, p2, lo, hi⟩
      rw [if_neg (by omega)]
      have mid : l ≤ (l + u) / 2 ∧ (l + u) / 2 < u := by omega
      refine wpS_bind (C _ k ((l + u) / 2) _ B' (by omega) (by omega) ?_)
      cases e : κ.blt (KK κ (arrOf st2) k) (KK κ (arrOf st2) ((l + u) / 2)) with
      | true => exact wpS_pure ⟨rfl, l, (l + u) / 2, rfl, by omega, by omega, by omega, lo, fun i z1 z2 => KeyOrd.klt_of_klt_of_kle e (r _ _ z1 z2)⟩
      | false => exact wpS_pure ⟨rfl, (l + u) / 2 + 1, u, rfl, by omega, by omega, by omega, fun i z => KeyOrd.kle_trans (r i ((l + u) / 2) (by omega) (by omega)) e, hi⟩
    case ifin =>
      subst e1 e2
      have z : max 0 k = k := by omega
      rw [z] at p3
      obtain rfl : l = u := by omega
      exact ⟨rfl, l, l, rfl, p2, lo, hi⟩
    case ipost =>
      subst e1 e2
      show wpS _ _ _ _ (do moveDown' k l; pure (ForInStep.yield (none, ()))) _ _
      rw [moveDown'_eq]
      exact wpS_bind (wpS_modify (wpS_pure ⟨rfl, B'.arr (bubble_perm _ _ _), srt_put r (by rw [B'.sz]; omega) p1 lo hi⟩))
  case fin =>
    subst e
    have z : max ok n = n := by omega
    rw [z] at r
    exact ⟨rfl, B', r⟩
  case post =>
    subst e
    exact wpS_pure (h st' B' r)
theorem g_sort (C : Cmp prog w A E s κ kd a₀) {st : SortSt} {Q : Unit → SortSt → Prop} (B : Sta kd a₀ st) (h2 : 2 ≤ a₀.size) (h64 : a₀.size < 64)
    (h : ∀ st', (arrOf st').Perm a₀ → failedOf st' = none → SortedToK κ (arrOf st') a₀.size → Q () st') : wpS (model prog w) A E s sortRuns' Q st := by
  let Fin : SortSt → Prop := fun st' => (arrOf st').Perm a₀ ∧ failedOf st' = none ∧ pendingOf st' = #[(0, a₀.size, 0)] ∧ SortedToK κ (arrOf st') a₀.size
  have fin : ∀ st', Sta kd a₀ st' → SortedToK κ (arrOf st') a₀.size → Fin (setPending st' ((pendingOf st').push (0, a₀.size, 0))) := fun st' B' r => ⟨B'.perm, B'.failed, by show (pendingOf st').push _ = _; rw [B'.pend]; rfl, r⟩
  have mr : minRun' a₀.size a₀.size 0 = a₀.size := by
    obtain ⟨f, hf⟩ : ∃ f, a₀.size = f + 1 := ⟨a₀.size - 1, by omega⟩
    have q : minRun' (f + 1) a₀.size 0 = a₀.size + 0 := by rw [minRun'_succ, if_pos h64]
    rw [← hf] at q
    exact q
  rw [sortRuns'_eq]
  refine wpS_bind (wpS_get ?_)
  dsimp only
  simp only [B.sz, mr]
  refine wpS_bind (wpS_mono (wpS_forRange (fun x c st' => (x = 0 ∧ c = (none, 0) ∧ Sta kd a₀ st') ∨ (1 ≤ x ∧ c = (none, a₀.size) ∧ Fin st')) (Q := fun c st' => c = (none, a₀.size) ∧ Fin st')
    (fun x c st' _ x2 o => ?step) (fun c st' o => ?fin) (.inl ⟨rfl, rfl, B⟩)) fun c st' ⟨e, F⟩ => ?post)
  case step =>
    rcases o with ⟨e0, e, B'⟩ | ⟨x1, e, F⟩
    · subst e0 e
      dsimp only
      rw [if_neg (by omega)]
      simp only [Nat.sub_zero, Nat.min_self, Nat.zero_add]
      refine wpS_bind (g_run C (Nat.le_refl _) (by omega) B' fun k st2 B2 k1 k2 r => ?_)
      dsimp only
      have go : ∀ st3, Sta kd a₀ st3 → SortedToK κ (arrOf st3) a₀.size → (pendingOf st3).back? = none ∧ Fin (setPending st3 ((pendingOf st3).push (0, a₀.size, 0))) := fun st3 B3 r3 => ⟨by rw [B3.pend]; rfl, fin st3 B3 r3⟩
      rcases Nat.lt_or_ge k a₀.size with z | z
      · rw [if_pos z]
        refine wpS_bind (wpS_lift (wpAny_rule ⟨rfl, wpS_bind (g_insert C (Nat.le_refl _) k1 k2 B2 r fun st3 B3 r3 => ?_)⟩))
        simp only [Bool.not_true, Bool.false_eq_true, if_false]
        refine wpS_bind (wpS_get ?_)
        rw [(go st3 B3 r3).1]
        exact wpS_bind (wpS_modify (wpS_pure (.inr ⟨by omega, rfl, (go st3 B3 r3).2⟩)))
      · rw [if_neg (by omega)]
        obtain rfl : k = a₀.size := by omega
        refine wpS_bind (wpS_get ?_)
        rw [(go st2 B2 r).1]
        exact wpS_bind (wpS_modify (wpS_pure (.inr ⟨by omega, rfl, (go st2 B2 r).2⟩)))
    · subst e
      dsimp only
      rw [if_pos (Nat.le_refl _)]
      exact wpS_pure ⟨rfl, F⟩
  case fin =>
    rcases o with ⟨x0, _⟩ | ⟨_, e, F⟩
    · omega
    · exact ⟨e, F⟩
  case post =>
    subst e
    refine wpS_bind (wpS_mono (wpS_forRange (fun _ c st2 => st2 = st' ∧ c = (none, ())) (Q := fun c st2 => st2 = st' ∧ c = (none, ())) (fun x c st2 _ _ ⟨e1, e2⟩ => ?istep) (fun _ _ q => q) ⟨rfl, rfl⟩) fun c st2 ⟨e1, e2⟩ => ?ipost)
    case istep =>
      subst e1 e2
      refine wpS_bind (wpS_get ?_)
      rw [if_pos (by rw [F.2.2.1]; exact Nat.le_refl 1)]
      exact wpS_pure ⟨rfl, rfl⟩
    case ipost =>
      subst e1 e2
      exact wpS_pure (h _ F.1 F.2.1 F.2.2.2)
end
end L2
namespace L2
open PySem PySem.Spec PyProof.Rows
theorem lex_irrefl : ∀ a : List Int, HT.lexLt a a = false
  | [] => rfl
  | x :: a => by rw [HT.lexLt_cons, if_pos rfl]; exact lex_irrefl a
theorem lex_trans : ∀ (a b c : List Int), HT.lexLt a b = true → HT.lexLt b c = true → HT.lexLt a c = true
  | [], [], _, h, _ => by cases h
  | [], _ :: _, [], _, h => by cases h
  | [], _ :: _, _ :: _, _, _ => rfl
  | _ :: _, [], _, h, _ => by cases h
  | _ :: _, _ :: _, [], _, h => by cases h
  | x :: a, y :: b, z :: c, h1, h2 => by
    rw [HT.lexLt_cons] at h1 h2 ⊢
    by_cases e1 : x = y
    · subst e1
      rw [if_pos rfl] at h1
      by_cases e2 : x = z
      · subst e2
        rw [if_pos rfl] at h2 ⊢
        exact lex_trans a b c h1 h2
      · rw [if_neg e2] at h2 ⊢
        exact h2
    · rw [if_neg e1] at h1
      have h1 := of_decide_eq_true h1
      by_cases e2 : y = z
      · subst e2
        rw [if_neg e1]
        exact decide_eq_true h1
      · rw [if_neg e2] at h2
        have h2 := of_decide_eq_true h2
        rw [if_neg (by omega)]
        exact decide_eq_true (by omega)
theorem lex_total : ∀ (a b : List Int), HT.lexLt a b = false → HT.lexLt b a = false → a = b
  | [], [], _, _ => rfl
  | [], _ :: _, h, _ => by cases h
  | _ :: _, [], _, h => by cases h
  | x :: a, y :: b, h1, h2 => by
    rw [HT.lexLt_cons] at h1 h2
    by_cases e : x = y
    · subst e
      rw [if_pos rfl] at h1 h2
      rw [lex_total a b h1 h2]
    · rw [if_neg e] at h1
      rw [if_neg (fun z => e z.symm)] at h2
      have h1 := of_decide_eq_false h1
      have h2 := of_decide_eq_false h2
      omega
theorem lex_neg (a b c : List Int) (h : HT.lexLt a c = true) : HT.lexLt a b = true ∨ HT.lexLt b c = true := by
  cases e : HT.lexLt a b with
  | true => exact .inl rfl
  | false =>
    refine .inr ?_
    cases e2 : HT.lexLt b a with
    | true => exact lex_trans b a c e2 h
    | false => rw [← lex_total a b e e2]; exact h
def tupOrd (kf : Value → List Int) : PyProof.Rows.KeyKind where
  α := List Int
  blt := HT.lexLt
  irrefl := lex_irrefl
  trans := lex_trans
  negTrans := lex_neg
  total := lex_total
  keyOf := fun v => some (kf v)
  dflt := []
theorem KK_tup {kf : Value → List Int} {xs : Array Keyed} {i : Nat} (h : i < xs.size) : KK (tupOrd kf) xs i = kf xs[i].1 := by
  unfold KK
  rw [getElem?_pos xs i h]
  rfl
section
variable {prog : Program} {w : World} {A : Around} {E : Value → Shared → Prop} {s : Shared}
theorem keyLt_tuples (f : Bool) (x y : Value) : keyLt' (tuples' f) x y = (do
    let xs ← Builtin.List.listItems x; let ys ← Builtin.List.listItems y
    for ((p, q), i) in (xs.toList.zip ys.toList).zipIdx do
      if !(← eqBool p q) then return ← oneLt' (f && i == 0) p q
    return decide (xs.size < ys.size)) := rfl
theorem oneLt_ints {f : Bool} {a b : Int} {t u : Tok} {Q : Bool → Shared → Prop} (h : Q (decide (a < b)) s) : wpAny (model prog w) A (oneLt' f (.int a t) (.int b u)) Q E s := by
  cases f with
  | true => exact oneLt_int h
  | false =>
    rw [oneLt'_eq]
    simp only [Bool.false_eq_true, if_false]
    exact wpAny_bind (lt_int (wpAny_truthy_bool h))
abbrev IntV (v : Value) (k : Int) : Prop := ∃ t, v = Value.int k t
theorem keyLt_IT {f : Bool} {ks ks' : List Int} {a b : Addr} {Q : Bool → Shared → Prop} (x : IsIT s.heap ks a) (y : IsIT s.heap ks' b) (h : Q (HT.lexLt ks ks') s) : wpAny (model prog w) A (keyLt' (tuples' f) (.ref a) (.ref b)) Q E s := by
  obtain ⟨xs, ⟨o, e, _, n, d⟩, r⟩ := x
  obtain ⟨ys, ⟨o', e', _, n', d'⟩, r'⟩ := y
  rw [keyLt_tuples]
  refine wpAny_bind (listItems_at e d (wpAny_bind (listItems_at e' d' (wpAny_bind ?_))))
  refine wpAny_forIn_list _ (fun rest r s' => r.1 = none ∧ s' = s ∧ ∃ (x' y' : List Int) (us vs : List Value) (i : Nat), rest = (us.zip vs).zipIdx i ∧ Paired IntV us x' ∧ Paired IntV vs y' ∧ HT.lexLt x' y' = HT.lexLt ks ks' ∧ decide (us.length < vs.length) = decide (xs.size < ys.size))
    _ ?turn ?fin _ _ ⟨rfl, rfl, ks, ks', xs.toList, ys.toList, 0, rfl, r, r', rfl, by simp⟩
  case turn =>
    rintro ⟨⟨p, q⟩, j⟩ rest c s' ⟨_, e1, x', y', us, vs, i, e2, p1, p2, le, ll⟩
    subst e1
    cases p1 with
    | nil => simp at e2
    | @cons u k us' x'' hu p1' =>
      cases p2 with
      | nil => simp at e2
      | @cons v k' vs' y'' hv p2' =>
        rw [List.zip_cons_cons, List.zipIdx_cons] at e2
        injection e2 with e3 e4
        cases e3
        obtain ⟨t, rfl⟩ := hu
        obtain ⟨t', rfl⟩ := hv
        rw [HT.lexLt_cons] at le
        refine wpAny_bind (wpAny_eqBool_int ?_)
        by_cases z : k = k'
        · subst z
          rw [if_pos rfl] at le
          rw [if_neg (by simp)]
          exact wpAny_pure ⟨rfl, rfl, x'', y'', us', vs', _, e4, p1', p2', le, by rw [← ll]; simp⟩
        · rw [if_neg z] at le
          rw [if_pos (by simpa using z)]
          refine wpAny_bind (oneLt_ints ?_)
          rw [le]
          exact wpAny_pure (wpAny_pure h)
  case fin =>
    rintro ⟨c1, c2⟩ s' ⟨e0, e1, x', y', us, vs, i, e2, p1, p2, le, ll⟩
    simp only at e0
    subst e0 e1
    have z : decide (xs.size < ys.size) = HT.lexLt ks ks' := by
      rw [← le, ← ll]
      cases p1 with
      | nil => cases p2 with
        | nil => rfl
        | cons _ _ => simp [HT.lexLt_nil_cons]
      | cons _ _ => cases p2 with
        | nil => simp [HT.lexLt_cons_nil]
        | cons _ _ => rw [List.zip_cons_cons, List.zipIdx_cons] at e2; cases e2
    show wpAny _ _ (pure (decide (xs.size < ys.size))) _ _ _
    rw [z]
    exact wpAny_pure h
noncomputable def kfOf (h : Heap) (v : Value) : List Int := @dite (List Int) (∃ ks, ∃ a, v = .ref a ∧ IsIT h ks a) (Classical.propDecidable _) (fun z => Classical.choose z) fun _ => []
theorem kfOf_eq {h : Heap} {ks : List Int} {a : Addr} (x : IsIT h ks a) : kfOf h (.ref a) = ks := by
  have z : ∃ ks, ∃ b, Value.ref a = .ref b ∧ IsIT h ks b := ⟨ks, a, rfl, x⟩
  unfold kfOf
  rw [dif_pos z]
  obtain ⟨b, e, q⟩ := Classical.choose_spec z
  cases e
  exact q.inj x
abbrev TupV (h : Heap) (v : Value) (ks : List Int) : Prop := ∃ a, v = Value.ref a ∧ IsIT h ks a
theorem kf_map {h : Heap} : ∀ {vs : List Value} {kss : List (List Int)}, Paired (TupV h) vs kss → vs.map (kfOf h) = kss
  | _, _, .nil => rfl
  | _, _, .cons ⟨a, e, x⟩ t => by rw [List.map_cons, kf_map t, e, kfOf_eq x]
theorem cmp_tup {f : Bool} {vs : List Value} {kss : List (List Int)} (p : Paired (TupV s.heap) vs kss) : Cmp prog w A E s (tupOrd (kfOf s.heap)) (tuples' f) (pairsOf vs) := by
  intro st i j Q B hi hj h
  have at_ : ∀ k, (hk : k < (pairsOf vs).size) → ∃ v b ks, (arrOf st)[k]? = some (v, b) ∧ TupV s.heap v ks ∧ KK (tupOrd (kfOf s.heap)) (arrOf st) k = ks := fun k hk => by
    have hk' : k < (arrOf st).size := by rw [B.sz]; exact hk
    have hm : (arrOf st)[k] ∈ (pairsOf vs).toList := (Array.perm_iff_toList_perm.mp B.perm).mem_iff.mp (by simp)
    rw [pairsOf_toList] at hm
    have hv := (mem_zip_self hm).2
    obtain ⟨ks, _, a, e, x⟩ := pmem p _ hv
    refine ⟨(arrOf st)[k].1, (arrOf st)[k].2, ks, Array.getElem?_eq_getElem hk', ⟨a, e, x⟩, ?_⟩
    rw [KK_tup hk', e, kfOf_eq x]
  obtain ⟨v1, b1, k1, e1, ⟨a1, rfl, x1⟩, q1⟩ := at_ i hi
  obtain ⟨v2, b2, k2, e2, ⟨a2, rfl, x2⟩, q2⟩ := at_ j hj
  rw [q1, q2] at h
  rw [ltAt'_eq]
  refine wpS_bind (wpS_get ?_)
  show wpS _ _ _ _ (do let x ← elem' (arrOf st) i; let y ← elem' (arrOf st) j; lt' x y) Q st
  rw [elem'_eq, elem'_eq, e1, e2]
  refine wpS_bind (wpS_pure (wpS_bind (wpS_pure ?_)))
  rw [lt'_eq]
  refine wpS_bind (wpS_get ?_)
  rw [B.kind]
  exact wpS_bind (wpS_lift (wpAny_attempt (keyLt_IT x1 x2 ⟨rfl, wpS_pure h⟩)))
theorem wp_mapM {α β : Type} {f : α → Sem β} {R : α → β → Prop} {M : Model} : ∀ (l : List α) {Q : List β → Shared → Prop}, (∀ v ∈ l, ∀ Q' : β → Shared → Prop, (∀ b, R v b → Q' b s) → wpAny M A (f v) Q' E s) → (∀ bs, Paired R l bs → Q bs s) → wpAny M A (l.mapM f) Q E s
  | [], Q, _, h => by rw [List.mapM_nil]; exact wpAny_pure (h [] .nil)
  | a :: l, Q, hf, h => by
    rw [List.mapM_cons]
    refine wpAny_bind (hf a List.mem_cons_self _ fun b hb => ?_)
    exact wpAny_bind (wp_mapM l (fun v hv => hf v (List.mem_cons_of_mem _ hv)) fun bs hbs => wpAny_pure (h _ (.cons hb hbs)))
theorem first_eq (v : Value) : firstOfTuple' v = (do
    if (← typeOf v) != .type "tuple" then return none
    return (← Builtin.List.listItems v)[0]?) := rfl
theorem first_IT {ks : List Int} {a : Addr} {Q : Option Value → Shared → Prop} (x : IsIT s.heap ks a) (hne : ks ≠ []) (h : ∀ k t, Q (some (.int k t)) s) : wpAny (model prog w) A (firstOfTuple' (.ref a)) Q E s := by
  obtain ⟨xs, tp, r⟩ := x
  have hT := tup_typeIs tp
  obtain ⟨o, e, c, n, d⟩ := tp
  rw [first_eq]
  refine wpAny_bind (wpAny_typeOf hT ?_)
  rw [if_neg (by simp)]
  refine wpAny_bind (listItems_at e d (wpAny_pure ?_))
  cases ks with
  | nil => exact absurd rfl hne
  | cons k ks =>
    obtain ⟨v, e1, t, e2⟩ := pget' (i := 0) (b := k) r rfl
    have : xs[0]? = some v := by rw [← Array.getElem?_toList]; exact e1
    rw [this, e2]
    exact h k t
theorem ints_of : ∀ {l : List Value} {fs : List (Option Value)}, Paired (fun _ o => ∃ k t, o = some (Value.int k t)) l fs → fs.all (·.isSome) = true ∧ ∃ ns, IntsAre (fs.filterMap id) ns ∧ ns.length = l.length
  | _, _, .nil => ⟨rfl, [], .nil, rfl⟩
  | _, _, .cons ⟨k, t, e⟩ r => by
    obtain ⟨h1, ns, h2, h3⟩ := ints_of r
    subst e
    exact ⟨by simpa using h1, k :: ns, .cons k t h2, by simp [h3]⟩
theorem kind_tup {v₁ v₂ : Value} {vs : List Value} {kss : List (List Int)} {Q : SortKind → Shared → Prop} (p : Paired (TupV s.heap) (v₁ :: v₂ :: vs) kss) (hne : ∀ ks ∈ kss, ks ≠ []) (h : Q (tuples' true) s) :
    wpAny (model prog w) A (keyKind' (v₁ :: v₂ :: vs).toArray) Q E s := by
  rw [keyKind'_eq, List.mapM_toArray]
  refine wpAny_bind (wpAny_map (wp_mapM (R := fun _ o => ∃ k t, o = some (Value.int k t)) _ (fun v hv Q' q => ?_) fun fs hfs => ?_))
  · obtain ⟨ks, hk, a, e, x⟩ := pmem p v hv
    subst e
    exact first_IT x (hne ks hk) fun k t => q _ ⟨k, t, rfl⟩
  · obtain ⟨h1, ns, h2, h3⟩ := ints_of hfs
    rw [if_pos (by simpa using h1)]
    refine wpAny_bind (wpAny_rule ?_)
    rw [oneTypeOnly'_eq]
    have e : (List.toArray fs).filterMap id = (fs.filterMap id).toArray := by simp
    rw [e, List.mapM_toArray, mapM_typeOf_ints h2]
    simp only [map_pure, pure_bind]
    cases z : fs.filterMap id with
    | nil =>
      rw [z] at h2
      cases h2
      simp at h3
    | cons f0 fr =>
      have z0 : (List.map (fun _ => Value.type "int") (f0 :: fr)).toArray[0]? = some (Value.type "int") := by simp
      have z1 : ((List.map (fun _ => Value.type "int") (f0 :: fr)).toArray.all fun x => x == Value.type "int") = true := by
        simp only [List.all_toArray, List.all_map, List.all_eq_true]
        intro _ _
        rfl
      rw [z0]
      simp only [z1, if_true, pure_bind]
      exact wpAny_pure h
end
end L2
namespace L2
open PySem PySem.Spec PyProof.Rows
abbrev RisL (kss : List (List Int)) : Prop := kss.Pairwise fun a b => HT.lexLt b a = false
section
variable {prog : Program} {w : World} {A : Around} {E : Value → Shared → Prop} {s : Shared}
theorem it_keep {h h' : Heap} {a d : Addr} {o : Obj} {ks : List Int} (x : IsIT h ks a) (ho : h.get? d = some o) (hc : o.cls ≠ .type "tuple") (k : ∀ b u, b ≠ d → h.get? b = some u → h'.get? b = some u) : IsIT h' ks a := by
  obtain ⟨i, ⟨o', e, c, n, d'⟩, r⟩ := x
  refine ⟨i, ⟨o', k a o' ?_ e, c, n, d'⟩, r⟩
  rintro rfl
  rw [e] at ho
  cases ho
  exact hc c
theorem out_tup {h : Heap} {vs : List Value} {xs : Array Keyed} (hp : xs.Perm (pairsOf vs)) (hs : SortedToK (tupOrd (kfOf h)) xs (pairsOf vs).size) : (xs.map (·.2)).toList.Perm vs ∧ RisL ((xs.map (·.2)).toList.map (kfOf h)) := by
  have same : ∀ q ∈ xs.toList, q.1 = q.2 := fun q hq => (mem_zip_self (by rw [← pairsOf_toList]; exact (Array.perm_iff_toList_perm.mp hp).mem_iff.mp hq)).1
  have e1 : (xs.map (·.2)).toList = xs.toList.map (·.2) := by simp
  have e2 : (pairsOf vs).toList.map (·.2) = vs := by
    rw [pairsOf_toList]
    exact List.map_snd_zip (by simp)
  refine ⟨?_, ?_⟩
  · rw [e1]
    have := (Array.perm_iff_toList_perm.mp hp).map (·.2)
    rw [e2] at this
    exact this
  · rw [e1, List.map_map]
    unfold RisL
    rw [List.pairwise_iff_getElem]
    intro i j hi hj hij
    rw [List.length_map] at hi hj
    have hi' : i < xs.size := by simpa using hi
    have hj' : j < xs.size := by simpa using hj
    have z := hs i j (by omega) (by rw [← hp.size_eq]; exact hj')
    have z : HT.lexLt (KK (tupOrd (kfOf h)) xs j) (KK (tupOrd (kfOf h)) xs i) = false := z
    rw [KK_tup hi', KK_tup hj'] at z
    have s1 := same xs[i] (by simp)
    have s2 := same xs[j] (by simp)
    rw [s1, s2] at z
    simpa using z
theorem sort_tup {a : Addr} {vs : List Value} {kss : List (List Int)} {n : Nat} {P : Fin → Shared → Prop} (ho : s.heap.get? a = some (seqObj "list" vs.toArray n)) (p : Paired (TupV s.heap) vs kss) (hne : ∀ ks ∈ kss, ks ≠ []) (h64 : vs.length < 64)
    (h : ∀ out : Array Value, out.toList.Perm vs → RisL (out.toList.map (kfOf s.heap)) → P (.done (.ret .none)) { s with heap := sortedHeap s.heap a vs out }) : wpAny (model prog w) A (Builtin.«list.sort» ⟨[.ref a], []⟩) P E s := by
  have lt : a < s.heap.objs.size := Heap.lt_size ho
  obtain ⟨e1, o1⟩ : ∃ e1, (s.heap.update a (Obj.mapSeq fun _ => #[])).get? a = some (seqObj "list" #[] e1) := ⟨_, get?_update_seq ho _⟩
  have o2 : (((s.heap.update a (Obj.mapSeq fun _ => #[])).push (seqObj "tuple" vs.toArray 0)).push (seqObj "list" #[] 0)).get? a = some (seqObj "list" #[] e1) := Heap.get?_push_of_some _ (Heap.get?_push_of_some _ o1)
  have keep : ∀ b u, b ≠ a → s.heap.get? b = some u → (((s.heap.update a (Obj.mapSeq fun _ => #[])).push (seqObj "tuple" vs.toArray 0)).push (seqObj "list" #[] 0)).get? b = some u := fun b u hb q =>
    Heap.get?_push_of_some _ (Heap.get?_push_of_some _ ((Heap.get?_update_other _ _ (Ne.symm hb)).trans q))
  have p' : Paired (TupV (((s.heap.update a (Obj.mapSeq fun _ => #[])).push (seqObj "tuple" vs.toArray 0)).push (seqObj "list" #[] 0))) vs kss := pimp (fun _ _ ⟨b, e, x⟩ => ⟨b, e, it_keep x ho (by simp) keep⟩) p
  have kf : ∀ v ∈ vs, kfOf (((s.heap.update a (Obj.mapSeq fun _ => #[])).push (seqObj "tuple" vs.toArray 0)).push (seqObj "list" #[] 0)) v = kfOf s.heap v := fun v hv => by
    obtain ⟨ks, _, b, e, x⟩ := pmem p v hv
    rw [e, kfOf_eq x, kfOf_eq (it_keep x ho (by simp) keep)]
  have fin : ∀ xs : Array Keyed, xs.Perm (pairsOf vs) → SortedToK (tupOrd (kfOf (((s.heap.update a (Obj.mapSeq fun _ => #[])).push (seqObj "tuple" vs.toArray 0)).push (seqObj "list" #[] 0)))) xs (pairsOf vs).size →
      P (.done (.ret .none)) { s with heap := sortedHeap s.heap a vs (xs.map (·.2)) } := fun xs hp hs => by
    obtain ⟨q1, q2⟩ := out_tup hp hs
    refine h _ q1 ?_
    have e : (xs.map (·.2)).toList.map (kfOf s.heap) = (xs.map (·.2)).toList.map (kfOf (((s.heap.update a (Obj.mapSeq fun _ => #[])).push (seqObj "tuple" vs.toArray 0)).push (seqObj "list" #[] 0))) :=
      List.map_congr_left fun v hv => (kf v (q1.mem_iff.mp hv)).symm
    rw [e]
    exact q2
  have sz : ∀ xs : Array Keyed, xs.Perm (pairsOf vs) → ((fun (_ : Array Value) => xs.map (·.2)) #[]).size ≤ sizeLine + 1 := fun xs hp => by
    show (xs.map (·.2)).size ≤ _
    rw [Array.size_map, hp.size_eq, pairsOf_size, sizeLine_eq]
    omega
  rw [list_sort_plain]
  refine wpAny_bind (listItems_at ho rfl (wpAny_bind (listUpdate_at ho rfl (wpAny_bind (seqEpoch_at o1 rfl (wpAny_bind (wpAny_newTuple (wpAny_bind (wpAny_newList (wpAny_holding ?_)))))) ) ?_ ?_)))
  case refine_2 => rw [List.size_toArray, sizeLine_eq]; omega
  case refine_3 => show (#[] : Array Value).size ≤ _; simp
  show wpAny (model prog w) A _ P E { s with heap := ((s.heap.update a (Obj.mapSeq fun _ => #[])).push (seqObj "tuple" vs.toArray 0)).push (seqObj "list" #[] 0) }
  dsimp only
  by_cases h2 : vs.toArray.size < 2
  · rw [if_pos h2, if_pos h2]
    refine wpAny_bind (wpAny_pure ?_)
    rw [StateT.run_pure]
    refine wpAny_bind (wpAny_pure (wpAny_bind (seqEpoch_at o2 rfl (wpAny_bind (listUpdate_at o2 rfl ?_ (Nat.zero_le _) (sz (pairsOf vs) (Array.Perm.refl _)))))))
    simp only [bne_self_eq_false, Bool.false_eq_true, if_false]
    refine wpAny_pure (fin (pairsOf vs) (Array.Perm.refl _) fun i j h1 h3 => ?_)
    rw [pairsOf_size] at h3
    have h2 : vs.length < 2 := by simpa using h2
    obtain rfl : i = j := by omega
    exact KeyOrd.kle_refl _
  · rw [if_neg h2, if_neg h2]
    have h2 : 2 ≤ vs.length := by simpa using h2
    obtain ⟨v₁, v₂, rest, rfl⟩ : ∃ v₁ v₂ rest, vs = v₁ :: v₂ :: rest := by
      match vs, h2 with
      | [], h2 => simp at h2
      | [_], h2 => simp at h2
      | v₁ :: v₂ :: rest, _ => exact ⟨v₁, v₂, rest, rfl⟩
    refine wpAny_bind (kind_tup (s := { s with heap := ((s.heap.update a (Obj.mapSeq fun _ => #[])).push (seqObj "tuple" (v₁ :: v₂ :: rest).toArray 0)).push (seqObj "list" #[] 0) }) p' hne ?_)
    refine wpAny_bind (wpAny_mono (g_sort (cmp_tup p') (st := SortSt.mk' (tuples' true) ((v₁ :: v₂ :: rest).toArray.zip (v₁ :: v₂ :: rest).toArray) #[] 7 none)
      (Q := fun _ st' => (arrOf st').Perm (pairsOf (v₁ :: v₂ :: rest)) ∧ failedOf st' = none ∧ SortedToK (tupOrd (kfOf _)) (arrOf st') (pairsOf (v₁ :: v₂ :: rest)).size)
      ⟨Array.Perm.refl _, rfl, rfl, rfl⟩ (by rw [pairsOf_size]; exact h2) (by rw [pairsOf_size]; exact h64) fun st' a1 a2 a3 => ⟨a1, a2, a3⟩) ?_ fun _ _ e => e)
    rintro ⟨⟨⟩, st'⟩ s' ⟨rfl, hp, hf, hs⟩
    dsimp only
    refine wpAny_bind (seqEpoch_at o2 rfl (wpAny_bind (listUpdate_at o2 rfl ?_ (Nat.zero_le _) (sz (arrOf st') hp))))
    rw [hf]
    simp only [bne_self_eq_false, Bool.false_eq_true, if_false]
    exact wpAny_pure (fin (arrOf st') hp hs)
theorem sorted_list {l : Addr} {vs : List Value} {kss : List (List Int)} {Q : Value → Shared → Prop} (hl : s.heap.IsList l vs.toArray) (p : Paired (TupV s.heap) vs kss) (hne : ∀ ks ∈ kss, ks ≠ []) (h64 : vs.length < 64)
    (h : ∀ out : Array Value, out.toList.Perm vs → RisL (out.toList.map (kfOf s.heap)) → Q (.ref (s.heap.objs.size + 1)) { s with heap := sortedAll s.heap vs out }) : wpAny (model prog w) A (call (.builtin "sorted") [.ref l]) Q E s := by
  refine Calls.call_function_entry kind_sorted plain_sorted entry_sorted (args_sorted1 _) ?_
  have hz : ((s.heap.push (seqObj "list" #[] 0)).update s.heap.objs.size (Obj.mapSeq (· ++ vs.toArray))).objs.size = s.heap.objs.size + 1 := by rw [Heap.size_update, size_push']
  have hL : (((s.heap.push (seqObj "list" #[] 0)).update s.heap.objs.size (Obj.mapSeq (· ++ vs.toArray))).push (seqObj "list" vs.toArray 0)).get? (s.heap.objs.size + 1) = some (seqObj "list" vs.toArray 0) := by
    rw [← hz]
    exact Heap.get?_push_size _ rfl
  have kp : ∀ b u, s.heap.get? b = some u → (((s.heap.push (seqObj "list" #[] 0)).update s.heap.objs.size (Obj.mapSeq (· ++ vs.toArray))).push (seqObj "list" vs.toArray 0)).get? b = some u := fun b u q =>
    Heap.get?_push_of_some _ ((Heap.get?_update_other _ _ (Nat.ne_of_gt (Heap.lt_size q))).trans (Heap.get?_push_of_some _ q))
  have up : ∀ {ks : List Int} {b : Addr}, IsIT s.heap ks b → IsIT (((s.heap.push (seqObj "list" #[] 0)).update s.heap.objs.size (Obj.mapSeq (· ++ vs.toArray))).push (seqObj "list" vs.toArray 0)) ks b := fun ⟨i, ⟨o, e, c, n, d⟩, r⟩ => ⟨i, ⟨o, kp _ _ e, c, n, d⟩, r⟩
  unfold Builtin.«sorted»
  refine wpAny_bind (m := checkCount "sorted" 1 1 _) (wpAny_pure (wpAny_bind (collect_list hl (wpAny_bind (wpAny_newList ?_)) (by rw [sizeLine_eq]; omega))))
  show wpAny _ _ _ _ _ { s with heap := ((s.heap.push (seqObj "list" #[] 0)).update s.heap.objs.size (Obj.mapSeq (· ++ vs.toArray))).push (seqObj "list" vs.toArray 0) }
  rw [hz]
  refine wpAny_bind (wpAny_holding (wpAny_call_entry PyProof.Rows.slot_list_sort ⟨_, hL, rfl⟩ PyProof.Rows.entry_list_sort (sort_tup hL (pimp (fun _ _ ⟨b, e, x⟩ => ⟨b, e, up x⟩) p) hne h64 fun out q1 q2 => ⟨_, rfl, wpAny_pure ⟨_, rfl, h out q1 ?_⟩⟩) (args_list_sort _)))
  have e : out.toList.map (kfOf s.heap) = out.toList.map (kfOf (((s.heap.push (seqObj "list" #[] 0)).update s.heap.objs.size (Obj.mapSeq (· ++ vs.toArray))).push (seqObj "list" vs.toArray 0))) := List.map_congr_left fun v hv => by
    obtain ⟨ks, _, b, e, x⟩ := pmem p v (q1.mem_iff.mp hv)
    rw [e, kfOf_eq x, kfOf_eq (up x)]
  rw [e]
  exact q2
end
section
variable {X : Cx}
def toV : Value → V
  | .ref a => .ref a
  | _ => .non
theorem sorted_back {h : Heap} {K : W.Frag} {H : Hp} (f : ∀ a ks, dInts.rep K H (.ref a) ks → IsIT h ks a) {as : List V} {its : List Value} {kss : List (List Int)} (r : Vals as its) (p : Paired (dInts.rep K H) as kss) :
    Paired (TupV h) its kss ∧ ∀ v ∈ its, ∃ a ks, v = .ref a ∧ dInts.rep K H (.ref a) ks ∧ kfOf h v = ks := by
  have q : Paired (fun v ks => ∃ a, v = Value.ref a ∧ dInts.rep K H (.ref a) ks) its kss := pcomp (F := RelV) (G := dInts.rep K H) (fun x u ks h1 h2 => by
    obtain ⟨a, xs, e, q⟩ := id h2
    subst e
    cases h1
    exact ⟨a, rfl, h2⟩) r p
  refine ⟨pimp (fun _ _ ⟨a, e, z⟩ => ⟨a, e, f a _ z⟩) q, fun v hv => ?_⟩
  obtain ⟨ks, _, a, e, z⟩ := pmem q v hv
  exact ⟨a, ks, e, z, by rw [e]; exact kfOf_eq (f a ks z)⟩
theorem call_sortedD : CallR X (.builtin "sorted") (fun xs H Q => ∃ (y : V) (kss : List (List Int)), xs = [y] ∧ (dLst dInts).rep X.K H y kss ∧ (∀ ks ∈ kss, ks ≠ []) ∧ kss.length < 64 ∧
    ∀ (l : Addr) (as' : List V) (kss' : List (List Int)), H l = none → Paired (dInts.rep X.K H) as' kss' → kss'.Perm kss → RisL kss' → Q (.ref l) (upd H l (.lst as'))) := by
  intro pins s σ H xs us Q I r h
  obtain ⟨y, kss, rfl, ⟨p, as, e, hp, hd⟩, hne, h64, q⟩ := h
  subst e
  obtain ⟨u, rfl, ru⟩ := vals1 r
  cases ru
  obtain ⟨its, rv, pl, hz⟩ := I.list hp
  have hl := rv.length
  have hl2 := hd.length
  obtain ⟨pt, back⟩ := sorted_back (h := s.heap) (fun a ks z => it_of I z) rv hd
  refine sorted_list pl.isList pt hne (by omega) fun out q1 q2 => ?_
  obtain ⟨e, he⟩ := sortedAll_at s.heap its out
  have hfresh : H (s.heap.objs.size + 1) = none := I.hok.fresh (Nat.le_succ _)
  have each : ∀ v ∈ out.toList, ∃ a ks, v = .ref a ∧ dInts.rep X.K H (.ref a) ks ∧ kfOf s.heap v = ks := fun v hv => back v (q1.mem_iff.mp hv)
  have mk : ∀ l : List Value, (∀ v ∈ l, ∃ a ks, v = .ref a ∧ dInts.rep X.K H (.ref a) ks ∧ kfOf s.heap v = ks) → Vals (l.map toV) l ∧ Paired (dInts.rep X.K H) (l.map toV) (l.map (kfOf s.heap)) := by
    intro l
    induction l with
    | nil => intro _; exact ⟨.nil, .nil⟩
    | cons v l ih =>
      intro hl
      obtain ⟨i1, i2⟩ := ih fun u hu => hl u (List.mem_cons_of_mem _ hu)
      obtain ⟨a, ks, e1, e2, e3⟩ := hl v List.mem_cons_self
      subst e1
      exact ⟨.cons rfl i1, .cons (by rw [e3]; exact e2) i2⟩
  obtain ⟨v1, v2⟩ := mk out.toList each
  have hkf : its.map (kfOf s.heap) = kss := kf_map pt
  have hlen : out.toList.length = its.length := q1.length_eq
  refine ⟨.ref (s.heap.objs.size + 1), _, I.laid (t' := s.toks) (o := .lst (out.toList.map toV)) (fun b o z => sortedAll_old z) (Nat.le_succ _) ⟨by rw [List.length_map, sizeLine_eq]; omega, out.toList, e, v1, by simpa [seqObj] using he⟩, rfl,
    q _ _ _ hfresh v2 (by rw [← hkf]; exact q1.map _) q2⟩
end
end L2
namespace Sa
open PySem PySem.SetTable
def stand (t : SetTable) (h : Int) : Nat → Probe
  | 0 => t.probeStart h
  | n + 1 => t.advance (stand t h n)
theorem adv_eq {t u : SetTable} (e : t.mask = u.mask) (p : Probe) : t.advance p = u.advance p := by
  unfold advance
  rw [e]
theorem stand_eq {t u : SetTable} (e : t.mask = u.mask) (h : Int) : ∀ n, stand t h n = stand u h n
  | 0 => by unfold stand probeStart; rw [e]
  | n + 1 => by unfold stand; rw [stand_eq e h n, adv_eq e]
theorem stand_dummy (t : SetTable) (h : Int) : ∀ n, (stand t h n).dummy = none
  | 0 => rfl
  | n + 1 => by
    have ih := stand_dummy t h n
    unfold stand advance
    split
    · exact ih
    · exact ih
def runs (mask : Nat) (h : Int) : Nat → Nat × Nat
  | 0 => (bits h % (mask + 1), bits h)
  | r + 1 => leap mask (runs mask h r).1 (runs mask h r).2
def begins (mask : Nat) (h : Int) : Nat → Nat
  | 0 => 0
  | r + 1 => begins mask h r + (runEnd mask (runs mask h r).1 - (runs mask h r).1) + 1
theorem runEnd_le (mask i : Nat) : i ≤ runEnd mask i ∧ runEnd mask i ≤ i + 9 := by
  unfold runEnd
  split <;> omega
theorem begins_le (mask : Nat) (h : Int) : ∀ r, begins mask h r ≤ 10 * r
  | 0 => Nat.le_refl _
  | r + 1 => by
    have ih := begins_le mask h r
    have := runEnd_le mask (runs mask h r).1
    unfold begins
    omega
theorem stand_run (t : SetTable) (h : Int) : ∀ r k, k ≤ runEnd t.mask (runs t.mask h r).1 - (runs t.mask h r).1 →
    stand t h (begins t.mask h r + k) = { j := (runs t.mask h r).1 + k, more := runEnd t.mask (runs t.mask h r).1 - (runs t.mask h r).1 - k, i := (runs t.mask h r).1, perturb := (runs t.mask h r).2, dummy := none }
  | 0, 0, _ => rfl
  | r + 1, 0, _ => by
    have ih := stand_run t h r (runEnd t.mask (runs t.mask h r).1 - (runs t.mask h r).1) (Nat.le_refl _)
    have e : begins t.mask h (r + 1) + 0 = (begins t.mask h r + (runEnd t.mask (runs t.mask h r).1 - (runs t.mask h r).1)) + 1 := rfl
    rw [e]
    show t.advance (stand t h _) = _
    rw [ih]
    unfold advance
    simp only [Nat.sub_self, Nat.lt_irrefl, gt_iff_lt, if_false]
    rfl
  | r, k + 1, hk => by
    have ih := stand_run t h r k (by omega)
    have e : begins t.mask h r + (k + 1) = (begins t.mask h r + k) + 1 := rfl
    rw [e]
    show t.advance (stand t h _) = _
    rw [ih]
    unfold advance
    have z : runEnd t.mask (runs t.mask h r).1 - (runs t.mask h r).1 - k > 0 := by omega
    simp only [z, if_true]
    congr 1
theorem stand_begin (t : SetTable) (h : Int) (r : Nat) : (stand t h (begins t.mask h r)).j = (runs t.mask h r).1 := by
  have := stand_run t h r 0 (Nat.zero_le _)
  rw [Nat.add_zero] at this
  rw [this]
  rfl
def nx (mask i : Nat) : Nat := (i * 5 + 1) % (mask + 1)
def itr (mask : Nat) : Nat → Nat → Nat
  | 0, i => i
  | n + 1, i => itr mask n (nx mask i)
theorem itr_add (mask : Nat) : ∀ a b i, itr mask (a + b) i = itr mask b (itr mask a i)
  | 0, b, i => by rw [Nat.zero_add]; rfl
  | a + 1, b, i => by
    rw [show a + 1 + b = (a + b) + 1 by omega]
    show itr mask (a + b) (nx mask i) = itr mask b (itr mask a (nx mask i))
    exact itr_add mask a b _
def orb (mask : Nat) : Nat → Nat → List Nat
  | 0, _ => []
  | n + 1, i => i :: orb mask n (nx mask i)
theorem mem_orb (mask : Nat) : ∀ n i j, j ∈ orb mask n i → ∃ k, k < n ∧ itr mask k i = j
  | 0, _, _, h => by cases h
  | n + 1, i, j, h => by
    rcases List.mem_cons.mp h with rfl | h
    · exact ⟨0, by omega, rfl⟩
    · obtain ⟨k, hk, e⟩ := mem_orb mask n _ j h
      exact ⟨k + 1, by omega, e⟩
def Mk (mask : Nat) : Prop := mask = 7 ∨ mask = 31 ∨ mask = 127
theorem cover {mask : Nat} (h : Mk mask) : itr mask (mask + 1) 0 = 0 ∧ ∀ j, j < mask + 1 → j ∈ orb mask (mask + 1) 0 := by
  rcases h with rfl | rfl | rfl <;> decide +kernel
theorem reach {mask i j : Nat} (h : Mk mask) (hi : i < mask + 1) (hj : j < mask + 1) : ∃ k, k < mask + 1 ∧ itr mask k i = j := by
  obtain ⟨c0, c⟩ := cover h
  obtain ⟨a, ha, ea⟩ := mem_orb _ _ _ _ (c i hi)
  obtain ⟨b, hb, eb⟩ := mem_orb _ _ _ _ (c j hj)
  rcases Nat.lt_or_ge b a with z | z
  · refine ⟨b + (mask + 1) - a, by omega, ?_⟩
    have : itr mask (a + (b + (mask + 1) - a)) 0 = j := by
      rw [show a + (b + (mask + 1) - a) = (mask + 1) + b by omega, itr_add, c0, eb]
    rw [itr_add, ea] at this
    exact this
  · refine ⟨b - a, by omega, ?_⟩
    have : itr mask (a + (b - a)) 0 = j := by rw [show a + (b - a) = b by omega, eb]
    rw [itr_add, ea] at this
    exact this
theorem runs_lt (mask : Nat) (h : Int) : ∀ r, (runs mask h r).1 < mask + 1
  | 0 => Nat.mod_lt _ (Nat.succ_pos _)
  | r + 1 => Nat.mod_lt _ (Nat.succ_pos _)
theorem runs_pert (mask : Nat) (h : Int) : ∀ r, (runs mask h r).2 = bits h / 32 ^ r
  | 0 => by show bits h = _; rw [Nat.pow_zero, Nat.div_one]
  | r + 1 => by
    show (runs mask h r).2 / 32 = _
    rw [runs_pert mask h r, Nat.div_div_eq_div_mul, Nat.pow_succ]
theorem bits_lt (h : Int) : bits h < 2 ^ 64 := by
  unfold bits
  have h1 := Int.emod_nonneg h (show (2 ^ 64 : Int) ≠ 0 by decide)
  have h2 := Int.emod_lt_of_pos h (show (0 : Int) < 2 ^ 64 by decide)
  omega
theorem pert_zero (mask : Nat) (h : Int) {r : Nat} (hr : 13 ≤ r) : (runs mask h r).2 = 0 := by
  rw [runs_pert]
  refine Nat.div_eq_of_lt (Nat.lt_of_lt_of_le (bits_lt h) ?_)
  exact Nat.le_trans (show 2 ^ 64 ≤ 32 ^ 13 by decide) (Nat.pow_le_pow_right (by decide) hr)
theorem runs_itr (mask : Nat) (h : Int) : ∀ q, (runs mask h (13 + q)).1 = itr mask q (runs mask h 13).1
  | 0 => rfl
  | q + 1 => by
    have e : itr mask (q + 1) (runs mask h 13).1 = nx mask (itr mask q (runs mask h 13).1) := by rw [itr_add]; rfl
    rw [e, ← runs_itr mask h q]
    show (leap mask (runs mask h (13 + q)).1 (runs mask h (13 + q)).2).1 = _
    rw [pert_zero mask h (by omega)]
    rfl
theorem comes (t : SetTable) (h : Int) (hm : Mk t.mask) {j : Nat} (hj : j < t.mask + 1) : ∃ r, r < t.mask + 14 ∧ (runs t.mask h r).1 = j := by
  obtain ⟨k, hk, e⟩ := reach hm (runs_lt t.mask h 13) hj
  exact ⟨13 + k, by omega, by rw [runs_itr]; exact e⟩
theorem comes' (t : SetTable) (h : Int) (hm : Mk t.mask) {j : Nat} (hj : j < t.mask + 1) : ∃ n, n < 10 * (t.mask + 14) ∧ (stand t h n).j = j := by
  obtain ⟨r, hr, e⟩ := comes t h hm hj
  have := begins_le t.mask h r
  exact ⟨begins t.mask h r, by omega, by rw [stand_begin]; exact e⟩
theorem run_lt {mask : Nat} (i k : Nat) (hi : i < mask + 1) (hk : k ≤ runEnd mask i - i) : i + k < mask + 1 := by
  unfold runEnd at hk
  split at hk <;> omega
theorem in_run (mask : Nat) (h : Int) : ∀ n, ∃ r k, n = begins mask h r + k ∧ k ≤ runEnd mask (runs mask h r).1 - (runs mask h r).1
  | 0 => ⟨0, 0, rfl, Nat.zero_le _⟩
  | n + 1 => by
    obtain ⟨r, k, e, hk⟩ := in_run mask h n
    rcases Nat.lt_or_ge k (runEnd mask (runs mask h r).1 - (runs mask h r).1) with z | z
    · exact ⟨r, k + 1, by omega, by omega⟩
    · refine ⟨r + 1, 0, ?_, Nat.zero_le _⟩
      show n + 1 = begins mask h r + (runEnd mask (runs mask h r).1 - (runs mask h r).1) + 1 + 0
      omega
theorem stand_lt (t : SetTable) (h : Int) (n : Nat) : (stand t h n).j < t.mask + 1 := by
  obtain ⟨r, k, e, hk⟩ := in_run t.mask h n
  rw [e, stand_run t h r k hk]
  exact run_lt _ _ (runs_lt _ _ _) hk
theorem first {p : Nat → Prop} [DecidablePred p] : ∀ n, p n → ∃ m, m ≤ n ∧ p m ∧ ∀ k, k < m → ¬ p k
  | 0, h => ⟨0, Nat.le_refl _, h, fun k hk => absurd hk (Nat.not_lt_zero _)⟩
  | n + 1, h => by
    by_cases z : ∃ k, k ≤ n ∧ p k
    · obtain ⟨k, hk, q⟩ := z
      obtain ⟨m, h1, h2, h3⟩ := first k q
      exact ⟨m, by omega, h2, h3⟩
    · exact ⟨n + 1, Nat.le_refl _, h, fun k hk q => z ⟨k, by omega, q⟩⟩
def Rise (xs : Array Nat) : Prop := xs.toList.Pairwise (· < ·)
theorem rise_get {xs : Array Nat} (r : Rise xs) {a b : Nat} (h : a < b) (hb : b < xs.size) : xs[a]'(by omega) < xs[b] := by
  have := (List.pairwise_iff_getElem.mp r) a b (by simp; omega) (by simpa using hb) h
  simpa using this
theorem below_go {xs : Array Nat} (r : Rise xs) (j : Nat) : ∀ fuel lo hi, lo ≤ hi → hi ≤ xs.size → hi - lo ≤ fuel → (∀ a, (ha : a < lo) → (hs : a < xs.size) → xs[a] < j) → (∀ a, hi ≤ a → (hs : a < xs.size) → j ≤ xs[a]) →
    below.go xs j fuel lo hi ≤ xs.size ∧ (∀ a, (ha : a < below.go xs j fuel lo hi) → (hs : a < xs.size) → xs[a] < j) ∧ ∀ a, below.go xs j fuel lo hi ≤ a → (hs : a < xs.size) → j ≤ xs[a]
  | 0, lo, hi, h1, h2, h3, h4, h5 => by
    have : lo = hi := by omega
    subst this
    unfold below.go
    exact ⟨h2, h4, h5⟩
  | fuel + 1, lo, hi, h1, h2, h3, h4, h5 => by
    unfold below.go
    by_cases z : lo < hi
    · rw [if_pos z]
      have hm : (lo + hi) / 2 < xs.size := by omega
      have e : xs.getD ((lo + hi) / 2) j = xs[(lo + hi) / 2] := by simp [Array.getD, hm]
      simp only [e]
      split
      · rename_i y
        refine below_go r j fuel _ _ (by omega) h2 (by omega) (fun a ha hs => ?_) h5
        rcases Nat.lt_or_ge a ((lo + hi) / 2) with q | q
        · exact Nat.lt_trans (rise_get r q hm) y
        · obtain rfl : a = (lo + hi) / 2 := by omega
          exact y
      · rename_i y
        refine below_go r j fuel _ _ (by omega) (by omega) (by omega) h4 (fun a ha hs => ?_)
        rcases Nat.lt_or_ge ((lo + hi) / 2) a with q | q
        · exact Nat.le_trans (Nat.le_of_not_lt y) (Nat.le_of_lt (rise_get r q hs))
        · obtain rfl : a = (lo + hi) / 2 := by omega
          exact Nat.le_of_not_lt y
    · rw [if_neg z]
      have : lo = hi := by omega
      subst this
      exact ⟨h2, h4, h5⟩
theorem below_spec {xs : Array Nat} (r : Rise xs) (j : Nat) : below xs j ≤ xs.size ∧ (∀ a, (ha : a < below xs j) → (hs : a < xs.size) → xs[a] < j) ∧ ∀ a, below xs j ≤ a → (hs : a < xs.size) → j ≤ xs[a] :=
  below_go r j xs.size 0 xs.size (Nat.zero_le _) (Nat.le_refl _) (by omega) (fun a ha => absurd ha (Nat.not_lt_zero _)) fun a ha hs => by omega
theorem below_at {xs : Array Nat} (r : Rise xs) {i j : Nat} (h : xs[i]? = some j) : below xs j = i := by
  obtain ⟨h1, h2, h3⟩ := below_spec r j
  obtain ⟨hi, e⟩ := Array.getElem?_eq_some_iff.mp h
  rcases Nat.lt_trichotomy (below xs j) i with z | z | z
  · have a := h3 _ (Nat.le_refl _) (by omega)
    have b := rise_get r z hi
    omega
  · exact z
  · have := h2 i z hi
    omega
structure Tab (t : SetTable) : Prop where
  msk : Mk t.mask
  rise : Rise t.place
  le : ∀ j ∈ t.place.toList, j ≤ t.mask
  nod : t.dummies = #[]
theorem has_empty (j : Nat) : has #[] j = false := by
  unfold has
  simp
theorem slot_none {t : SetTable} (T : Tab t) {j : Nat} (h : j ∉ t.place.toList) : t.slot j = .empty := by
  unfold slot
  have z : (t.place[below t.place j]? == some j) = false := by
    cases e : t.place[below t.place j]? with
    | none => rfl
    | some k =>
      have hk : k ∈ t.place.toList := by
        rw [← Array.getElem?_toList] at e
        exact List.mem_of_getElem? e
      have : k ≠ j := fun q => h (q ▸ hk)
      simpa using this
  simp only [z, T.nod, has_empty, Bool.false_eq_true, if_false]
theorem slot_some {t : SetTable} (T : Tab t) {i j : Nat} (h : t.place[i]? = some j) : t.slot j = .live i := by
  unfold slot
  rw [below_at T.rise h]
  simp [h]
theorem mem_at {xs : Array Nat} {j : Nat} (h : j ∈ xs.toList) : ∃ i : Nat, xs[i]? = some j := by
  obtain ⟨i, hi, e⟩ := List.mem_iff_getElem.mp h
  exact ⟨i, by rw [← Array.getElem?_toList, List.getElem?_eq_getElem hi, e]⟩
theorem free_one {n : Nat} {l : List Nat} (h : l.length < n) : ∃ j, j < n ∧ j ∉ l := by
  refine Classical.byContradiction fun z => ?_
  have sub : ∀ j ∈ List.range n, j ∈ l := fun j hj => Classical.byContradiction fun y => z ⟨j, List.mem_range.mp hj, y⟩
  have key : ∀ (a b : List Nat), a.Nodup → (∀ x ∈ a, x ∈ b) → a.length ≤ b.length := by
    intro a
    induction a with
    | nil => intro b _ _; exact Nat.zero_le _
    | cons x a ih =>
      intro b nd hs
      rw [List.nodup_cons] at nd
      have hx := hs x List.mem_cons_self
      have := ih (b.erase x) nd.2 fun y hy => by
        refine (List.mem_erase_of_ne ?_).mpr (hs y (List.mem_cons_of_mem _ hy))
        rintro rfl
        exact nd.1 hy
      rw [List.length_erase_of_mem hx] at this
      have hp : 0 < b.length := List.length_pos_of_mem hx
      simp only [List.length_cons]
      omega
  have := key (List.range n) l List.nodup_range sub
  rw [List.length_range] at this
  omega
theorem meets {t : SetTable} (T : Tab t) (h : Int) (hf : t.place.size ≤ t.mask) : ∃ n, n < 10 * (t.mask + 14) ∧ (stand t h n).j ∉ t.place.toList ∧ ∀ m, m < n → (stand t h m).j ∈ t.place.toList := by
  obtain ⟨j, hj, hn⟩ := free_one (n := t.mask + 1) (l := t.place.toList) (by simp; omega)
  obtain ⟨n, h1, e⟩ := comes' t h T.msk hj
  obtain ⟨m, h2, h3, h4⟩ := first (p := fun n => (stand t h n).j ∉ t.place.toList) n (by rw [e]; exact hn)
  exact ⟨m, by omega, h3, fun k hk => Classical.byContradiction fun z => h4 k hk z⟩
end Sa
namespace Sa
open PySem PySem.SetTable
def Reach (mask : Nat) (P : List Nat) (h : Int) (j : Nat) : Prop := ∃ (t : SetTable) (n : Nat), t.mask = mask ∧ (stand t h n).j = j ∧ ∀ m, m < n → (stand t h m).j ∈ P
theorem Reach.more {mask : Nat} {P P' : List Nat} {h : Int} {j : Nat} (r : Reach mask P h j) (s : ∀ x ∈ P, x ∈ P') : Reach mask P' h j :=
  let ⟨t, n, e, a, b⟩ := r; ⟨t, n, e, a, fun m hm => s _ (b m hm)⟩
theorem Reach.at {t : SetTable} {P : List Nat} {h : Int} {j : Nat} (r : Reach t.mask P h j) : ∃ n, (stand t h n).j = j ∧ ∀ m, m < n → (stand t h m).j ∈ P := by
  obtain ⟨u, n, e, a, b⟩ := r
  exact ⟨n, by rw [stand_eq e.symm]; exact a, fun m hm => by rw [stand_eq e.symm]; exact b m hm⟩
abbrev Elem := Int × Value
structure Full (t : SetTable) (es : Array Elem) : Prop where
  tab : Tab t
  size : t.place.size = es.size
  reach : ∀ x ∈ t.place.toList.zip es.toList, Reach t.mask t.place.toList x.2.1 x.1
theorem zip_ins {α β : Type} : ∀ (p : Nat) (P : List α) (E : List β) (a : α) (b : β), P.length = E.length → p ≤ P.length → (P.take p ++ a :: P.drop p).zip (E.take p ++ b :: E.drop p) = (P.zip E).take p ++ (a, b) :: (P.zip E).drop p
  | 0, P, E, a, b, _, _ => by simp
  | p + 1, [], _, _, _, _, h => by simp at h
  | p + 1, x :: P, [], _, _, h, _ => by simp at h
  | p + 1, x :: P, y :: E, a, b, h, hp => by
    have := zip_ins p P E a b (by simpa using h) (by simpa using hp)
    simp only [List.take_succ_cons, List.drop_succ_cons, List.cons_append, List.zip_cons_cons]
    rw [this]
theorem ins_list {α : Type} (xs : Array α) (p : Nat) (x : α) : (insertAt xs p x).toList = xs.toList.take p ++ x :: xs.toList.drop p := by
  rw [SetTable.toList_insertAt]
theorem rise_ins {xs : Array Nat} (r : Rise xs) {j : Nat} (h : j ∉ xs.toList) : Rise (insertAt xs (below xs j) j) := by
  obtain ⟨h1, h2, h3⟩ := below_spec r j
  unfold Rise at r ⊢
  rw [ins_list]
  have e := (List.take_append_drop (below xs j) xs.toList).symm
  rw [e] at r
  rw [List.pairwise_append] at r ⊢
  obtain ⟨r1, r2, r3⟩ := r
  refine ⟨r1, ?_, ?_⟩
  · rw [List.pairwise_cons]
    refine ⟨fun b hb => ?_, r2⟩
    obtain ⟨k, hk, rfl⟩ := List.mem_iff_getElem.mp hb
    rw [List.length_drop] at hk
    have hk' : below xs j + k < xs.size := by simp at hk; omega
    rw [List.getElem_drop]
    have q := h3 (below xs j + k) (by omega) hk'
    have ne : xs[below xs j + k] ≠ j := fun z => h (by rw [← z]; simp)
    have : j < xs[below xs j + k] := by omega
    simpa using this
  · intro a ha b hb
    have aj : a < j := by
      obtain ⟨k, hk, rfl⟩ := List.mem_iff_getElem.mp ha
      rw [List.length_take] at hk
      rw [List.getElem_take]
      have q := h2 k (by omega) (by simp at hk; omega)
      simpa using q
    rcases List.mem_cons.mp hb with rfl | hb
    · exact aj
    · exact r3 a ha b hb
theorem mem_ins {α : Type} {l : List α} {p : Nat} {x y : α} : y ∈ l.take p ++ x :: l.drop p ↔ y = x ∨ y ∈ l := by
  have e := List.take_append_drop p l
  rw [List.mem_append, List.mem_cons]
  have m : y ∈ l ↔ y ∈ l.take p ∨ y ∈ l.drop p := by
    rw [← List.mem_append, e]
  rw [m]
  constructor
  · rintro (h | h | h)
    · exact .inr (.inl h)
    · exact .inl h
    · exact .inr (.inr h)
  · rintro (h | h | h)
    · exact .inr (.inl h)
    · exact .inl h
    · exact .inr (.inr h)
theorem put_tab {t : SetTable} (T : Tab t) (j : Nat) : (t.put j).2 = below t.place j ∧ (t.put j).1.mask = t.mask ∧ (t.put j).1.place = insertAt t.place (below t.place j) j ∧ (t.put j).1.dummies = #[] ∧ (t.put j).1.plain = t.plain ∧ (t.put j).1.led = t.led ∧ (t.put j).1.moves = t.moves := by
  unfold put
  refine ⟨rfl, rfl, rfl, ?_, rfl, rfl, rfl⟩
  show (if has t.dummies j = true then _ else t.dummies) = #[]
  rw [T.nod, has_empty]
  rfl
theorem ins_size {α : Type} (xs : Array α) {p : Nat} (x : α) (h : p ≤ xs.size) : (insertAt xs p x).size = xs.size + 1 := by
  rw [← Array.length_toList, ins_list, List.length_append, List.length_cons, List.length_take, List.length_drop]
  simp
  omega
theorem full_put {t : SetTable} {es : Array Elem} (F : Full t es) {e : Elem} {n : Nat} (hn : (stand t e.1 n).j ∉ t.place.toList) (hb : ∀ m, m < n → (stand t e.1 m).j ∈ t.place.toList) :
    Full (t.put (stand t e.1 n).j).1 (insertAt es (t.put (stand t e.1 n).j).2 e) := by
  obtain ⟨p1, p2, p3, p4, _⟩ := put_tab F.tab (stand t e.1 n).j
  obtain ⟨b1, _, _⟩ := below_spec F.tab.rise (stand t e.1 n).j
  have hl : (stand t e.1 n).j < t.mask + 1 := stand_lt t e.1 n
  have sz := F.size
  refine ⟨⟨by rw [p2]; exact F.tab.msk, by rw [p3]; exact rise_ins F.tab.rise hn, fun j hj => ?_, p4⟩, ?_, fun x hx => ?_⟩
  · rw [p3, ins_list, mem_ins] at hj
    rw [p2]
    rcases hj with rfl | hj
    · omega
    · exact F.tab.le j hj
  · rw [p1, p3, ins_size _ _ b1, ins_size _ _ (by omega), sz]
  · rw [p1, p3, ins_list, ins_list, zip_ins _ _ _ _ _ (by simp [sz]) (by simpa using b1), mem_ins] at hx
    have up : ∀ z ∈ t.place.toList, z ∈ (t.put (stand t e.1 n).j).1.place.toList := fun z hz => by rw [p3, ins_list, mem_ins]; exact .inr hz
    rw [p2]
    rcases hx with rfl | hx
    · exact ⟨t, n, rfl, rfl, fun m hm => up _ (hb m hm)⟩
    · exact (F.reach x hx).more up
abbrev tm (mask : Nat) : SetTable := { mask, place := #[], dummies := #[], finger := 0, led := true, moves := 0, plain := true }
def Taken (owner : Array (Option Nat)) (j : Nat) : Prop := (owner.getD j (some 0)).isSome = true
instance (owner : Array (Option Nat)) (j : Nat) : Decidable (Taken owner j) := inferInstanceAs (Decidable (_ = true))
theorem free_spec {mask : Nat} {owner : Array (Option Nat)} (h : Int) : ∀ fuel r, (∀ m, m < begins mask h r → Taken owner (stand (tm mask) h m).j) → (∃ r', r ≤ r' ∧ r' < r + fuel ∧ ¬ Taken owner (runs mask h r').1) →
    ∃ j n, layClean.free mask owner fuel (runs mask h r).1 (runs mask h r).2 = some j ∧ ¬ Taken owner j ∧ (stand (tm mask) h n).j = j ∧ ∀ m, m < n → Taken owner (stand (tm mask) h m).j
  | 0, r, _, ⟨r', h1, h2, _⟩ => by omega
  | fuel + 1, r, hb, ⟨r', h1, h2, h3⟩ => by
    unfold layClean.free
    cases e : (List.range (runEnd mask (runs mask h r).1 + 1 - (runs mask h r).1)).find? fun k => (owner.getD ((runs mask h r).1 + k) (some 0)).isNone with
    | some k =>
      have hk := List.mem_range.mp (List.mem_of_find?_eq_some e)
      have hr := runEnd_le mask (runs mask h r).1
      have hq : (owner.getD ((runs mask h r).1 + k) (some 0)).isNone = true := List.find?_some (p := fun k => (owner.getD ((runs mask h r).1 + k) (some 0)).isNone) e
      have sk := stand_run (tm mask) h r k (by show k ≤ runEnd mask (runs mask h r).1 - (runs mask h r).1; omega)
      refine ⟨_, begins mask h r + k, rfl, ?_, by rw [sk], fun m hm => ?_⟩
      · unfold Taken
        intro z
        rw [Option.isNone_iff_eq_none] at hq
        rw [hq] at z
        cases z
      · rcases Nat.lt_or_ge m (begins mask h r) with y | y
        · exact hb m y
        · obtain ⟨d, rfl⟩ : ∃ d, m = begins mask h r + d := ⟨m - begins mask h r, by omega⟩
          have sd := stand_run (tm mask) h r d (by show d ≤ runEnd mask (runs mask h r).1 - (runs mask h r).1; omega)
          rw [sd]
          show Taken owner ((runs mask h r).1 + d)
          unfold Taken
          have hd : d < k := by omega
          obtain ⟨_, as, bs, e1, e2⟩ := List.find?_eq_some_iff_append.mp e
          have hidx : as.length = k := by
            have : (List.range (runEnd mask (runs mask h r).1 + 1 - (runs mask h r).1))[as.length]? = some k := by rw [e1]; simp
            rw [List.getElem?_range (by have := congrArg List.length e1; simp at this; omega)] at this
            exact Option.some.inj this
          have hmem : d ∈ as := by
            have : (List.range (runEnd mask (runs mask h r).1 + 1 - (runs mask h r).1))[d]? = some d := List.getElem?_range (by omega)
            rw [e1, List.getElem?_append_left (by omega)] at this
            exact List.mem_of_getElem? this
          have := e2 d hmem
          cases z : owner.getD ((runs mask h r).1 + d) (some 0) with
          | none => rw [z] at this; simp at this
          | some _ => rfl
    | none =>
      have all := List.find?_eq_none.mp e
      have hr := runEnd_le mask (runs mask h r).1
      have tk : ∀ d, d ≤ runEnd mask (runs mask h r).1 - (runs mask h r).1 → Taken owner ((runs mask h r).1 + d) := fun d hd => by
        have := all d (List.mem_range.mpr (by omega))
        unfold Taken
        cases z : owner.getD ((runs mask h r).1 + d) (some 0) with
        | none => rw [z] at this; simp at this
        | some _ => rfl
      have ne : r' ≠ r := fun z => h3 (by rw [z]; exact tk 0 (Nat.zero_le _))
      refine free_spec h fuel (r + 1) (fun m hm => ?_) ⟨r', by omega, by omega, h3⟩
      rcases Nat.lt_or_ge m (begins mask h r) with y | y
      · exact hb m y
      · have hm' : m < begins mask h r + (runEnd mask (runs mask h r).1 - (runs mask h r).1) + 1 := hm
        obtain ⟨d, rfl⟩ : ∃ d, m = begins mask h r + d := ⟨m - begins mask h r, by omega⟩
        have sd := stand_run (tm mask) h r d (by show d ≤ runEnd mask (runs mask h r).1 - (runs mask h r).1; omega)
        rw [sd]
        exact tk d (by omega)
structure Own (mask : Nat) (hs : List Int) (owner : Array (Option Nat)) : Prop where
  size : owner.size = mask + 1
  perm : ((List.range (mask + 1)).filterMap fun j => owner.getD j none).Perm (List.range hs.length)
  reach : ∀ j q h, owner[j]? = some (some q) → hs[q]? = some h → ∃ n, (stand (tm mask) h n).j = j ∧ ∀ m, m < n → Taken owner (stand (tm mask) h m).j
theorem fm_eq {α β : Type} {f g : α → Option β} : ∀ {l : List α}, (∀ a ∈ l, f a = g a) → l.filterMap f = l.filterMap g
  | [], _ => rfl
  | a :: l, h => by rw [List.filterMap_cons, List.filterMap_cons, h a List.mem_cons_self, fm_eq fun b hb => h b (List.mem_cons_of_mem _ hb)]
theorem filterMap_set {owner : Array (Option Nat)} {j k : Nat} (hj : owner.getD j (some 0) = none) : ∀ (l : List Nat), l.Nodup → j ∈ l → (∀ x ∈ l, x < owner.size) →
    (l.filterMap fun i => (owner.setIfInBounds j (some k)).getD i none).Perm ((l.filterMap fun i => owner.getD i none) ++ [k])
  | [], _, h, _ => by cases h
  | x :: l, nd, h, hs => by
    rw [List.nodup_cons] at nd
    have hx := hs x List.mem_cons_self
    by_cases z : x = j
    · subst z
      have e1 : (owner.setIfInBounds x (some k)).getD x none = some k := by simp [Array.getD, hx]
      have e2 : owner.getD x none = none := by
        simp only [Array.getD, hx, dite_true] at hj ⊢
        exact hj
      have e3 : (l.filterMap fun i => (owner.setIfInBounds x (some k)).getD i none) = l.filterMap fun i => owner.getD i none := by
        refine fm_eq fun i hi => ?_
        have ne : x ≠ i := fun q => nd.1 (q ▸ hi)
        have hi' := hs i (List.mem_cons_of_mem _ hi)
        simp [Array.getD, hi', Array.getElem_setIfInBounds, ne]
      rw [List.filterMap_cons_some (b := k) (by rw [e1]), List.filterMap_cons_none (by rw [e2]), e3]
      exact (List.perm_append_singleton k _).symm
    · have hjl : j ∈ l := by
        rcases List.mem_cons.mp h with q | q
        · exact absurd q.symm z
        · exact q
      have ih := filterMap_set (k := k) hj l nd.2 hjl fun y hy => hs y (List.mem_cons_of_mem _ hy)
      have e1 : (owner.setIfInBounds j (some k)).getD x none = owner.getD x none := by
        have ne : j ≠ x := fun q => z q.symm
        simp [Array.getD, hx, Array.getElem_setIfInBounds, ne]
      cases e : owner.getD x none with
      | none => rw [List.filterMap_cons_none (by rw [e1, e]), List.filterMap_cons_none (by rw [e])]; exact ih
      | some v => rw [List.filterMap_cons_some (b := v) (by rw [e1, e]), List.filterMap_cons_some (b := v) (by rw [e])]; exact ih.cons v
end Sa
namespace Sa
open PySem PySem.SetTable
theorem taken_set {owner : Array (Option Nat)} {j k x : Nat} (h : Taken owner x) : Taken (owner.setIfInBounds j (some k)) x := by
  unfold Taken at h ⊢
  rw [Array.getD_eq_getD_getElem?] at h ⊢
  by_cases e : j = x
  · subst e
    by_cases hx : j < owner.size
    · rw [Array.getElem?_setIfInBounds_self_of_lt hx]; rfl
    · rw [Array.getElem?_eq_none (by simpa using hx)]; rfl
  · rw [Array.getElem?_setIfInBounds_ne e]; exact h
theorem fm_len {owner : Array (Option Nat)} : ∀ (l : List Nat), (∀ x ∈ l, Taken owner x ∧ x < owner.size) → (l.filterMap fun j => owner.getD j none).length = l.length
  | [], _ => rfl
  | x :: l, h => by
    obtain ⟨h1, h2⟩ := h x List.mem_cons_self
    unfold Taken at h1
    simp only [Array.getD, h2, dite_true] at h1
    obtain ⟨v, e⟩ := Option.isSome_iff_exists.mp h1
    rw [List.filterMap_cons_some (b := v) (by simp [Array.getD, h2]; exact e), List.length_cons, List.length_cons, fm_len l fun y hy => h y (List.mem_cons_of_mem _ hy)]
theorem own_step {mask : Nat} {hs : List Int} {owner : Array (Option Nat)} (M : Mk mask) (O : Own mask hs owner) (h : Int) (hl : hs.length ≤ mask) :
    ∃ j, layClean.free mask owner (turns mask) (bits h % (mask + 1)) (bits h) = some j ∧ Own mask (hs ++ [h]) (owner.setIfInBounds j (some hs.length)) := by
  have sz := O.size
  obtain ⟨e, he, hn⟩ : ∃ e, e < mask + 1 ∧ ¬ Taken owner e := by
    refine Classical.byContradiction fun z => ?_
    have all : ∀ x ∈ List.range (mask + 1), Taken owner x ∧ x < owner.size := fun x hx => by
      have hx := List.mem_range.mp hx
      exact ⟨Classical.byContradiction fun y => z ⟨x, hx, y⟩, by omega⟩
    have h1 := fm_len _ all
    have h2 := O.perm.length_eq
    rw [h1, List.length_range, List.length_range] at h2
    omega
  obtain ⟨r, hr, er⟩ := comes (tm mask) h M he
  obtain ⟨j, n, f1, f2, f3, f4⟩ := free_spec (mask := mask) (owner := owner) h (turns mask) 0 (fun m hm => absurd hm (Nat.not_lt_zero _)) ⟨r, Nat.zero_le _, by
    have : r < mask + 14 := hr
    unfold turns
    omega, by
    have er : (runs mask h r).1 = e := er
    rw [er]; exact hn⟩
  have hj : owner.getD j (some 0) = none := by
    unfold Taken at f2
    cases z : owner.getD j (some 0) with
    | none => rfl
    | some v => rw [z] at f2; exact absurd rfl f2
  have hjs : j < owner.size := by
    refine Classical.byContradiction fun z => ?_
    simp [Array.getD, z] at hj
  refine ⟨j, f1, by rw [Array.size_setIfInBounds]; exact sz, ?_, fun j' q h' e1 e2 => ?_⟩
  · have p := filterMap_set (k := hs.length) hj (List.range (mask + 1)) List.nodup_range (List.mem_range.mpr (by omega)) fun x hx => by have := List.mem_range.mp hx; omega
    refine p.trans ?_
    rw [List.length_append, List.length_singleton]
    have er : List.range (hs.length + 1) = List.range hs.length ++ [hs.length] := List.range_succ
    rw [er]
    exact O.perm.append_right _
  · by_cases z : j = j'
    · subst z
      rw [Array.getElem?_setIfInBounds_self_of_lt hjs] at e1
      have : hs.length = q := by
        injection e1 with e1
        injection e1
      subst this
      rw [List.getElem?_append_right (Nat.le_refl _)] at e2
      simp at e2
      subst e2
      exact ⟨n, f3, fun m hm => taken_set (f4 m hm)⟩
    · rw [Array.getElem?_setIfInBounds_ne z] at e1
      have hq : q < hs.length := by
        have hj' : j' < owner.size := by
          obtain ⟨w, _⟩ := Array.getElem?_eq_some_iff.mp e1
          exact w
        have : q ∈ (List.range (mask + 1)).filterMap fun j => owner.getD j none := by
          rw [List.mem_filterMap]
          refine ⟨j', List.mem_range.mpr (by omega), ?_⟩
          have := (Array.getElem?_eq_some_iff.mp e1).2
          simp [Array.getD, hj', this]
        exact List.mem_range.mp (O.perm.mem_iff.mp this)
      rw [List.getElem?_append_left hq] at e2
      obtain ⟨m, g1, g2⟩ := O.reach j' q h' e1 e2
      exact ⟨m, g1, fun k hk => taken_set (g2 k hk)⟩
theorem own_zero (mask : Nat) : Own mask [] (Array.replicate (mask + 1) none) := by
  refine ⟨by simp, ?_, fun j q h e => ?_⟩
  · have : ((List.range (mask + 1)).filterMap fun j => (Array.replicate (mask + 1) (none : Option Nat)).getD j none) = [] := by
      rw [List.filterMap_eq_nil_iff]
      intro a _
      simp only [Array.getD]
      split <;> simp
    rw [this]
    exact List.Perm.refl _
  · rw [Array.getElem?_eq_some_iff] at e
    obtain ⟨_, e⟩ := e
    simp at e
theorem clean_go {mask : Nat} (M : Mk mask) : ∀ (rest done : List Int) (owner : Array (Option Nat)), Own mask done owner → (done ++ rest).length ≤ mask →
    ∃ owner', (rest.foldl (fun (acc : Option (Array (Option Nat) × Nat)) h => do
      let (owner, k) ← acc
      let j ← layClean.free mask owner (turns mask) (bits h % (mask + 1)) (bits h)
      pure (owner.setIfInBounds j (some k), k + 1)) (some (owner, done.length))) = some (owner', (done ++ rest).length) ∧ Own mask (done ++ rest) owner'
  | [], done, owner, O, _ => ⟨owner, by simp, by rw [List.append_nil]; exact O⟩
  | h :: rest, done, owner, O, hl => by
    simp only [List.length_append, List.length_cons] at hl
    obtain ⟨j, e, O'⟩ := own_step M O h (by omega)
    obtain ⟨owner', e', O''⟩ := clean_go M rest (done ++ [h]) _ O' (by simp; omega)
    refine ⟨owner', ?_, by rw [List.append_assoc] at O''; exact O''⟩
    rw [List.foldl_cons]
    have : (do
      let (owner, k) ← some (owner, done.length)
      let j ← layClean.free mask owner (turns mask) (bits h % (mask + 1)) (bits h)
      pure (owner.setIfInBounds j (some k), k + 1)) = some (owner.setIfInBounds j (some done.length), done.length + 1) := by
      simp [e]
    rw [this]
    rw [List.length_append, List.length_singleton] at e'
    rw [e']
    simp
theorem clean_ok {mask : Nat} (M : Mk mask) (hs : List Int) (hl : hs.length ≤ mask) : ∃ owner, layClean mask hs.toArray = some owner ∧ Own mask hs owner := by
  obtain ⟨owner, e, O⟩ := clean_go M hs [] _ (own_zero mask) (by simpa using hl)
  refine ⟨owner, ?_, by simpa using O⟩
  unfold layClean
  rw [← Array.foldl_toList]
  have e : List.foldl _ (some (Array.replicate (mask + 1) none, 0)) hs = _ := e
  rw [e]
  rfl
def lives (mask : Nat) (owner : Array (Option Nat)) : List (Nat × Nat) := (List.range (mask + 1)).filterMap fun j => (owner.getD j none).map (j, ·)
theorem mem_lives {mask : Nat} {owner : Array (Option Nat)} {x : Nat × Nat} (sz : owner.size = mask + 1) : x ∈ lives mask owner ↔ owner[x.1]? = some (some x.2) := by
  unfold lives
  rw [List.mem_filterMap]
  constructor
  · rintro ⟨j, hj, e⟩
    have hj' : j < owner.size := by have := List.mem_range.mp hj; omega
    obtain ⟨v, e1, e2⟩ := Option.map_eq_some_iff.mp e
    subst e2
    rw [Array.getElem?_eq_getElem hj']
    simp only [Array.getD, hj', dite_true] at e1
    rw [← e1]
    rfl
  · intro e
    obtain ⟨h1, h2⟩ := Array.getElem?_eq_some_iff.mp e
    refine ⟨x.1, List.mem_range.mpr (by omega), ?_⟩
    have : owner.getD x.1 none = some x.2 := by simp [Array.getD, h1, h2]
    rw [this]
    rfl
theorem lives_snd (mask : Nat) (owner : Array (Option Nat)) : (lives mask owner).map (·.2) = (List.range (mask + 1)).filterMap fun j => owner.getD j none := by
  unfold lives
  rw [List.map_filterMap]
  refine fm_eq fun j _ => ?_
  cases owner.getD j none <;> rfl
theorem fm_rise {f : Nat → Option (Nat × Nat)} (hf : ∀ j x, f j = some x → x.1 = j) : ∀ (l : List Nat), l.Pairwise (· < ·) → ((l.filterMap f).map (·.1)).Pairwise (· < ·)
  | [], _ => List.Pairwise.nil
  | a :: l, h => by
    rw [List.pairwise_cons] at h
    have ih := fm_rise hf l h.2
    cases e : f a with
    | none => rw [List.filterMap_cons_none e]; exact ih
    | some x =>
      rw [List.filterMap_cons_some e, List.map_cons, List.pairwise_cons]
      refine ⟨fun b hb => ?_, ih⟩
      obtain ⟨y, hy, rfl⟩ := List.mem_map.mp hb
      obtain ⟨c, hc, ec⟩ := List.mem_filterMap.mp hy
      rw [hf a x e, hf c y ec]
      exact h.1 c hc
theorem lives_rise (mask : Nat) (owner : Array (Option Nat)) : ((lives mask owner).map (·.1)).Pairwise (· < ·) := by
  unfold lives
  refine fm_rise (fun j x e => ?_) _ List.pairwise_lt_range
  obtain ⟨v, _, e2⟩ := Option.map_eq_some_iff.mp e
  rw [← e2]
theorem zip_fm {α : Type} {g : Nat → Option α} : ∀ (l : List (Nat × Nat)), (∀ x ∈ l, ∃ a, g x.2 = some a) → (l.map (·.1)).zip ((l.map (·.2)).filterMap g) = l.filterMap (fun x => (g x.2).map (x.1, ·)) ∧ ((l.map (·.2)).filterMap g).length = l.length
  | [], _ => ⟨rfl, rfl⟩
  | x :: l, h => by
    obtain ⟨a, ha⟩ := h x List.mem_cons_self
    obtain ⟨i1, i2⟩ := zip_fm l fun y hy => h y (List.mem_cons_of_mem _ hy)
    rw [List.map_cons, List.map_cons, List.filterMap_cons_some ha, List.filterMap_cons_some (b := (x.1, a)) (by rw [ha]; rfl), List.zip_cons_cons, i1]
    exact ⟨rfl, by rw [List.length_cons, List.length_cons, i2]⟩
theorem laid_ok {mask finger moves : Nat} {led plain : Bool} (M : Mk mask) (es : Array Elem) (hl : es.size ≤ mask) :
    ∃ t order, laid mask finger moves led plain (es.map (·.1)) = some (t, order) ∧ t.mask = mask ∧ t.plain = plain ∧ t.led = led ∧ (order.filterMap (es[·]?)).size = es.size ∧ (order.filterMap (es[·]?)).toList.Perm es.toList ∧ Full t (order.filterMap (es[·]?)) := by
  obtain ⟨owner, e, O⟩ := clean_ok M (es.toList.map (·.1)) (by rw [List.length_map, Array.length_toList]; exact hl)
  have eh : (es.toList.map (·.1)).toArray = es.map (·.1) := by
    apply Array.toList_inj.mp
    rw [Array.toList_map]
  rw [eh] at e
  have ho : ((lives mask owner).map (·.2)).Perm (List.range es.size) := by
    rw [lives_snd]
    have := O.perm
    simpa using this
  refine ⟨{ mask, place := ((lives mask owner).map (·.1)).toArray, dummies := #[], finger, led, moves, plain }, ((lives mask owner).map (·.2)).toArray, ?_, rfl, rfl, rfl, ?_⟩
  · unfold laid
    rw [e]
    rfl
  have perm : (((lives mask owner).map (·.2)).toArray.filterMap (es[·]?)).toList.Perm es.toList := by
    rw [Array.toList_filterMap]
    exact (ho.filterMap _).trans (by rw [filterMap_getElem?_range])
  have some_ : ∀ x ∈ lives mask owner, ∃ a, es[x.2]? = some a := fun x hx => by
    have : x.2 ∈ (lives mask owner).map (·.2) := List.mem_map.mpr ⟨x, hx, rfl⟩
    have := List.mem_range.mp (ho.mem_iff.mp this)
    exact ⟨es[x.2], Array.getElem?_eq_getElem this⟩
  obtain ⟨z1, z2⟩ := zip_fm (g := fun i => es[i]?) (lives mask owner) some_
  refine ⟨?_, perm, ⟨M, lives_rise mask owner, fun j hj => ?_, rfl⟩, ?_, fun x hx => ?_⟩
  · rw [← Array.length_toList, perm.length_eq, Array.length_toList]
  · have hj : j ∈ (lives mask owner).map (·.1) := hj
    obtain ⟨x, hx, rfl⟩ := List.mem_map.mp hj
    rw [mem_lives O.size] at hx
    obtain ⟨w, _⟩ := Array.getElem?_eq_some_iff.mp hx
    have := O.size
    show x.1 ≤ mask
    omega
  · show ((lives mask owner).map (·.1)).toArray.size = _
    rw [List.size_toArray, List.length_map, ← Array.length_toList, Array.toList_filterMap]
    exact z2.symm
  · rw [Array.toList_filterMap] at hx
    have hx : x ∈ ((lives mask owner).map (·.1)).zip (((lives mask owner).map (·.2)).filterMap fun i => es[i]?) := hx
    rw [z1, List.mem_filterMap] at hx
    obtain ⟨y, hy, e1⟩ := hx
    obtain ⟨a, e2, e3⟩ := Option.map_eq_some_iff.mp e1
    subst e3
    have hq : (es.toList.map (·.1))[y.2]? = some a.1 := by
      rw [List.getElem?_map, Array.getElem?_toList, e2]
      rfl
    obtain ⟨n, g1, g2⟩ := O.reach y.1 y.2 a.1 ((mem_lives O.size).mp hy) hq
    refine ⟨tm mask, n, rfl, g1, fun m hm => ?_⟩
    show (stand (tm mask) a.1 m).j ∈ (lives mask owner).map (·.1)
    have tk := g2 m hm
    have lt : (stand (tm mask) a.1 m).j < mask + 1 := stand_lt (tm mask) a.1 m
    have lt' : (stand (tm mask) a.1 m).j < owner.size := by rw [O.size]; exact lt
    unfold Taken at tk
    simp only [Array.getD, lt', dite_true] at tk
    obtain ⟨v, ev⟩ := Option.isSome_iff_exists.mp tk
    refine List.mem_map.mpr ⟨((stand (tm mask) a.1 m).j, v), (mem_lives O.size).mpr ?_, rfl⟩
    rw [Array.getElem?_eq_getElem lt']
    exact congrArg some ev
end Sa
namespace L2
open PySem PySem.Spec PyProof.Rows PySem.SetTable
theorem search_eq (a : Addr) (x : Value) (h : Int) (adding : Bool) (fuel : Nat) (st : Option Probe) : setSearchFrom a x h adding (fuel + 1) st = (do
    let (es, _, t) ← setState a
    if t.gaveWay then unsupported "set:on-a-table-that-gave-way"
    let some met := t.probe (fun i => (es[i]?.map (·.1)).getD 0) h (st.getD (t.probeStart h)) | unsupported "internal:set-table-without-an-empty-slot"
    match met with
    | .empty j dummy =>
      match dummy with
      | none => return .free j false
      | some d =>
        if adding && t.slot d != .dummy then rule "set.search.the-dummy-was-taken"; return ← setSearchFrom a x h adding fuel none
        return .free d true
    | .candidate j i next =>
      if !t.led then
        if ← searchCouldBeSeen x ((es.filter (·.1 == h)).toList.map (·.2)) then unsupported "set:the-search-would-show-the-table"
      let some (_, y) := es[i]? | unsupported "internal:set-entry"
      let equal ← holding [y] (eqBool y x)
      let (es', _, t') ← setState a
      if adding && equal then return .there none
      let some same := t'.sameMemory t.moves t.mask | unsupported "set.changed-during-lookup:is-the-new-block-at-the-old-address"
      let still ← match (if same then t'.slot j else .empty) with
        | .live i' => match es'[i']? with
          | some (_, y') => do pure (if ← isSame y' y then some i' else none)
          | none => pure none
        | _ => pure none
      match still with
      | none => rule "set.search.anew"; setSearchFrom a x h adding fuel none
      | some i' => if equal then return .there (some i') else setSearchFrom a x h adding fuel (some next)) := rfl
section
variable {t : SetTable} {H : Nat → Int} {h : Int} {N : Nat}
theorem go_spec (T : Sa.Tab t) (hN : (Sa.stand t h N).j ∉ t.place.toList) (hb : ∀ m, m < N → (Sa.stand t h m).j ∈ t.place.toList) : ∀ fuel m, m ≤ N → N - m < fuel →
    ∃ m', m ≤ m' ∧ m' ≤ N ∧ ((m' = N ∧ probe.go t H h fuel (Sa.stand t h m) = some (.empty (Sa.stand t h N).j none)) ∨
      (m' < N ∧ ∃ i, t.place[i]? = some (Sa.stand t h m').j ∧ H i = h ∧ probe.go t H h fuel (Sa.stand t h m) = some (.candidate (Sa.stand t h m').j i (Sa.stand t h (m' + 1))))) ∧
      ∀ q, m ≤ q → q < m' → ∀ i, t.place[i]? = some (Sa.stand t h q).j → H i ≠ h
  | 0, m, _, h2 => by omega
  | fuel + 1, m, h1, h2 => by
    rcases Nat.lt_or_ge m N with z | z
    · obtain ⟨i, hi⟩ := Sa.mem_at (hb m z)
      have sl := Sa.slot_some T hi
      have uniq : ∀ i', t.place[i']? = some (Sa.stand t h m).j → i' = i := fun i' hi' => by
        have := Sa.slot_some T hi'
        rw [sl] at this
        cases this
        rfl
      by_cases e : H i = h
      · refine ⟨m, Nat.le_refl _, h1, .inr ⟨z, i, hi, e, ?_⟩, fun q a b => by omega⟩
        unfold probe.go
        rw [sl]
        simp only [e, beq_self_eq_true, if_true]
        rfl
      · obtain ⟨m', a1, a2, a3, a4⟩ := go_spec T hN hb fuel (m + 1) z (by omega)
        have eg : probe.go t H h (fuel + 1) (Sa.stand t h m) = probe.go t H h fuel (Sa.stand t h (m + 1)) := by
          rw [probe.go, sl]
          have : (H i == h) = false := by simpa using e
          simp only [this, Bool.false_eq_true, if_false]
          rfl
        refine ⟨m', by omega, a2, ?_, fun q b1 b2 i' hi' => ?_⟩
        · rw [eg]; exact a3
        · rcases Nat.lt_or_ge m q with y | y
          · exact a4 q (by omega) b2 i' hi'
          · obtain rfl : q = m := by omega
            rw [uniq i' hi']
            exact e
    · obtain rfl : m = N := by omega
      refine ⟨m, Nat.le_refl _, Nat.le_refl _, .inl ⟨rfl, ?_⟩, fun q a b => by omega⟩
      unfold probe.go
      rw [Sa.slot_none T hN, Sa.stand_dummy]
end
structure EKind (prog : Program) (w : World) (K : Type) [DecidableEq K] where
  knd : HeapKind prog w K
  byVal : ∀ {A : Around} {E : Value → Shared → Prop} {s : Shared} {k : K} {a : Addr} {Q : Bool → Shared → Prop}, knd.is s.heap k a → Q true s → wpAny (model prog w) A (hashByValue 8 (.ref a)) Q E s
  noCls : ∀ {A : Around} {E : Value → Shared → Prop} {s : Shared} {k : K} {a : Addr} {Q : Bool → Shared → Prop}, knd.is s.heap k a → Q false s → wpAny (model prog w) A (ofAClassStatement 8 (.ref a)) Q E s
  keep : ∀ {h h' : Heap} {k : K} {a : Addr}, knd.is h k a → (∀ b o, o.cls = .type "tuple" → h.get? b = some o → h'.get? b = some o) → knd.is h' k a
section
variable {prog : Program} {w : World} {K : Type} [DecidableEq K] {A : Around} {E : Value → Shared → Prop} {s : Shared} {X : EKind prog w K}
def El (X : EKind prog w K) (h : Heap) (e : Sa.Elem) (k : K) : Prop := ∃ b, e.2 = .ref b ∧ X.knd.is h k b ∧ e.1 = X.knd.hash k
structure SetAt (X : EKind prog w K) (h : Heap) (a : Addr) (o : Obj) (es : Array Sa.Elem) (ep : Nat) (t : SetTable) (ks : List K) : Prop where
  ob : h.get? a = some o
  ex : o.ExactSet
  dt : o.data = .set es ep t
  full : Sa.Full t es
  few : t.place.size * 5 < t.mask * 3
  pl : t.plain = true
  el : Paired (El X h) es.toList ks
  nd : ks.Nodup
theorem SetAt.fits {a : Addr} {o : Obj} {es : Array Sa.Elem} {ep : Nat} {t : SetTable} {ks : List K} (S : SetAt X s.heap a o es ep t ks) : t.fits es.size = true := by
  unfold SetTable.fits SetTable.fill
  rw [S.full.tab.nod, S.full.size]
  have := S.few
  rw [S.full.size] at this
  simp
  omega
theorem odd {m : Nat} (h : Sa.Mk m) : (m % 2 == 0) = false := by rcases h with rfl | rfl | rfl <;> rfl
theorem quiet_seen {x : Addr} {k : K} (hx : X.knd.is s.heap k x) : ∀ (l : List Value) {Q : Bool → Shared → Prop}, (∀ v ∈ l, ∃ b k', v = .ref b ∧ X.knd.is s.heap k' b) → Q false s → wpAny (model prog w) A (searchCouldBeSeen (.ref x) l) Q E s := by
  intro l Q hl h
  unfold searchCouldBeSeen
  refine wpAny_bind (wpAny_forIn_list _ (fun rest r s' => r.1 = none ∧ s' = s ∧ ∀ v ∈ rest, ∃ b k', v = .ref b ∧ X.knd.is s.heap k' b) _ ?turn ?fin _ _ ⟨rfl, rfl, hl⟩)
  case turn =>
    rintro v rest ⟨r1, r2⟩ s' ⟨hr, e, hall⟩
    simp only at hr
    subst e hr
    obtain ⟨b, k', rfl, hb⟩ := hall v List.mem_cons_self
    have hall' : ∀ u ∈ rest, ∃ b k', u = .ref b ∧ X.knd.is s'.heap k' b := fun u hu => hall u (List.mem_cons_of_mem _ hu)
    dsimp only
    by_cases z : ((x == b) || (carriedByValue (.ref x) && carriedByValue (.ref b))) = true
    · rw [if_pos z]
      exact wpAny_pure ⟨rfl, rfl, hall'⟩
    · rw [if_neg z]
      refine wpAny_bind (X.knd.quiet hx ?_)
      simp only [Bool.not_true, Bool.false_eq_true, if_false]
      refine wpAny_bind (X.knd.quiet hb ?_)
      simp only [Bool.not_true, Bool.false_eq_true, if_false]
      refine wpAny_bind (X.noCls hx ?_)
      simp only [Bool.false_eq_true, if_false]
      refine wpAny_bind (X.noCls hb ?_)
      simp only [Bool.false_eq_true, if_false]
      exact wpAny_pure ⟨rfl, rfl, hall'⟩
  case fin =>
    rintro ⟨r1, r2⟩ s' ⟨hr, e, _⟩
    simp only at hr
    subst e hr
    exact wpAny_pure h
end
end L2
namespace L2
open PySem PySem.Spec PyProof.Rows PySem.SetTable
section
variable {prog : Program} {w : World} {K : Type} [DecidableEq K] {A : Around} {E : Value → Shared → Prop} {s : Shared} {X : EKind prog w K} {a : Addr} {o : Obj} {es : Array Sa.Elem} {ep : Nat} {t : SetTable} {ks : List K}
theorem el_at (S : SetAt X s.heap a o es ep t ks) {i j : Nat} (h : t.place[i]? = some j) : ∃ e k, es[i]? = some e ∧ ks[i]? = some k ∧ El X s.heap e k := by
  have hi : i < es.size := by
    have := (Array.getElem?_eq_some_iff.mp h).1
    rw [S.full.size] at this
    exact this
  obtain ⟨k, hk, el⟩ := pget (i := i) (a := es[i]) S.el (by simp [hi])
  exact ⟨es[i], k, Array.getElem?_eq_getElem hi, hk, el⟩
theorem met_of (S : SetAt X s.heap a o es ep t ks) {k : K} {N : Nat} (hk : k ∈ ks) (hN : (Sa.stand t (X.knd.hash k) N).j ∉ t.place.toList) : ∃ (n i : Nat), n < N ∧ t.place[i]? = some (Sa.stand t (X.knd.hash k) n).j ∧ ks[i]? = some k := by
  obtain ⟨i, hi, e⟩ := List.mem_iff_getElem.mp hk
  have hki : ks[i]? = some k := by rw [List.getElem?_eq_getElem hi, e]
  obtain ⟨el, hel, b, e1, e2, e3⟩ := pget' S.el hki
  have hes : es[i]? = some el := by rw [← Array.getElem?_toList]; exact hel
  have his : i < t.place.size := by
    rw [S.full.size]
    exact (Array.getElem?_eq_some_iff.mp hes).1
  have hp : t.place[i]? = some t.place[i] := Array.getElem?_eq_getElem his
  have hz : (t.place[i], el) ∈ t.place.toList.zip es.toList := by
    rw [List.mem_iff_getElem?]
    refine ⟨i, ?_⟩
    rw [List.getElem?_zip_eq_some]
    exact ⟨by simpa using hp, hel⟩
  obtain ⟨n, r1, r2⟩ := (S.full.reach _ hz).at
  have e3' : el.1 = X.knd.hash k := e3
  dsimp only at r1 r2
  rw [e3'] at r1 r2
  refine ⟨n, i, ?_, by rw [r1]; exact hp, hki⟩
  rcases Nat.lt_trichotomy n N with z | z | z
  · exact z
  · subst z
    rw [r1] at hN
    exact absurd (by simp) hN
  · exact absurd (r2 N z) hN
theorem search_from (S : SetAt X s.heap a o es ep t ks) {k : K} {b : Addr} {N : Nat} {Q : SetFound → Shared → Prop} (hr : X.knd.room A) (hb : X.knd.is s.heap k b) (hN : (Sa.stand t (X.knd.hash k) N).j ∉ t.place.toList) (hlt : ∀ m, m < N → (Sa.stand t (X.knd.hash k) m).j ∈ t.place.toList) (hfar : N < 10 * (t.mask + 14))
    (h1 : k ∈ ks → Q (.there none) s) (h2 : k ∉ ks → Q (.free (Sa.stand t (X.knd.hash k) N).j false) s) :
    ∀ d m fuel (st : Option Probe), N - m = d → m ≤ N → d < fuel → st.getD (t.probeStart (X.knd.hash k)) = Sa.stand t (X.knd.hash k) m → (∀ q, q < m → ∀ i : Nat, t.place[i]? = some (Sa.stand t (X.knd.hash k) q).j → ks[i]? ≠ some k) →
      wpAny (model prog w) A (setSearchFrom a (.ref b) (X.knd.hash k) true fuel st) Q E s := by
  intro d
  induction d using Nat.strongRecOn with
  | ind d ih =>
    intro m fuel st hd hm hf hst pre
    obtain ⟨fuel, rfl⟩ : ∃ f, fuel = f + 1 := ⟨fuel - 1, by omega⟩
    rw [search_eq]
    refine wpAny_bind (wpAny_setState_of S.ob S.dt S.fits ?_)
    dsimp only
    rw [if_neg (by unfold SetTable.gaveWay; rw [odd S.full.tab.msk]; exact Bool.false_ne_true)]
    obtain ⟨m', a1, a2, a3, a4⟩ := go_spec (H := fun i => (es[i]?.map (·.1)).getD 0) S.full.tab hN hlt (10 * turns t.mask) m hm (by unfold turns; omega)
    have hne : ∀ q, m ≤ q → q < m' → ∀ i : Nat, t.place[i]? = some (Sa.stand t (X.knd.hash k) q).j → ks[i]? ≠ some k := fun q b1 b2 i hi z => by
      obtain ⟨e, k', c1, c2, _, _, _, c3⟩ := el_at S hi
      have := a4 q b1 b2 i hi
      rw [c2] at z
      cases z
      simp [c1] at this
      exact this c3
    rw [hst]
    unfold probe
    rcases a3 with ⟨e0, eg⟩ | ⟨lt, i, hi, hh, eg⟩
    · rw [eg]
      subst e0
      refine wpAny_pure (h2 fun hk => ?_)
      obtain ⟨n, i, n1, n2, n3⟩ := met_of S hk hN
      rcases Nat.lt_or_ge n m with z | z
      · exact pre n z i n2 n3
      · exact hne n z n1 i n2 n3
    · rw [eg]
      obtain ⟨e, k', c1, c2, c, c3, c4, c5⟩ := el_at S hi
      obtain ⟨eh, ev⟩ := e
      dsimp only at c3 c5
      subst c3
      dsimp only
      have body : wpAny (model prog w) A (do
          let some (_, y) := es[i]? | unsupported "internal:set-entry"
          let equal ← holding [y] (eqBool y (.ref b))
          let (es', _, t') ← setState a
          if true && equal then return .there none
          let some same := t'.sameMemory t.moves t.mask | unsupported "set.changed-during-lookup:is-the-new-block-at-the-old-address"
          let still ← match (if same then t'.slot (Sa.stand t (X.knd.hash k) m').j else .empty) with
            | .live i' => match es'[i']? with
              | some (_, y') => do pure (if ← isSame y' y then some i' else none)
              | none => pure none
            | _ => pure none
          match still with
          | none => rule "set.search.anew"; setSearchFrom a (.ref b) (X.knd.hash k) true fuel none
          | some i' => if equal then return .there (some i') else setSearchFrom a (.ref b) (X.knd.hash k) true fuel (some (Sa.stand t (X.knd.hash k) (m' + 1)))) Q E s := by
        rw [c1]
        dsimp only
        refine wpAny_bind (wpAny_holding (X.knd.eqBool hr c4 hb (wpAny_bind (wpAny_setState_of S.ob S.dt S.fits ?_))))
        dsimp only
        by_cases z : k' = k
        · subst z
          rw [decide_eq_true rfl]
          exact wpAny_pure (h1 (List.mem_of_getElem? c2))
        · rw [decide_eq_false z]
          simp only [Bool.and_false, Bool.false_eq_true, if_false]
          have sm : t.sameMemory t.moves t.mask = some true := by unfold sameMemory; simp
          rw [sm]
          dsimp only
          rw [if_pos rfl, Sa.slot_some S.full.tab hi]
          dsimp only
          rw [c1]
          dsimp only
          refine wpAny_bind (wpAny_isSame_ref_self (wpAny_bind (wpAny_pure ?_)))
          rw [if_pos rfl]
          dsimp only
          refine ih (N - (m' + 1)) (by omega) (m' + 1) fuel _ rfl (by omega) (by omega) rfl fun q hq i' hi' => ?_
          rcases Nat.lt_or_ge q m with y | y
          · exact pre q y i' hi'
          · rcases Nat.lt_or_ge q m' with x | x
            · exact hne q y x i' hi'
            · obtain rfl : q = m' := by omega
              have e1 := Sa.slot_some S.full.tab hi
              have e2 := Sa.slot_some S.full.tab hi'
              rw [e1] at e2
              cases e2
              rw [c2]
              intro w'
              cases w'
              exact z rfl
      cases hled : t.led with
      | true =>
        simp only [hled, Bool.not_true, Bool.false_eq_true, if_false]
        exact body
      | false =>
        simp only [hled, Bool.not_false, if_true]
        refine wpAny_bind (quiet_seen hb _ (fun v hv => ?_) ?_)
        · obtain ⟨x, hx, rfl⟩ := List.mem_map.mp hv
          have hx' : x ∈ es.toList := by
            rw [Array.toList_filter] at hx
            exact (List.mem_filter.mp hx).1
          obtain ⟨k2, _, b2, e2, g2, _⟩ := pmem S.el x hx'
          exact ⟨b2, k2, e2, g2⟩
        · simp only [Bool.false_eq_true, if_false]
          exact body
theorem search_ok (S : SetAt X s.heap a o es ep t ks) {k : K} {b : Addr} {Q : SetFound → Shared → Prop} (hr : X.knd.room A) (hb : X.knd.is s.heap k b) (h1 : k ∈ ks → Q (.there none) s)
    (h2 : k ∉ ks → ∀ N, (Sa.stand t (X.knd.hash k) N).j ∉ t.place.toList → (∀ m, m < N → (Sa.stand t (X.knd.hash k) m).j ∈ t.place.toList) → Q (.free (Sa.stand t (X.knd.hash k) N).j false) s) : wpAny (model prog w) A (setSearch a (.ref b) (X.knd.hash k) true) Q E s := by
  obtain ⟨N, n1, n2, n3⟩ := Sa.meets S.full.tab (X.knd.hash k) (by have := S.few; omega)
  have hm : t.mask ≤ 127 := by rcases S.full.tab.msk with e | e | e <;> omega
  exact search_from S hr hb n2 n3 n1 h1 (fun z => h2 z N n2 n3) N 0 100000 none rfl (Nat.zero_le _) (by omega) rfl fun q hq => absurd hq (Nat.not_lt_zero _)
end
end L2
namespace L2
open PySem PySem.Spec PyProof.Rows PySem.SetTable
theorem addIn_eq (a : Addr) (x : Value) (h : Int) (fuel : Nat) : setAddHashedIn a x h (fuel + 1) = (do
    let (es₀, _, t₀) ← setState a
    if byScan x es₀ then
      match ← setAddByScan a x h es₀ t₀ with
      | some added => return added
      | none => return ← setAddHashedIn a x h fuel
    let .free slot wasDummy ← setSearch a x h (adding := true) | return false
    let (es, _, t) ← setState a
    let (t, p) := t.put slot
    let byValue ← if t.plain then hashByValue 8 x else pure true
    let t := if byValue then t else { t with plain := false }
    storeSet a (SetTable.insertAt es p (h, x)) t
    if !wasDummy && t.tooFull then setRelay a (SetTable.grown (es.size + 1))
    return true) := rfl
theorem relay_eq (a : Addr) (wanted : Nat) : setRelay a wanted = (do
    let (es, _, t) ← setState a
    if SetTable.sizeAbove wanted > sizeLine then unsupported "set:memory"
    let (es, t) ← (do
      let some (t, order) := t.relaid (es.map (·.1)) wanted | unsupported "internal:set-table-without-room"
      let es' := order.filterMap (es[·]?)
      if es'.size != es.size then unsupported "internal:set-table-lost-an-element"
      pure (es', t) : Sem (Array (Int × Value) × SetTable))
    storeSet a es t) := rfl
theorem perm_paired {α β : Type} {R : α → β → Prop} {l l' : List α} (p : l'.Perm l) : ∀ {m : List β}, Paired R l m → ∃ m', Paired R l' m' ∧ m'.Perm m := by
  induction p with
  | nil => intro m r; exact ⟨m, r, List.Perm.refl _⟩
  | cons x _ ih =>
    intro m r
    cases r with
    | cons h t =>
      obtain ⟨m', r', p'⟩ := ih t
      exact ⟨_, .cons h r', p'.cons _⟩
  | swap x y l =>
    intro m r
    cases r with
    | cons h1 t =>
      cases t with
      | cons h2 t => exact ⟨_, .cons h2 (.cons h1 t), List.Perm.swap _ _ _⟩
  | trans _ _ ih1 ih2 =>
    intro m r
    obtain ⟨m1, r1, p1⟩ := ih2 r
    obtain ⟨m2, r2, p2⟩ := ih1 r1
    exact ⟨m2, r2, p2.trans p1⟩
section
variable {prog : Program} {w : World} {K : Type} [DecidableEq K] {A : Around} {E : Value → Shared → Prop} {s : Shared} {X : EKind prog w K} {a : Addr} {o : Obj} {es : Array Sa.Elem} {ep : Nat} {t : SetTable} {ks : List K}
theorem el_keep {h h' : Heap} {e : Sa.Elem} {k : K} (x : El X h e k) (kp : ∀ b o, o.cls = .type "tuple" → h.get? b = some o → h'.get? b = some o) : El X h' e k :=
  let ⟨b, e1, e2, e3⟩ := x; ⟨b, e1, X.keep e2 kp, e3⟩
theorem set_store {h : Heap} (ho : h.get? a = some o) (hx : o.ExactSet) (hd : o.data = .set es ep t) (es' : Array Sa.Elem) (t' : SetTable) :
    (h.update a (Obj.putSet es' t')).get? a = some { o with data := .set es' (ep + 1) t' } ∧ (∀ b u, b ≠ a → h.get? b = some u → (h.update a (Obj.putSet es' t')).get? b = some u) ∧ ∀ b u, u.cls = .type "tuple" → h.get? b = some u → (h.update a (Obj.putSet es' t')).get? b = some u := by
  have ot : ∀ b u, b ≠ a → h.get? b = some u → (h.update a (Obj.putSet es' t')).get? b = some u := fun b u hb q => (Heap.get?_update_other _ _ (Ne.symm hb)).trans q
  refine ⟨?_, ot, fun b u hc q => ot b u ?_ q⟩
  · have z := Heap.get?_update_self (Obj.putSet es' t') ho (by rw [putSet_of es' t' hd]; rfl)
    rw [putSet_of es' t' hd] at z
    exact z
  · rintro rfl
    rw [ho] at q
    cases q
    rw [hx.1] at hc
    injection hc with hc
    exact absurd hc (by decide)
def Added (X : EKind prog w K) (a : Addr) (k : K) (ks : List K) (led : Bool) (h h' : Heap) : Prop :=
  (∀ b u, b ≠ a → h.get? b = some u → h'.get? b = some u) ∧ ∃ o es ep t ks', SetAt X h' a o es ep t ks' ∧ t.led = led ∧ (k ∈ ks → ks' = ks) ∧ (k ∉ ks → ks'.Perm (k :: ks))
theorem relay_ok {Q : Unit → Shared → Prop} {o : Obj} {es : Array Sa.Elem} {ep : Nat} {t : SetTable} {ks : List K} (ho : s.heap.get? a = some o) (hx : o.ExactSet) (hd : o.data = .set es ep t) (F : Sa.Full t es) (hle : t.place.size ≤ t.mask) (pl : t.plain = true)
    (el : Paired (El X s.heap) es.toList ks) (nd : ks.Nodup) {n M : Nat} (hM : Sa.Mk M) (hz : sizeAbove n = M + 1) (hs : es.size * 5 < M * 3)
    (h : ∀ h', (∀ b u, b ≠ a → s.heap.get? b = some u → h'.get? b = some u) → (∃ o es ep t' ks', SetAt X h' a o es ep t' ks' ∧ t'.led = t.led ∧ ks'.Perm ks) → Q () { s with heap := h' }) : wpAny (model prog w) A (setRelay a n) Q E s := by
  have hf : t.fits es.size = true := by
    unfold SetTable.fits SetTable.fill
    rw [F.tab.nod, F.size]
    rw [F.size] at hle
    simp
    exact hle
  rw [relay_eq]
  refine wpAny_bind (wpAny_setState_of ho hd hf ?_)
  dsimp only
  have hM' : M ≤ 127 := by rcases hM with e | e | e <;> omega
  rw [if_neg (by rw [hz, sizeLine_eq]; omega)]
  obtain ⟨t', order, e1, e2, e3, e4, e5, e6, e7⟩ := Sa.laid_ok (mask := M) (finger := t.finger) (moves := t.movedTo M) (led := t.led) (plain := t.plain) hM es (by omega)
  have er : t.relaid (es.map (·.1)) n = some (t', order) := by
    unfold relaid
    rw [hz]
    exact e1
  rw [er]
  dsimp only
  have ne : ((order.filterMap (es[·]?)).size != es.size) = false := by rw [e5]; simp
  rw [ne]
  simp only [Bool.false_eq_true, if_false]
  refine wpAny_bind (wpAny_pure (wpAny_storeSet_of ho hd ?_ (by rw [e5, sizeLine_eq]; omega)))
  obtain ⟨g1, g2, g3⟩ := set_store ho hx hd (order.filterMap (es[·]?)) t'
  obtain ⟨ks', q1, q2⟩ := perm_paired e6 el
  refine h _ g2 ⟨_, _, _, t', ks', ⟨g1, hx, rfl, e7, ?_, by rw [e3]; exact pl, pimp (fun _ _ z => el_keep z g3) q1, q2.nodup_iff.mpr nd⟩, e4, q2⟩
  rw [e7.size, e2, e5]
  exact hs
theorem add_ok (S : SetAt X s.heap a o es ep t ks) {k : K} {b : Addr} {Q : Bool → Shared → Prop} (hr : X.knd.room A) (hb : X.knd.is s.heap k b) (hl : ks.length < 70)
    (h : ∀ h' f, Added X a k ks t.led s.heap h' → Q f { s with heap := h' }) : wpAny (model prog w) A (setAddHashed a (.ref b) (X.knd.hash k)) Q E s := by
  unfold setAddHashed
  refine wpAny_holding ?_
  show wpAny _ _ (setAddHashedIn a (.ref b) (X.knd.hash k) (99999 + 1)) _ _ _
  rw [addIn_eq]
  refine wpAny_bind (wpAny_setState_of S.ob S.dt S.fits ?_)
  dsimp only
  have bs : byScan (.ref b) es = false := by unfold byScan Value.scannable; rfl
  rw [bs]
  simp only [Bool.false_eq_true, if_false]
  have len : es.size = ks.length := by rw [← Array.length_toList]; exact S.el.length
  refine wpAny_bind (search_ok S hr hb (fun hk => ?_) fun hk N n1 n2 => ?_)
  · exact wpAny_pure (h s.heap false ⟨fun _ _ _ q => q, o, es, ep, t, ks, S, rfl, fun _ => rfl, fun z => absurd hk z⟩)
  · dsimp only
    refine wpAny_bind (wpAny_setState_of S.ob S.dt S.fits ?_)
    dsimp only
    obtain ⟨p1, p2, p3, p4, p5, p6, p7⟩ := Sa.put_tab S.full.tab (Sa.stand t (X.knd.hash k) N).j
    have F' := Sa.full_put S.full (e := (X.knd.hash k, .ref b)) n1 n2
    dsimp only at F'
    obtain ⟨bl, _, _⟩ := Sa.below_spec S.full.tab.rise (Sa.stand t (X.knd.hash k) N).j
    have sz := F'.size
    have fs := S.full.size
    have sz1 : (insertAt es (t.put (Sa.stand t (X.knd.hash k) N).j).2 (X.knd.hash k, Value.ref b)).size = es.size + 1 := Sa.ins_size _ _ (by rw [p1]; omega)
    rw [p5, S.pl]
    simp only [if_true]
    refine wpAny_bind (X.byVal hb ?_)
    simp only [if_true]
    generalize (t.put (Sa.stand t (X.knd.hash k) N).j).1 = t' at *
    generalize (t.put (Sa.stand t (X.knd.hash k) N).j).2 = p at *
    refine wpAny_bind (wpAny_storeSet_of S.ob S.dt ?_ (by rw [sz1, sizeLine_eq]; omega))
    obtain ⟨g1, g2, g3⟩ := set_store S.ob S.ex S.dt (insertAt es p (X.knd.hash k, Value.ref b)) t'
    have el' : Paired (El X (s.heap.update a (Obj.putSet (insertAt es p (X.knd.hash k, Value.ref b)) t'))) (insertAt es p (X.knd.hash k, Value.ref b)).toList (ks.take p ++ k :: ks.drop p) := by
      rw [Sa.ins_list]
      have el0 := pimp (fun _ _ z => el_keep z g3) S.el
      exact papp (ptake p el0) (.cons ⟨b, rfl, X.keep hb g3, rfl⟩ (pdrop p el0))
    have pm : (ks.take p ++ k :: ks.drop p).Perm (k :: ks) := by
      refine List.perm_middle.trans ?_
      rw [List.take_append_drop]
    have nd' : (ks.take p ++ k :: ks.drop p).Nodup := pm.nodup_iff.mpr (List.nodup_cons.mpr ⟨hk, S.nd⟩)
    have few := S.few
    have few' : t'.place.size ≤ t'.mask := by rw [sz, sz1, p2]; omega
    have ps : t'.place.size = es.size + 1 := by rw [sz, sz1]
    by_cases full : t'.tooFull = true
    · rw [if_pos (by rw [full]; rfl)]
      have full : t'.fill * 5 ≥ t'.mask * 3 := by simpa [SetTable.tooFull] using full
      unfold SetTable.fill at full
      rw [p4, ps, p2] at full
      simp only [List.size_toArray, List.length_nil, Nat.add_zero, Array.size_empty] at full
      rw [fs] at few
      have key : ∃ M, Sa.Mk M ∧ sizeAbove (grown (es.size + 1)) = M + 1 ∧ (es.size + 1) * 5 < M * 3 := by
        rcases S.full.tab.msk with e | e | e
        · rw [e] at few full
          have : es.size = 4 := by omega
          rw [this]
          exact ⟨31, .inr (.inl rfl), by decide, by decide⟩
        · rw [e] at few full
          have : es.size = 18 := by omega
          rw [this]
          exact ⟨127, .inr (.inr rfl), by decide, by decide⟩
        · rw [e] at few full
          omega
      obtain ⟨M, m1, m2, m3⟩ := key
      refine wpAny_bind (relay_ok (s := { s with heap := s.heap.update a (Obj.putSet (insertAt es p (X.knd.hash k, Value.ref b)) t') }) g1 S.ex rfl F' few' (by rw [p5, S.pl]) el' nd' m1 m2 (by rw [sz1]; exact m3) fun h' k1 ⟨o2, es2, ep2, t2, ks2, S2, l2, pm2⟩ => ?_)
      exact wpAny_pure (h h' true ⟨fun b' u hb' q => k1 b' u hb' (g2 b' u hb' q), o2, es2, ep2, t2, ks2, S2, l2.trans p6, fun z => absurd z hk, fun _ => pm2.trans pm⟩)
    · have nf : t'.tooFull = false := by simpa using full
      rw [if_neg (by rw [nf]; simp)]
      refine wpAny_pure (h _ true ⟨g2, _, _, _, t', _, ⟨g1, S.ex, rfl, F', ?_, by rw [p5, S.pl], el', nd'⟩, p6, fun z => absurd z hk, fun _ => pm⟩)
      have nf : ¬ t'.fill * 5 ≥ t'.mask * 3 := by simpa [SetTable.tooFull] using nf
      unfold SetTable.fill at nf
      rw [p4] at nf
      simp only [List.size_toArray, List.length_nil, Nat.add_zero, Array.size_empty] at nf
      omega
end
end L2
namespace L2
open PySem PySem.Spec PyProof.Rows PySem.SetTable
section
variable {prog : Program} {w : World} {K : Type} [DecidableEq K] {A : Around} {E : Value → Shared → Prop} {X : EKind prog w K}
abbrev Keyd (X : EKind prog w K) (h : Heap) (v : Value) (k : K) : Prop := ∃ b, v = Value.ref b ∧ X.knd.is h k b
structure Fill (X : EKind prog w K) (h : Heap) (S : Addr) (keys : List K) (led : Bool) : Prop where
  ex : ∃ o es ep t ks, SetAt X h S o es ep t ks ∧ (∀ k, k ∈ ks ↔ k ∈ keys) ∧ t.led = led
theorem set_loop {led : Bool} {h0 : Heap} {S I l : Addr} {items : Array Value} {keys : List K} {R : Result → Shared → Prop} (hh : A.in1.handled = none) (hr : X.knd.room A.in1) (hI : I ≠ l) (hSI : S ≠ I) (hSl : S ≠ l) (p : Paired (Keyd X h0) items.toList keys) (hl : keys.length < 70) :
    ∀ (d i : Nat) (s : Shared), items.size - i = d → i ≤ items.size → (s.heap.IsListIter I l i ∧ s.heap.IsList l items) → (∀ b o, b ≠ S → b ≠ I → h0.get? b = some o → s.heap.get? b = some o) → (∀ b o, h0.get? b = some o → b ≠ S ∧ b ≠ I) →
      Fill X s.heap S (keys.take i) led →
      (∀ h' tk, (∀ b o, b ≠ S → b ≠ I → s.heap.get? b = some o → h'.get? b = some o) → Fill X h' S keys led → R (.ok (.ret .none)) { s with heap := h', toks := tk }) →
      codeAny (model prog w) A (.builtin "set.update.loop" ⟨[.ref S, .ref I], []⟩) R s := by
  have W := Walks.list (prog := prog) (w := w) hh I l (Ne.symm hI) items
  have kl : items.size = keys.length := by rw [← Array.length_toList]; exact p.length
  intro d
  induction d with
  | zero =>
    intro i s hd hi st kp nw F h
    obtain rfl : i = items.size := by omega
    refine codeAny_builtin PyProof.Rows.F.entry_set_update_loop ?_
    rw [Around.under_plainId PyProof.Rows.F.plain_set_update_loop _]
    show wpAny _ A.in1 (pyNext (.ref I) >>= _) _ _ s
    refine wpAny_bind (W.done s _ _ st fun h' tk k1 => ?_)
    show wpAny _ A.in1 (ret Value.none) _ _ _
    have up : ∀ b o, b ≠ I → s.heap.get? b = some o → h'.get? b = some o := fun b o hb e => k1 b o (by simpa using hb) e
    refine wpAny_pure (h h' tk (fun b o _ hb e => up b o hb e) ?_)
    obtain ⟨o, es, ep, t, ks, S1, m, ld⟩ := F
    rw [kl, List.take_length] at m
    refine ⟨o, es, ep, t, ks, ⟨up S o hSI S1.ob, S1.ex, S1.dt, S1.full, S1.few, S1.pl, pimp (fun _ _ z => el_keep z fun b u hc q => ?_) S1.el, S1.nd⟩, m, ld⟩
    refine up b u ?_ q
    rintro rfl
    obtain ⟨⟨oi, ei, ci, _⟩, _⟩ := st
    rw [ei] at q
    cases q
    rw [ci] at hc
    injection hc with hc
    exact absurd hc (by decide)
  | succ d ih =>
    intro i s hd hi st kp nw F h
    have hlt : i < items.size := by omega
    refine codeAny_builtin PyProof.Rows.F.entry_set_update_loop ?_
    rw [Around.under_plainId PyProof.Rows.F.plain_set_update_loop _]
    show wpAny _ A.in1 (pyNext (.ref I) >>= _) _ _ s
    refine wpAny_bind (W.item i s _ _ hlt st fun v h1 tk hv st1 k1 => ?_)
    have up : ∀ b o, b ≠ I → s.heap.get? b = some o → h1.get? b = some o := fun b o hb e => k1 b o (by simpa using hb) e
    obtain ⟨k, hk, b, rfl, hb⟩ := pget (i := i) (a := v) p (by rw [Array.getElem?_toList]; exact hv)
    have hb1 : X.knd.is h1 k b := X.keep hb fun b' o' _ q => up b' o' (nw b' o' q).2 (kp b' o' (nw b' o' q).1 (nw b' o' q).2 q)
    obtain ⟨o, es, ep, t, ks, S1, m, ld⟩ := F
    have S2 : SetAt X h1 S o es ep t ks := ⟨up S o hSI S1.ob, S1.ex, S1.dt, S1.full, S1.few, S1.pl, pimp (fun _ _ z => el_keep z fun b' u hc q => up b' u (by
      rintro rfl
      obtain ⟨⟨oi, ei, ci, _⟩, _⟩ := st
      rw [ei] at q
      cases q
      rw [ci] at hc
      injection hc with hc
      exact absurd hc (by decide)) q) S1.el, S1.nd⟩
    show wpAny _ A.in1 (holding [Value.ref b] (setAdd S (.ref b)) >>= _) _ _ _
    refine wpAny_bind (wpAny_holding ?_)
    unfold setAdd
    refine wpAny_holding (wpAny_bind (X.knd.pyHash hr hb1 ?_))
    have few : ks.length < 70 := by
      have : ks.length ≤ (keys.take i).length := by
        have key : ∀ (a c : List K), a.Nodup → (∀ x ∈ a, x ∈ c) → a.length ≤ c.length := by
          intro a
          induction a with
          | nil => intro c _ _; exact Nat.zero_le _
          | cons x a ih' =>
            intro c nd hs
            rw [List.nodup_cons] at nd
            have hx := hs x List.mem_cons_self
            have := ih' (c.erase x) nd.2 fun y hy => (List.mem_erase_of_ne (by rintro rfl; exact nd.1 hy)).mpr (hs y (List.mem_cons_of_mem _ hy))
            rw [List.length_erase_of_mem hx] at this
            have hp : 0 < c.length := List.length_pos_of_mem hx
            simp only [List.length_cons]
            omega
        exact key ks _ S1.nd fun x hx => (m x).mp hx
      rw [List.length_take] at this
      omega
    refine add_ok (s := { s with heap := h1, toks := tk + X.knd.draws k }) S2 hr hb1 few fun h2 f ⟨k2, o2, es2, ep2, t2, ks2, S3, ld2, q1, q2⟩ => ?_
    refine wpAny_pure ⟨plainId_quiet PyProof.Rows.F.plain_set_update_loop _, ih (i + 1) _ (by omega) (by omega) ?_ (fun b' o' z1 z2 q => k2 b' o' z1 (up b' o' z2 (kp b' o' z1 z2 q))) nw ⟨o2, es2, ep2, t2, ks2, S3, fun x => ?_, ld2.trans ld⟩ fun h3 tk3 k3 F3 => ?_⟩
    · obtain ⟨⟨oi, ei, ci⟩, ol, el, cl⟩ := st1
      exact ⟨⟨oi, k2 I oi (Ne.symm hSI) ei, ci⟩, ol, k2 l ol (Ne.symm hSl) el, cl⟩
    · rw [List.take_add_one, hk, List.mem_append]
      simp only [Option.toList_some, List.mem_singleton]
      by_cases z : k ∈ ks
      · rw [q1 z, m x]
        constructor
        · exact .inl
        · rintro (y | rfl)
          · exact y
          · exact (m _).mp z
      · rw [(q2 z).mem_iff, List.mem_cons, m x]
        exact or_comm
    · exact h h3 tk3 (fun b' o' z1 z2 q => k3 b' o' z1 z2 (k2 b' o' z1 (up b' o' z2 q))) F3
theorem fill_zero {h : Heap} {S : Addr} {led : Bool} (e : h.get? S = some { cls := .type "set", dict := none, data := .set #[] 0 (.fresh 0 0 led) }) : Fill X h S [] led :=
  ⟨_, #[], 0, .fresh 0 0 led, [], ⟨e, ⟨rfl, rfl, rfl⟩, rfl, ⟨⟨.inl rfl, List.Pairwise.nil, fun j hj => (List.not_mem_nil hj).elim, rfl⟩, rfl, fun x hx => (List.not_mem_nil hx).elim⟩, (by show 0 * 5 < 7 * 3; decide), rfl, .nil, List.nodup_nil⟩, fun _ => Iff.rfl, rfl⟩
variable {s : Shared}
abbrev fresh0 (led : Bool) : Obj := { cls := .type "set", dict := none, data := .set #[] 0 (.fresh 0 0 led) }
abbrev ledOf (w : World) : Bool := !(w.params.followText "set-order")
theorem new_led {x : Value} {Q₁ : Value → Shared → Prop} (h : Q₁ (.ref s.heap.objs.size) { s with heap := s.heap.push (fresh0 (ledOf w)) }) :
    codeAny (model prog w) A (.call (.builtin "set.__new__") ⟨[.type "set", x], []⟩) (wants Q₁ E) s := by
  refine codeAny_of_tree (wpAny_bind (wpAny_of_eq (PySem.F.newCall_set_1 x) (wpAny_pure ⟨plainId_quiet PySem.F.plain_set_new _, codeAny_builtin PySem.F.entry_set_new ?_⟩)))
  rw [Around.under_plainId PySem.F.plain_set_new _]
  have c1 := sub_set_self
  unfold Builtin.«set.__new__» Builtin.Frozenset.newClass
  obtain ⟨hp, g, d, tk, os⟩ := s
  dsimp only at h ⊢
  wp_walk
  refine wpAny_askSetting (wpAny_pure ?_)
  dsimp only
  simp only [newObj]
  exact wpAny_bind (wpAny_alloc (wpAny_pure (wpAny_pure h)))
theorem set_by {x : Value} {Q : Value → Shared → Prop}
    (h : wpAny (model prog w) A.in1.in1 (Builtin.«set.__init__» ⟨[.ref s.heap.objs.size, x], []⟩) (fun fin s' => ∃ r, fin = .done (.ret r) ∧ r = .none ∧ Q (.ref s.heap.objs.size) s') E { s with heap := s.heap.push (fresh0 (ledOf w)) }) :
    wpAny (model prog w) A (call (.type "set") [x]) Q E s := by
  have T := PySem.F.called_set
  obtain ⟨c, tl, hmro⟩ := T.mro
  have c1 := T.made
  have c2 := T.sub
  have c3 := T.notType
  have c4 := T.canCreate
  have c5 := PySem.F.typeCall_set_1 x
  refine wpAny_call (codeAny_of_tree (wpAny_pure ⟨Code.quiet_builtin _ (by decide +kernel), codeAny_builtin PySem.F.entry_type_call ?_⟩))
  rw [Around.under_plain (weight_type_call_type "set" [x] []) rfl]
  repeat (any_goals (first | assumption | wp_step))
  refine codeAny_mono (new_led (x := x) (E := E) (Q₁ := fun obj s₁ => obj = .ref s.heap.objs.size ∧ s₁ = { s with heap := s.heap.push (fresh0 (ledOf w)) }) ⟨rfl, rfl⟩) fun r s₁ q => ?_
  match r, q with
  | .error e, q => exact q
  | .ok (.ret obj), ⟨e1, e2⟩ =>
    subst e1 e2
    have ty : Shared.TypeIs { s with heap := s.heap.push (fresh0 (ledOf w)) } (.ref s.heap.objs.size) "set" := ⟨_, Heap.get?_push_size _ rfl, rfl⟩
    have c6 := T.init.lookup
    have c7 := T.init.bind (.ref s.heap.objs.size)
    repeat (any_goals (first | assumption | wp_step))
    refine codeAny_mono (codeAny_call_builtin (R := wants (fun r s₂ => r = .none ∧ Q (.ref s.heap.objs.size) s₂) E) T.init.plain PySem.F.entry_set_init (check_set_init_1 ty (wpAny_mono h (fun fin s' ⟨r, e, z⟩ => ?_) fun _ _ z => z))) fun r₂ s₂ q₂ => ?_
    · subst e
      exact z
    · match r₂, q₂ with
      | .error e, q₂ => exact q₂
      | .ok (.ret r), ⟨e3, q₂⟩ =>
        subst e3
        repeat (any_goals (first | assumption | wp_step))
end
end L2
namespace L2
open PySem PySem.Spec PyProof.Rows PySem.SetTable
section
variable {prog : Program} {w : World} {K : Type} [DecidableEq K] {A : Around} {E : Value → Shared → Prop} {X : EKind prog w K} {s : Shared}
theorem set_of_list {l : Addr} {items : Array Value} {keys : List K} {Q : Value → Shared → Prop} (hh : A.handled = none) (hr : X.knd.room A.in1.in1.in1) (hl : s.heap.IsList l items) (p : Paired (Keyd X s.heap) items.toList keys) (hn : keys.length < 70)
    (h : ∀ h' tk, (∀ b o, s.heap.get? b = some o → h'.get? b = some o) → Fill X h' s.heap.objs.size keys (ledOf w) → Q (.ref s.heap.objs.size) { s with heap := h', toks := tk }) : wpAny (model prog w) A (call (.type "set") [.ref l]) Q E s := by
  refine set_by ?_
  generalize hled : ledOf w = led at h ⊢
  obtain ⟨⟨ocls, odict, odata, oslots⟩, hol, hcl, nl, hdl⟩ := hl
  simp only at hcl hdl
  subst hcl hdl
  have lt : l < s.heap.objs.size := Heap.lt_size hol
  have hS : (s.heap.push (fresh0 led)).get? s.heap.objs.size = some (fresh0 led) := Heap.get?_push_size _ rfl
  have hT : Shared.TypeIs { s with heap := s.heap.push (fresh0 led) } (.ref s.heap.objs.size) "set" := ⟨_, hS, rfl⟩
  have hol' : (s.heap.push (fresh0 led)).get? l = some { cls := .type "list", dict := odict, data := .seq items nl, slots := oslots } := Heap.get?_push_of_some _ hol
  have n1 := PySem.F.sub_list_set
  have n2 := PySem.F.sub_list_frozenset
  have n3 : (Value.type "list" == Value.type "dict") = false := by decide
  have hl1 : (s.heap.push (fresh0 led)).IsList l items := ⟨_, hol', rfl, nl, rfl⟩
  unfold Builtin.«set.__init__» noKeywords Builtin.Frozenset.updateFrom
  generalize hPI : pyIter = PI
  wp_walk
  subst hPI
  refine wpAny_pyIter_list hl1 (wpAny_bind (wpAny_runValue ?_))
  have sz1 : (s.heap.push (fresh0 led)).objs.size = s.heap.objs.size + 1 := Heap.size_push ..
  refine set_loop (X := X) (h0 := s.heap) (S := s.heap.objs.size) (I := (s.heap.push (fresh0 led)).objs.size) (l := l) (items := items) (keys := keys) ?_ ?_ (by rw [sz1]; exact Nat.ne_of_gt (Nat.lt_succ_of_lt lt)) (by rw [sz1]; exact Nat.ne_of_lt (Nat.lt_succ_self _)) (Nat.ne_of_gt lt) p hn (items.size - 0) 0 _ rfl (Nat.zero_le _)
    ⟨⟨_, Heap.get?_push_size _ rfl, rfl, rfl⟩, hl1.push _⟩ (fun b o _ _ e => Heap.get?_push_of_some _ (Heap.get?_push_of_some _ e)) (fun b o e => ⟨Nat.ne_of_lt (Heap.lt_size e), by rw [sz1]; exact Nat.ne_of_lt (Nat.lt_succ_of_lt (Heap.lt_size e))⟩)
    (fill_zero (led := led) (Heap.get?_push_of_some _ hS)) fun h' tk k1 F => ?_
  · simp [hh]
  · exact hr
  · refine wpAny_pure ?_
    refine wpAny_pure ⟨_, rfl, rfl, h h' tk (fun b o e => ?_) F⟩
    exact k1 b o (Nat.ne_of_lt (Heap.lt_size e)) (by rw [sz1]; exact Nat.ne_of_lt (Nat.lt_succ_of_lt (Heap.lt_size e))) (Heap.get?_push_of_some _ (Heap.get?_push_of_some _ e))
end
end L2
namespace L2
open PySem PySem.Spec PyProof.Rows PySem.SetTable
section
variable {prog : Program} {w : World} {A : Around} {E : Value → Shared → Prop} {s : Shared}
theorem byVal_of (n : Nat) {a : Addr} {items : Array Value} {Q : Bool → Shared → Prop} (tp : s.heap.IsTuple a items) (hv : ∀ v ∈ items.toList, ∀ (Q : Bool → Shared → Prop), Q true s → wpAny (model prog w) A (hashByValue n v) Q E s) (h : Q true s) :
    wpAny (model prog w) A (hashByValue (n + 1) (.ref a)) Q E s := by
  have hT := tup_typeIs tp
  obtain ⟨o, ho, hcl, n', hd⟩ := tp
  unfold hashByValue
  refine wpAny_bind (wpAny_specialOf hT F.slot_tuple_hash.lookup ?_)
  refine wpAny_bind (wpAny_seqItems ho hd ?_)
  refine wpAny_bind ?_
  show wpAny _ _ (forIn items _ _) _ _ s
  rw [← Array.forIn_toList]
  refine wpAny_forIn_list _ (fun rest r s' => r.1 = none ∧ s' = s ∧ ∀ v ∈ rest, v ∈ items.toList) _ ?turn ?fin _ _ ⟨rfl, rfl, fun v hv => hv⟩
  case turn =>
    rintro v rest ⟨r1, r2⟩ s' ⟨hr, e, all⟩
    simp only at hr
    subst e hr
    refine wpAny_bind (hv v (all v List.mem_cons_self) _ ?_)
    simp only [Bool.not_true, Bool.false_eq_true, if_false]
    exact wpAny_pure ⟨rfl, rfl, fun u hu => all u (List.mem_cons_of_mem _ hu)⟩
  case fin =>
    rintro ⟨r1, r2⟩ s' ⟨hr, e, _⟩
    simp only at hr
    subst e hr
    exact wpAny_pure h
theorem noCls_of (n : Nat) {a : Addr} {items : Array Value} {Q : Bool → Shared → Prop} (tp : s.heap.IsTuple a items) (hv : ∀ v ∈ items.toList, ∀ (Q : Bool → Shared → Prop), Q false s → wpAny (model prog w) A (ofAClassStatement n v) Q E s) (h : Q false s) :
    wpAny (model prog w) A (ofAClassStatement (n + 1) (.ref a)) Q E s := by
  have hT := tup_typeIs tp
  obtain ⟨o, ho, hcl, n', hd⟩ := tp
  unfold ofAClassStatement
  refine wpAny_bind (wpAny_typeOf hT ?_)
  dsimp only
  rw [if_pos (by decide)]
  refine wpAny_bind (wpAny_pure ?_)
  simp only [Bool.not_true, Bool.false_eq_true, if_false]
  refine wpAny_bind (wpAny_seqItems ho hd ?_)
  dsimp only
  refine wpAny_bind ?_
  rw [← Array.forIn_toList]
  refine wpAny_forIn_list _ (fun rest r s' => r.1 = none ∧ s' = s ∧ ∀ v ∈ rest, v ∈ items.toList) _ ?turn ?fin _ _ ⟨rfl, rfl, fun v hv => hv⟩
  case turn =>
    rintro v rest ⟨r1, r2⟩ s' ⟨hr, e, all⟩
    simp only at hr
    subst e hr
    refine wpAny_bind (hv v (all v List.mem_cons_self) _ ?_)
    simp only [Bool.false_eq_true, if_false]
    exact wpAny_pure ⟨rfl, rfl, fun u hu => all u (List.mem_cons_of_mem _ hu)⟩
  case fin =>
    rintro ⟨r1, r2⟩ s' ⟨hr, e, _⟩
    simp only at hr
    subst e hr
    exact wpAny_pure h
theorem byVal_IT (n : Nat) {ks : List Int} {a : Addr} {Q : Bool → Shared → Prop} (x : IsIT s.heap ks a) (h : Q true s) : wpAny (model prog w) A (hashByValue (n + 1) (.ref a)) Q E s := by
  obtain ⟨i, t, r⟩ := x
  refine byVal_of n t (fun v hv Q' q => ?_) h
  obtain ⟨k, _, t', e⟩ := pmem r v hv
  subst e
  cases n <;> exact wpAny_pure q
theorem noCls_IT (n : Nat) {ks : List Int} {a : Addr} {Q : Bool → Shared → Prop} (x : IsIT s.heap ks a) (h : Q false s) : wpAny (model prog w) A (ofAClassStatement (n + 1) (.ref a)) Q E s := by
  obtain ⟨i, t, r⟩ := x
  refine noCls_of n t (fun v hv Q' q => ?_) h
  obtain ⟨k, _, t', e⟩ := pmem r v hv
  subst e
  cases n <;> exact wpAny_pure q
theorem byVal_ITs (n : Nat) {kss : List (List Int)} {a : Addr} {Q : Bool → Shared → Prop} (x : IsITs s.heap kss a) (h : Q true s) : wpAny (model prog w) A (hashByValue (n + 2) (.ref a)) Q E s := by
  obtain ⟨i, t, r⟩ := x
  refine byVal_of (n + 1) t (fun v hv Q' q => ?_) h
  obtain ⟨ks, _, b, e, g⟩ := pmem r v hv
  subst e
  exact byVal_IT n g q
theorem noCls_ITs (n : Nat) {kss : List (List Int)} {a : Addr} {Q : Bool → Shared → Prop} (x : IsITs s.heap kss a) (h : Q false s) : wpAny (model prog w) A (ofAClassStatement (n + 2) (.ref a)) Q E s := by
  obtain ⟨i, t, r⟩ := x
  refine noCls_of (n + 1) t (fun v hv Q' q => ?_) h
  obtain ⟨ks, _, b, e, g⟩ := pmem r v hv
  subst e
  exact noCls_IT n g q
theorem it_keep' {h h' : Heap} {a : Addr} {ks : List Int} (x : IsIT h ks a) (k : ∀ b o, o.cls = .type "tuple" → h.get? b = some o → h'.get? b = some o) : IsIT h' ks a := by
  obtain ⟨i, ⟨o, e, c, n, d⟩, r⟩ := x
  exact ⟨i, ⟨o, k _ _ c e, c, n, d⟩, r⟩
theorem its_keep' {h h' : Heap} {a : Addr} {kss : List (List Int)} (x : IsITs h kss a) (k : ∀ b o, o.cls = .type "tuple" → h.get? b = some o → h'.get? b = some o) : IsITs h' kss a := by
  obtain ⟨i, ⟨o, e, c, n, d⟩, r⟩ := x
  exact ⟨i, ⟨o, k _ _ c e, c, n, d⟩, pimp (fun _ _ ⟨b, e, q⟩ => ⟨b, e, it_keep' q k⟩) r⟩
end
def roomE (prog : Program) (w : World) : EKind prog w (List (List Int)) where
  knd := roomKind prog w
  byVal := fun hk h => byVal_ITs 6 hk h
  noCls := fun hk h => noCls_ITs 6 hk h
  keep := fun hk k => its_keep' hk k
end L2
namespace L2
open PySem PySem.Spec PyProof.Rows PySem.SetTable
structure Wk (w : World) (h : Heap) (a : Addr) (es : Array Sa.Elem) (ep : Nat) (t : SetTable) : Prop where
  ob : ∃ o, h.get? a = some o ∧ o.ExactSet ∧ o.data = .set es ep t
  rise : Sa.Rise t.place
  size : t.place.size = es.size
  fits : t.fits es.size = true
  pl : t.plain = true
  led : t.led = ledOf w
section
variable {prog : Program} {w : World} {A : Around} {E : Value → Shared → Prop} {s : Shared} {it a : Addr} {es : Array Sa.Elem} {ep i : Nat} {t : SetTable}
theorem setNext_eq (a : Addr) (slot given ep : Nat) : setNext a slot given ep = (do
    let (es, epoch, t) ← setState a
    if ← setsByText then
      if epoch != ep then unsupported "set_iterator.__next__:elements-changed"
      return ((← setWalk a)[given]?).map fun e => (e.2, slot)
    if (!t.plain && es.size > 1 : Bool) then unsupported "set_iterator.__next__:the-table-is-plain-no-more"
    (do if !t.led && !es.isEmpty then unsupported "set:maker-not-led" : Sem Unit)
    let i := SetTable.below t.place slot
    return match es[i]?, t.place[i]? with
      | some (_, x), some j => some (x, j + 1)
      | _, _ => none) := rfl
theorem setWalk_eq (a : Addr) : setWalk a = (do
    let (es, epoch, t) ← setState a
    if ← setsByText then return pickOrder ((← ask).params.setOrder a epoch) es
    if (!t.plain && es.size > 1 : Bool) then return (← drawOrder es.size es.toList).toArray
    (do if !t.led && es.size > 1 then unsupported "set:maker-not-led" : Sem Unit)
    return es) := rfl
end
end L2
namespace L2
open PySem PySem.Spec PyProof.Rows PySem.SetTable
section
variable {prog : Program} {w : World} {A : Around} {E : Value → Shared → Prop} {s : Shared} {it a : Addr} {es : Array Sa.Elem} {ep i : Nat} {t : SetTable}
end
end L2
namespace L2
open PySem PySem.Spec PyProof.Rows PySem.SetTable
section
variable {prog : Program} {w : World} {A : Around} {E : Value → Shared → Prop} {s : Shared} {it a : Addr} {es : Array Sa.Elem} {ep i : Nat} {t : SetTable}
theorem Wk.keep {h h' : Heap} (W : Wk w h a es ep t) (k : ∀ o, h.get? a = some o → h'.get? a = some o) : Wk w h' a es ep t :=
  let ⟨o, e, r⟩ := W.ob; ⟨⟨o, k o e, r⟩, W.rise, W.size, W.fits, W.pl, W.led⟩
end
end L2
namespace L2
open PySem PySem.Spec PyProof.Rows PySem.SetTable
section
variable {prog : Program} {w : World} {A : Around} {E : Value → Shared → Prop} {s : Shared} {a : Addr} {es : Array Sa.Elem} {ep : Nat} {t : SetTable}
end
def SetO (w : World) (a : Addr) (bs : List Addr) : HO := .ext fun h => ∃ es ep t, Wk w h a es ep t ∧ es.size < 70 ∧ es.toList.map (·.2) = bs.map Value.ref
theorem setO_ok {P : Program} {w : World} {H : Hp} {h : Heap} {a : Addr} {bs : List Addr} (x : ∃ es ep t, Wk w h a es ep t ∧ es.size < 70 ∧ es.toList.map (·.2) = bs.map Value.ref) : ObjOk P w H h a (SetO w a bs) := by
  refine ⟨x, ?_, fun h1 h2 ⟨es, ep, t, W, r⟩ k => ⟨es, ep, t, W.keep fun o e => k o e, r⟩⟩
  obtain ⟨_, _, _, W, _⟩ := x
  obtain ⟨o, e, _⟩ := W.ob
  exact ⟨o, e⟩
def EKind.only {prog : Program} {w : World} {K : Type} [DecidableEq K] (Y : EKind prog w K) (G : K → Addr → Prop) : EKind prog w K where
  knd := {
    is := fun h x b => Y.knd.is h x b ∧ G x b
    hash := Y.knd.hash
    draws := Y.knd.draws
    room := Y.knd.room
    inj := fun p q => Y.knd.inj p.1 q.1
    keeps := fun p ho hd hs => ⟨Y.knd.keeps p.1 ho hd hs, p.2⟩
    pyHash := fun hu hk h => Y.knd.pyHash hu hk.1 h
    eqBool := fun hu hx hy h => Y.knd.eqBool hu hx.1 hy.1 h
    quiet := fun hk h => Y.knd.quiet hk.1 h }
  byVal := fun hk h => Y.byVal hk.1 h
  noCls := fun hk h => Y.noCls hk.1 h
  keep := fun hk k => ⟨Y.keep hk.1 k, hk.2⟩
theorem subset_len {K : Type} [DecidableEq K] : ∀ (a c : List K), a.Nodup → (∀ x ∈ a, x ∈ c) → a.length ≤ c.length := by
  intro a
  induction a with
  | nil => intro c _ _; exact Nat.zero_le _
  | cons x a ih' =>
    intro c nd hs
    rw [List.nodup_cons] at nd
    have hx := hs x List.mem_cons_self
    have := ih' (c.erase x) nd.2 fun y hy => (List.mem_erase_of_ne (by rintro rfl; exact nd.1 hy)).mpr (hs y (List.mem_cons_of_mem _ hy))
    rw [List.length_erase_of_mem hx] at this
    have hp : 0 < c.length := List.length_pos_of_mem hx
    simp only [List.length_cons]
    omega
section
variable {X : Cx}
theorem call_setG {K : Type} [DecidableEq K] (k : Dk K) (Y : EKind X.prog X.w K) (hr : Y.knd.room X.A.in1.in1.in1) (hc : X.calm = true) (hk : ∀ {pins : List (Addr × Obj)} {σ : St} {H : Hp} {s : Shared} {b : Addr} {x : K}, Inv X pins σ H s → k.rep X.K H (.ref b) x → Y.knd.is s.heap x b)
    (href : ∀ {K' : W.Frag} {H : Hp} {v : V} {x : K}, k.rep K' H v x → ∃ b, v = .ref b) :
    CallR X (.type "set") (fun xs H Q => ∃ (y : V) (keys : List K), xs = [y] ∧ (dLst k).rep X.K H y keys ∧ keys.length < 70 ∧ ∀ (p : Addr) (bs : List Addr) (ks : List K), H p = none → Paired (fun b x => k.rep X.K H (.ref b) x) bs ks → ks.Nodup → (∀ x, x ∈ ks ↔ x ∈ keys) → Q (.ref p) (upd H p (SetO X.w p bs))) := by
  intro pins s σ H xs us Q I r h
  obtain ⟨y, keys, rfl, ⟨p, as, e, hp, hd⟩, hl, q⟩ := h
  subst e
  obtain ⟨u, rfl, ru⟩ := vals1 r
  cases ru
  obtain ⟨its, rv, pl, hz⟩ := I.list hp
  have kd : Paired (fun v x => ∃ b, v = Value.ref b ∧ k.rep X.K H (.ref b) x) its keys := pcomp (F := RelV) (G := k.rep X.K H) (fun x u kx h1 h2 => by
    obtain ⟨b, rfl⟩ := href h2
    cases h1
    exact ⟨b, rfl, h2⟩) rv hd
  have kd' : Paired (Keyd (Y.only fun x b => k.rep X.K H (.ref b) x) s.heap) its.toArray.toList keys := pimp (fun _ _ ⟨b, e, z⟩ => ⟨b, e, hk I z, z⟩) kd
  refine set_of_list (X := Y.only fun x b => k.rep X.K H (.ref b) x) (I.ok.hd hc) hr pl.isList kd' hl fun h' tk k1 F => ?_
  obtain ⟨o, es, ep, t, ks, S, m, ld⟩ := F
  have len : es.size = ks.length := by rw [← Array.length_toList]; exact S.el.length
  have le70 : ks.length < 70 := Nat.lt_of_le_of_lt (subset_len ks keys S.nd fun x hx => (m x).mp hx) hl
  have each : ∀ {l : List Sa.Elem} {js : List K}, Paired (El (Y.only fun x b => k.rep X.K H (.ref b) x) h') l js → ∃ bs : List Addr, l.map (·.2) = bs.map Value.ref ∧ Paired (fun b x => k.rep X.K H (.ref b) x) bs js := by
    intro l js pr
    induction pr with
    | nil => exact ⟨[], rfl, .nil⟩
    | @cons e x l js h1 _ ih =>
      obtain ⟨b, e1, e2, _⟩ := h1
      obtain ⟨bs, i1, i2⟩ := ih
      exact ⟨b :: bs, by rw [List.map_cons, List.map_cons, i1, e1], .cons e2.2 i2⟩
  obtain ⟨bs, b1, b2⟩ := each S.el
  refine ⟨.ref s.heap.objs.size, _, I.laid (o := SetO X.w s.heap.objs.size bs) k1 (Nat.le_refl _) ?_, rfl, q _ bs ks (I.hok.fresh (Nat.le_refl _)) b2 S.nd m⟩
  exact setO_ok ⟨es, ep, t, ⟨⟨o, S.ob, S.ex, S.dt⟩, S.full.tab.rise, S.full.size, SetAt.fits (s := { s with heap := h' }) S, S.pl, ld⟩, by omega, b1⟩
theorem set_of {pins : List (Addr × Obj)} {σ : St} {H : Hp} {s : Shared} {a : Addr} {bs : List Addr} (I : Inv X pins σ H s) (ha : H a = some (SetO X.w a bs)) : ∃ es ep t, Wk X.w s.heap a es ep t ∧ es.size < 70 ∧ es.toList.map (·.2) = bs.map Value.ref := (show ObjOk X.prog X.w H s.heap a (SetO X.w a bs) from I.hok a _ ha).1
theorem call_lenS : CallR X (.builtin "len") (fun xs H Q => ∃ p bs, xs = [V.ref p] ∧ H p = some (SetO X.w p bs) ∧ Q (.int bs.length) H) := by
  intro pins s σ H xs us Q I r h
  obtain ⟨p, bs, rfl, hp, q⟩ := h
  obtain ⟨u, rfl, ru⟩ := vals1 r
  cases ru
  obtain ⟨es, ep, t, W, lt, eq⟩ := set_of I hp
  obtain ⟨o, e1, e2, e3⟩ := id W.ob
  have len : es.size = bs.length := by have := congrArg List.length eq; simpa using this
  exact call_len_set e1 e2 e3 W.fits (by omega) ⟨.int bs.length, H, I.tok _, ⟨_, by rw [len]⟩, q⟩
end
end L2
namespace L2
open PySem PySem.Spec PyProof.Rows
section
variable {X : Cx} {scope : Scope} {x : Str} {elt iter : Expr} {ifs : List Expr} {px pos : Pos} {wi : TI} {tt : TT} {te : TE}
theorem ps_setC {i0 : Nat} {y : Str} {py spos : Pos} (hN : X.N.Nodup) (hi0 : X.N[i0]? = some y) (hx : Loc X.env.scope y) (hc : X.calm = true) (S : CScope X.env.scope X.N scope x) (hi : PI X (.Name x px) iter wi)
    (ht : ∀ (cl : List (Str × Addr)) (C : Addr) (s₂ : Shared) (H₂ : Hp) (fp : List Addr) (pins : List (Addr × Obj)), PTs (cxC X scope cl x C s₂ H₂ fp pins) ifs tt)
    (he : ∀ (cl : List (Str × Addr)) (C : Addr) (s₂ : Shared) (H₂ : Hp) (fp : List Addr) (pins : List (Addr × Obj)), PE (cxC X scope cl x C s₂ H₂ fp pins) elt te)
    (hsw : swapsWith (.ListComp elt [⟨.Name x px, iter, ifs, 0⟩] scope pos) (some (.Name y py)) spos.line X.env = pure true) (hs : ∀ v, foldedSetIterable iter X.env v = pure v := by intro _; rfl)
    (hf : X.fn y = true ∨ X.env.scope.names.lookup y = some .local := by first | exact .inl rfl | exact .inr rfl | assumption) :
    PS X (.Assign [.Name y py] (.ListComp elt [⟨.Name x px, iter, ifs, 0⟩] scope pos) spos) (tAsg (tComp wi tt te) (gName i0)) := by
  intro pins s σ H D0 I h
  obtain ⟨cl, hcl0, hcl1, hcl2⟩ := closure_of (scope := scope) (env := X.env) (fun y hy hf => I.ok.has y.1 (S.free y hy hf))
  rw [exec_Assign_Name_used _ _ _ _ hsw]
  refine wpAny_bind (wpAny_standAt (wpAny_bind ?_))
  show wpAny _ X.A (do let _ ← comprehension (.ListComp elt [⟨.Name x px, iter, ifs, 0⟩] scope pos) scope X.env _ (newList []) false (eval iter X.env) (some (assign (.Name y py) X.env))) _ _ s
  refine wpAny_bind (wpAny_mono (wpAny_comprehension_free (use := some (assign (.Name y py) X.env)) (E := X.xe) (Q := fun _ s' => SP X pins D0 .next s') rfl hs hcl0 S.kind S.names
    (thn (hi pins s σ H _ I h) fun xv s1 h1 => thn h1 fun itv s2 h2 => ?_)) (fun _ s' hq => wpAny_pure (wpAny_pure hq)) fun _ _ e => e)
  obtain ⟨it, fp, tn, J, H2, e, I2, T, st2, f2, W, ⟨m0, w0⟩, turn⟩ := h2
  subst e
  refine wpAny_newObj_type (wpAny_newFunctionEnv S.cell (by intro y hy; cases hy) (fun h₁ hns hsb => ?_) S.kind)
  dsimp only at hns hsb ⊢
  generalize hP : s2.heap.push { cls := .type "list", dict := none, data := .seq ([] : List Value).toArray } = P2 at hns hsb ⊢
  have hC : P2.objs.size = s2.heap.objs.size + 1 := by rw [← hP, Heap.size_push]
  have hDC : s2.heap.objs.size ≠ P2.objs.size := by rw [hC]; exact Nat.ne_of_lt (Nat.lt_succ_self _)
  have hCle : s2.heap.objs.size ≤ P2.objs.size := by rw [hC]; exact Nat.le_succ _
  have old : ∀ b o, s2.heap.get? b = some o → h₁.get? b = some o := fun b o e => by
    have hb := Heap.lt_size e
    exact hsb.extBut b o (by rw [hC]; exact Nat.ne_of_lt (Nat.lt_succ_of_lt hb)) (Heap.get?_push_of_some _ (hP ▸ Heap.get?_push_of_some _ e))
  have hd : h₁.get? s2.heap.objs.size = some (plainL [] 0) := hsb.extBut _ _ hDC (Heap.get?_push_of_some _ (hP ▸ Heap.get?_push_size _ rfl))
  have fo : ∀ b ∈ fp, ∃ o, s2.heap.get? b = some o := fun b hb => by
    obtain ⟨o, e, _⟩ := T.obj _ _ st2 b hb
    exact ⟨o, e⟩
  have neD : ∀ b ∈ fp, b ≠ s2.heap.objs.size := fun b hb => by
    obtain ⟨o, e⟩ := fo b hb
    exact Nat.ne_of_lt (Heap.lt_size e)
  have JY : Inv (cxC X scope cl x P2.objs.size s2 H2 fp pins) [(s2.heap.objs.size, plainL [] 0)] (none :: σ) H2 { s2 with heap := h₁, toks := s2.toks + ([] : List (Str × Value)).length } :=
    inv_block I2 S f2 fo hcl1 hcl2 (Nat.le_refl _) hCle hDC ⟨_, hns⟩ hd old
  have stat : ∀ {H' : Hp} {its : List Value} {n : Nat}, (∀ b ∈ fp, H' b = none) → ∀ b ∈ fp, FpOk (cxC X scope cl x P2.objs.size s2 H2 fp pins) [(s2.heap.objs.size, plainL its n)] H' b := fun {H' its n} hn b hb => by
    obtain ⟨_, g1, g2, g3, g4, g5⟩ := f2 b hb
    obtain ⟨o, e⟩ := fo b hb
    refine ⟨hn b hb, ?_, fun z => ?_, .inl hb, fun y c q => g4 y c (hcl1 y c q), fun p hp => ?_⟩
    · show b ≠ P2.objs.size
      exact Nat.ne_of_lt (Nat.lt_of_lt_of_le (Heap.lt_size e) hCle)
    · rcases List.mem_cons.mp (I2.stkSub b z) with r | r
      · exact g1 r
      · exact g2 r
    · rcases List.mem_append.mp hp with z | z
      · exact g5 p z
      · rw [List.mem_singleton.mp z]; exact fun q => neD b hb q.symm
  have nodup : (cxC X scope cl x P2.objs.size s2 H2 fp pins).N.Nodup := List.nodup_cons.mpr ⟨S.fresh, hN⟩
  have loc : Loc (cxC X scope cl x P2.objs.size s2 H2 fp pins).env.scope x := .inl (lookup_relabel_local S.var)
  have loop : ∀ s4 : Shared, s4 = { s2 with heap := h₁, toks := s2.toks + ([] : List (Str × Value)).length } →
      codeAny (model X.prog X.w) X.A (.compLoop (.ListComp elt [⟨.Name x px, iter, ifs, 0⟩] scope pos) 0 (.ref it) (.ref s2.heap.objs.size) (compEnvC scope cl P2.objs.size X.env))
        (compPost (model X.prog X.w) X.A X.xe (some (assign (.Name y py) X.env)) (fun _ s' => SP X pins D0 .next s') (.ref s2.heap.objs.size) P2.objs.size) s4 := by
    rintro s4 rfl
    refine codeAny_loop rfl (fun n s' => ∃ i ys its c H' v0, Inv (cxC X scope cl x P2.objs.size s2 H2 fp pins) [(s2.heap.objs.size, plainL its c)] (v0 :: σ) H' s' ∧ tn i s'.heap ∧ (∀ b ∈ fp, H' b = none) ∧ Vals ys its ∧ W i n ys H') ?_ m0
      ⟨0, [], [], 0, H2, none, JY, T.keep _ _ _ st2 (fun b _ o e => old b o e), fun b hb => (f2 b hb).1, .nil, w0⟩
    rintro n s3 ⟨i, ys, its, c, H3, v0, I3, st3, fr3, rv, w3⟩
    show wpAny _ _ ((compTurn (.ListComp elt [⟨.Name x px, iter, ifs, 0⟩] scope pos) 0 (.ref it) (.ref s2.heap.objs.size) (compEnvC scope cl P2.objs.size X.env)).onRaise (fun z => do noteFrame z (compEnvC scope cl P2.objs.size X.env); theTreesLotGoes z)) _ _ s3
    refine wpAny_noted ?_
    rw [compTurn_list]
    rcases turn i n ys H3 w3 with ⟨stop, hz, qn⟩ | ⟨go, hz, NN, hNN, step⟩
    · refine wpAny_bind (wpAny_standAt (wpAny_bind (thn (T.done (cxC X scope cl x P2.objs.size s2 H2 fp pins) rfl rfl rfl hc i _ s3 _ H3 _ I3 (stat fr3) st3 stop) fun r s5 ⟨hr, I5⟩ => ?_)))
      subst hr
      refine wpAny_pure ?_
      obtain ⟨mC, hmC, _⟩ := I5.loc
      obtain ⟨I6, nD⟩ := inv_back I2 f2 (Nat.le_refl _) hCle I5 (Heap.SameBut.refl _ _) rv hz
      have fC : H3 P2.objs.size = none := I5.free
      have q := qn _ nD
      have big : ∀ b o, s2.heap.get? b = some o → b ≠ P2.objs.size := fun b o e => Nat.ne_of_lt (Nat.lt_of_lt_of_le (Heap.lt_size e) hCle)
      have bigC : ∀ z c, X.env.cells.lookup z = some c → c ≠ P2.objs.size := fun z c e => by
        obtain ⟨v, q⟩ := I2.cell z c e
        exact Nat.ne_of_lt (Nat.lt_of_lt_of_le q.lt hCle)
      have bigL : X.env.locals ≠ P2.objs.size := Nat.ne_of_lt (Nat.lt_of_lt_of_le I2.lt hCle)
      refine wpAny_assign_Name (store_ok2 (v := .ref s2.heap.objs.size) I6 hN hi0 hx rfl (fun s7 I7 ⟨a, sb, ha⟩ => ?_) hf)
      have neC : P2.objs.size ≠ a := by
        rcases ha with ha | ha
        · rw [ha]; exact Ne.symm bigL
        · exact Ne.symm (bigC _ _ ha)
      exact ⟨mC, hmC.sameBut sb neC, fun h' hs' => ⟨_, _, I7.turned (t' := s7.toks) (it := P2.objs.size) (fun b o hb e => (hs'.2 b hb).trans e) (by rw [upd_ne (Ne.symm hDC)]; exact fC) (Ne.symm bigL) (.inr (Nat.le_trans I2.sz hCle)) bigC (fun p hp => big _ _ (I2.pin p hp).1), q⟩⟩
    · refine wpAny_bind (wpAny_standAt (wpAny_bind (thn (T.item (cxC X scope cl x P2.objs.size s2 H2 fp pins) rfl rfl rfl hc i _ s3 _ H3 _ I3 (stat fr3) st3 go) fun r s5 ⟨u, hr, h5⟩ => ?_)))
      subst hr
      refine wpAny_bind (thn h5 fun _ s6 ⟨xv, H6, I6, r6, y6, st6, fr6⟩ => ?_)
      have I6' := I6.pinned (stat fr6) (T.obj _ _ st6)
      refine wpAny_bind (wpAny_assign_Name (store_ok (i := 0) I6' nodup rfl loc r6 (fun s7 I7 => ?_) (.inr (lookup_relabel_local S.var))))
      have q7 := step xv H6 y6
      refine wpAny_bind (never_mono (thn (ht cl P2.objs.size s2 H2 fp pins _ s7 _ H6 _ I7 q7) fun ok s8 ⟨H8, I8, q8⟩ => ?_))
      have back : ∀ {H9 : Hp} {s9 : Shared}, Inv (cxC X scope cl x P2.objs.size s2 H2 fp pins) ([(s2.heap.objs.size, plainL its c)] ++ pinsAt fp s6.heap) (some xv :: σ) H9 s9 → tn (i + 1) s9.heap ∧ ∀ b ∈ fp, H9 b = none := fun {H9 s9} I9 => by
        refine ⟨T.keep _ _ _ st6 fun b hb o e => (I9.pin (b, o) (List.mem_append_right _ (List.mem_append_right _ (mem_pinsAt hb e)))).1, fun b hb => ?_⟩
        obtain ⟨o, e, d⟩ := T.obj _ _ st6 b hb
        exact (I9.pin (b, o) (List.mem_append_right _ (List.mem_append_right _ (mem_pinsAt hb e)))).2.1
      cases ok with
      | false =>
        obtain ⟨m', hm, w8⟩ := hNN ys H8 q8
        obtain ⟨t8, fr8⟩ := back I8
        exact wpAny_pure ⟨rfl, m', hm, i + 1, ys, its, c, H8, _, I8.unpinned, t8, fr8, rv, w8⟩
      | true =>
        refine wpAny_bind (wpAny_bind (never_mono (thn (he cl P2.objs.size s2 H2 fp pins _ s8 _ H8 _ I8 q8) fun yv s9 ⟨y, H9, I9, r9, q9⟩ => ?_)))
        obtain ⟨m', hm, w9⟩ := hNN _ _ q9
        obtain ⟨t9, fr9⟩ := back I9
        have I9' := I9.unpinned
        obtain ⟨eD, nD, neL, nf, _⟩ := I9'.pin (s2.heap.objs.size, plainL its c) (List.mem_append_right _ List.mem_cons_self)
        refine wpAny_bind (wpAny_list_append_plain (items := its.toArray) ⟨c, eD⟩ (fun h10 hp10 hs10 => ?_) (by rw [List.size_toArray, ← rv.length]; exact Nat.le_of_lt hz))
        obtain ⟨c', e10⟩ := hp10
        have e10' : h10.get? s2.heap.objs.size = some (plainL (its ++ [yv]) c') := by rw [e10]; simp
        have I10 : Inv (cxC X scope cl x P2.objs.size s2 H2 fp pins) [] (some xv :: σ) H9 { s9 with heap := h10 } := by
          have I9e : Inv (cxC X scope cl x P2.objs.size s2 H2 fp pins) [] (some xv :: σ) H9 s9 := I9'.pins_of fun p hp => absurd hp (by simp)
          refine I9e.turned (t' := s9.toks) (it := s2.heap.objs.size) (fun b o hb q => (hs10.2 b hb).trans q) nD neL (.inr (Nat.le_refl _)) (fun y cc q => ?_) fun p hp => ?_
          · obtain ⟨v, z⟩ := I2.cell y cc (hcl1 y cc q)
            exact Nat.ne_of_lt z.lt
          · have hp' : p ∈ X.pn ++ pins := by
              have z : p ∈ (X.pn ++ pins) ++ [] := hp
              simpa using z
            exact Nat.ne_of_lt (Heap.lt_size (I2.pin p hp').1)
        have I11 : Inv (cxC X scope cl x P2.objs.size s2 H2 fp pins) [(s2.heap.objs.size, plainL (its ++ [yv]) c')] (some xv :: σ) H9 { s9 with heap := h10 } :=
          I10.pins_of fun p hp => by rw [List.mem_singleton.mp hp]; exact ⟨e10', nD, neL, nf, fun v q => nomatch q⟩
        refine wpAny_pure (wpAny_pure ⟨rfl, m', hm, i + 1, ys ++ [y], its ++ [yv], c', H9, _, I11, ?_, fr9, rv.append (.cons r9 .nil), w9⟩)
        exact T.keep _ _ _ t9 fun b hb o q => (hs10.2 b (neD b hb)).trans q
  exact codeAny_compStart_list (loop _ rfl) (T.self X.A 0 _ _ _ (T.keep _ _ _ st2 (fun b _ o e => old b o e)) (loop _ rfl))
end
end L2
namespace L2
open PySem PySem.Spec PyProof.Rows
section
variable {X : Cx}
theorem call_sum (hc : X.calm = true) : CallR X (.builtin "sum") (fun xs H Q => ∃ (p : Addr) (ns : List Int), xs = [.ref p] ∧ SqL X.K H p (ns.map V.int) ∧ Q (.int ns.sum) H) := by
  intro pins s σ H xs us Q I r h
  obtain ⟨p, ns, rfl, hp, q⟩ := h
  obtain ⟨u, rfl, ru⟩ := vals1 r
  cases ru
  obtain ⟨its, rv, pl, hz⟩ := I.list hp
  have hi : IntsAre its ns := intsAre_of rv
  obtain ⟨as, ha⟩ := hi.allInts.items
  have hn : numsOf its.toArray.toList = ns := by rw [show its.toArray.toList = its from rfl, hi.numsOf]
  have hl := pl.isList
  rw [ha] at hl hn
  rw [nums_intItems] at hn
  refine sum_intListG (I.ok.hd hc) hl fun h' tk t' hk => ?_
  rw [preSum_eq, List.take_of_length_le (by simp), hn]
  exact ⟨.int ns.sum, H, I.kept (t' := tk) hk, ⟨t', rfl⟩, q⟩
theorem repeat_tuple : seqRepeat? (.type "tuple") = pure (some (.builtin "tuple.__mul__")) := by
  unfold seqRepeat?
  rw [PySem.seqSlot_of (T := "tuple") (name := "__mul__") (id := "tuple.__mul__") F.slot_tuple_mul.lookup (by decide +kernel), PySem.seqSlot_of (T := "tuple") (name := "__rmul__") (id := "tuple.__rmul__") F.slot_tuple_rmul.lookup (by decide +kernel)]
  rfl
theorem noFill_tuple_mul : fillsNumberSlot (.type "tuple") "mul" = pure false := PySem.fillsNumberSlot_seq F.slot_tuple_mul.lookup (by decide +kernel) F.slot_tuple_rmul.lookup (by decide +kernel)
theorem rmul_tup (a : Int) (t : Tok) (l : Addr) (items : Array Value) (n : Nat) (d : Option Addr) (sl : Array (Option Value)) :
    Meets (Builtin.«int.__rmul__» ⟨[.int a t, .ref l], []⟩) (fun _ R s => s.heap.get? l = some { cls := .type "tuple", dict := d, data := .seq items n, slots := sl } ∧ R (.ok (.ret Value.notImplemented)) s) :=
  .of_wp fun prog w A R s h => by obtain ⟨hp, g, d, tk, os⟩ := s; obtain ⟨hl, h⟩ := h; wp_walk; exact ⟨_, rfl, h⟩
theorem mul_tup (l : Addr) (items : Array Value) (n : Nat) (d : Option Addr) (sl : Array (Option Value)) (x : Int) (u : Tok) (c0 : ¬ (decide (x < -(2 ^ 63)) || decide (x ≥ 2 ^ 63)) = true) (c1 : ¬ (items.isEmpty || x == 1) = true) (c2 : ¬ (decide (x ≤ 0) || items.isEmpty) = true) (c3 : ¬ (items.size : Int) * x > (2 ^ 63 - 1) / 8) (c4 : ¬ Builtin.Tuple.tupleTooMany ((items.size : Int) * x) = true) (c5 : ¬ (List.foldl (fun x1 x2 => x1 ++ x2) #[] (List.replicate x.toNat items)).size > sizeLine) :
    Meets (Builtin.«tuple.__mul__» ⟨[.ref l, .int x u], []⟩) (fun _ R s => s.heap.get? l = some { cls := .type "tuple", dict := d, data := .seq items n, slots := sl } ∧ R (.ok (.ret (Value.ref s.heap.objs.size))) { s with heap := s.heap.push { cls := Value.type "tuple", data := Data.seq (List.foldl (fun x1 x2 => x1 ++ x2) #[] (List.replicate x.toNat items)) }, toks := s.toks }) :=
  .of_wp fun prog w A R s h => by
    obtain ⟨hp, g, d, tk, os⟩ := s; obtain ⟨hl, h⟩ := h
    wp_walk
    refine wpAny_ite_false (decide_eq_false c0) ?_
    wp_walk
    refine wpAny_ite_false (decide_eq_false c3) ?_
    wp_walk
    exact ⟨_, rfl, h⟩
theorem mul_tup1 (l : Addr) (items : Array Value) (n : Nat) (d : Option Addr) (sl : Array (Option Value)) (u : Tok) :
    Meets (Builtin.«tuple.__mul__» ⟨[.ref l, .int 1 u], []⟩) (fun _ R s => s.heap.get? l = some { cls := .type "tuple", dict := d, data := .seq items n, slots := sl } ∧ R (.ok (.ret (Value.ref l))) s) :=
  .of_wp fun prog w A R s h => by
    obtain ⟨hp, g, d, tk, os⟩ := s; obtain ⟨hl, h⟩ := h
    have c1 : (items.isEmpty || ((1 : Int) == 1)) = true := by simp
    wp_walk
    exact ⟨_, rfl, h⟩
def rRepT (K : W.Frag) : R2 := fun x y H Q => ∃ a k xs, x = .ref a ∧ y = .int k ∧ SqT K H a xs ∧ xs ≠ [] ∧ 1 ≤ k ∧ xs.length * k.toNat ≤ sizeLine ∧ ∀ r H', Same H H' → SqT K H' r (List.replicate k.toNat xs).flatten → Q (.ref r) H'
theorem op_repT : OpR X (binaryOp .Mult) (rRepT X.K) := by
  intro pins s σ H x y v u Q I rx ry h
  obtain ⟨a, k, xs, rfl, rfl, ha, hx, k1, hz, q⟩ := h
  cases rx
  obtain ⟨t, rfl⟩ := ry
  obtain ⟨its, r, ⟨⟨c, d, da, sl⟩, e, hc, n, hd⟩, _⟩ := I.tuple ha
  simp only at hc hd
  subst hc hd
  have hl := r.length
  have hne : its.toArray.isEmpty = false := by
    cases its with
    | nil => cases r; exact absurd rfl hx
    | cons b r' => rfl
  refine wpAny_binaryOp_repeat_ref (T := "tuple") (U := "int") (by decide) ⟨_, e, rfl⟩ (fun s' => typeIs_int s' k t) noFill_tuple_mul F.fills_int_mul F.slot_int_rmul repeat_tuple F.slot_int_index.lookup
    (call_meets F.slot_int_rmul (typeIs_int s k t) F.entry_int_rmul (F.args_int_rmul_2 _ _) (rmul_tup k t a its.toArray n d sl) ⟨e, rfl, ⟨_, e, rfl⟩, ?_⟩)
  by_cases one : k = 1
  · subst one
    refine call_meets F.slot_tuple_mul ⟨_, e, rfl⟩ F.entry_tuple_mul (F.args_tuple_mul_2 _ _) (mul_tup1 a its.toArray n d sl t) ⟨e, ?_⟩
    refine ⟨.ref a, H, I, rfl, q a H (Same.refl H) ?_⟩
    show SqT X.K H a (List.replicate 1 xs).flatten
    simpa using ha
  · have f0 : List.foldl (fun x1 x2 => x1 ++ x2) #[] (List.replicate k.toNat its.toArray) = (List.replicate k.toNat its).flatten.toArray := by
      have := foldl_rep its k.toNat []
      rw [List.nil_append] at this
      exact this
    have sz : (List.replicate k.toNat its).flatten.length ≤ sizeLine := by rw [len_rep, ← hl, Nat.mul_comm]; exact hz
    have hk : its.toArray.size * k.toNat ≤ sizeLine := by rw [List.size_toArray, ← hl]; exact hz
    have zl := sizeLine_eq
    have pos : 1 ≤ its.toArray.size := by
      cases its with
      | nil => simp at hne
      | cons b r' => simp
    have kb : k.toNat ≤ sizeLine := Nat.le_trans (Nat.le_mul_of_pos_left _ pos) hk
    have zc : (its.toArray.size : Int) * k = ((its.toArray.size * k.toNat : Nat) : Int) := by rw [Int.natCast_mul, Int.toNat_of_nonneg (by omega)]
    refine call_meets F.slot_tuple_mul ⟨_, e, rfl⟩ F.entry_tuple_mul (F.args_tuple_mul_2 _ _) (mul_tup a its.toArray n d sl k t ?_ ?_ ?_ ?_ ?_ ?_) ⟨e, ?_⟩
    · simp
      omega
    · rw [hne]
      simpa using one
    · rw [hne]
      simp
      omega
    · rw [zc]
      omega
    · rw [zc]
      unfold Builtin.Tuple.tupleTooMany
      rw [decide_eq_true_eq]
      omega
    · rw [f0, List.size_toArray]
      omega
    · rw [f0]
      refine ⟨.ref s.heap.objs.size, _, I.laid (t' := s.toks) (o := .tup (List.replicate k.toNat xs).flatten) (fun b ob q => Heap.get?_push_of_some _ q) (Nat.le_refl _) ?_, rfl, q _ _ (fun b u q => by rw [upd_ne (ne_of_none q (I.hok.fresh (Nat.le_refl _)))]; exact q) (SqT.of upd_same)⟩
      exact ⟨by rw [len_rep, Nat.mul_comm]; exact hz, _, r.rep k.toNat, IsTup.new _ _⟩
end
theorem beq_decB {i j : Bool} : (i == j) = decide (i = j) := by cases i <;> cases j <;> rfl
def dBl : Dk Bool where
  rep := fun _ _ x a => x = .bl a
  dep := 0
  mono := fun _ h => h
  fn := fun _ h1 h2 => V.bl.inj (h1.symm.trans h2)
  eqAt := fun _ _ h1 h2 r1 r2 => by
    subst h1 h2
    cases r1
    cases r2
    rw [← beq_decB]
    exact SeqAt.EqAt.bool_bool _ _
  rcAt := fun _ _ h1 h2 r1 r2 => by
    subst h1 h2
    cases r1
    cases r2
    rw [← beq_decB]
    exact SeqAt.RcAt.bool_bool _ _
  neAt := fun _ _ h1 h2 r1 r2 => by
    subst h1 h2
    cases r1
    cases r2
    rw [← beq_decB]
    exact SeqAt.RcNeAt.bool_bool _ _
end L2
namespace Bk
open Mx
abbrev Room := List (Int × Int)
abbrev Ords := List (List Int)
def lt : List Int → List Int → Prop
  | [], [] => False
  | [], _ :: _ => True
  | _ :: _, [] => False
  | a :: as, b :: bs => a < b ∨ (a = b ∧ lt as bs)
theorem lt_irrefl : ∀ a : List Int, ¬ lt a a
  | [], h => h
  | a :: as, h => by
    rcases h with h | ⟨_, h⟩
    · omega
    · exact lt_irrefl as h
theorem lt_trans : ∀ {a b c : List Int}, lt a b → lt b c → lt a c
  | [], [], _, h, _ => h.elim
  | [], _ :: _, [], _, h => h.elim
  | [], _ :: _, _ :: _, _, _ => trivial
  | _ :: _, [], _, h, _ => h.elim
  | _ :: _, _ :: _, [], _, h => h.elim
  | a :: as, b :: bs, c :: cs, h1, h2 => by
    rcases h1 with h1 | ⟨rfl, h1⟩
    · rcases h2 with h2 | ⟨rfl, h2⟩
      · exact .inl (by omega)
      · exact .inl h1
    · rcases h2 with h2 | ⟨rfl, h2⟩
      · exact .inl h2
      · exact .inr ⟨rfl, lt_trans h1 h2⟩
theorem lt_asymm {a b : List Int} (h : lt a b) (h' : lt b a) : False := lt_irrefl a (lt_trans h h')
def Rising (os : Ords) : Prop := os.Pairwise lt
theorem Rising.nodup {os : Ords} (h : Rising os) : os.Nodup := by
  unfold List.Nodup
  refine List.Pairwise.imp (R := lt) ?_ h
  intro a b h e
  subst e
  exact lt_irrefl _ h
theorem flatMap_eq {α β : Type} {f g : α → List β} : ∀ {l : List α}, (∀ a ∈ l, f a = g a) → l.flatMap f = l.flatMap g
  | [], _ => rfl
  | a :: l, h => by rw [List.flatMap_cons, List.flatMap_cons, h a List.mem_cons_self, flatMap_eq fun b hb => h b (List.mem_cons_of_mem _ hb)]
theorem Rising.eq {xs ys : Ords} (hx : Rising xs) (hy : Rising ys) (h : ∀ o, o ∈ xs ↔ o ∈ ys) : xs = ys := by
  have p : xs.Perm ys := (List.perm_ext_iff_of_nodup hx.nodup hy.nodup).mpr h
  exact List.Perm.eq_of_pairwise (fun a b _ _ h1 h2 => (lt_asymm h1 h2).elim) hx hy p
def rest1 (t : Int) : List Int → Option (List Int)
  | x :: r => if x = t then some r else none
  | [] => none
def rests (t : Int) (os : Ords) : Ords := os.filterMap (rest1 t)
theorem mem_rests {t : Int} {os : Ords} {r : List Int} : r ∈ rests t os ↔ t :: r ∈ os := by
  simp only [rests, List.mem_filterMap]
  constructor
  · rintro ⟨o, ho, h⟩
    cases o with
    | nil => cases h
    | cons x r' =>
      simp only [rest1] at h
      split at h
      · rename_i e
        cases h
        subst e
        exact ho
      · cases h
  · intro h
    exact ⟨_, h, by simp [rest1]⟩
def heads (os : Ords) : List Int := (upto 8).filter fun t => !(rests t os).isEmpty
theorem mem_heads {t : Int} {os : Ords} : t ∈ heads os ↔ (0 ≤ t ∧ t < 8) ∧ ∃ r, t :: r ∈ os := by
  rw [heads, List.mem_filter, mem_upto]
  constructor
  · rintro ⟨h1, h2⟩
    refine ⟨by simpa using h1, ?_⟩
    cases e : rests t os with
    | nil => rw [e] at h2; cases h2
    | cons r rs => exact ⟨r, mem_rests.mp (by rw [e]; exact List.mem_cons_self)⟩
  · rintro ⟨h1, r, h2⟩
    refine ⟨by simpa using h1, ?_⟩
    have := mem_rests.mpr h2
    cases e : rests t os with
    | nil => rw [e] at this; cases this
    | cons r rs => rfl
theorem heads_rising (os : Ords) : (heads os).Pairwise (· < ·) := by
  unfold heads
  refine List.Pairwise.filter _ ?_
  unfold upto
  rw [List.pairwise_map]
  exact (List.pairwise_lt_range (n := 8)).imp (fun h => by omega)
def Like (os os' : Ords) : Prop := ∀ o, o ∈ os ↔ o ∈ os'
theorem Like.rests {os os' : Ords} (h : Like os os') (t : Int) : Like (rests t os) (rests t os') := fun o => by rw [mem_rests, mem_rests]; exact h _
theorem filter_eq {α : Type} {p q : α → Bool} : ∀ {l : List α}, (∀ a ∈ l, p a = q a) → l.filter p = l.filter q
  | [], _ => rfl
  | a :: l, h => by
    have ih := filter_eq (l := l) fun b hb => h b (List.mem_cons_of_mem _ hb)
    rw [List.filter_cons, List.filter_cons, h a List.mem_cons_self, ih]
theorem Like.heads {os os' : Ords} (h : Like os os') : heads os = heads os' := by
  unfold Bk.heads
  refine filter_eq fun t _ => ?_
  have hr := h.rests t
  cases e : Bk.rests t os with
  | nil =>
    cases e' : Bk.rests t os' with
    | nil => rfl
    | cons r rs =>
      have := (hr r).mpr (by rw [e']; exact List.mem_cons_self)
      rw [e] at this
      cases this
  | cons r rs =>
    cases e' : Bk.rests t os' with
    | nil =>
      have := (hr r).mp (by rw [e]; exact List.mem_cons_self)
      rw [e'] at this
      cases this
    | cons r rs => rfl
def keep (rs : List Room) (r : Room) : Nat × List Room := if r ∈ rs then (rs.idxOf r + 2, rs) else (rs.length + 2, rs ++ [r])
def layD (f : Ords → List Room → Nat × List Room) (os : Ords) : List Int → List Room → Room × List Room
  | [], rs => ([], rs)
  | t :: ts, rs => ((t, ((f (rests t os) rs).1 : Int)) :: (layD f os ts (f (rests t os) rs).2).1, (layD f os ts (f (rests t os) rs).2).2)
def lay : Nat → Ords → List Room → Nat × List Room
  | 0, _, rs => (1, rs)
  | n + 1, os, rs => keep (layD (lay n) os (heads os) rs).2 (layD (lay n) os (heads os) rs).1
theorem layD_like {f : Ords → List Room → Nat × List Room} {os os' : Ords} (hf : ∀ o o' rs, Like o o' → f o rs = f o' rs) (h : Like os os') : ∀ ts rs, layD f os ts rs = layD f os' ts rs
  | [], _ => rfl
  | t :: ts, rs => by
    have e := hf _ _ rs (h.rests t)
    unfold layD
    rw [e, layD_like hf h ts]
theorem lay_like : ∀ (n : Nat) {os os' : Ords} (rs : List Room), Like os os' → lay n os rs = lay n os' rs
  | 0, _, _, _, _ => rfl
  | n + 1, os, os', rs, h => by
    unfold lay
    rw [h.heads, layD_like (fun o o' rs h => lay_like n rs h) h]
theorem keep_spec (rs : List Room) (r : Room) : ∃ i, (keep rs r).1 = i + 2 ∧ (keep rs r).2[i]? = some r ∧ i < (keep rs r).2.length ∧ rs <+: (keep rs r).2 := by
  unfold keep
  split
  · rename_i h
    refine ⟨rs.idxOf r, rfl, ?_, List.idxOf_lt_length_of_mem h, List.prefix_rfl⟩
    rw [List.getElem?_eq_getElem (List.idxOf_lt_length_of_mem h), List.getElem_idxOf]
  · exact ⟨rs.length, rfl, by simp, by simp, List.prefix_append _ _⟩
theorem keep_cases (rs : List Room) (r : Room) : (keep rs r).2 = rs ∨ (r ∉ rs ∧ (keep rs r).2 = rs ++ [r] ∧ (keep rs r).1 = rs.length + 2) := by
  unfold keep
  split
  · exact .inl rfl
  · rename_i h
    exact .inr ⟨h, rfl, rfl⟩
def stepRows (rows : List Ords) (r : Room) : List Ords := rows ++ [r.flatMap fun d => (rows.getD d.2.toNat []).map (d.1 :: ·)]
def rowsAll (rs : List Room) : List Ords := rs.foldl stepRows [[], [[]]]
def sem (rs : List Room) (k : Nat) : Ords := (rowsAll rs).getD k []
theorem foldl_len : ∀ (rs : List Room) (a : List Ords), (rs.foldl stepRows a).length = a.length + rs.length
  | [], _ => rfl
  | r :: rs, a => by
    rw [List.foldl_cons, foldl_len rs]
    simp [stepRows]
    omega
theorem rowsAll_len (rs : List Room) : (rowsAll rs).length = rs.length + 2 := by
  rw [rowsAll, foldl_len]
  simp
  omega
theorem foldl_pre : ∀ (rs : List Room) (a : List Ords), a <+: rs.foldl stepRows a
  | [], _ => List.prefix_rfl
  | r :: rs, a => by
    rw [List.foldl_cons]
    exact (List.prefix_append _ _).trans (foldl_pre rs _)
theorem getD_pre {α : Type} {a b : List α} {k : Nat} {d : α} (h : a <+: b) (hk : k < a.length) : b.getD k d = a.getD k d := by
  obtain ⟨c, rfl⟩ := h
  rw [List.getD_eq_getElem?_getD, List.getD_eq_getElem?_getD, List.getElem?_append_left hk]
theorem sem_pre {rs rs' : List Room} {k : Nat} (h : rs <+: rs') (hk : k < rs.length + 2) : sem rs' k = sem rs k := by
  obtain ⟨m, rfl⟩ := h
  unfold sem rowsAll
  rw [List.foldl_append]
  exact getD_pre (foldl_pre m _) (by have := rowsAll_len rs; unfold rowsAll at this; omega)
theorem sem_room {rs : List Room} {i : Nat} {r : Room} (h : rs[i]? = some r) (hd : ∀ d ∈ r, d.2.toNat < i + 2) : sem rs (i + 2) = r.flatMap fun d => (sem rs d.2.toNat).map (d.1 :: ·) := by
  obtain ⟨hi, e⟩ := List.getElem?_eq_some_iff.mp h
  have e1 : rs = rs.take i ++ (r :: rs.drop (i + 1)) := by
    rw [← e, List.getElem_cons_drop, List.take_append_drop]
  have p1 : rs.take i <+: rs := List.take_prefix _ _
  have p2 : rs.take i ++ [r] <+: rs := ⟨rs.drop (i + 1), by rw [List.append_assoc]; exact e1.symm⟩
  have l1 : (rs.take i).length = i := by rw [List.length_take]; omega
  rw [sem_pre p2 (by rw [List.length_append, l1]; simp)]
  have e2 : rowsAll (rs.take i ++ [r]) = stepRows (rowsAll (rs.take i)) r := by
    unfold rowsAll
    rw [List.foldl_append]
    rfl
  unfold sem
  rw [e2]
  unfold stepRows
  rw [List.getD_eq_getElem?_getD, List.getElem?_append_right (by rw [rowsAll_len, l1]; exact Nat.le_refl _), rowsAll_len, l1]
  simp only [Nat.sub_self, List.getElem?_cons_zero, Option.getD_some]
  refine flatMap_eq fun d hd' => ?_
  have := sem_pre p1 (k := d.2.toNat) (by rw [l1]; exact hd d hd')
  unfold sem at this
  rw [← this]
theorem sem_one (rs : List Room) : sem rs 1 = [[]] := by rw [sem_pre (rs := []) (List.nil_prefix) (by simp)]; rfl
theorem sem_zero (rs : List Room) : sem rs 0 = [] := by rw [sem_pre (rs := []) (List.nil_prefix) (by simp)]; rfl
structure Room.Ok (i : Nat) (r : Room) : Prop where
  ne : r ≠ []
  ahead : ∀ d ∈ r, 1 ≤ d.2 ∧ d.2 < (i : Int) + 2
  rise : (r.map (·.1)).Pairwise (· < ·)
def WF (rs : List Room) : Prop := ∀ i r, rs[i]? = some r → Room.Ok i r
theorem WF.snoc {rs : List Room} {r : Room} (h : WF rs) (hr : Room.Ok rs.length r) : WF (rs ++ [r]) := fun i r' e => by
  by_cases hi : i < rs.length
  · rw [List.getElem?_append_left hi] at e
    exact h i r' e
  · have hl : i < (rs ++ [r]).length := (List.getElem?_eq_some_iff.mp e).1
    rw [List.length_append] at hl
    have : i = rs.length := by simp at hl; omega
    subst this
    rw [List.getElem?_append_right (Nat.le_refl _)] at e
    simp at e
    subst e
    exact hr
structure Tells (rs : List Room) (k : Nat) (os : Ords) : Prop where
  lo : 1 ≤ k
  hi : k < rs.length + 2
  rise : Rising (sem rs k)
  mem : Like (sem rs k) os
theorem Tells.pre {rs rs' : List Room} {k : Nat} {os : Ords} (t : Tells rs k os) (h : rs <+: rs') : Tells rs' k os := by
  have e := sem_pre h t.hi
  have hl := h.length_le
  exact ⟨t.lo, by have := t.hi; omega, by rw [e]; exact t.rise, by rw [e]; exact t.mem⟩
structure Doors (rs : List Room) (os : Ords) (ts : List Int) (ds : Room) : Prop where
  things : ds.map (·.1) = ts
  tells : ∀ d ∈ ds, 1 ≤ d.2 ∧ Tells rs d.2.toNat (rests d.1 os)
def Lays (f : Ords → List Room → Nat × List Room) (n : Nat) : Prop := ∀ (os : Ords) (rs : List Room), (∀ o ∈ os, o.length = n ∧ ∀ x ∈ o, 0 ≤ x ∧ x < 8) → os ≠ [] → WF rs → WF (f os rs).2 ∧ rs <+: (f os rs).2 ∧ Tells (f os rs).2 (f os rs).1 os
theorem layD_spec {f : Ords → List Room → Nat × List Room} {n : Nat} {os : Ords} (hf : Lays f n) (hos : ∀ o ∈ os, o.length = n + 1 ∧ ∀ x ∈ o, 0 ≤ x ∧ x < 8) :
    ∀ (ts : List Int) (rs : List Room), (∀ t ∈ ts, t ∈ heads os) → WF rs → WF (layD f os ts rs).2 ∧ rs <+: (layD f os ts rs).2 ∧ Doors (layD f os ts rs).2 os ts (layD f os ts rs).1
  | [], rs, _, h => ⟨h, List.prefix_rfl, rfl, fun d hd => by cases hd⟩
  | t :: ts, rs, ht, h => by
    obtain ⟨_, r, hr⟩ := mem_heads.mp (ht t List.mem_cons_self)
    obtain ⟨w1, p1, t1⟩ := hf (rests t os) rs (fun o ho => by
      have := hos _ (mem_rests.mp ho)
      exact ⟨by simpa using this.1, fun x hx => this.2 x (List.mem_cons_of_mem _ hx)⟩) (fun e => by
      have := mem_rests.mpr hr
      rw [e] at this
      cases this) h
    obtain ⟨w2, p2, d2⟩ := layD_spec hf hos ts (f (rests t os) rs).2 (fun t' h' => ht t' (List.mem_cons_of_mem _ h')) w1
    unfold layD
    refine ⟨w2, p1.trans p2, by simp [d2.things], fun d hd => ?_⟩
    rcases List.mem_cons.mp hd with rfl | hd
    · refine ⟨by have := t1.lo; simp; omega, ?_⟩
      simp only [Int.toNat_natCast]
      exact t1.pre p2
    · exact d2.tells d hd
theorem rise_cons {t : Int} {os : Ords} (h : Rising os) : Rising (os.map (t :: ·)) := by
  unfold Rising at h ⊢
  rw [List.pairwise_map]
  exact h.imp fun h => .inr ⟨rfl, h⟩
theorem rise_flat {g : Int × Int → Ords} : ∀ {r : Room}, (r.map (·.1)).Pairwise (· < ·) → (∀ d ∈ r, Rising (g d)) → Rising (r.flatMap fun d => (g d).map (d.1 :: ·))
  | [], _, _ => List.Pairwise.nil
  | d :: r, h, hg => by
    rw [List.map_cons, List.pairwise_cons] at h
    rw [List.flatMap_cons]
    unfold Rising
    rw [List.pairwise_append]
    refine ⟨rise_cons (hg d List.mem_cons_self), rise_flat h.2 fun d' hd' => hg d' (List.mem_cons_of_mem _ hd'), ?_⟩
    intro a ha b hb
    obtain ⟨a', _, rfl⟩ := List.mem_map.mp ha
    obtain ⟨d', hd', hb⟩ := List.mem_flatMap.mp hb
    obtain ⟨b', _, rfl⟩ := List.mem_map.mp hb
    exact .inl (h.1 d'.1 (List.mem_map.mpr ⟨d', hd', rfl⟩))
theorem lay_spec : ∀ n, Lays (lay n) n
  | 0 => fun os rs hos hne h => by
    refine ⟨h, List.prefix_rfl, Nat.le_refl _, by show 1 < rs.length + 2; omega, ?_, ?_⟩
    · show Rising (sem rs 1)
      rw [sem_one]
      exact List.pairwise_singleton _ _
    · show Like (sem rs 1) os
      rw [sem_one]
      intro o
      constructor
      · intro ho
        rw [List.mem_singleton.mp ho]
        cases os with
        | nil => exact absurd rfl hne
        | cons a os =>
          have := (hos a List.mem_cons_self).1
          rw [List.length_eq_zero_iff.mp this]
          exact List.mem_cons_self
      · intro ho
        rw [List.length_eq_zero_iff.mp (hos o ho).1]
        exact List.mem_singleton_self _
  | n + 1 => fun os rs hos hne h => by
    obtain ⟨w1, p1, d1⟩ := layD_spec (lay_spec n) hos (heads os) rs (fun t ht => ht) h
    unfold lay
    generalize (layD (lay n) os (heads os) rs).2 = rs1 at *
    generalize (layD (lay n) os (heads os) rs).1 = ds at *
    have rise : (ds.map (·.1)).Pairwise (· < ·) := by rw [d1.things]; exact heads_rising os
    have dne : ds ≠ [] := by
      intro e
      cases os with
      | nil => exact absurd rfl hne
      | cons a os =>
        have ha := hos a List.mem_cons_self
        cases a with
        | nil => cases ha.1
        | cons x r =>
          have hx : x ∈ heads ((x :: r) :: os) := mem_heads.mpr ⟨ha.2 x List.mem_cons_self, r, List.mem_cons_self⟩
          rw [← d1.things, e] at hx
          cases hx
    obtain ⟨i, k1, k2, k3, k4⟩ := keep_spec rs1 ds
    have w2 : WF (keep rs1 ds).2 := by
      rcases keep_cases rs1 ds with e | ⟨_, e, _⟩
      · rw [e]; exact w1
      · rw [e]
        refine w1.snoc ⟨dne, fun d hd => ?_, rise⟩
        have := d1.tells d hd
        have h2 := this.2.hi
        exact ⟨this.1, by omega⟩
    refine ⟨w2, p1.trans k4, ?_⟩
    have hsem : sem (keep rs1 ds).2 (i + 2) = ds.flatMap fun d => (sem (keep rs1 ds).2 d.2.toNat).map (d.1 :: ·) :=
      sem_room k2 fun d hd => by
        have := (w2 i ds k2).ahead d hd
        omega
    rw [k1]
    refine ⟨by omega, by omega, ?_, ?_⟩
    · rw [hsem]
      exact rise_flat rise fun d hd => ((d1.tells d hd).2.pre k4).rise
    · rw [hsem]
      intro o
      rw [List.mem_flatMap]
      constructor
      · rintro ⟨d, hd, ho⟩
        obtain ⟨o', ho', rfl⟩ := List.mem_map.mp ho
        exact mem_rests.mp ((((d1.tells d hd).2.pre k4).mem o').mp ho')
      · intro ho
        have h1 := hos o ho
        cases o with
        | nil => cases h1.1
        | cons x r =>
          have hx : x ∈ heads os := mem_heads.mpr ⟨h1.2 x List.mem_cons_self, r, ho⟩
          rw [← d1.things] at hx
          obtain ⟨d, hd, rfl⟩ := List.mem_map.mp hx
          exact ⟨d, hd, List.mem_map.mpr ⟨r, (((d1.tells d hd).2.pre k4).mem r).mpr (mem_rests.mpr ho), rfl⟩⟩
end Bk
namespace Bk
open Mx
def Ends (rs : List Room) (p : Nat × List Room) : Prop := (p.2 = rs ∧ p.1 < rs.length + 2) ∨ (p.1 = p.2.length + 1 ∧ rs.length < p.2.length)
def EndsD (rs : List Room) (p : Room × List Room) : Prop := p.2 = rs ∨ (rs.length < p.2.length ∧ ∃ d ∈ p.1, d.2 = ((p.2.length + 1 : Nat) : Int))
theorem layD_ends {f : Ords → List Room → Nat × List Room} {n : Nat} {os : Ords} (hf : Lays f n) (he : ∀ (os : Ords) (rs : List Room), (∀ o ∈ os, o.length = n ∧ ∀ x ∈ o, 0 ≤ x ∧ x < 8) → os ≠ [] → WF rs → Ends rs (f os rs)) (hos : ∀ o ∈ os, o.length = n + 1 ∧ ∀ x ∈ o, 0 ≤ x ∧ x < 8) :
    ∀ (ts : List Int) (rs : List Room), (∀ t ∈ ts, t ∈ heads os) → WF rs → EndsD rs (layD f os ts rs)
  | [], rs, _, _ => .inl rfl
  | t :: ts, rs, ht, h => by
    obtain ⟨_, r, hr⟩ := mem_heads.mp (ht t List.mem_cons_self)
    have ho : ∀ o ∈ rests t os, o.length = n ∧ ∀ x ∈ o, 0 ≤ x ∧ x < 8 := fun o ho => by
      have := hos _ (mem_rests.mp ho)
      exact ⟨by simpa using this.1, fun x hx => this.2 x (List.mem_cons_of_mem _ hx)⟩
    have hne : rests t os ≠ [] := fun e => by
      have := mem_rests.mpr hr
      rw [e] at this
      cases this
    obtain ⟨w1, p1, t1⟩ := hf (rests t os) rs ho hne h
    have e1 := he (rests t os) rs ho hne h
    have e2 := layD_ends hf he hos ts (f (rests t os) rs).2 (fun t' h' => ht t' (List.mem_cons_of_mem _ h')) w1
    unfold layD
    rcases e2 with e2 | ⟨l2, d, hd, e2⟩
    · rcases e1 with ⟨e1, _⟩ | ⟨e1, l1⟩
      · exact .inl (e2.trans e1)
      · refine .inr ⟨by rw [e2]; exact l1, _, List.mem_cons_self, ?_⟩
        show ((f (rests t os) rs).1 : Int) = _
        rw [e2, e1]
    · exact .inr ⟨Nat.lt_of_le_of_lt p1.length_le l2, d, List.mem_cons_of_mem _ hd, e2⟩
theorem lay_ends : ∀ (n : Nat) (os : Ords) (rs : List Room), (∀ o ∈ os, o.length = n ∧ ∀ x ∈ o, 0 ≤ x ∧ x < 8) → os ≠ [] → WF rs → Ends rs (lay n os rs)
  | 0, os, rs, _, _, _ => .inl ⟨rfl, by show 1 < rs.length + 2; omega⟩
  | n + 1, os, rs, hos, hne, h => by
    have e := layD_ends (lay_spec n) (lay_ends n) hos (heads os) rs (fun t ht => ht) h
    obtain ⟨w1, p1, d1⟩ := layD_spec (lay_spec n) hos (heads os) rs (fun t ht => ht) h
    have lp := p1.length_le
    unfold lay
    generalize (layD (lay n) os (heads os) rs) = p at *
    obtain ⟨ds, rs1⟩ := p
    dsimp only at *
    rcases keep_cases rs1 ds with k | ⟨_, k, k'⟩
    · obtain ⟨i, k1, k2, k3, _⟩ := keep_spec rs1 ds
      rw [k] at k2 k3
      rcases e with e | ⟨l, d, hd, e⟩
      · have e : rs1 = rs := e
        exact .inl ⟨by rw [k]; exact e, by rw [k1, ← e]; omega⟩
      · have := (w1 i ds k2).ahead d hd
        have e : d.2 = ((rs1.length + 1 : Nat) : Int) := e
        omega
    · refine .inr ⟨by rw [k, k']; simp, by rw [k]; simp; omega⟩
theorem keep_nodup {rs : List Room} {r : Room} (h : rs.Nodup) : (keep rs r).2.Nodup := by
  rcases keep_cases rs r with e | ⟨hn, e, _⟩
  · rw [e]; exact h
  · rw [e, List.nodup_append]
    refine ⟨h, by simp, ?_⟩
    intro a ha b hb
    rw [List.mem_singleton.mp hb]
    rintro rfl
    exact hn ha
theorem layD_nodup {f : Ords → List Room → Nat × List Room} {os : Ords} (hf : ∀ os rs, rs.Nodup → (f os rs).2.Nodup) : ∀ ts rs, rs.Nodup → (layD f os ts rs).2.Nodup
  | [], _, h => h
  | t :: ts, rs, h => by
    unfold layD
    exact layD_nodup hf ts _ (hf _ _ h)
theorem lay_nodup : ∀ (n : Nat) (os : Ords) (rs : List Room), rs.Nodup → (lay n os rs).2.Nodup
  | 0, _, _, h => h
  | n + 1, os, rs, h => by
    unfold lay
    exact keep_nodup (layD_nodup (lay_nodup n) _ _ h)
def roomAt (rs : List Room) (k : Int) : Room := (rs[(k - 2).toNat]?).getD []
def walk : Nat → List Room → Int → List Int → List Int
  | 0, _, _, w => w
  | n + 1, rs, k, w => if k ∈ w then w else (roomAt rs k).foldl (fun w d => walk n rs d.2 w) w ++ [k]
theorem walk_in {n : Nat} {rs : List Room} {k : Int} {w : List Int} (h : k ∈ w) : walk n rs k w = w := by
  cases n with
  | zero => rfl
  | succ n => unfold walk; rw [if_pos h]
theorem upto_succ (n : Nat) : upto (n + 1) = upto n ++ [(n : Int)] := by unfold upto; rw [List.range_succ]; simp
def WalksAs (f : Ords → List Room → Nat × List Room) (n : Nat) : Prop := ∀ (os : Ords) (rs all : List Room), (∀ o ∈ os, o.length = n ∧ ∀ x ∈ o, 0 ≤ x ∧ x < 8) → os ≠ [] → WF rs → (f os rs).2 <+: all → ∀ m, n ≤ m →
  walk m all ((f os rs).1 : Int) (upto (rs.length + 2)) = upto ((f os rs).2.length + 2)
theorem walkD {f : Ords → List Room → Nat × List Room} {n m : Nat} {os : Ords} {all : List Room} (hf : Lays f n) (hw : WalksAs f n) (hm : n ≤ m) (hos : ∀ o ∈ os, o.length = n + 1 ∧ ∀ x ∈ o, 0 ≤ x ∧ x < 8) :
    ∀ (ts : List Int) (rs : List Room), (∀ t ∈ ts, t ∈ heads os) → WF rs → (layD f os ts rs).2 <+: all →
      (layD f os ts rs).1.foldl (fun w d => walk m all d.2 w) (upto (rs.length + 2)) = upto ((layD f os ts rs).2.length + 2)
  | [], rs, _, _, _ => rfl
  | t :: ts, rs, ht, h, pa => by
    obtain ⟨_, r, hr⟩ := mem_heads.mp (ht t List.mem_cons_self)
    have ho : ∀ o ∈ rests t os, o.length = n ∧ ∀ x ∈ o, 0 ≤ x ∧ x < 8 := fun o ho => by
      have := hos _ (mem_rests.mp ho)
      exact ⟨by simpa using this.1, fun x hx => this.2 x (List.mem_cons_of_mem _ hx)⟩
    have hne : rests t os ≠ [] := fun e => by
      have := mem_rests.mpr hr
      rw [e] at this
      cases this
    obtain ⟨w1, p1, t1⟩ := hf (rests t os) rs ho hne h
    obtain ⟨_, p2, _⟩ := layD_spec hf hos ts (f (rests t os) rs).2 (fun t' h' => ht t' (List.mem_cons_of_mem _ h')) w1
    unfold layD at pa ⊢
    rw [List.foldl_cons]
    have e := hw (rests t os) rs all ho hne h (p2.trans pa) m hm
    dsimp only at e ⊢
    rw [e]
    exact walkD hf hw hm hos ts _ (fun t' h' => ht t' (List.mem_cons_of_mem _ h')) w1 pa
theorem lay_walk : ∀ n, WalksAs (lay n) n
  | 0 => fun os rs all _ _ _ _ m _ => by
    show walk m all 1 (upto (rs.length + 2)) = upto (rs.length + 2)
    exact walk_in (mem_upto.mpr ⟨by omega, by omega⟩)
  | n + 1 => fun os rs all hos hne h pa m hm => by
    have he := lay_ends (n + 1) os rs hos hne h
    rcases he with ⟨e1, e2⟩ | ⟨e1, e2⟩
    · rw [e1]
      exact walk_in (mem_upto.mpr ⟨by omega, by omega⟩)
    · obtain ⟨m, rfl⟩ : ∃ m', m = m' + 1 := ⟨m - 1, by omega⟩
      obtain ⟨w1, p1, d1⟩ := layD_spec (lay_spec n) hos (heads os) rs (fun t ht => ht) h
      have hin : ¬ ((lay (n + 1) os rs).1 : Int) ∈ upto (rs.length + 2) := by
        rw [mem_upto]
        omega
      unfold walk
      rw [if_neg hin]
      have hD := walkD (m := m) (all := all) (lay_spec n) (lay_walk n) (by omega) hos (heads os) rs (fun t ht => ht) h
      have lp := p1.length_le
      have eD := layD_ends (lay_spec n) (lay_ends n) hos (heads os) rs (fun t ht => ht) h
      have hk : lay (n + 1) os rs = keep (layD (lay n) os (heads os) rs).2 (layD (lay n) os (heads os) rs).1 := rfl
      rw [hk] at e1 e2 pa ⊢
      generalize (layD (lay n) os (heads os) rs) = p at *
      obtain ⟨ds, rs1⟩ := p
      dsimp only at *
      obtain ⟨i, k1, k2, k3, k4⟩ := keep_spec rs1 ds
      have hr : roomAt all ((keep rs1 ds).1 : Int) = ds := by
        unfold roomAt
        rw [k1, show (((i + 2 : Nat) : Int) - 2).toNat = i by omega]
        obtain ⟨c, rfl⟩ := pa
        rw [List.getElem?_append_left k3, k2]
        rfl
      rw [hr, hD (k4.trans pa)]
      rcases keep_cases rs1 ds with k | ⟨_, k, k'⟩
      · rw [k] at e1 e2 k2 k3
        rw [k1] at e1
        rcases eD with eD | ⟨_, d, hd, eD⟩
        · have eD : rs1 = rs := eD
          rw [eD] at e2
          omega
        · have := (w1 i ds k2).ahead d hd
          have eD : d.2 = ((rs1.length + 1 : Nat) : Int) := eD
          omega
      · rw [k, k', List.length_append]
        show upto (rs1.length + 2) ++ [((rs1.length + 2 : Nat) : Int)] = upto (rs1.length + 1 + 2)
        rw [show rs1.length + 1 + 2 = (rs1.length + 2) + 1 by omega, upto_succ (rs1.length + 2)]
def behind (r : Room) (t : Int) : Int := match r.find? (fun d => decide (d.1 = t)) with
  | some d => d.2
  | none => 0
def goes (rs : List Room) : Int → List Int → Int
  | k, [] => k
  | k, t :: o => if k = 0 then 0 else goes rs (behind (roomAt rs k) t) o
theorem goes_zero (rs : List Room) : ∀ o : List Int, goes rs 0 o = 0
  | [] => rfl
  | t :: o => by unfold goes; rw [if_pos rfl]
theorem find_rise : ∀ {r : Room} {d : Int × Int}, (r.map (·.1)).Pairwise (· < ·) → d ∈ r → r.find? (fun e => decide (e.1 = d.1)) = some d
  | e :: r, d, h, hd => by
    rw [List.map_cons, List.pairwise_cons] at h
    rcases List.mem_cons.mp hd with rfl | hd
    · simp
    · have hlt := h.1 d.1 (List.mem_map.mpr ⟨d, hd, rfl⟩)
      rw [List.find?_cons_of_neg (by simp; omega)]
      exact find_rise h.2 hd
theorem goes_iff {rs : List Room} (w : WF rs) : ∀ (o : List Int) (k : Nat), 1 ≤ k → k < rs.length + 2 → (∀ o' ∈ sem rs k, o'.length = o.length) → (goes rs (k : Int) o = 1 ↔ o ∈ sem rs k)
  | [], k, h1, hk, hl => by
    unfold goes
    constructor
    · intro e
      have : k = 1 := by omega
      subst this
      rw [sem_one]
      exact List.mem_singleton_self _
    · intro ho
      by_cases hk1 : k = 1
      · subst hk1; rfl
      · obtain ⟨i, rfl⟩ : ∃ i, k = i + 2 := ⟨k - 2, by omega⟩
        have hi : i < rs.length := by omega
        have hr : rs[i]? = some rs[i] := List.getElem?_eq_getElem hi
        rw [sem_room hr (fun d hd => by have := (w i _ hr).ahead d hd; omega)] at ho
        obtain ⟨d, _, hd⟩ := List.mem_flatMap.mp ho
        obtain ⟨o', _, e⟩ := List.mem_map.mp hd
        cases e
  | t :: o, k, h1, hk, hl => by
    by_cases hk1 : k = 1
    · subst hk1
      have := hl [] (by rw [sem_one]; exact List.mem_singleton_self _)
      cases this
    obtain ⟨i, rfl⟩ : ∃ i, k = i + 2 := ⟨k - 2, by omega⟩
    have hi : i < rs.length := by omega
    have hr : rs[i]? = some rs[i] := List.getElem?_eq_getElem hi
    have ok := w i _ hr
    have hs : sem rs (i + 2) = _ := sem_room hr (fun d hd => by have := ok.ahead d hd; omega)
    have hra : roomAt rs ((i + 2 : Nat) : Int) = rs[i] := by
      unfold roomAt
      rw [show (((i + 2 : Nat) : Int) - 2).toNat = i by omega, hr]
      rfl
    unfold goes
    rw [if_neg (by omega), hra]
    unfold behind
    cases e : rs[i].find? (fun d => decide (d.1 = t)) with
    | none =>
      dsimp only
      rw [goes_zero]
      constructor
      · intro z; cases z
      · intro ho
        rw [hs] at ho
        obtain ⟨d, hd, ho⟩ := List.mem_flatMap.mp ho
        obtain ⟨o', _, e'⟩ := List.mem_map.mp ho
        cases e'
        have := List.find?_eq_none.mp e d hd
        simp at this
    | some d =>
      dsimp only
      have hd := List.mem_of_find?_eq_some e
      have ht : d.1 = t := by simpa using List.find?_some e
      subst ht
      have ah := ok.ahead d hd
      have hc : d.2 = ((d.2.toNat : Nat) : Int) := by omega
      rw [hc, goes_iff w o d.2.toNat (by omega) (by omega) (fun o' ho' => by
        have := hl (d.1 :: o') (by rw [hs]; exact List.mem_flatMap.mpr ⟨d, hd, List.mem_map.mpr ⟨o', ho', rfl⟩⟩)
        simpa using this)]
      rw [hs]
      constructor
      · intro ho
        exact List.mem_flatMap.mpr ⟨d, hd, List.mem_map.mpr ⟨o, ho, rfl⟩⟩
      · intro ho
        obtain ⟨d', hd', ho⟩ := List.mem_flatMap.mp ho
        obtain ⟨o', ho', e'⟩ := List.mem_map.mp ho
        injection e' with e1 e2
        subst e2
        have : d' = d := by
          have h1 := find_rise ok.rise hd
          have h2 := find_rise ok.rise hd'
          rw [e1] at h2
          rw [h1] at h2
          exact (Option.some.inj h2).symm
        rw [← this]
        exact ho'
end Bk
namespace Bk
open Mx
def dmask (ms : List Nat) (d : Int × Int) : Nat := 2 ^ d.1.toNat ||| ms.getD d.2.toNat 0
def stepM (ms : List Nat) (r : Room) : List Nat := ms ++ [dmask ms (r.headD (0, 0))]
def masks (rs : List Room) : List Nat := rs.foldl stepM [0, 0]
def msk (rs : List Room) (k : Nat) : Nat := (masks rs).getD k 0
theorem foldM_len : ∀ (rs : List Room) (a : List Nat), (rs.foldl stepM a).length = a.length + rs.length
  | [], _ => rfl
  | r :: rs, a => by
    rw [List.foldl_cons, foldM_len rs]
    simp [stepM]
    omega
theorem masks_len (rs : List Room) : (masks rs).length = rs.length + 2 := by
  rw [masks, foldM_len]
  simp
  omega
theorem foldM_pre : ∀ (rs : List Room) (a : List Nat), a <+: rs.foldl stepM a
  | [], _ => List.prefix_rfl
  | r :: rs, a => by
    rw [List.foldl_cons]
    exact (List.prefix_append _ _).trans (foldM_pre rs _)
theorem msk_pre {rs rs' : List Room} {k : Nat} (h : rs <+: rs') (hk : k < rs.length + 2) : msk rs' k = msk rs k := by
  obtain ⟨m, rfl⟩ := h
  unfold msk masks
  rw [List.foldl_append]
  exact getD_pre (foldM_pre m _) (by have := masks_len rs; unfold masks at this; omega)
theorem msk_room {rs : List Room} {i : Nat} {d : Int × Int} {r : Room} (h : rs[i]? = some (d :: r)) (hd : d.2.toNat < i + 2) : msk rs (i + 2) = 2 ^ d.1.toNat ||| msk rs d.2.toNat := by
  obtain ⟨hi, e⟩ := List.getElem?_eq_some_iff.mp h
  have e1 : rs = rs.take i ++ ((d :: r) :: rs.drop (i + 1)) := by
    rw [← e, List.getElem_cons_drop, List.take_append_drop]
  have p1 : rs.take i <+: rs := List.take_prefix _ _
  have p2 : rs.take i ++ [d :: r] <+: rs := ⟨rs.drop (i + 1), by rw [List.append_assoc]; exact e1.symm⟩
  have l1 : (rs.take i).length = i := by rw [List.length_take]; omega
  rw [msk_pre p2 (by rw [List.length_append, l1]; simp), msk_pre p1 (k := d.2.toNat) (by rw [l1]; exact hd)]
  have e2 : masks (rs.take i ++ [d :: r]) = stepM (masks (rs.take i)) (d :: r) := by
    unfold masks
    rw [List.foldl_append]
    rfl
  unfold msk
  rw [e2]
  unfold stepM
  rw [List.getD_eq_getElem?_getD, List.getElem?_append_right (by rw [masks_len, l1]; exact Nat.le_refl _), masks_len, l1]
  simp only [Nat.sub_self, List.getElem?_cons_zero, Option.getD_some]
  rfl
theorem msk_one (rs : List Room) : msk rs 1 = 0 := by rw [msk_pre (rs := []) (List.nil_prefix) (by simp)]; rfl
def MOk (rs : List Room) : Prop := ∀ i r, rs[i]? = some r → ∀ d ∈ r, 0 ≤ d.1 ∧ d.1 < 8 ∧ (msk rs d.2.toNat).testBit d.1.toNat = false ∧ 2 ^ d.1.toNat ||| msk rs d.2.toNat = msk rs (i + 2)
def Has (rs : List Room) (k : Nat) (S : Int → Prop) : Prop := ∀ i : Nat, (msk rs k).testBit i = true ↔ S (i : Int)
theorem Has.pre {rs rs' : List Room} {k : Nat} {S : Int → Prop} (h : Has rs k S) (p : rs <+: rs') (hk : k < rs.length + 2) : Has rs' k S := fun i => by rw [msk_pre p hk]; exact h i
def Sets (n : Nat) (S : Int → Prop) (os : Ords) : Prop := ∀ o ∈ os, o.length = n ∧ (∀ x ∈ o, 0 ≤ x ∧ x < 8) ∧ o.Nodup ∧ ∀ x, x ∈ o ↔ S x
theorem Sets.plain {n : Nat} {S : Int → Prop} {os : Ords} (h : Sets n S os) : ∀ o ∈ os, o.length = n ∧ ∀ x ∈ o, 0 ≤ x ∧ x < 8 := fun o ho => ⟨(h o ho).1, (h o ho).2.1⟩
theorem Sets.rests {n : Nat} {S : Int → Prop} {os : Ords} (h : Sets (n + 1) S os) (t : Int) : Sets n (fun x => S x ∧ x ≠ t) (rests t os) := fun r hr => by
  obtain ⟨h1, h2, h3, h4⟩ := h _ (mem_rests.mp hr)
  rw [List.nodup_cons] at h3
  refine ⟨by simpa using h1, fun x hx => h2 x (List.mem_cons_of_mem _ hx), h3.2, fun x => ?_⟩
  constructor
  · intro hx
    refine ⟨(h4 x).mp (List.mem_cons_of_mem _ hx), ?_⟩
    rintro rfl
    exact h3.1 hx
  · rintro ⟨hx, hn⟩
    rcases List.mem_cons.mp ((h4 x).mpr hx) with e | e
    · exact absurd e hn
    · exact e
def LaysM (f : Ords → List Room → Nat × List Room) (n : Nat) : Prop := ∀ (S : Int → Prop) (os : Ords) (rs : List Room), Sets n S os → os ≠ [] → WF rs → MOk rs → MOk (f os rs).2 ∧ Has (f os rs).2 (f os rs).1 S
theorem layD_mask {f : Ords → List Room → Nat × List Room} {n : Nat} {S : Int → Prop} {os : Ords} (hf : Lays f n) (hm : LaysM f n) (hos : Sets (n + 1) S os) :
    ∀ (ts : List Int) (rs : List Room), (∀ t ∈ ts, t ∈ heads os) → WF rs → MOk rs → MOk (layD f os ts rs).2 ∧ ∀ d ∈ (layD f os ts rs).1, (0 ≤ d.1 ∧ d.1 < 8) ∧ S d.1 ∧ Has (layD f os ts rs).2 d.2.toNat (fun x => S x ∧ x ≠ d.1)
  | [], rs, _, _, m => ⟨m, fun d hd => by cases hd⟩
  | t :: ts, rs, ht, h, m => by
    obtain ⟨tb, r, hr⟩ := mem_heads.mp (ht t List.mem_cons_self)
    have hne : rests t os ≠ [] := fun e => by
      have := mem_rests.mpr hr
      rw [e] at this
      cases this
    obtain ⟨w1, p1, t1⟩ := hf (rests t os) rs (hos.rests t).plain hne h
    obtain ⟨m1, s1⟩ := hm _ (rests t os) rs (hos.rests t) hne h m
    have ht' : ∀ t' ∈ ts, t' ∈ heads os := fun t' h' => ht t' (List.mem_cons_of_mem _ h')
    obtain ⟨_, p2, _⟩ := layD_spec hf hos.plain ts (f (rests t os) rs).2 ht' w1
    obtain ⟨m2, s2⟩ := layD_mask hf hm hos ts (f (rests t os) rs).2 ht' w1 m1
    unfold layD
    refine ⟨m2, fun d hd => ?_⟩
    rcases List.mem_cons.mp hd with rfl | hd
    · refine ⟨tb, ((hos _ hr).2.2.2 t).mp List.mem_cons_self, ?_⟩
      simp only [Int.toNat_natCast]
      exact s1.pre p2 t1.hi
    · exact s2 d hd
theorem bit_or {t : Int} {m : Nat} {S : Int → Prop} (h0 : 0 ≤ t) (hS : S t) (h : ∀ i : Nat, m.testBit i = true ↔ (S (i : Int) ∧ (i : Int) ≠ t)) : ∀ i : Nat, (2 ^ t.toNat ||| m).testBit i = true ↔ S (i : Int) := fun i => by
  rw [Nat.testBit_or, Bool.or_eq_true, Nat.testBit_two_pow, decide_eq_true_iff, h i]
  constructor
  · rintro (e | ⟨e, _⟩)
    · have : (i : Int) = t := by omega
      rw [this]; exact hS
    · exact e
  · intro e
    by_cases z : (i : Int) = t
    · exact .inl (by omega)
    · exact .inr ⟨e, z⟩
theorem mask_eq {a b : Nat} {S : Int → Prop} (ha : ∀ i : Nat, a.testBit i = true ↔ S (i : Int)) (hb : ∀ i : Nat, b.testBit i = true ↔ S (i : Int)) : a = b := by
  refine Nat.eq_of_testBit_eq fun i => ?_
  rw [Bool.eq_iff_iff, ha, hb]
theorem lay_mask : ∀ n, LaysM (lay n) n
  | 0 => fun S os rs hos hne _ m => by
    refine ⟨m, fun i => ?_⟩
    show (msk rs 1).testBit i = true ↔ _
    rw [msk_one]
    simp only [Nat.zero_testBit]
    constructor
    · intro z; cases z
    · intro z
      cases os with
      | nil => exact absurd rfl hne
      | cons o os =>
        obtain ⟨h1, _, _, h4⟩ := hos o List.mem_cons_self
        have := (h4 _).mpr z
        rw [List.length_eq_zero_iff.mp h1] at this
        cases this
  | n + 1 => fun S os rs hos hne h m => by
    obtain ⟨w1, p1, d1⟩ := layD_spec (lay_spec n) hos.plain (heads os) rs (fun t ht => ht) h
    obtain ⟨m1, s1⟩ := layD_mask (lay_spec n) (lay_mask n) hos (heads os) rs (fun t ht => ht) h m
    obtain ⟨w2, _, t2⟩ := lay_spec (n + 1) os rs hos.plain hne h
    have hk : lay (n + 1) os rs = keep (layD (lay n) os (heads os) rs).2 (layD (lay n) os (heads os) rs).1 := rfl
    rw [hk] at w2 t2 ⊢
    generalize (layD (lay n) os (heads os) rs) = p at *
    obtain ⟨ds, rs1⟩ := p
    dsimp only at *
    obtain ⟨i, k1, k2, k3, k4⟩ := keep_spec rs1 ds
    have ok := w2 i ds k2
    have each : ∀ d ∈ ds, ∀ j : Nat, (2 ^ d.1.toNat ||| msk rs1 d.2.toNat).testBit j = true ↔ S (j : Int) := fun d hd => bit_or (s1 d hd).1.1 (s1 d hd).2.1 (s1 d hd).2.2
    have pre : ∀ d ∈ ds, msk (keep rs1 ds).2 d.2.toNat = msk rs1 d.2.toNat := fun d hd => msk_pre k4 (d1.tells d hd).2.hi
    have hi : Has (keep rs1 ds).2 (i + 2) S := by
      cases ds with
      | nil => exact absurd rfl ok.ne
      | cons d r =>
        intro j
        rw [msk_room k2 (by have := ok.ahead d List.mem_cons_self; omega), pre d List.mem_cons_self]
        exact each d List.mem_cons_self j
    refine ⟨?_, by rw [k1]; exact hi⟩
    rcases keep_cases rs1 ds with k | ⟨_, k, k'⟩
    · rw [k]; exact m1
    · intro j r e d hd
      have ij : i = rs1.length := by omega
      by_cases hj : j < rs1.length
      · have e' := e
        rw [k, List.getElem?_append_left hj] at e'
        obtain ⟨a1, a2, a3, a4⟩ := m1 j r e' d hd
        have b1 := (w1 j r e').ahead d hd
        rw [msk_pre k4 (by omega), msk_pre k4 (by omega)]
        exact ⟨a1, a2, a3, a4⟩
      · have hl : j < (keep rs1 ds).2.length := (List.getElem?_eq_some_iff.mp e).1
        rw [k, List.length_append] at hl
        have ej : j = i := by simp at hl; omega
        subst ej
        rw [k2] at e
        cases e
        refine ⟨(s1 d hd).1.1, (s1 d hd).1.2, ?_, ?_⟩
        · rw [pre d hd]
          cases z : (msk rs1 d.2.toNat).testBit d.1.toNat with
          | false => rfl
          | true =>
            have := (((s1 d hd).2.2) d.1.toNat).mp z
            exact absurd (by have := (s1 d hd).1.1; omega) this.2
        · rw [pre d hd]
          exact mask_eq (each d hd) hi
theorem mask_all {many a : Nat} (h : ∀ i : Nat, a.testBit i = true ↔ ((0 : Int) ≤ (i : Int) ∧ (i : Int) < many)) : a = 2 ^ many - 1 := by
  refine Nat.eq_of_testBit_eq fun i => ?_
  rw [Bool.eq_iff_iff, h, Nat.testBit_two_pow_sub_one, decide_eq_true_iff]
  omega
end Bk
namespace Bk
open Mx
theorem sem_at {rs : List Room} (wf : WF rs) {k : Nat} (h2 : 2 ≤ k) (hk : k < rs.length + 2) : ∃ r, rs[k - 2]? = some r ∧ Room.Ok (k - 2) r ∧ sem rs k = r.flatMap fun d => (sem rs d.2.toNat).map (d.1 :: ·) := by
  have hi : k - 2 < rs.length := by omega
  have e := List.getElem?_eq_getElem hi
  have ok := wf _ _ e
  have := sem_room e (fun d hd => by have := ok.ahead d hd; omega)
  rw [show k - 2 + 2 = k by omega] at this
  exact ⟨_, e, ok, this⟩
theorem sem_ne {rs : List Room} (wf : WF rs) : ∀ (n k : Nat), k ≤ n → 1 ≤ k → k < rs.length + 2 → sem rs k ≠ []
  | 0, k, h, h1, _ => by omega
  | n + 1, k, h, h1, hk => by
    by_cases c : k = 1
    · subst c
      rw [sem_one]
      exact fun h => nomatch h
    obtain ⟨r, e, ok, es⟩ := sem_at wf (by omega) hk
    obtain ⟨d, hd⟩ := List.exists_mem_of_ne_nil r ok.ne
    have ah := ok.ahead d hd
    have := sem_ne wf n d.2.toNat (by omega) (by omega) (by omega)
    obtain ⟨o, ho⟩ := List.exists_mem_of_ne_nil _ this
    rw [es]
    intro hn
    have : d.1 :: o ∈ r.flatMap fun d => (sem rs d.2.toNat).map (d.1 :: ·) := List.mem_flatMap.mpr ⟨d, hd, List.mem_map.mpr ⟨o, ho, rfl⟩⟩
    rw [hn] at this
    cases this
def Fits : Nat → List Room → Int → Prop
  | 0, _, k => k = 0 ∨ k = 1
  | n + 1, rs, k => k = 0 ∨ k = 1 ∨ (2 ≤ k ∧ (k - 2).toNat < rs.length ∧ ∀ d ∈ roomAt rs k, Fits n rs d.2)
theorem Fits.up {rs : List Room} : ∀ {n : Nat} {k : Int}, Fits n rs k → Fits (n + 1) rs k
  | 0, k, h => by
    rcases h with h | h
    · exact .inl h
    · exact .inr (.inl h)
  | n + 1, k, h => by
    rcases h with h | h | ⟨h1, h2, h3⟩
    · exact .inl h
    · exact .inr (.inl h)
    · exact .inr (.inr ⟨h1, h2, fun d hd => (h3 d hd).up⟩)
theorem Fits.le {rs : List Room} {n m : Nat} {k : Int} (h : Fits n rs k) (hm : n ≤ m) : Fits m rs k := by
  induction hm with
  | refl => exact h
  | step _ ih => exact ih.up
theorem roomAt_eq {rs : List Room} {k : Int} (h : (k - 2).toNat < rs.length) : rs[(k - 2).toNat]? = some (roomAt rs k) := by
  unfold roomAt
  rw [List.getElem?_eq_getElem h]
  rfl
theorem roomAt_of {rs : List Room} {k : Nat} {r : Room} (h : rs[k - 2]? = some r) (h2 : 2 ≤ k) : roomAt rs (k : Int) = r := by
  unfold roomAt
  rw [show ((k : Int) - 2).toNat = k - 2 by omega, h]
  rfl
theorem fits_of {rs : List Room} (wf : WF rs) : ∀ (n k : Nat), 1 ≤ k → k < rs.length + 2 → (∀ o ∈ sem rs k, o.length = n) → Fits n rs (k : Int)
  | 0, k, h1, hk, hl => by
    by_cases c : k = 1
    · exact .inr (by rw [c]; rfl)
    obtain ⟨r, e, ok, es⟩ := sem_at wf (by omega) hk
    obtain ⟨o, ho⟩ := List.exists_mem_of_ne_nil _ (sem_ne wf k k (Nat.le_refl _) h1 hk)
    have l0 := hl o ho
    rw [es] at ho
    obtain ⟨d, hd, hm⟩ := List.mem_flatMap.mp ho
    obtain ⟨o', _, rfl⟩ := List.mem_map.mp hm
    exact absurd l0 (by simp)
  | n + 1, k, h1, hk, hl => by
    by_cases c : k = 1
    · exact .inr (.inl (by rw [c]; rfl))
    obtain ⟨r, e, ok, es⟩ := sem_at wf (by omega) hk
    refine .inr (.inr ⟨by omega, by omega, fun d hd => ?_⟩)
    rw [roomAt_of e (by omega)] at hd
    have ah := ok.ahead d hd
    have := fits_of wf n d.2.toNat (by omega) (by omega) fun o ho => by
      have := hl (d.1 :: o) (by rw [es]; exact List.mem_flatMap.mpr ⟨d, hd, List.mem_map.mpr ⟨o, ho, rfl⟩⟩)
      simpa using this
    rw [show ((d.2.toNat : Nat) : Int) = d.2 by omega] at this
    exact this
def GoOk (rs : List Room) : Int → List Int → Prop
  | _, [] => True
  | k, t :: o => k = 0 ∨ (2 ≤ k ∧ (k - 2).toNat < rs.length ∧ GoOk rs (behind (roomAt rs k) t) o)
theorem goOk_zero (rs : List Room) : ∀ o, GoOk rs 0 o
  | [] => trivial
  | _ :: _ => .inl rfl
theorem goOk_of {rs : List Room} (wf : WF rs) : ∀ (o : List Int) (k : Nat), 1 ≤ k → k < rs.length + 2 → (∀ o' ∈ sem rs k, o'.length = o.length) → GoOk rs (k : Int) o
  | [], _, _, _, _ => trivial
  | t :: o, k, h1, hk, hl => by
    have c : k ≠ 1 := fun c => by
      subst c
      have := hl [] (by rw [sem_one]; exact List.mem_cons_self)
      simp at this
    obtain ⟨r, e, ok, es⟩ := sem_at wf (by omega) hk
    refine .inr ⟨by omega, by omega, ?_⟩
    rw [roomAt_of e (by omega)]
    unfold behind
    cases hf : r.find? (fun d => decide (d.1 = t)) with
    | none => exact goOk_zero rs o
    | some d =>
      have hd := List.mem_of_find?_eq_some hf
      have ah := ok.ahead d hd
      have := goOk_of wf o d.2.toNat (by omega) (by omega) fun o' ho => by
        have := hl (d.1 :: o') (by rw [es]; exact List.mem_flatMap.mpr ⟨d, hd, List.mem_map.mpr ⟨o', ho, rfl⟩⟩)
        simpa using this
      rw [show ((d.2.toNat : Nat) : Int) = d.2 by omega] at this
      exact this
end Bk
namespace Bk
open Mx
def Less (m : Int) (rs : List Room) : Prop := ∀ r ∈ rs, ∀ d ∈ r, d.1 < m
theorem keep_mem {rs : List Room} {r x : Room} (h : x ∈ (keep rs r).2) : x ∈ rs ∨ x = r := by
  rcases keep_cases rs r with e | ⟨_, e, _⟩
  · rw [e] at h; exact .inl h
  · rw [e] at h
    rcases List.mem_append.mp h with h | h
    · exact .inl h
    · exact .inr (List.mem_singleton.mp h)
theorem layD_less {m : Int} {f : Ords → List Room → Nat × List Room} {os : Ords} (hf : ∀ t rs, Less m rs → Less m (f (rests t os) rs).2) :
    ∀ (ts : List Int) (rs : List Room), (∀ t ∈ ts, t < m) → Less m rs → Less m (layD f os ts rs).2 ∧ ∀ d ∈ (layD f os ts rs).1, d.1 < m
  | [], rs, _, h => ⟨h, fun d hd => by cases hd⟩
  | t :: ts, rs, ht, h => by
    obtain ⟨a1, a2⟩ := layD_less hf ts _ (fun t' h' => ht t' (List.mem_cons_of_mem _ h')) (hf t rs h)
    refine ⟨a1, fun d hd => ?_⟩
    rcases List.mem_cons.mp hd with rfl | hd
    · exact ht t List.mem_cons_self
    · exact a2 d hd
theorem lay_less {m : Int} : ∀ (n : Nat) (os : Ords) (rs : List Room), (∀ o ∈ os, ∀ x ∈ o, x < m) → Less m rs → Less m (lay n os rs).2
  | 0, _, _, _, h => h
  | n + 1, os, rs, ho, h => by
    obtain ⟨a1, a2⟩ := layD_less (m := m) (f := lay n) (os := os) (fun t rs h => lay_less n (rests t os) rs (fun o hr x hx => ho _ (mem_rests.mp hr) x (List.mem_cons_of_mem _ hx)) h) (heads os) rs (fun t ht => by
      obtain ⟨_, r, hr⟩ := mem_heads.mp ht
      exact ho _ hr t List.mem_cons_self) h
    intro r hr
    rcases keep_mem hr with hr | rfl
    · exact a1 r hr
    · exact a2
theorem keep_len (rs : List Room) (r : Room) : (keep rs r).2.length ≤ rs.length + 1 := by
  rcases keep_cases rs r with e | ⟨_, e, _⟩
  · rw [e]; omega
  · rw [e, List.length_append]; simp
def nodes : Nat → Nat
  | 0 => 0
  | n + 1 => 1 + (n + 1) * nodes n
theorem layD_len {f : Ords → List Room → Nat × List Room} {os : Ords} {b : Nat} : ∀ (ts : List Int) (rs : List Room), (∀ t ∈ ts, ∀ rs, (f (rests t os) rs).2.length ≤ rs.length + b) → (layD f os ts rs).2.length ≤ rs.length + ts.length * b
  | [], rs, _ => by show rs.length ≤ _; omega
  | t :: ts, rs, hf => by
    have h1 := layD_len ts (f (rests t os) rs).2 fun t' h' => hf t' (List.mem_cons_of_mem _ h')
    have h2 := hf t List.mem_cons_self rs
    show (layD f os ts (f (rests t os) rs).2).2.length ≤ _
    rw [List.length_cons, Nat.succ_mul]
    omega
theorem heads_few {n : Nat} {S : Int → Prop} {os : Ords} (h : Sets n S os) (ne : os ≠ []) : (heads os).length ≤ n := by
  obtain ⟨o, ho⟩ := List.exists_mem_of_ne_nil os ne
  have so := h o ho
  have nd : (heads os).Nodup := (heads_rising os).imp fun h e => absurd h (by rw [e]; omega)
  have := L2.subset_len (heads os) o nd fun t ht => by
    obtain ⟨_, r, hr⟩ := mem_heads.mp ht
    exact (so.2.2.2 t).mpr (((h _ hr).2.2.2 t).mp List.mem_cons_self)
  rw [so.1] at this
  exact this
theorem lay_nodes : ∀ (n : Nat) (S : Int → Prop) (os : Ords) (rs : List Room), Sets n S os → os ≠ [] → (lay n os rs).2.length ≤ rs.length + nodes n
  | 0, _, _, rs, _, _ => Nat.le_refl _
  | n + 1, S, os, rs, h, ne => by
    have h1 := layD_len (f := lay n) (os := os) (b := nodes n) (heads os) rs fun t ht rs => by
      obtain ⟨_, r, hr⟩ := mem_heads.mp ht
      exact lay_nodes n _ (rests t os) rs (h.rests t) (fun e => by
        have := mem_rests.mpr hr
        rw [e] at this
        cases this)
    have h2 := heads_few h ne
    have h3 := keep_len (layD (lay n) os (heads os) rs).2 (layD (lay n) os (heads os) rs).1
    have h4 : (heads os).length * nodes n ≤ (n + 1) * nodes n := Nat.mul_le_mul_right _ h2
    show (keep _ _).2.length ≤ _
    unfold nodes
    omega
end Bk
namespace Bk
open Mx
theorem room_len8 {r : Room} (rise : (r.map (·.1)).Pairwise (· < ·)) (h : ∀ d ∈ r, 0 ≤ d.1 ∧ d.1 < 8) : r.length ≤ 8 := by
  have nd : (r.map (·.1)).Nodup := rise.imp fun h e => absurd h (by rw [e]; omega)
  have := L2.subset_len (r.map (·.1)) (upto 8) nd fun x hx => by
    obtain ⟨d, hd, rfl⟩ := List.mem_map.mp hx
    exact mem_upto.mpr (h d hd)
  rw [List.length_map, upto_length] at this
  exact this
end Bk
namespace Bk
open Mx
def headIs (t : Int) (o : List Int) : Bool := match o with
  | x :: _ => decide (x = t)
  | [] => false
theorem rests_filter {t t' : Int} (h : t' ≠ t) : ∀ os : Ords, rests t' (os.filter fun o => !headIs t o) = rests t' os
  | [] => rfl
  | o :: os => by
    have ih := rests_filter h os
    unfold rests at ih ⊢
    cases o with
    | nil => rw [List.filter_cons_of_pos rfl, List.filterMap_cons, List.filterMap_cons, ih]
    | cons x o =>
      by_cases c : x = t
      · rw [List.filter_cons_of_neg (by simp [headIs, c]), ih, List.filterMap_cons]
        have : rest1 t' (x :: o) = none := if_neg (by rw [c]; exact Ne.symm h)
        rw [this]
      · rw [List.filter_cons_of_pos (by simp [headIs, c]), List.filterMap_cons, List.filterMap_cons, ih]
theorem rests_split (t : Int) : ∀ os : Ords, (rests t os).length + (os.filter fun o => !headIs t o).length ≤ os.length
  | [] => Nat.le_refl _
  | o :: os => by
    have ih := rests_split t os
    unfold rests at ih ⊢
    cases o with
    | nil =>
      rw [List.filter_cons_of_pos rfl, List.filterMap_cons]
      have : rest1 t [] = none := rfl
      rw [this]
      simp only [List.length_cons]
      omega
    | cons x o =>
      by_cases c : x = t
      · rw [List.filter_cons_of_neg (by simp [headIs, c]), List.filterMap_cons]
        have : rest1 t (x :: o) = some o := if_pos c
        rw [this]
        simp only [List.length_cons]
        omega
      · rw [List.filter_cons_of_pos (by simp [headIs, c]), List.filterMap_cons]
        have : rest1 t (x :: o) = none := if_neg c
        rw [this]
        simp only [List.length_cons]
        omega
theorem sum_rests : ∀ (ts : List Int) (os : Ords), ts.Nodup → (ts.map fun t => (rests t os).length).sum ≤ os.length
  | [], os, _ => Nat.zero_le _
  | t :: ts, os, nd => by
    rw [List.nodup_cons] at nd
    have ih := sum_rests ts (os.filter fun o => !headIs t o) nd.2
    have e : (ts.map fun t' => (rests t' (os.filter fun o => !headIs t o)).length) = ts.map fun t' => (rests t' os).length := List.map_congr_left fun t' h' => by
      have ne : t' ≠ t := by rintro rfl; exact nd.1 h'
      rw [rests_filter ne]
    rw [e] at ih
    have := rests_split t os
    rw [List.map_cons, List.sum_cons]
    omega
theorem layD_sum {f : Ords → List Room → Nat × List Room} {os : Ords} {b : Int → Nat} : ∀ (ts : List Int) (rs : List Room), (∀ t ∈ ts, ∀ rs, (f (rests t os) rs).2.length ≤ rs.length + b t) → (layD f os ts rs).2.length ≤ rs.length + (ts.map b).sum
  | [], rs, _ => by show rs.length ≤ _; omega
  | t :: ts, rs, hf => by
    have h1 := layD_sum ts (f (rests t os) rs).2 fun t' h' => hf t' (List.mem_cons_of_mem _ h')
    have h2 := hf t List.mem_cons_self rs
    show (layD f os ts (f (rests t os) rs).2).2.length ≤ _
    rw [List.map_cons, List.sum_cons]
    omega
theorem sum_mul (n : Nat) (g : Int → Nat) : ∀ ts : List Int, (ts.map fun t => g t * n).sum = (ts.map g).sum * n
  | [] => by simp
  | t :: ts => by rw [List.map_cons, List.map_cons, List.sum_cons, List.sum_cons, sum_mul n g ts, Nat.add_mul]
theorem lay_times : ∀ (n : Nat) (os : Ords) (rs : List Room), os ≠ [] → (lay n os rs).2.length ≤ rs.length + os.length * n
  | 0, _, rs, _ => by show rs.length ≤ _; omega
  | n + 1, os, rs, ne => by
    have h1 := layD_sum (f := lay n) (os := os) (b := fun t => (rests t os).length * n) (heads os) rs fun t ht rs => by
      obtain ⟨_, r, hr⟩ := mem_heads.mp ht
      exact lay_times n (rests t os) rs fun e => by
        have := mem_rests.mpr hr
        rw [e] at this
        cases this
    rw [sum_mul n (fun t => (rests t os).length)] at h1
    have nd : (heads os).Nodup := (heads_rising os).imp fun h e => absurd h (by rw [e]; omega)
    have h2 := Nat.mul_le_mul_right n (sum_rests (heads os) os nd)
    have h3 := keep_len (layD (lay n) os (heads os) rs).2 (layD (lay n) os (heads os) rs).1
    have h4 : 0 < os.length := List.length_pos_iff.mpr ne
    show (keep _ _).2.length ≤ _
    rw [Nat.mul_succ]
    omega
end Bk
namespace Bk
open Mx
def atP (p : Nat) (o : List Int) : Int := (o[p]?).getD 0
def addG (p : Nat) (g : List (Int × Ords)) (o : List Int) : List (Int × Ords) :=
  if atP p o ∈ g.map (·.1) then g.map (fun e => if e.1 = atP p o then (e.1, e.2 ++ [o]) else e) else g ++ [(atP p o, [o])]
structure Grp (p : Nat) (os : Ords) (g : List (Int × Ords)) : Prop where
  nd : (g.map (·.1)).Nodup
  each : ∀ e ∈ g, e.2 = os.filter fun o => decide (atP p o = e.1)
  all : ∀ o ∈ os, atP p o ∈ g.map (·.1)
  one : ∀ e ∈ g, e.2 ≠ []
theorem Grp.nil (p : Nat) : Grp p [] [] := ⟨List.nodup_nil, (fun e h => nomatch h), (fun o h => nomatch h), (fun e h => nomatch h)⟩
theorem Grp.add {p : Nat} {os : Ords} {g : List (Int × Ords)} (G : Grp p os g) (o : List Int) : Grp p (os ++ [o]) (addG p g o) := by
  unfold addG
  by_cases c : atP p o ∈ g.map (·.1)
  · rw [if_pos c]
    have keys : (g.map (fun e => if e.1 = atP p o then (e.1, e.2 ++ [o]) else e)).map (·.1) = g.map (·.1) := by
      rw [List.map_map]
      refine List.map_congr_left fun e _ => ?_
      show (if e.1 = atP p o then (e.1, e.2 ++ [o]) else e).1 = e.1
      split <;> rfl
    refine ⟨by rw [keys]; exact G.nd, fun e he => ?_, fun x hx => ?_, fun e he => ?_⟩
    · obtain ⟨e0, h0, rfl⟩ := List.mem_map.mp he
      rw [List.filter_append]
      by_cases k : e0.1 = atP p o
      · rw [if_pos k, G.each e0 h0]
        simp [k]
      · rw [if_neg k, G.each e0 h0]
        simp [Ne.symm k]
    · rw [keys]
      rcases List.mem_append.mp hx with h | h
      · exact G.all x h
      · rw [List.mem_singleton.mp h]; exact c
    · obtain ⟨e0, h0, rfl⟩ := List.mem_map.mp he
      by_cases k : e0.1 = atP p o
      · rw [if_pos k]; simp
      · rw [if_neg k]; exact G.one e0 h0
  · rw [if_neg c]
    refine ⟨?_, fun e he => ?_, fun x hx => ?_, fun e he => ?_⟩
    · rw [List.map_append, List.nodup_append]
      exact ⟨G.nd, by simp, fun x hx y hy => by
        have : y = atP p o := by simpa using hy
        rw [this]
        rintro rfl
        exact c hx⟩
    · rw [List.filter_append]
      rcases List.mem_append.mp he with h | h
      · have k : ¬ atP p o = e.1 := fun k => c (by rw [k]; exact List.mem_map.mpr ⟨e, h, rfl⟩)
        rw [G.each e h]
        simp [k]
      · rw [List.mem_singleton.mp h]
        have : os.filter (fun x => decide (atP p x = atP p o)) = [] := List.filter_eq_nil_iff.mpr fun x hx hk => c (by
          have := G.all x hx
          rw [of_decide_eq_true hk] at this
          exact this)
        rw [this]
        simp
    · rw [List.map_append]
      rcases List.mem_append.mp hx with h | h
      · exact List.mem_append_left _ (G.all x h)
      · rw [List.mem_singleton.mp h]; exact List.mem_append_right _ (by simp)
    · rcases List.mem_append.mp he with h | h
      · exact G.one e h
      · rw [List.mem_singleton.mp h]; simp
def groups (p : Nat) (os : Ords) : List (Int × Ords) := os.foldl (addG p) []
theorem groups_snoc (p : Nat) (os : Ords) (o : List Int) : groups p (os ++ [o]) = addG p (groups p os) o := by unfold groups; rw [List.foldl_append]; rfl
theorem rev_ind {α : Type} {P : List α → Prop} (h0 : P []) (h1 : ∀ l x, P l → P (l ++ [x])) (l : List α) : P l := by
  have : ∀ l : List α, P l.reverse := fun l => by
    induction l with
    | nil => exact h0
    | cons x l ih => rw [List.reverse_cons]; exact h1 _ _ ih
  have := this l.reverse
  rw [List.reverse_reverse] at this
  exact this
theorem groups_ok (p : Nat) (os : Ords) : Grp p os (groups p os) :=
  rev_ind (P := fun os => Grp p os (groups p os)) (Grp.nil p) (fun l x ih => by rw [groups_snoc]; exact ih.add x) os
theorem groups_rise (p : Nat) (os : Ords) : (os.map (atP p)).Pairwise (· ≤ ·) → ((groups p os).map (·.1)).Pairwise (· < ·) := by
  refine rev_ind (P := fun os => (os.map (atP p)).Pairwise (· ≤ ·) → ((groups p os).map (·.1)).Pairwise (· < ·)) (fun _ => List.Pairwise.nil) (fun l x ih h => ?_) os
  rw [List.map_append, List.pairwise_append] at h
  obtain ⟨h1, _, h3⟩ := h
  rw [groups_snoc]
  unfold addG
  by_cases c : atP p x ∈ (groups p l).map (·.1)
  · rw [if_pos c, List.map_map]
    have keys : ((fun e : Int × Ords => e.1) ∘ fun e : Int × Ords => if e.1 = atP p x then (e.1, e.2 ++ [x]) else e) = fun e => e.1 := by
      funext e
      show (if e.1 = atP p x then (e.1, e.2 ++ [x]) else e).1 = e.1
      split <;> rfl
    rw [keys]
    exact ih h1
  · rw [if_neg c, List.map_append, List.pairwise_append]
    refine ⟨ih h1, by simp, fun a ha b hb => ?_⟩
    have eb : b = atP p x := by simpa using hb
    subst eb
    obtain ⟨e, he, rfl⟩ := List.mem_map.mp ha
    have G := groups_ok p l
    obtain ⟨o, ho⟩ := List.exists_mem_of_ne_nil _ (G.one e he)
    rw [G.each e he] at ho
    obtain ⟨ho1, ho2⟩ := List.mem_filter.mp ho
    have le := h3 (atP p o) (List.mem_map.mpr ⟨o, ho1, rfl⟩) (atP p x) (by simp)
    rw [of_decide_eq_true ho2] at le
    have : e.1 ≠ atP p x := fun z => c (z ▸ ha)
    omega
end Bk
namespace Bk
open Mx
theorem layD_snoc {f : Ords → List Room → Nat × List Room} {os : Ords} {t : Int} : ∀ (ts : List Int) (rs : List Room), layD f os (ts ++ [t]) rs = ((layD f os ts rs).1 ++ [(t, ((f (rests t os) (layD f os ts rs).2).1 : Int))], (f (rests t os) (layD f os ts rs).2).2)
  | [], rs => rfl
  | t' :: ts, rs => by
    show ((t', _) :: (layD f os (ts ++ [t]) _).1, (layD f os (ts ++ [t]) _).2) = _
    rw [layD_snoc ts]
    rfl
theorem drop_at {p : Nat} {o : List Int} (h : p < o.length) : o.drop p = atP p o :: o.drop (p + 1) := by
  rw [List.drop_eq_getElem_cons h]
  unfold atP
  rw [List.getElem?_eq_getElem h]
  rfl
theorem group_rests {p : Nat} {t : Int} : ∀ {os : Ords}, (∀ o ∈ os, p < o.length) → (os.filter fun o => decide (atP p o = t)).map (List.drop (p + 1)) = rests t (os.map (List.drop p))
  | [], _ => rfl
  | o :: os, h => by
    have ih := group_rests (t := t) (os := os) fun o' h' => h o' (List.mem_cons_of_mem _ h')
    have ho := h o List.mem_cons_self
    unfold rests at ih ⊢
    rw [List.map_cons, List.filterMap_cons, drop_at ho]
    by_cases c : atP p o = t
    · rw [List.filter_cons_of_pos (by simpa using c), List.map_cons, ih]
      have : rest1 t (atP p o :: o.drop (p + 1)) = some (o.drop (p + 1)) := if_pos c
      rw [this]
    · rw [List.filter_cons_of_neg (by simpa using c), ih]
      have : rest1 t (atP p o :: o.drop (p + 1)) = none := if_neg c
      rw [this]
theorem rise_eq : ∀ {a b : List Int}, a.Pairwise (· < ·) → b.Pairwise (· < ·) → (∀ x, x ∈ a ↔ x ∈ b) → a = b
  | [], [], _, _, _ => rfl
  | [], y :: b, _, _, h => absurd ((h y).mpr List.mem_cons_self) (fun z => nomatch z)
  | x :: a, [], _, _, h => absurd ((h x).mp List.mem_cons_self) (fun z => nomatch z)
  | x :: a, y :: b, ha, hb, h => by
    rw [List.pairwise_cons] at ha hb
    have e : x = y := by
      have h1 := (h x).mp List.mem_cons_self
      have h2 := (h y).mpr List.mem_cons_self
      rcases List.mem_cons.mp h1 with h1 | h1
      · exact h1
      rcases List.mem_cons.mp h2 with h2 | h2
      · exact h2.symm
      have := hb.1 x h1
      have := ha.1 y h2
      omega
    subst e
    rw [rise_eq ha.2 hb.2 fun z => ⟨fun hz => by
      rcases List.mem_cons.mp ((h z).mp (List.mem_cons_of_mem _ hz)) with e | e
      · have := ha.1 z hz; omega
      · exact e, fun hz => by
      rcases List.mem_cons.mp ((h z).mpr (List.mem_cons_of_mem _ hz)) with e | e
      · have := hb.1 z hz; omega
      · exact e⟩]
structure OrdsOk (p n : Nat) (os : Ords) : Prop where
  ne : os ≠ []
  len : ∀ o ∈ os, o.length = p + n
  things : ∀ o ∈ os, ∀ x ∈ o, 0 ≤ x ∧ x < 8
  rise : os.Pairwise fun a b => ¬ lt (b.drop p) (a.drop p)
section
variable {p n : Nat} {os : Ords}
theorem OrdsOk.at_le (ok : OrdsOk p (n + 1) os) : (os.map (atP p)).Pairwise (· ≤ ·) := by
  rw [List.pairwise_map]
  refine ok.rise.imp_of_mem fun {a b} ha hb h => ?_
  have la := ok.len a ha
  have lb := ok.len b hb
  rw [drop_at (show p < a.length by omega), drop_at (show p < b.length by omega)] at h
  refine Int.not_lt.mp fun z => h ?_
  exact .inl z
theorem OrdsOk.keys (ok : OrdsOk p (n + 1) os) : (groups p os).map (·.1) = heads (os.map (List.drop p)) := by
  refine rise_eq (groups_rise p os ok.at_le) (heads_rising _) fun t => ?_
  have G := groups_ok p os
  rw [mem_heads]
  constructor
  · intro h
    obtain ⟨e, he, rfl⟩ := List.mem_map.mp h
    obtain ⟨o, ho⟩ := List.exists_mem_of_ne_nil _ (G.one e he)
    rw [G.each e he] at ho
    obtain ⟨h1, h2⟩ := List.mem_filter.mp ho
    have lo := ok.len o h1
    have e1 := drop_at (show p < o.length by omega)
    have e2 : atP p o = e.1 := of_decide_eq_true h2
    rw [e2] at e1
    have mem : e.1 ∈ o := List.mem_of_mem_drop (i := p) (by rw [e1]; exact List.mem_cons_self)
    exact ⟨ok.things o h1 _ mem, o.drop (p + 1), List.mem_map.mpr ⟨o, h1, e1⟩⟩
  · rintro ⟨_, r, hr⟩
    obtain ⟨o, ho, e⟩ := List.mem_map.mp hr
    have lo := ok.len o ho
    rw [drop_at (show p < o.length by omega)] at e
    have e2 : atP p o = t := (List.cons.inj e).1
    rw [← e2]
    exact G.all o ho
theorem OrdsOk.group (ok : OrdsOk p (n + 1) os) {e : Int × Ords} (he : e ∈ groups p os) : OrdsOk (p + 1) n e.2 ∧ e.2.map (List.drop (p + 1)) = rests e.1 (os.map (List.drop p)) ∧ e.2.length ≤ os.length := by
  have G := groups_ok p os
  have ee := G.each e he
  have sub : ∀ o ∈ e.2, o ∈ os ∧ atP p o = e.1 := fun o ho => by
    rw [ee] at ho
    obtain ⟨h1, h2⟩ := List.mem_filter.mp ho
    exact ⟨h1, of_decide_eq_true h2⟩
  refine ⟨⟨G.one e he, fun o ho => by have := ok.len o (sub o ho).1; omega, fun o ho => ok.things o (sub o ho).1, ?_⟩, ?_, ?_⟩
  · have r1 : e.2.Pairwise fun a b => ¬ lt (b.drop p) (a.drop p) := by rw [ee]; exact ok.rise.sublist (List.filter_sublist)
    refine r1.imp_of_mem fun {a b} ha hb h => ?_
    have la := ok.len a (sub a ha).1
    have lb := ok.len b (sub b hb).1
    rw [drop_at (show p < a.length by omega), drop_at (show p < b.length by omega), (sub a ha).2, (sub b hb).2] at h
    exact fun z => h (.inr ⟨rfl, z⟩)
  · rw [ee]
    exact group_rests fun o ho => by have := ok.len o ho; omega
  · rw [ee]
    exact List.length_filter_le _ _
end
end Bk
namespace Bk
open Mx
def ext1 (many : Nat) (o : List Int) : Ords := ((upto many).filter fun t => !o.contains t).map fun t => o ++ [t]
def ext (many : Nat) (os : Ords) : Ords := os.flatMap (ext1 many)
def allN (many : Nat) : Nat → Ords
  | 0 => [[]]
  | k + 1 => ext many (allN many k)
def allO (many : Nat) : Ords := allN many many
def ltb : List Int → List Int → Bool
  | x :: a, y :: b => decide (x < y) || (decide (x = y) && ltb a b)
  | _, _ => false
theorem lt_of_ltb : ∀ {a b : List Int}, ltb a b = true → lt a b
  | [], _, h => by cases h
  | _ :: _, [], h => by cases h
  | x :: a, y :: b, h => by
    simp only [ltb, Bool.or_eq_true, Bool.and_eq_true, decide_eq_true_eq] at h
    rcases h with h | ⟨h1, h2⟩
    · exact .inl h
    · exact .inr ⟨h1, lt_of_ltb h2⟩
def risB : Ords → Bool
  | [] => true
  | o :: os => os.all (ltb o) && risB os
theorem ris_of : ∀ {os : Ords}, risB os = true → Rising os
  | [], _ => List.Pairwise.nil
  | o :: os, h => by
    simp only [risB, Bool.and_eq_true, List.all_eq_true] at h
    exact List.Pairwise.cons (fun o' ho => lt_of_ltb (h.1 o' ho)) (ris_of h.2)
theorem perm_all : ∀ m ∈ [1, 2, 3, 4, 5], (allO m).all (fun o => (upto m).isPerm o) = true := by decide +kernel
theorem ris_all : ∀ m ∈ [1, 2, 3, 4], risB (allO m) = true := by decide +kernel
theorem len_all4 : ∀ m ∈ [1, 2, 3, 4], (allO m).length ≤ 24 := by decide +kernel
theorem len_allN : ∀ m ∈ [1, 2, 3, 4, 5], ∀ k ∈ [0, 1, 2, 3, 4, 5], (allN m k).length ≤ 200 := by decide +kernel
theorem in5 {m : Nat} (h1 : 1 ≤ m) (h5 : m ≤ 5) : m ∈ [1, 2, 3, 4, 5] := by
  have : m = 1 ∨ m = 2 ∨ m = 3 ∨ m = 4 ∨ m = 5 := by omega
  rcases this with rfl | rfl | rfl | rfl | rfl <;> decide
theorem in4 {m : Nat} (h1 : 1 ≤ m) (h4 : m ≤ 4) : m ∈ [1, 2, 3, 4] := by
  have : m = 1 ∨ m = 2 ∨ m = 3 ∨ m = 4 := by omega
  rcases this with rfl | rfl | rfl | rfl <;> decide
theorem in05 {k : Nat} (h : k ≤ 5) : k ∈ [0, 1, 2, 3, 4, 5] := by
  have : k = 0 ∨ k = 1 ∨ k = 2 ∨ k = 3 ∨ k = 4 ∨ k = 5 := by omega
  rcases this with rfl | rfl | rfl | rfl | rfl | rfl <;> decide
theorem allO_perm {m : Nat} {o : List Int} (h1 : 1 ≤ m) (h5 : m ≤ 5) (h : o ∈ allO m) : (upto m).Perm o := by
  have := perm_all m (in5 h1 h5)
  rw [List.all_eq_true] at this
  exact List.isPerm_iff.mp (this o h)
theorem allO_ord {m : Nat} {o : List Int} (h1 : 1 ≤ m) (h5 : m ≤ 5) (h : o ∈ allO m) : o.length = m ∧ Mx.Ord o := by
  have p := allO_perm h1 h5 h
  have l : o.length = m := by rw [← p.length_eq, upto_length]
  refine ⟨l, ?_⟩
  unfold Mx.Ord
  rw [l]
  exact (eq_sortI p (upto_sorted m)).symm
theorem allN_len {m : Nat} : ∀ (k : Nat), ∀ o ∈ allN m k, o.length = k
  | 0, o, h => by
    rw [List.mem_singleton.mp h]
    rfl
  | k + 1, o, h => by
    obtain ⟨o', h1, h2⟩ := List.mem_flatMap.mp h
    obtain ⟨t, _, rfl⟩ := List.mem_map.mp h2
    rw [List.length_append, allN_len k o' h1]
    rfl
theorem ext_take {m : Nat} {os : Ords} {i : Nat} {o : List Int} (h : os[i]? = some o) : ext m (os.take (i + 1)) = ext m (os.take i) ++ ext1 m o := by
  unfold ext
  rw [List.take_add_one, h]
  simp
theorem ext_le {m : Nat} {os : Ords} (i : Nat) : (ext m (os.take i)).length ≤ (ext m os).length := by
  have : ext m os = ext m (os.take i) ++ ext m (os.drop i) := by
    unfold ext
    rw [← List.flatMap_append, List.take_append_drop]
  rw [this, List.length_append]
  omega
structure SetOk (many : Nat) (os : Ords) : Prop where
  m1 : 1 ≤ many
  m5 : many ≤ 5
  mem : ∀ o ∈ os, o ∈ allO many
  ris : Rising os
  len : os.length ≤ 24
  five : many = 5 → os.length ≤ 2
theorem SetOk.of {many : Nat} {os : Ords} (m1 : 1 ≤ many) (m4 : many ≤ 4) (h : os.Sublist (allO many)) : SetOk many os where
  m1 := m1
  m5 := by omega
  mem := fun o ho => h.subset ho
  ris := (ris_of (ris_all many (in4 m1 m4))).sublist h
  len := Nat.le_trans h.length_le (len_all4 many (in4 m1 m4))
  five := fun e => by omega
theorem SetOk.sets {many : Nat} {os : Ords} (S : SetOk many os) : Sets many (fun x => 0 ≤ x ∧ x < (many : Int)) os := fun o ho => by
  have p := allO_perm S.m1 S.m5 (S.mem o ho)
  have mm : ∀ x, x ∈ o ↔ 0 ≤ x ∧ x < (many : Int) := fun x => by rw [← p.mem_iff]; exact mem_upto
  refine ⟨(allO_ord S.m1 S.m5 (S.mem o ho)).1, fun x hx => ?_, p.nodup_iff.mp (upto_nodup many), mm⟩
  have := (mm x).mp hx
  have := S.m5
  omega
theorem nodes4 : ∀ m ∈ [1, 2, 3, 4], nodes m ≤ 41 := by decide +kernel
theorem SetOk.rooms {many : Nat} {os : Ords} (S : SetOk many os) (ne : os ≠ []) : (lay many os []).2.length < 70 := by
  by_cases h : many = 5
  · have a := lay_times many os [] ne
    have b := S.five h
    have c : os.length * many ≤ 2 * 5 := Nat.mul_le_mul b S.m5
    simp only [List.length_nil] at a
    omega
  · have a := lay_nodes many _ os [] S.sets ne
    have b := nodes4 many (in4 S.m1 (by have := S.m5; omega))
    simp only [List.length_nil] at a
    omega
end Bk
namespace Bk
open Mx
def cnts (rs : List Room) : List Nat := (rowsAll rs).map List.length
def cnt1 (cs : List Nat) (d : Int × Int) : Nat := cs.getD d.2.toNat 0
theorem cnts_len (rs : List Room) : (cnts rs).length = rs.length + 2 := by unfold cnts; rw [List.length_map, rowsAll_len]
theorem cnts_at (rs : List Room) (k : Nat) : (cnts rs).getD k 0 = (sem rs k).length := by
  unfold cnts sem
  rw [List.getD_eq_getElem?_getD, List.getD_eq_getElem?_getD, List.getElem?_map]
  cases (rowsAll rs)[k]? <;> rfl
theorem flat_count {g : Int × Int → Ords} : ∀ (r : Room), (r.flatMap fun d => (g d).map (d.1 :: ·)).length = (r.map fun d => (g d).length).sum
  | [] => rfl
  | d :: r => by
    rw [List.flatMap_cons, List.length_append, List.length_map, List.map_cons, List.sum_cons, flat_count r]
theorem cnts_nil : cnts [] = [0, 1] := rfl
theorem getD_len (l : List Ords) (k : Nat) : (l.getD k []).length = (l.map List.length).getD k 0 := by
  rw [List.getD_eq_getElem?_getD, List.getD_eq_getElem?_getD, List.getElem?_map]
  cases l[k]? <;> rfl
theorem cnts_snoc (rs : List Room) (r : Room) : cnts (rs ++ [r]) = cnts rs ++ [(r.map (cnt1 (cnts rs))).sum] := by
  unfold cnts rowsAll
  rw [List.foldl_append]
  show (stepRows (rs.foldl stepRows [[], [[]]]) r).map List.length = _
  unfold stepRows
  rw [List.map_append]
  congr 1
  show [_] = [_]
  rw [flat_count]
  congr 2
  refine List.map_congr_left fun d _ => ?_
  unfold cnt1
  exact getD_len _ _
theorem cnts_take {rs : List Room} {i : Nat} {r : Room} (h : rs[i]? = some r) : cnts (rs.take (i + 1)) = cnts (rs.take i) ++ [(r.map (cnt1 (cnts (rs.take i)))).sum] := by
  rw [List.take_add_one, h, Option.toList_some, cnts_snoc]
def lessR (cs : List Nat) (r : Room) (t : Int) : Nat := ((r.filter fun d => decide (d.1 < t)).map (cnt1 cs)).sum
theorem lessR_cons {cs : List Nat} {d : Int × Int} {r : Room} {t : Int} : lessR cs (d :: r) t = (if d.1 < t then cnt1 cs d else 0) + lessR cs r t := by
  unfold lessR
  by_cases h : d.1 < t
  · rw [List.filter_cons_of_pos (by simpa using h), if_pos h]
    rfl
  · rw [List.filter_cons_of_neg (by simpa using h), if_neg h, Nat.zero_add]
theorem lessR_low {cs : List Nat} : ∀ {r : Room} {t : Int}, (∀ d ∈ r, t ≤ d.1) → lessR cs r t = 0
  | [], _, _ => rfl
  | d :: r, t, h => by
    rw [lessR_cons, if_neg (by have := h d (List.mem_cons_self ..); omega), lessR_low fun e he => h e (List.mem_cons_of_mem _ he)]
theorem door_find {cs : List Nat} {g : Int × Int → Ords} : ∀ {r : Room} {s : Nat}, (r.map (·.1)).Pairwise (· < ·) → (∀ d ∈ r, cnt1 cs d = (g d).length ∧ 0 < (g d).length) → s < (r.map (cnt1 cs)).sum →
    ∃ d ds, (r.filter fun e => decide (lessR cs r e.1 ≤ s)) = ds ++ [d] ∧ d ∈ r ∧ lessR cs r d.1 ≤ s ∧ s - lessR cs r d.1 < (g d).length ∧ (r.flatMap fun d => (g d).map (d.1 :: ·))[s]? = ((g d)[s - lessR cs r d.1]?).map (d.1 :: ·)
  | [], _, _, _, h => by simp at h
  | d :: r, s, ris, hg, hs => by
    rw [List.map_cons, List.pairwise_cons] at ris
    obtain ⟨r1, r2⟩ := ris
    have lowd : ∀ e ∈ r, d.1 < e.1 := fun e he => r1 e.1 (List.mem_map.mpr ⟨e, he, rfl⟩)
    have l0 : lessR cs (d :: r) d.1 = 0 := lessR_low fun e he => by
      rcases List.mem_cons.mp he with h | h
      · rw [h]; exact Int.le_refl _
      · exact Int.le_of_lt (lowd e h)
    have le : ∀ e ∈ r, lessR cs (d :: r) e.1 = cnt1 cs d + lessR cs r e.1 := fun e he => by rw [lessR_cons, if_pos (lowd e he)]
    obtain ⟨gd, gp⟩ := hg d (List.mem_cons_self ..)
    rw [List.map_cons, List.sum_cons] at hs
    have p0 : (fun e : Int × Int => decide (lessR cs (d :: r) e.1 ≤ s)) d = true := decide_eq_true (by show lessR cs (d :: r) d.1 ≤ s; rw [l0]; omega)
    by_cases c : s < cnt1 cs d
    · have none : (r.filter fun e => decide (lessR cs (d :: r) e.1 ≤ s)) = [] := by
        rw [List.filter_eq_nil_iff]
        intro e he
        rw [le e he]
        simp
        omega
      refine ⟨d, [], by rw [List.filter_cons_of_pos (p := fun e : Int × Int => decide (lessR cs (d :: r) e.1 ≤ s)) p0, none]; rfl, List.mem_cons_self .., by rw [l0]; omega, by rw [l0]; omega, ?_⟩
      rw [l0, Nat.sub_zero, List.flatMap_cons, List.getElem?_append_left (by rw [List.length_map]; omega), List.getElem?_map]
    · obtain ⟨e, ds, h1, h2, h3, h4, h5⟩ := door_find (cs := cs) (g := g) (s := s - cnt1 cs d) r2 (fun e he => hg e (List.mem_cons_of_mem _ he)) (by omega)
      have fe : (r.filter fun e => decide (lessR cs (d :: r) e.1 ≤ s)) = r.filter fun e => decide (lessR cs r e.1 ≤ s - cnt1 cs d) := filter_eq fun e he => by
        rw [le e he]
        by_cases z : lessR cs r e.1 ≤ s - cnt1 cs d
        · rw [decide_eq_true z, decide_eq_true (by omega)]
        · rw [decide_eq_false z, decide_eq_false (by omega)]
      refine ⟨e, d :: ds, by rw [List.filter_cons_of_pos (p := fun e : Int × Int => decide (lessR cs (d :: r) e.1 ≤ s)) p0, fe, h1]; rfl, List.mem_cons_of_mem _ h2, by rw [le e h2]; omega, by rw [le e h2]; omega, ?_⟩
      rw [le e h2, List.flatMap_cons, List.getElem?_append_right (by rw [List.length_map]; omega), List.length_map, ← gd, h5]
      congr 2
      omega
def below (os : Ords) (o : List Int) : Nat := (os.filter fun x => HT.lexLt x o).length
theorem below_map {os : Ords} {t u : Int} {o : List Int} : below (os.map (t :: ·)) (u :: o) = if t < u then os.length else if t = u then below os o else 0 := by
  unfold below
  rw [List.filter_map, List.length_map]
  by_cases c : t < u
  · rw [if_pos c, List.filter_eq_self.mpr]
    intro a _
    show HT.lexLt (t :: a) (u :: o) = true
    rw [HT.lexLt_cons, if_neg (by omega)]
    exact decide_eq_true c
  · rw [if_neg c]
    by_cases e : t = u
    · rw [if_pos e]
      congr 1
      refine filter_eq fun a _ => ?_
      simp [HT.lexLt_cons, c, e]
    · rw [if_neg e]
      rw [List.length_eq_zero_iff, List.filter_eq_nil_iff]
      intro a _
      simp [HT.lexLt_cons, c, e]
theorem below_app (a b : Ords) (o : List Int) : below (a ++ b) o = below a o + below b o := by
  unfold below
  rw [List.filter_append, List.length_append]
theorem below_flat {cs : List Nat} {g : Int × Int → Ords} {t : Int} {o : List Int} : ∀ {r : Room}, (r.map (·.1)).Pairwise (· < ·) → (∀ d ∈ r, cnt1 cs d = (g d).length) →
    below (r.flatMap fun d => (g d).map (d.1 :: ·)) (t :: o) = lessR cs r t + (match r.find? (fun d => decide (d.1 = t)) with | some d => below (g d) o | none => 0)
  | [], _, _ => rfl
  | d :: r, ris, hg => by
    rw [List.map_cons, List.pairwise_cons] at ris
    obtain ⟨r1, r2⟩ := ris
    have lowd : ∀ e ∈ r, d.1 < e.1 := fun e he => r1 e.1 (List.mem_map.mpr ⟨e, he, rfl⟩)
    rw [List.flatMap_cons, below_app, below_map, below_flat r2 (fun e he => hg e (List.mem_cons_of_mem _ he)), lessR_cons, ← hg d (List.mem_cons_self ..), List.find?_cons]
    by_cases c : d.1 < t
    · rw [if_pos c, if_pos c, decide_eq_false (by omega)]
      simp only
      omega
    · rw [if_neg c, if_neg c]
      by_cases e : d.1 = t
      · rw [if_pos e, decide_eq_true e]
        simp only
        have l0 : lessR cs r t = 0 := lessR_low fun e' he => by have := lowd e' he; omega
        have n0 : r.find? (fun d => decide (d.1 = t)) = none := by
          rw [List.find?_eq_none]
          intro e' he
          have := lowd e' he
          simp
          omega
        rw [l0, n0]
        simp only
        omega
      · rw [if_neg e, decide_eq_false e]
        simp only
        omega
end Bk
namespace L2
open PySem PySem.Spec PyProof.Rows
structure Df (P : Program) (w : World) (K : W.Frag) (mg : Str → Option Value) (base : Heap) (CX : CXT) (k : Nat) (x : Str) (ps : List Str) (sp : Sp) : Prop where
  ex : ∃ f fd, FnOk P w K mg base CX k f fd ps sp ∧ Binds K fd ps [] ∧ W.keepIn K (.ref f) = true ∧ mg x = some (.ref f)
def tCallD (sp : Sp) (E : St → XK) (t : TA) : TE := fun σ H Q => t σ H fun vs H1 => sp vs H1 Q (E σ)
theorem pe_df {X : Cx} {CX : CXT} {k : Nat} {x : Str} {ps : List Str} {sp : Sp} {E : St → XK} {p pos : Pos} {e : Expr} {es : List Expr} {t : TA} (D : Df X.prog X.w X.K X.mg X.base CX k x ps sp) (hr : Room k X.A) (hg : Gl X x) (hx : PassesS CX X E) (ha : PA X (e :: es) t)
    (hdb : (x == ("__debug__" : Str)) = false := by decide) (he : starEach (e :: es) X.env = (false, eval e X.env) :: starEach es X.env := by rfl) (hpl : (backTo pos (starEach es X.env)).any (·.1) = false := by rfl) :
    PE X (.Call (.Name x p) (e :: es) [] pos) (tCallD sp E t) := by
  obtain ⟨f, fd, F, b, kp, m⟩ := D.ex
  intro pins s σ H Q I h
  refine pe_callX (dvs := []) (ds := []) F hr hg m kp b .nil hx ha hdb he hpl pins s σ H Q I ?_
  have e1 : (fun (vs : List V) H1 => sp (vs ++ []) H1 Q (E σ)) = fun vs H1 => sp vs H1 Q (E σ) := by funext vs H1; rw [List.append_nil]
  show t σ H (fun vs H1 => sp (vs ++ []) H1 Q (E σ))
  rw [e1]
  exact h
theorem passF {P : Program} {w : World} {X : Cx} : PassesS (CX1 P w) X (fun _ _ _ _ => False) := fun _ _ _ _ _ _ _ ⟨_, _, _, _, _, _, _, _, _, z⟩ => z.elim
theorem b_isi : bootBuiltins "isinstance" = some (.builtin "isinstance") := by decide +kernel
theorem b_int : bootBuiltins "int" = some (.type "int") := by decide +kernel
theorem b_bool : bootBuiltins "bool" = some (.type "bool") := by decide +kernel
theorem b_tuple : bootBuiltins "tuple" = some (.type "tuple") := by decide +kernel
theorem b_list : bootBuiltins "list" = some (.type "list") := by decide +kernel
theorem b_range : bootBuiltins "range" = some (.type "range") := by decide +kernel
theorem b_sorted : bootBuiltins "sorted" = some (.builtin "sorted") := by decide +kernel
theorem b_all : bootBuiltins "all" = some (.builtin "all") := by decide +kernel
theorem b_len : bootBuiltins "len" = some (.builtin "len") := by decide +kernel
theorem Same.seqT {K : W.Frag} {H H' : Hp} {a : Addr} {xs : List V} (e : Same H H') (h : SqT K H a xs) : SqT K H' a xs := by
  rcases h with (h | ⟨o, h⟩) | h
  · exact .inl (.inl (e _ _ h))
  · exact .inl (.inr ⟨o, e _ _ h⟩)
  · exact .inr h
theorem same_upd {H : Hp} {p : Addr} (h : H p = none) (o : HO) : Same H (upd H p o) := fun b u q => by rw [upd_ne (ne_of_none q h)]; exact q
theorem SqL.up {K : W.Frag} {H : Hp} {p : Addr} {xs : List V} : SqL K (upd H p (.lst xs)) p xs := .inl (.inl upd_same)
theorem SqT.up {K : W.Frag} {H : Hp} {p : Addr} {xs : List V} : SqT K (upd H p (.tup xs)) p xs := .inl (.inl upd_same)
end L2
namespace Ord
open PySem L2 Mx
def top (i : Nat) : Stmt := PySem.Challenge.pw_ordernest_k20_whole_numbers.main.body.getD i (.Pass ⟨0, 0, 0, 0⟩)
abbrev sWhole : Stmt := top 11
abbrev sCount : Stmt := top 12
abbrev sLookC : Stmt := top 13
abbrev sLook : Stmt := top 14
structure Txt (K : W.Frag) (mg : Str → Option Value) (CO : Addr) : Prop where
  bo : OwnX K mg "BadOrder" CO
  most : ∃ t, mg "MOST_THINGS" = some (.int 8 t)
  isi : mg "isinstance" = none
  int : mg "int" = none
  bool : mg "bool" = none
  tuple : mg "tuple" = none
  list : mg "list" = none
  range : mg "range" = none
  sorted : mg "sorted" = none
  all : mg "all" = none
  len : mg "len" = none
  enum : mg "enumerate" = none
section
variable {P : Program} {w : World} {K : W.Frag} {mg : Str → Option Value} {base : Heap} {CO : Addr}
def spWhole : Sp := fun vs H Q _ => ∃ i : Int, vs = [.int i] ∧ Q (.bl true) H
theorem scWhole : FnScope ["value"] ["value"] (defScope sWhole) := ⟨rfl, rfl, rfl, by decide +kernel, rfl, by decide +kernel, by decide +kernel⟩
theorem ok_whole {f : Addr} {fd : FuncData} (F : Fun K "is_whole" "is_whole" sWhole f fd) (T : Txt K mg CO) : FnOk P w K mg base CX0 1 f fd ["value"] spWhole := by
  refine F.ok scWhole (fun vs H Q E h => ?_) (fun cdv A outer s H vs Q E hr h => ?_)
  · obtain ⟨i, rfl, _⟩ := h
    rfl
  obtain ⟨i, rfl, q⟩ := h
  refine ⟨_, pss_one (ps_ret (pe_and (pe_callB call_isi rfl T.isi b_isi (pa_cons (pv 0) (pa_cons (pe_bltn (v := .ty "int") rfl T.int b_int rfl) pa_nil)))
    (pe_one (pe_not (pe_callB call_isi rfl T.isi b_isi (pa_cons (pv 0) (pa_cons (pe_bltn (v := .ty "bool") rfl T.bool b_bool rfl) pa_nil))))))), ?_⟩
  refine ⟨_, rfl, _, _, _, _, _, rfl, rfl, .of (.int i), kit_ii, _, rfl, iteT ?_⟩
  exact ⟨_, rfl, _, _, _, _, _, rfl, rfl, .of (.int i), kit_ib, _, rfl, q⟩
def spCount : Sp := fun vs H Q _ => ∃ i : Int, vs = [.int i] ∧ Q (.bl (decide (1 ≤ i ∧ i ≤ 8))) H
theorem scCount : FnScope ["many"] ["many"] (defScope sCount) := ⟨rfl, rfl, rfl, by decide +kernel, rfl, by decide +kernel, by decide +kernel⟩
theorem ok_count {f : Addr} {fd : FuncData} (F : Fun K "is_count" "is_count" sCount f fd) (T : Txt K mg CO) (W : Df P w K mg base CX0 1 "is_whole" ["value"] spWhole) : FnOk P w K mg base CX0 2 f fd ["many"] spCount := by
  refine F.ok scCount (fun vs H Q E h => ?_) (fun cdv A outer s H vs Q E hr h => ?_)
  · obtain ⟨i, rfl, _⟩ := h
    rfl
  obtain ⟨i, rfl, q⟩ := h
  obtain ⟨t8, m8⟩ := T.most
  refine ⟨_, pss_one (ps_ret (pe_and (pe_df W hr rfl (passS0 (E := fun _ _ _ _ => False)) (pa_cons (pv 0) pa_nil)) (pe_one (pe_chain op_le op_le pe_int (pv 0) (pe_glob (v := .int 8) rfl m8 ⟨t8, rfl⟩))))), ?_⟩
  refine ⟨_, rfl, i, rfl, _, rfl, iteT ?_⟩
  refine ⟨_, rfl, 1, i, rfl, rfl, _, rfl, ?_⟩
  by_cases h1 : 1 ≤ i
  · rw [decide_eq_true h1]
    refine iteT ⟨i, 8, rfl, rfl, ?_⟩
    have e : decide (i ≤ 8) = decide (1 ≤ i ∧ i ≤ 8) := by simp [h1]
    show Q (V.bl (decide (i ≤ 8))) H
    rw [e]
    exact q
  · rw [decide_eq_false h1]
    refine iteF ?_
    have e : decide (1 ≤ i ∧ i ≤ 8) = false := by simp [h1]
    rw [e] at q
    exact q
def Fit (i : Int) : Prop := i.natAbs.log2 < 1900
theorem fit_small {i : Int} (h1 : -(2 ^ 64) < i) (h2 : i < 2 ^ 64) : Fit i := by
  have : i.natAbs < 2 ^ 64 := by omega
  have h3 : i.natAbs.log2 < 65 := by
    by_cases z : i.natAbs = 0
    · rw [z]; decide
    · have := (Nat.log2_lt z (k := 64)).mpr this
      omega
  unfold Fit
  omega
def spLookC (CO : Addr) : Sp := fun vs H Q E => ∃ i : Int, vs = [.int i] ∧ Fit i ∧ (if 1 ≤ i ∧ i ≤ 8 then Q .non H else E (.ref CO) none H)
theorem scLookC : FnScope ["many"] ["many"] (defScope sLookC) := ⟨rfl, rfl, rfl, by decide +kernel, rfl, by decide +kernel, by decide +kernel⟩
theorem ok_lookC {f : Addr} {fd : FuncData} (F : Fun K "look_count" "look_count" sLookC f fd) (T : Txt K mg CO) (W : Df P w K mg base CX0 2 "is_count" ["many"] spCount) : FnOk P w K mg base (CX1 P w) 3 f fd ["many"] (spLookC CO) := by
  refine F.okX scLookC (fun vs H Q E h => ?_) (fun X cdv A outer s H vs Q E hX hp hra hr h => ?_)
  · obtain ⟨i, rfl, _⟩ := h
    rfl
  obtain ⟨i, rfl, fit, q⟩ := h
  obtain ⟨t8, m8⟩ := T.most
  subst hX
  refine ⟨_, pss_one (ps_if (pt_not (pt_val (pe_df W hr rfl (passS0 (E := fun _ _ _ _ => False)) (pa_cons (pv 0) pa_nil))))
    (pss_one (ps_raise rfl rfl T.bo hra (pa_cons (pe_fstr (pj_cons (pf_intR (pv 0)) (pj_cons (pf_text (k := 100) (by decide)) (pj_cons (pf_int (pe_glob (v := .int 8) rfl m8 ⟨t8, rfl⟩)) pj_nil))) (by decide)) pa_nil))) pss_nil), ?_⟩
  refine ⟨_, rfl, i, rfl, _, rfl, ?_⟩
  by_cases c : 1 ≤ i ∧ i ≤ 8
  · rw [decide_eq_true c]
    refine iteF ?_
    rw [if_pos c] at q
    exact q
  · rw [decide_eq_false c]
    refine iteT ?_
    rw [if_neg c] at q
    exact ⟨⟨⟨_, rfl, rfl, i, rfl, fit⟩, trivial, ⟨rfl, 8, rfl, by decide⟩, trivial⟩, fun x => ⟨by show 1 ≤ sizeLine; decide, q⟩⟩
end
end Ord
namespace L2
open PySem PySem.Spec PyProof.Rows
theorem flat_ints (ns : List Int) : (ns.map V.int).all flatV = true := by simp [List.all_eq_true, flatV]
theorem rngV_upto (n : Nat) : rngV 0 n = (Mx.upto n).map V.int := by simp [rngV, Mx.upto]
theorem get_int {ns : List Int} {i : Nat} {x : V} (h : (ns.map V.int)[i]? = some x) : ∃ z, x = .int z ∧ ns[i]? = some z := by
  rw [List.getElem?_map] at h
  cases e : ns[i]? with
  | none => rw [e] at h; cases h
  | some z => rw [e] at h; exact ⟨z, (Option.some.inj h).symm, rfl⟩
end L2
namespace Ord
open PySem L2 Mx
section
variable {P : Program} {w : World} {K : W.Frag} {mg : Str → Option Value} {base : Heap} {CO : Addr}
def Good (n : Int) (ns : List Int) : Prop := 1 ≤ n ∧ n ≤ 8 ∧ (ns.length : Int) = n ∧ Mx.Ord ns
structure Tp (K : W.Frag) (H : Hp) (a : Addr) (ns : List Int) : Prop where
  sq : SqT K H a (ns.map V.int)
  len : ns.length ≤ 60
  fit : ∀ x ∈ ns, Fit x
theorem Tp.same {H H' : Hp} {a : Addr} {ns : List Int} (T : Tp K H a ns) (e : Same H H') : Tp K H' a ns := ⟨e.seqT T.sq, T.len, T.fit⟩
def spLook (K : W.Frag) (CO : Addr) : Sp := fun vs H Q E => ∃ (n : Int) (a : Addr) (ns : List Int), vs = [.int n, .ref a] ∧ Fit n ∧ Tp K H a ns ∧
  (Good n ns → ∀ H', Same H H' → Q .non H') ∧ (¬ Good n ns → ∀ H', Same H H' → E (.ref CO) none H')
theorem scLook : FnScope ["many", "order"] ["many", "order"] (defScope sLook) := ⟨rfl, rfl, rfl, by decide +kernel, rfl, by decide +kernel, by decide +kernel⟩
theorem ok_look {f : Addr} {fd : FuncData} (F : Fun K "look_order" "look_order" sLook f fd) (T : Txt K mg CO) (WC : Df P w K mg base (CX1 P w) 3 "look_count" ["many"] (spLookC CO)) (WW : Df P w K mg base CX0 1 "is_whole" ["value"] spWhole) :
    FnOk P w K mg base (CX1 P w) 4 f fd ["many", "order"] (spLook K CO) := by
  refine F.okX scLook (fun vs H Q E h => ?_) (fun X cdv A outer s H vs Q E hX hp hra hr h => ?_)
  · obtain ⟨n, a, ns, rfl, _⟩ := h
    rfl
  obtain ⟨n, a, ns, rfl, fit, tp, qg, qb⟩ := h
  subst hX
  refine ⟨_, pss_cons (ps_expr (pe_df WC hr rfl hp (pa_cons (pv 0) pa_nil)))
    (pss_cons (ps_if (PW.pt (pw_or (pt_not (pt_val (pe_callB call_isi rfl T.isi b_isi (pa_cons (pv 1) (pa_cons (pe_bltn (v := .ty "tuple") rfl T.tuple b_tuple rfl) pa_nil)))))
        (pw_or1 (pt_cmpR op_ne (pe_callB call_len_seq rfl T.len b_len (pa_cons (pv 1) pa_nil)) (pv 0) (nomark _)))))
      (pss_one (ps_raise rfl rfl T.bo hra (pa_cons (pe_fstr (pj_cons (pf_tupR hr (pv 1)) (pj_cons (pf_text (k := 100) (by decide)) (pj_cons (pf_int (pv 0)) (pj_cons (pf_text (k := 100) (by decide)) pj_nil)))) (by decide)) pa_nil))) pss_nil)
    (pss_cons (ps_if (pt_not (pt_val (pe_callB (call_all rfl) rfl T.all b_all (pa_cons (pe_comp rfl (show CScope (defScope sLook) ["many", "order"] _ _ from by constructor <;> decide +kernel) (pi_tup (pv 1)) (fun _ _ _ _ _ _ => pts_nil)
        (fun cl C s₂ H₂ fp pins => pe_df WW (hr.mono (by decide)) rfl (passS0 (E := fun _ _ _ _ => False)) (pa_cons (pv 0) pa_nil)) scLook.nd) pa_nil))))
      (pss_one (ps_raise rfl rfl T.bo hra (pa_cons (pe_fstr (pj_cons (pf_tupR hr (pv 1)) (pj_cons (pf_text (k := 100) (by decide)) pj_nil)) (by decide)) pa_nil))) pss_nil)
    (pss_one (ps_if (pt_cmpR (op_neL hr.units0) (pe_callB call_sortedT rfl T.sorted b_sorted (pa_cons (pv 1) pa_nil))
        (pe_callTy (call_list_rng rfl) rfl T.list b_list (pa_cons (pe_callTy call_rng1 rfl T.range b_range (pa_cons (pv 0) pa_nil)) pa_nil)) (nomark _))
      (pss_one (ps_raise rfl rfl T.bo hra (pa_cons (pe_fstr (pj_cons (pf_tupR hr (pv 1)) (pj_cons (pf_text (k := 100) (by decide)) (pj_cons (pf_int (pv 0)) (pj_cons (pf_text (k := 100) (by decide)) pj_nil)))) (by decide)) pa_nil))) pss_nil)))), ?_⟩
  refine ⟨_, rfl, n, rfl, fit, ?_⟩
  by_cases c : 1 ≤ n ∧ n ≤ 8
  case neg =>
    rw [if_neg c]
    exact qb (fun g => c ⟨g.1, g.2.1⟩) H (Same.refl H)
  rw [if_pos c]
  have len60 := tp.len
  have hl : (ns.map V.int).length = ns.length := List.length_map _
  refine ⟨_, rfl, _, _, _, _, _, rfl, rfl, .tup tp.sq, kit_tt, _, rfl, iteF ?_⟩
  refine ⟨_, rfl, a, _, rfl, .inr tp.sq, _, rfl, rfl, _, rfl, ?_⟩
  have isT1 : ∀ H', Same H H' → isT K (tVar 1) [some (.int n), some (.ref a)] H' := fun H' e => ⟨_, rfl, rfl, a, ns, rfl, e.seqT tp.sq, by omega, tp.fit⟩
  by_cases c2 : (ns.length : Int) = n
  case neg =>
    have e1 : decide (V.int ((ns.map V.int).length : Nat) = V.int n) = false := by
      rw [hl]
      exact decide_eq_false fun z => c2 (V.int.inj z)
    rw [e1]
    refine iteT ?_
    exact ⟨⟨isT1 H (Same.refl H), trivial, ⟨_, rfl, rfl, n, rfl, fit⟩, trivial, trivial⟩, fun x => ⟨by show 1 ≤ sizeLine; decide, qb (fun g => c2 g.2.2.1) H (Same.refl H)⟩⟩
  have e1 : decide (V.int ((ns.map V.int).length : Nat) = V.int n) = true := by
    rw [hl]
    exact decide_eq_true (congrArg V.int c2)
  rw [e1]
  refine iteF ?_
  refine ⟨_, rfl, a, rfl, ⟨_, tp.sq⟩, comp_tup (K := K) (a := a) (xs := ns.map V.int) (fun i ys H' => H' = H ∧ ys = (List.replicate i true).map V.bl) ⟨rfl, rfl⟩ ?_ (by rw [hl, sizeLine_eq]; omega) ?_ ?_⟩
  · rintro i ys H' hi ⟨rfl, rfl⟩
    exact ⟨tp.sq, by simp⟩
  · rintro i x ys H' hx ⟨rfl, rfl⟩
    obtain ⟨z, rfl, _⟩ := get_int hx
    refine goT ?_
    refine iteT ?_
    refine ⟨_, rfl, z, rfl, rfl, ?_⟩
    simp [List.replicate_succ', List.map_append]
  rintro ys H' p ⟨rfl, rfl⟩ hp0
  refine ⟨p, List.replicate (ns.map V.int).length true, rfl, SqL.up, _, rfl, ?_⟩
  have e2 : (List.replicate (ns.map V.int).length true).all id = true := by simp [List.all_eq_true]
  rw [e2]
  refine iteF ?_
  have s1 : Same H' (upd H' p (.lst ((List.replicate (ns.map V.int).length true).map V.bl))) := same_upd hp0 _
  refine ⟨_, rfl, a, ns, rfl, s1.seqT tp.sq, by omega, fun l ns' hl0 hperm hsort => ?_⟩
  have s2 := s1.trans (same_upd hl0 (.lst (ns'.map V.int)))
  refine ⟨_, rfl, n, rfl, fun r hr0 => ⟨r, 0, n, rfl, upd_same, by decide, by decide, by omega, by omega, by omega, fun l2 hl2 => ?_⟩⟩
  have s3 := s2.trans (same_upd hr0 (.rng 0 n))
  have s4 := s3.trans (same_upd hl2 (.lst (rngV 0 (n - 0).toNat)))
  have n1 : l ≠ l2 := ne_of_none (by rw [upd_ne (ne_of_none upd_same hr0)]; exact upd_same) hl2
  have n2 : l ≠ r := ne_of_none upd_same hr0
  refine ⟨l, l2, ns'.map V.int, _, rfl, rfl, .inl (.inl (by rw [upd_ne n1, upd_ne n2]; exact upd_same)), SqL.up, flat_ints _, by rw [rngV_upto]; exact flat_ints _, _, rfl, ?_⟩
  have e3 : ns' = Mx.sortI ns := Mx.eq_sortI hperm hsort
  have e4 : (n - 0).toNat = ns.length := by omega
  rw [e4, rngV_upto, eqVs_ints, e3]
  by_cases g : Mx.sortI ns = Mx.upto ns.length
  · rw [decide_eq_true g]
    refine iteF ?_
    refine qg ⟨c.1, c.2, c2, g⟩ _ ?_
    rw [← e3, ← rngV_upto, ← e4]
    exact s4
  · rw [decide_eq_false g]
    refine iteT ?_
    have s4' := s4
    rw [e4, rngV_upto, e3] at s4'
    exact ⟨⟨isT1 _ s4', trivial, ⟨_, rfl, rfl, n, rfl, fit⟩, trivial, trivial⟩, fun x => ⟨by show 1 ≤ sizeLine; decide, qb (fun gg => g gg.2.2.2) _ s4'⟩⟩
end
end Ord
namespace L2
open PySem PySem.Spec PyProof.Rows
theorem bitAnd_nat (a b : Nat) : Builtin.bitAnd (a : Int) (b : Int) = ((a &&& b : Nat) : Int) := rfl
theorem bitOr_nat (a b : Nat) : Builtin.bitOr (a : Int) (b : Int) = ((a ||| b : Nat) : Int) := by
  rw [← PyProof.Rows.bitOr_eq]
  unfold Spec.bitOr Spec.bitAnd
  have h1 : decide (0 ≤ Spec.bitNot (a : Int)) = false := by unfold Spec.bitNot; exact decide_eq_false (by omega)
  have h2 : decide (0 ≤ Spec.bitNot (b : Int)) = false := by unfold Spec.bitNot; exact decide_eq_false (by omega)
  rw [h1, h2]
  have n1 : ∀ x : Int, Spec.bitNot (Spec.bitNot x) = x := fun x => by unfold Spec.bitNot; omega
  simp only [n1, Int.toNat_natCast]
theorem bitAnd_bit {t m : Nat} (h : m.testBit t = false) : 2 ^ t &&& m = 0 := by
  refine Nat.eq_of_testBit_eq fun i => ?_
  rw [Nat.testBit_and, Nat.testBit_two_pow, Nat.zero_testBit]
  by_cases e : t = i
  · subst e; rw [h]; simp
  · simp [e]
theorem atI0 {α : Type} {x : α} {xs : List α} : atI (x :: xs) 0 = some x := atI_nat (j := 0) rfl
theorem atI1 {α : Type} {x y : α} {xs : List α} : atI (x :: y :: xs) 1 = some y := atI_nat (j := 1) rfl
theorem atI2 {α : Type} {x y z : α} {xs : List α} : atI (x :: y :: z :: xs) 2 = some z := atI_nat (j := 2) rfl
end L2
namespace Ord
open PySem L2 Mx
abbrev sDoorI : Stmt := top 24
abbrev sThrough : Stmt := top 26
abbrev sBehindD : Stmt := top 32
abbrev sLookD : Stmt := top 23
abbrev sOfRoom : Stmt := top 25
abbrev sFrom : Stmt := top 22
abbrev sLookF : Stmt := top 27
abbrev sParts : Stmt := top 21
abbrev sWalk : Stmt := top 29
abbrev sLookT : Stmt := top 28
abbrev sBook : Stmt := top 20
structure TxB (K : W.Frag) (mg : Str → Option Value) (CO : Addr) : Prop where
  t : Txt K mg CO
  no : ∃ t, mg "NO_ROOM" = some (.int 0 t)
  en : ∃ t, mg "END" = some (.int 1 t)
  low : ∃ t, mg "LOWEST" = some (.int 2 t)
  set : mg "set" = none
def DoorA (K : W.Frag) (H : Hp) (x : V) (d : Int × Int) : Prop := ∃ p, x = .ref p ∧ SqT K H p [.int d.1, .int d.2]
def RoomA (K : W.Frag) (H : Hp) (x : V) (r : Bk.Room) : Prop := ∃ a xs, x = .ref a ∧ SqT K H a xs ∧ Paired (DoorA K H) xs r
section
variable {P : Program} {w : World} {K : W.Frag} {mg : Str → Option Value} {base : Heap} {CO : Addr}
theorem DoorA.same {H H' : Hp} {x : V} {d : Int × Int} (s : Same H H') (h : DoorA K H x d) : DoorA K H' x d := by
  obtain ⟨p, e, q⟩ := h
  exact ⟨p, e, s.seqT q⟩
theorem RoomA.same {H H' : Hp} {x : V} {r : Bk.Room} (s : Same H H') (h : RoomA K H x r) : RoomA K H' x r := by
  obtain ⟨a, xs, e, q, z⟩ := h
  exact ⟨a, xs, e, s.seqT q, pimp (fun _ _ y => y.same s) z⟩
def spDoorI (K : W.Frag) : Sp := fun vs H Q _ => ∃ (x : V) (d : Int × Int), vs = [x] ∧ DoorA K H x d ∧ Q (.bl true) H
theorem scDoorI : FnScope ["door"] ["door"] (defScope sDoorI) := ⟨rfl, rfl, rfl, by decide +kernel, rfl, by decide +kernel, by decide +kernel⟩
theorem ok_doorI {f : Addr} {fd : FuncData} (F : Fun K "is_door" "is_door" sDoorI f fd) (T : TxB K mg CO) (W : Df P w K mg base CX0 1 "is_whole" ["value"] spWhole) : FnOk P w K mg base CX0 2 f fd ["door"] (spDoorI K) := by
  refine F.ok scDoorI (fun vs H Q E h => ?_) (fun cdv A outer s H vs Q E hr h => ?_)
  · obtain ⟨x, d, rfl, _⟩ := h
    rfl
  obtain ⟨x, ⟨t, k⟩, rfl, ⟨p, rfl, q⟩, z⟩ := h
  refine ⟨_, pss_one (ps_ret (pe_and (pe_callB call_isi rfl T.t.isi b_isi (pa_cons (pv 0) (pa_cons (pe_bltn (v := .ty "tuple") rfl T.t.tuple b_tuple rfl) pa_nil)))
    (pe_and (pe_cmpR op_eq (pe_callB call_len_seq rfl T.t.len b_len (pa_cons (pv 0) pa_nil)) pe_int (nomark _))
    (pe_and (pe_df W hr rfl (passS0 (E := fun _ _ _ _ => False)) (pa_cons (pe_ix (show IxR _ (rIxT K) from ix_tup) (pv 0) pe_int (fun _ _ => rfl)) pa_nil))
    (pe_one (pe_df W hr rfl (passS0 (E := fun _ _ _ _ => False)) (pa_cons (pe_ix (show IxR _ (rIxT K) from ix_tup) (pv 0) pe_int (fun _ _ => rfl)) pa_nil))))))), ?_⟩
  refine ⟨_, rfl, _, _, _, _, _, rfl, rfl, .tup q, kit_tt, _, rfl, iteT ?_⟩
  refine ⟨_, rfl, p, _, rfl, .inr q, rfl, _, rfl, iteT ?_⟩
  refine ⟨_, rfl, p, _, 0, .int t, rfl, rfl, q, atI0, t, rfl, _, rfl, iteT ?_⟩
  exact ⟨_, rfl, p, _, 1, .int k, rfl, rfl, q, atI1, k, rfl, z⟩
def spThrough (K : W.Frag) : Sp := fun vs H Q _ => ∃ (x : V) (l : Addr) (ms : List Nat) (d : Int × Int), vs = [x, .ref l] ∧ DoorA K H x d ∧ SqL K H l (ms.map fun m : Nat => V.int m) ∧ 0 ≤ d.1 ∧ d.1 < 8 ∧ 0 ≤ d.2 ∧ d.2 < ms.length ∧
  (ms.getD d.2.toNat 0).testBit d.1.toNat = false ∧ Q (.int ((Bk.dmask ms d : Nat) : Int)) H
theorem scThrough : FnScope ["door", "things", "thing", "later"] ["door", "things"] (defScope sThrough) := ⟨rfl, rfl, rfl, by decide +kernel, rfl, by decide +kernel, by decide +kernel⟩
theorem ok_through {f : Addr} {fd : FuncData} (F : Fun K "things_through" "things_through" sThrough f fd) : FnOk P w K mg base CX0 1 f fd ["door", "things"] (spThrough K) := by
  refine F.ok scThrough (fun vs H Q E h => ?_) (fun cdv A outer s H vs Q E hr h => ?_)
  · obtain ⟨x, l, ms, d, rfl, _⟩ := h
    rfl
  obtain ⟨x, l, ms, ⟨t, k⟩, rfl, ⟨p, rfl, q⟩, hl, t0, t8, k0, kl, hb, z⟩ := h
  refine ⟨_, pss_cons (ps_set (i := 2) scThrough.nd rfl (Or.inl rfl) (pe_op op_shl pe_int (pe_ix (show IxR _ (rIxT K) from ix_tup) (pv 0) pe_int (fun _ _ => rfl))))
    (pss_cons (ps_set (i := 3) scThrough.nd rfl (Or.inl rfl) (pe_ix (show IxR _ (rIxL K) from ix_list) (pv 1) (pe_ix (show IxR _ (rIxT K) from ix_tup) (pv 0) pe_int (fun _ _ => rfl)) (fun _ _ => rfl)))
    (pss_cons (ps_if (pt_truth (pe_op op_and (pv 2) (pv 3)) (fun _ => rfl)) (pss_one ps_never) pss_nil)
    (pss_one (ps_ret (pe_op op_or (pv 2) (pv 3)))))), ?_⟩
  refine ⟨_, rfl, p, _, 0, .int t, rfl, rfl, q, atI0, 1, t, rfl, rfl, ⟨t0, by omega, by decide⟩, ?_⟩
  refine ⟨_, rfl, _, rfl, p, _, 1, .int k, rfl, rfl, q, atI1, l, _, k, .int ((ms.getD k.toNat 0 : Nat) : Int), rfl, rfl, hl, ?_, ?_⟩
  · have hk : k.toNat < ms.length := by show k.toNat < ms.length; have : k < ms.length := kl; have : 0 ≤ k := k0; omega
    have := atI_nat (xs := ms.map fun m : Nat => V.int m) (j := k.toNat) (v := .int ((ms.getD k.toNat 0 : Nat) : Int)) (by
      rw [List.getElem?_map, List.getElem?_eq_getElem hk, List.getD_eq_getElem?_getD, List.getElem?_eq_getElem hk]
      rfl)
    rw [show ((k.toNat : Nat) : Int) = k from Int.toNat_of_nonneg k0] at this
    exact this
  have e1 : (1 : Int) * 2 ^ t.toNat = ((2 ^ t.toNat : Nat) : Int) := by simp
  refine ⟨_, rfl, _, rfl, _, _, rfl, rfl, _, rfl, ?_⟩
  rw [e1, bitAnd_nat, bitAnd_bit hb]
  refine iteF ?_
  refine ⟨_, rfl, _, rfl, _, _, rfl, rfl, ?_⟩
  show Q (V.int (Builtin.bitOr (1 * 2 ^ t.toNat) ((ms.getD k.toNat 0 : Nat) : Int))) H
  rw [e1, bitOr_nat]
  exact z
def spBehindD (K : W.Frag) : Sp := fun vs H Q _ => ∃ (x : V) (r : Bk.Room) (t : Int), vs = [x, .int t] ∧ RoomA K H x r ∧ Q (.int (Bk.behind r t)) H
theorem scBehindD : FnScope ["room", "thing", "door"] ["room", "thing"] (defScope sBehindD) := ⟨rfl, rfl, rfl, by decide +kernel, rfl, by decide +kernel, by decide +kernel⟩
theorem ok_behindD {f : Addr} {fd : FuncData} (F : Fun K "behind_door" "behind_door" sBehindD f fd) (T : TxB K mg CO) : FnOk P w K mg base CX0 1 f fd ["room", "thing"] (spBehindD K) := by
  refine F.ok scBehindD (fun vs H Q E h => ?_) (fun cdv A outer s H vs Q E hr h => ?_)
  · obtain ⟨x, r, t, rfl, _⟩ := h
    rfl
  obtain ⟨x, r, t, rfl, ⟨a, xs, rfl, q, pr⟩, z⟩ := h
  obtain ⟨t0, m0⟩ := T.no
  refine ⟨_, pss_cons (PS.nox (ps_for PassesOwn.never rfl (pi_tup (pv 0)) (pg_name (i := 2) scBehindD.nd rfl (Or.inl rfl))
      (pss_one (ps_if (pt_cmpR op_eq (pe_ix (show IxR _ (rIxT K) from ix_tup) (pv 2) pe_int (fun _ _ => rfl)) (pv 1) (nomark _)) (pss_one (ps_ret (pe_ix (show IxR _ (rIxT K) from ix_tup) (pv 2) pe_int (fun _ _ => rfl)))) pss_nil))))
    (pss_one (ps_ret (pe_glob (v := .int 0) rfl m0 ⟨t0, rfl⟩))), ?_⟩
  refine ⟨_, rfl, a, rfl, ⟨_, q⟩, for_tup (K := K) (a := a) (xs := xs) (fun i σ H2 => ∃ v2, σ = [some (.ref a), some (.int t), v2] ∧ H2 = H ∧ Bk.behind r t = Bk.behind (r.drop i) t) ⟨none, rfl, rfl, rfl⟩ ?_ ?_ ?_⟩
  · rintro i σ H2 _ ⟨v2, rfl, rfl, _⟩
    exact q
  · rintro i x σ H2 hx ⟨v2, rfl, rfl, e⟩
    obtain ⟨⟨dt, dk⟩, hd, p, rfl, qd⟩ := pget pr hx
    rw [List.drop_eq_getElem_cons (List.getElem?_eq_some_iff.mp hd).1, (List.getElem?_eq_some_iff.mp hd).2] at e
    refine ⟨_, rfl, p, _, 0, .int dt, rfl, rfl, qd, atI0, _, rfl, rfl, _, rfl, ?_⟩
    by_cases c : dt = t
    · subst c
      rw [decide_eq_true rfl]
      refine iteT ⟨_, rfl, p, _, 1, .int dk, rfl, rfl, qd, atI1, ?_⟩
      rw [e] at z
      have e2 : Bk.behind ((dt, dk) :: r.drop (i + 1)) dt = dk := by unfold Bk.behind; rw [List.find?_cons_of_pos (by simp)]
      rw [e2] at z
      exact z
    · rw [decide_eq_false (by intro h; exact c (V.int.inj h))]
      refine iteF ⟨_, rfl, rfl, ?_⟩
      rw [e]
      unfold Bk.behind
      rw [List.find?_cons_of_neg (by simpa using c)]
  · rintro σ H2 ⟨v2, rfl, rfl, e⟩
    rw [pr.length, List.drop_length] at e
    rw [e] at z
    exact z
structure BookA (K : W.Frag) (H : Hp) (x : V) (many : Int) (rs : List Bk.Room) (first : Int) : Prop where
  ex : ∃ b l xs, x = .ref b ∧ SqT K H b [.int many, .ref l, .int first] ∧ SqL K H l xs ∧ Paired (RoomA K H) xs rs
def spParts (K : W.Frag) : Sp := fun vs H Q _ => ∃ (x : V) (many : Int) (rs : List Bk.Room) (first : Int), vs = [x] ∧ BookA K H x many rs first ∧ 1 ≤ many ∧ many ≤ 8 ∧ Q .non H
theorem scParts : FnScope ["book"] ["book"] (defScope sParts) := ⟨rfl, rfl, rfl, by decide +kernel, rfl, by decide +kernel, by decide +kernel⟩
theorem ok_parts {f : Addr} {fd : FuncData} (F : Fun K "look_parts" "look_parts" sParts f fd) (T : TxB K mg CO) (W : Df P w K mg base CX0 1 "is_whole" ["value"] spWhole) (WC : Df P w K mg base CX0 2 "is_count" ["many"] spCount) : FnOk P w K mg base CX0 3 f fd ["book"] (spParts K) := by
  refine F.ok scParts (fun vs H Q E h => ?_) (fun cdv A outer s H vs Q E hr h => ?_)
  · obtain ⟨x, many, rs, first, rfl, _⟩ := h
    rfl
  obtain ⟨x, many, rs, first, rfl, ⟨b, l, xs, rfl, q, ql, pr⟩, m1, m8, z⟩ := h
  refine ⟨_, pss_cons (ps_if (PW.pt (pw_or (pt_not (pt_val (pe_callB call_isi rfl T.t.isi b_isi (pa_cons (pv 0) (pa_cons (pe_bltn (v := .ty "tuple") rfl T.t.tuple b_tuple rfl) pa_nil)))))
        (pw_or1 (pt_cmpR op_ne (pe_callB call_len_seq rfl T.t.len b_len (pa_cons (pv 0) pa_nil)) pe_int (nomark _))))) (pss_one ps_never) pss_nil)
    (pss_cons (ps_if (pt_not (pt_val (pe_df WC hr rfl (passS0 (E := fun _ _ _ _ => False)) (pa_cons (pe_ix (show IxR _ (rIxT K) from ix_tup) (pv 0) pe_int (fun _ _ => rfl)) pa_nil)))) (pss_one ps_never) pss_nil)
    (pss_cons (ps_if (pt_not (pt_val (pe_callB call_isi rfl T.t.isi b_isi (pa_cons (pe_ix (show IxR _ (rIxT K) from ix_tup) (pv 0) pe_int (fun _ _ => rfl)) (pa_cons (pe_bltn (v := .ty "list") rfl T.t.list b_list rfl) pa_nil))))) (pss_one ps_never) pss_nil)
    (pss_one (ps_if (pt_not (pt_val (pe_df W (hr.mono (by decide)) rfl (passS0 (E := fun _ _ _ _ => False)) (pa_cons (pe_ix (show IxR _ (rIxT K) from ix_tup) (pv 0) pe_int (fun _ _ => rfl)) pa_nil)))) (pss_one ps_never) pss_nil)))), ?_⟩
  refine ⟨_, rfl, _, _, _, _, _, rfl, rfl, .tup q, kit_tt, _, rfl, iteF ?_⟩
  refine ⟨_, rfl, b, _, rfl, .inr q, rfl, _, rfl, iteF ?_⟩
  refine ⟨_, rfl, b, _, 0, .int many, rfl, rfl, q, atI0, many, rfl, _, rfl, ?_⟩
  rw [decide_eq_true ⟨m1, m8⟩]
  refine iteF ?_
  refine ⟨_, rfl, b, _, 1, .ref l, rfl, rfl, q, atI1, _, _, _, _, _, rfl, rfl, .lst ql, kit_ll, _, rfl, iteF ?_⟩
  exact ⟨_, rfl, b, _, 2, .int first, rfl, rfl, q, atI2, first, rfl, _, rfl, iteF z⟩
end
end Ord
namespace Ord
open PySem L2 Mx
section
variable {P : Program} {w : World} {K : W.Frag} {mg : Str → Option Value} {base : Heap} {CO : Addr}
def natsV (ms : List Nat) : List V := ms.map fun m : Nat => V.int m
theorem natsV_at {ms : List Nat} {k : Nat} (h : k < ms.length) : atI (natsV ms) (k : Int) = some (.int ((ms.getD k 0 : Nat) : Int)) := atI_nat (by
  unfold natsV
  rw [List.getElem?_map, List.getElem?_eq_getElem h, List.getD_eq_getElem?_getD, List.getElem?_eq_getElem h]
  rfl)
def spLookF (K : W.Frag) : Sp := fun vs H Q _ => ∃ (many first : Nat) (l : Addr) (ms : List Nat), vs = [.int many, .ref l, .int first] ∧ SqL K H l (natsV ms) ∧ many ≤ 8 ∧ (first = 0 ∨ (1 < first ∧ first < ms.length ∧ ms.getD first 0 = 2 ^ many - 1)) ∧ Q .non H
theorem scLookF : FnScope ["many", "things", "first"] ["many", "things", "first"] (defScope sLookF) := ⟨rfl, rfl, rfl, by decide +kernel, rfl, by decide +kernel, by decide +kernel⟩
theorem ok_lookF {f : Addr} {fd : FuncData} (F : Fun K "look_first" "look_first" sLookF f fd) (T : TxB K mg CO) : FnOk P w K mg base CX0 1 f fd ["many", "things", "first"] (spLookF K) := by
  refine F.ok scLookF (fun vs H Q E h => ?_) (fun cdv A outer s H vs Q E hr h => ?_)
  · obtain ⟨many, first, l, ms, rfl, _⟩ := h
    rfl
  obtain ⟨many, first, l, ms, rfl, ql, m8, hfi, z⟩ := h
  obtain ⟨t0, m0⟩ := T.no
  obtain ⟨t1, m1⟩ := T.en
  refine ⟨_, pss_cons (ps_if (pt_cmpR op_eq (pv 2) (pe_glob (v := .int 0) rfl m0 ⟨t0, rfl⟩) (nomark _)) (pss_one ps_retN) pss_nil)
    (pss_cons (ps_if (pt_not (pt_chain op_lt op_lt (pe_glob (v := .int 1) rfl m1 ⟨t1, rfl⟩) (pv 2) (pe_callB call_len_seq rfl T.t.len b_len (pa_cons (pv 1) pa_nil)))) (pss_one ps_never) pss_nil)
    (pss_one (ps_if (pt_cmpR op_ne (pe_ix (show IxR _ (rIxL K) from ix_list) (pv 1) (pv 2) (fun _ _ => rfl)) (pe_op op_sub (pe_op op_shl pe_int (pv 0)) pe_int) (nomark _)) (pss_one ps_never) pss_nil))), ?_⟩
  refine ⟨_, rfl, rfl, _, rfl, ?_⟩
  by_cases c : first = 0
  · subst c
    exact iteT z
  rw [decide_eq_false (fun h => c (by have := V.int.inj h; omega))]
  refine iteF ?_
  obtain ⟨f1, f2, f3⟩ : 1 < first ∧ first < ms.length ∧ ms.getD first 0 = 2 ^ many - 1 := by rcases hfi with h | h; exact absurd h c; exact h
  refine ⟨_, rfl, 1, (first : Int), rfl, rfl, _, rfl, ?_⟩
  rw [decide_eq_true (show (1 : Int) < first by omega)]
  refine iteT ⟨_, rfl, l, _, rfl, .inl ql, (first : Int), _, rfl, rfl, _, rfl, ?_⟩
  have hl : (natsV ms).length = ms.length := List.length_map _
  rw [hl, decide_eq_true (show (first : Int) < (ms.length : Nat) by omega)]
  refine iteF ?_
  refine ⟨_, rfl, _, rfl, l, _, (first : Int), _, rfl, rfl, ql, natsV_at f2, ?_⟩
  refine ⟨_, rfl, 1, (many : Int), rfl, rfl, ⟨by omega, by omega, by decide⟩, _, 1, rfl, rfl, rfl, _, rfl, ?_⟩
  have e1 : (1 : Int) * 2 ^ ((many : Int)).toNat - 1 = ((2 ^ many - 1 : Nat) : Int) := by
    rw [Int.toNat_natCast, Int.one_mul, Int.natCast_sub (Nat.one_le_two_pow)]
    simp
  have e2 : (!decide (V.int ((ms.getD first 0 : Nat) : Int) = V.int (1 * 2 ^ ((many : Int)).toNat - 1))) = false := by
    rw [e1, f3, decide_eq_true rfl]
    rfl
  show (fun (b : Bool) (H1 : Hp) => if b = true then _ else _) (!decide (V.int ((ms.getD first 0 : Nat) : Int) = V.int (1 * 2 ^ ((many : Int)).toNat - 1))) H
  rw [e2]
  exact iteF z
def spLookD (K : W.Frag) : Sp := fun vs H Q _ => ∃ (many number : Int) (x : V) (r : Bk.Room), vs = [.int many, x, .int number] ∧ RoomA K H x r ∧ r ≠ [] ∧ (r.map (·.1)).Pairwise (· < ·) ∧ (∀ d ∈ r, 0 ≤ d.1 ∧ d.1 < many ∧ 1 ≤ d.2 ∧ d.2 < number) ∧ Q .non H
theorem scLookD : FnScope ["many", "room", "number", "last", "door"] ["many", "room", "number"] (defScope sLookD) := ⟨rfl, rfl, rfl, by decide +kernel, rfl, by decide +kernel, by decide +kernel⟩
theorem ok_lookD {f : Addr} {fd : FuncData} (F : Fun K "look_doors" "look_doors" sLookD f fd) (T : TxB K mg CO) (WD : Df P w K mg base CX0 2 "is_door" ["door"] (spDoorI K)) : FnOk P w K mg base CX0 3 f fd ["many", "room", "number"] (spLookD K) := by
  refine F.ok scLookD (fun vs H Q E h => ?_) (fun cdv A outer s H vs Q E hr h => ?_)
  · obtain ⟨many, number, x, r, rfl, _⟩ := h
    rfl
  obtain ⟨many, number, x, r, rfl, ⟨a, xs, rfl, q, pr⟩, ne, rise, all, z⟩ := h
  obtain ⟨t1, m1⟩ := T.en
  refine ⟨_, pss_cons (ps_if (PW.pt (pw_or (pt_not (pt_val (pe_callB call_isi rfl T.t.isi b_isi (pa_cons (pv 1) (pa_cons (pe_bltn (v := .ty "tuple") rfl T.t.tuple b_tuple rfl) pa_nil)))))
        (pw_or1 (pt_cmpR op_eq (pe_callB call_len_seq rfl T.t.len b_len (pa_cons (pv 1) pa_nil)) pe_int (nomark _))))) (pss_one ps_never) pss_nil)
    (pss_cons (ps_set (i := 3) scLookD.nd rfl (Or.inl rfl) (pe_un un_neg pe_int))
    (pss_one (PS.nox (ps_for PassesOwn.never rfl (pi_tup (pv 1)) (pg_name (i := 4) scLookD.nd rfl (Or.inl rfl))
      (pss_cons (ps_if (pt_not (pt_val (pe_df WD hr rfl (passS0 (E := fun _ _ _ _ => False)) (pa_cons (pv 4) pa_nil)))) (pss_one ps_never) pss_nil)
      (pss_cons (ps_if (pt_not (pt_chain op_lt op_lt (pv 3) (pe_ix (show IxR _ (rIxT K) from ix_tup) (pv 4) pe_int (fun _ _ => rfl)) (pv 0))) (pss_one ps_never) pss_nil)
      (pss_cons (ps_if (pt_not (pt_chain op_le op_lt (pe_glob (v := .int 1) rfl m1 ⟨t1, rfl⟩) (pe_ix (show IxR _ (rIxT K) from ix_tup) (pv 4) pe_int (fun _ _ => rfl)) (pv 2))) (pss_one ps_never) pss_nil)
      (pss_one (ps_set (i := 3) scLookD.nd rfl (Or.inl rfl) (pe_ix (show IxR _ (rIxT K) from ix_tup) (pv 4) pe_int (fun _ _ => rfl))))))))))), ?_⟩
  refine ⟨_, rfl, _, _, _, _, _, rfl, rfl, .tup q, kit_tt, _, rfl, iteF ?_⟩
  have hlen := pr.length
  have hpos : 0 < xs.length := by rw [hlen]; exact List.length_pos_iff.mpr ne
  refine ⟨_, rfl, a, _, rfl, .inr q, rfl, _, rfl, ?_⟩
  rw [decide_eq_false (fun h => by have := V.int.inj h; omega)]
  refine iteF ?_
  refine ⟨1, rfl, ?_⟩
  refine ⟨_, rfl, a, rfl, ⟨_, q⟩, for_tup (K := K) (a := a) (xs := xs) (fun i σ H2 => ∃ (last : Int) (v4 : Option V), σ = [some (.int many), some (.ref a), some (.int number), some (.int last), v4] ∧ H2 = H ∧ ∀ d, r[i]? = some d → last < d.1) ⟨-1, none, rfl, rfl, fun d hd => ?_⟩ ?_ ?_ ?_⟩
  · have := (all d (List.mem_of_getElem? hd)).1
    omega
  · rintro i σ H2 _ ⟨last, v4, rfl, rfl, _⟩
    exact q
  · rintro i y σ H2 hx ⟨last, v4, rfl, rfl, lt⟩
    obtain ⟨⟨dt, dk⟩, hd, p, rfl, qd⟩ := pget pr hx
    obtain ⟨d0, d1, d2, d3⟩ := all _ (List.mem_of_getElem? hd)
    have l1 : last < dt := lt _ hd
    refine ⟨_, rfl, .ref p, (dt, dk), rfl, ⟨p, rfl, qd⟩, _, rfl, iteF ?_⟩
    refine ⟨_, rfl, _, rfl, p, _, 0, .int dt, rfl, rfl, qd, atI0, last, dt, rfl, rfl, _, rfl, ?_⟩
    rw [decide_eq_true l1]
    refine iteT ⟨_, rfl, dt, many, rfl, rfl, _, rfl, ?_⟩
    rw [decide_eq_true (show dt < many from d1)]
    refine iteF ?_
    refine ⟨_, rfl, p, _, 1, .int dk, rfl, rfl, qd, atI1, 1, dk, rfl, rfl, _, rfl, ?_⟩
    rw [decide_eq_true (show 1 ≤ dk from d2)]
    refine iteT ⟨_, rfl, dk, number, rfl, rfl, _, rfl, ?_⟩
    rw [decide_eq_true (show dk < number from d3)]
    refine iteF ?_
    refine ⟨_, rfl, p, _, 0, .int dt, rfl, rfl, qd, atI0, dt, some (.ref p), rfl, rfl, fun d hd' => ?_⟩
    obtain ⟨i1, e1⟩ := List.getElem?_eq_some_iff.mp hd
    obtain ⟨i2, e2⟩ := List.getElem?_eq_some_iff.mp hd'
    have := List.pairwise_iff_getElem.mp rise i (i + 1) (by simpa using i1) (by simpa using i2) (Nat.lt_succ_self _)
    rw [List.getElem_map, List.getElem_map, e1, e2] at this
    exact this
  · rintro σ H2 ⟨last, v4, rfl, rfl, _⟩
    exact z
theorem pe_ints {ns : List Int} : natsV (ns.map Int.toNat) = (ns.map Int.toNat).map fun m : Nat => V.int m := rfl
def spOfRoom (K : W.Frag) : Sp := fun vs H Q _ => ∃ (x : V) (r : Bk.Room) (l : Addr) (ms : List Nat) (m : Nat), vs = [x, .ref l] ∧ RoomA K H x r ∧ r ≠ [] ∧ r.length ≤ 8 ∧ SqL K H l (natsV ms) ∧
  (∀ d ∈ r, 0 ≤ d.1 ∧ d.1 < 8 ∧ 0 ≤ d.2 ∧ d.2 < ms.length ∧ (ms.getD d.2.toNat 0).testBit d.1.toNat = false ∧ Bk.dmask ms d = m) ∧ ∀ H', Same H H' → Q (.int (m : Int)) H'
theorem scOfRoom : FnScope ["room", "things", "found"] ["room", "things"] (defScope sOfRoom) := ⟨rfl, rfl, rfl, by decide +kernel, rfl, by decide +kernel, by decide +kernel⟩
theorem ok_ofRoom {f : Addr} {fd : FuncData} (F : Fun K "things_of_room" "things_of_room" sOfRoom f fd) (T : TxB K mg CO) (WT : Df P w K mg base CX0 1 "things_through" ["door", "things"] (spThrough K)) : FnOk P w K mg base CX0 2 f fd ["room", "things"] (spOfRoom K) := by
  refine F.ok scOfRoom (fun vs H Q E h => ?_) (fun cdv A outer s H vs Q E hr h => ?_)
  · obtain ⟨x, r, l, ms, m, rfl, _⟩ := h
    rfl
  obtain ⟨x, r, l, ms, m, rfl, ⟨a, xs, rfl, q, pr⟩, ne, r8, ql, all, z⟩ := h
  refine ⟨_, pss_cons (ps_setC (i0 := 2) scOfRoom.nd rfl (Or.inl rfl) rfl (show CScope (defScope sOfRoom) ["room", "things", "found"] _ _ from by constructor <;> decide +kernel) (pi_tup (pv 0)) (fun _ _ _ _ _ _ => pts_nil)
        (fun cl C s₂ H₂ fp pins => pe_df WT hr rfl (passS0 (E := fun _ _ _ _ => False)) (pa_cons (pv 0) (pa_cons (pv 2) pa_nil))) rfl)
    (pss_cons (ps_if (pt_cmpR (op_neL hr.units0) (pv 2) (pe_op op_rep (pe_lst (pa_cons (pe_ix (show IxR _ (rIxL K) from ix_list) (pv 2) pe_int (fun _ _ => rfl)) pa_nil)) (pe_callB call_len_seq rfl T.t.len b_len (pa_cons (pv 2) pa_nil))) (nomark _)) (pss_one ps_never) pss_nil)
    (pss_one (ps_ret (pe_ix (show IxR _ (rIxL K) from ix_list) (pv 2) pe_int (fun _ _ => rfl))))), ?_⟩
  refine ⟨_, rfl, a, rfl, ⟨_, q⟩, comp_tup (K := K) (a := a) (xs := xs) (fun i ys H' => H' = H ∧ ys = List.replicate i (V.int (m : Int))) ⟨rfl, rfl⟩ ?_ (by have := pr.length; rw [sizeLine_eq]; omega) ?_ ?_⟩
  · rintro i ys H' hi ⟨rfl, rfl⟩
    exact ⟨q, by simp⟩
  · rintro i x ys H' hx ⟨rfl, rfl⟩
    obtain ⟨⟨dt, dk⟩, hd, p, rfl, qd⟩ := pget pr hx
    obtain ⟨a1, a2, a3, a4, a5, a6⟩ := all _ (List.mem_of_getElem? hd)
    refine goT (iteT ?_)
    refine ⟨_, rfl, _, rfl, .ref p, l, ms, (dt, dk), rfl, ⟨p, rfl, qd⟩, ql, a1, a2, a3, a4, a5, rfl, ?_⟩
    rw [a6, List.replicate_succ']
  rintro ys H' p ⟨rfl, rfl⟩ hp0
  have hlen := pr.length
  have hpos : 0 < xs.length := by rw [hlen]; exact List.length_pos_iff.mpr ne
  have s1 : Same H' (upd H' p (.lst (List.replicate xs.length (V.int (m : Int))))) := same_upd hp0 _
  have at0 : atI (List.replicate xs.length (V.int (m : Int))) 0 = some (V.int (m : Int)) := atI_nat (j := 0) (by rw [List.getElem?_replicate, if_pos hpos])
  have lr : (List.replicate xs.length (V.int (m : Int))).length = xs.length := List.length_replicate
  refine ⟨_, rfl, _, rfl, p, _, 0, .int (m : Int), rfl, rfl, SqL.up, at0, by show 1 ≤ sizeLine; decide, fun l0 hl0 => ?_⟩
  have s2 : Same (upd H' p (.lst (List.replicate xs.length (V.int (m : Int))))) (upd (upd H' p (.lst (List.replicate xs.length (V.int (m : Int))))) l0 (.lst [V.int (m : Int)])) := same_upd hl0 _
  have hp1 : (upd (upd H' p (.lst (List.replicate xs.length (V.int (m : Int))))) l0 (.lst [V.int (m : Int)])) p = some (.lst (List.replicate xs.length (V.int (m : Int)))) := s2 _ _ upd_same
  refine ⟨_, rfl, p, _, rfl, .inl (.inl (.inl hp1)), l0, ((List.replicate xs.length (V.int (m : Int))).length : Nat), [V.int (m : Int)], rfl, rfl, upd_same, by omega, by rw [lr]; omega, by rw [lr, sizeLine_eq]; simp; omega, fun l1 hl1 => ?_⟩
  have e0 : ∀ k : Nat, (List.replicate k [V.int (m : Int)]).flatten = List.replicate k (V.int (m : Int)) := fun k => by
    induction k with
    | zero => rfl
    | succ k ih => rw [List.replicate_succ, List.flatten_cons, ih, List.replicate_succ]; rfl
  rw [lr, Int.toNat_natCast, e0]
  have fl : (List.replicate xs.length (V.int (m : Int))).all flatV = true := by
    rw [List.all_eq_true]
    intro y hy
    rw [List.eq_of_mem_replicate hy]
    rfl
  have hp2 := (same_upd hl1 (.lst (List.replicate xs.length (V.int (m : Int))))) _ _ hp1
  refine ⟨p, l1, _, _, rfl, rfl, .inl (.inl hp2), SqL.up, fl, fl, _, rfl, ?_⟩
  have ee : eqVs (List.replicate xs.length (V.int (m : Int))) (List.replicate xs.length (V.int (m : Int))) = true := by
    have := eqVs_ints (List.replicate xs.length (m : Int)) (List.replicate xs.length (m : Int))
    rw [List.map_replicate, decide_eq_true rfl] at this
    exact this
  rw [ee]
  refine iteF ?_
  exact ⟨_, rfl, p, _, 0, .int (m : Int), rfl, rfl, .inl (.inl hp2), at0, z _ ((s1.trans s2).trans (same_upd hl1 _))⟩
end
end Ord
namespace Bk
open Mx
theorem room_len {r : Room} (rise : (r.map (·.1)).Pairwise (· < ·)) (h : ∀ d ∈ r, 0 ≤ d.1 ∧ d.1 < 8) : r.length ≤ 8 := by
  have nd : (r.map (·.1)).Nodup := rise.imp fun h e => absurd h (by rw [e]; omega)
  have := L2.subset_len (r.map (·.1)) (upto 8) nd fun x hx => by
    obtain ⟨d, hd, rfl⟩ := List.mem_map.mp hx
    exact mem_upto.mpr (h d hd)
  rw [List.length_map, upto_length] at this
  exact this
theorem masks_take {rs : List Room} (m : MOk rs) (w : WF rs) {i : Nat} {r : Room} (h : rs[i]? = some r) :
    (∀ d ∈ r, 0 ≤ d.1 ∧ d.1 < 8 ∧ 0 ≤ d.2 ∧ d.2 < ((masks (rs.take i)).length : Nat) ∧ ((masks (rs.take i)).getD d.2.toNat 0).testBit d.1.toNat = false ∧ dmask (masks (rs.take i)) d = msk rs (i + 2)) ∧ masks (rs.take (i + 1)) = masks (rs.take i) ++ [msk rs (i + 2)] := by
  have il := (List.getElem?_eq_some_iff.mp h).1
  have tl : (rs.take i).length = i := by rw [List.length_take]; omega
  have ml := masks_len (rs.take i)
  have ok := w i r h
  have each : ∀ d ∈ r, 0 ≤ d.1 ∧ d.1 < 8 ∧ 0 ≤ d.2 ∧ d.2 < ((masks (rs.take i)).length : Nat) ∧ ((masks (rs.take i)).getD d.2.toNat 0).testBit d.1.toNat = false ∧ dmask (masks (rs.take i)) d = msk rs (i + 2) := fun d hd => by
    obtain ⟨a1, a2, a3, a4⟩ := m i r h d hd
    obtain ⟨b1, b2⟩ := ok.ahead d hd
    have e : (masks (rs.take i)).getD d.2.toNat 0 = msk rs d.2.toNat := (msk_pre (List.take_prefix i rs) (by rw [tl]; omega)).symm
    refine ⟨a1, a2, by omega, by rw [ml, tl]; omega, by rw [e]; exact a3, ?_⟩
    unfold dmask
    rw [e]
    exact a4
  refine ⟨each, ?_⟩
  rw [List.take_add_one, h]
  unfold masks
  rw [Option.toList_some, List.foldl_append]
  show stepM (masks (rs.take i)) r = _
  unfold stepM
  cases r with
  | nil => exact absurd rfl ok.ne
  | cons d r => rw [List.headD_cons, (each d List.mem_cons_self).2.2.2.2.2]; rfl
end Bk
namespace L2
theorem Same.seqL {K : PySem.W.Frag} {H H' : Hp} {a : PySem.Addr} {xs : List V} (e : Same H H') (h : SqL K H a xs) : SqL K H' a xs := by
  rcases h with (h | ⟨o, h⟩) | h
  · exact .inl (.inl (e _ _ h))
  · exact .inl (.inr ⟨o, e _ _ h⟩)
  · exact .inr h
end L2
namespace Ord
open PySem L2 Mx
section
variable {P : Program} {w : World} {K : W.Frag} {mg : Str → Option Value} {base : Heap} {CO : Addr}
structure Whole (many : Int) (rs : List Bk.Room) : Prop where
  wf : Bk.WF rs
  mask : Bk.MOk rs
  less : ∀ r ∈ rs, ∀ d ∈ r, d.1 < many
  few : rs.length ≤ 1000
def spFrom (K : W.Frag) : Sp := fun vs H Q _ => ∃ (many : Int) (l : Addr) (xs : List V) (rs : List Bk.Room), vs = [.int many, .ref l] ∧ SqL K H l xs ∧ Paired (RoomA K H) xs rs ∧ Whole many rs ∧
  ∀ (t : Addr) (H' : Hp), Same H H' → H' t = some (.lst (natsV (Bk.masks rs))) → Q (.ref t) H'
theorem scFrom : FnScope ["many", "rooms", "things", "room"] ["many", "rooms"] (defScope sFrom) := ⟨rfl, rfl, rfl, by decide +kernel, rfl, by decide +kernel, by decide +kernel⟩
theorem ok_from {f : Addr} {fd : FuncData} (F : Fun K "things_from" "things_from" sFrom f fd) (T : TxB K mg CO) (WD : Df P w K mg base CX0 3 "look_doors" ["many", "room", "number"] (spLookD K)) (WO : Df P w K mg base CX0 2 "things_of_room" ["room", "things"] (spOfRoom K)) :
    FnOk P w K mg base CX0 4 f fd ["many", "rooms"] (spFrom K) := by
  refine F.ok scFrom (fun vs H Q E h => ?_) (fun cdv A outer s H vs Q E hr h => ?_)
  · obtain ⟨many, l, xs, rs, rfl, _⟩ := h
    rfl
  obtain ⟨many, l, xs, rs, rfl, ql, pr, W, z⟩ := h
  refine ⟨_, pss_cons (ps_set (i := 2) scFrom.nd rfl (Or.inl rfl) (pe_lst (pa_cons pe_int (pa_cons pe_int pa_nil))))
    (pss_cons (PS.nox (ps_for PassesOwn.never rfl (pi_list (pv 1)) (pg_name (i := 3) scFrom.nd rfl (Or.inl rfl))
      (pss_cons (ps_expr (pe_df WD hr rfl (passS0 (E := fun _ _ _ _ => False)) (pa_cons (pv 0) (pa_cons (pv 3) (pa_cons (pe_callB call_len_seq rfl T.t.len b_len (pa_cons (pv 2) pa_nil)) pa_nil)))))
      (pss_one (ps_expr (pe_bm PySem.F.plainAttrs_list PySem.F.slot_list_append PySem.F.type_list_append mt_append (pv 2) (pa_cons (pe_df WO (hr.mono (by decide)) rfl (passS0 (E := fun _ _ _ _ => False)) (pa_cons (pv 3) (pa_cons (pv 2) pa_nil))) pa_nil)))))))
    (pss_one (ps_ret (pv 2)))), ?_⟩
  refine ⟨by show 2 ≤ sizeLine; decide, fun t ht => ?_⟩
  have s1 : Same H (upd H t (.lst [V.int 0, V.int 0])) := same_upd ht _
  have hlen := pr.length
  refine ⟨_, rfl, l, rfl, ⟨_, s1.seqL ql⟩, for_list (K := K) (a := l) (xs := xs) (fun i σ H2 => ∃ v3, σ = [some (.int many), some (.ref l), some (.ref t), v3] ∧ Same H H2 ∧ H2 t = some (.lst (natsV (Bk.masks (rs.take i))))) ⟨none, rfl, s1, upd_same⟩ ?_ ?_ ?_⟩
  · rintro i σ H2 _ ⟨v3, rfl, s2, _⟩
    exact s2.seqL ql
  · rintro i x σ H2 hx ⟨v3, rfl, s2, ht2⟩
    obtain ⟨r, hr0, ra⟩ := pget pr hx
    have il := (List.getElem?_eq_some_iff.mp hr0).1
    have few := W.few
    have tl : (rs.take i).length = i := by rw [List.length_take]; omega
    have ok := W.wf i r hr0
    obtain ⟨mt, ms⟩ := Bk.masks_take W.mask W.wf hr0
    have mem := List.mem_of_getElem? hr0
    have ml : (natsV (Bk.masks (rs.take i))).length = i + 2 := by unfold natsV; rw [List.length_map, Bk.masks_len, tl]
    refine ⟨_, rfl, _, rfl, _, rfl, t, _, rfl, .inl (.inl (.inl ht2)), many, _, x, r, rfl, ra.same s2, ok.ne, ok.rise, fun d hd => ⟨(mt d hd).1, W.less r mem d hd, (ok.ahead d hd).1, ?_⟩, ?_⟩
    · rw [ml]
      have := (ok.ahead d hd).2
      omega
    refine ⟨_, rfl, .inl ⟨rfl, _, .inl (.inl ht2)⟩, _, rfl, _, rfl, x, r, t, Bk.masks (rs.take i), Bk.msk rs (i + 2), rfl, ra.same s2, ok.ne, Bk.room_len ok.rise (fun d hd => ⟨(mt d hd).1, (mt d hd).2.1⟩), .inl (.inl ht2), mt, fun H3 s3 => ?_⟩
    refine ⟨t, _, _, rfl, rfl, s3 _ _ ht2, by rw [ml, sizeLine_eq]; omega, ?_⟩
    have tH : H t = none := ht
    refine ⟨_, rfl, fun b o e => ?_, ?_⟩
    · rw [upd_ne (ne_of_none e tH)]
      exact s3 b o (s2 b o e)
    · rw [upd_same, ms]
      unfold natsV
      rw [List.map_append]
      rfl
  · rintro σ H2 ⟨v3, rfl, s2, ht2⟩
    rw [hlen, List.take_length] at ht2
    exact ⟨_, rfl, z t H2 s2 ht2⟩
end
end Ord
namespace Bk
open Mx
structure Wd (rs : List Room) (ws : List Int) : Prop where
  nd : ws.Nodup
  inn : ∀ x ∈ ws, 0 ≤ x ∧ x < (rs.length : Int) + 2
  z : (0 : Int) ∈ ws
  o : (1 : Int) ∈ ws
theorem Wd.len {rs : List Room} {ws : List Int} (w : Wd rs ws) : ws.length ≤ rs.length + 2 := by
  have := L2.subset_len ws (upto (rs.length + 2)) w.nd fun x hx => mem_upto.mpr (by have := w.inn x hx; omega)
  rw [upto_length] at this
  exact this
theorem walk_wd {rs : List Room} (wf : WF rs) : ∀ (n : Nat) (k : Int) (ws : List Int), Fits n rs k → Wd rs ws → Wd rs (walk n rs k ws) ∧ (∀ x ∈ ws, x ∈ walk n rs k ws) ∧ ∀ x ∈ walk n rs k ws, x ∈ ws ∨ x ≤ k
  | 0, k, ws, f, w => ⟨w, fun _ h => h, fun x h => .inl h⟩
  | n + 1, k, ws, f, w => by
    unfold walk
    by_cases c : k ∈ ws
    · rw [if_pos c]
      exact ⟨w, fun _ h => h, fun x h => .inl h⟩
    rw [if_neg c]
    obtain ⟨k2, kl, fd⟩ : 2 ≤ k ∧ (k - 2).toNat < rs.length ∧ ∀ d ∈ roomAt rs k, Fits n rs d.2 := by
      rcases f with f | f | f
      · exact absurd (f ▸ w.z) c
      · exact absurd (f ▸ w.o) c
      · exact f
    have ok := wf _ _ (roomAt_eq kl)
    have fold : ∀ (ds : Room) (ws : List Int), (∀ d ∈ ds, Fits n rs d.2 ∧ d.2 < k) → Wd rs ws → Wd rs (ds.foldl (fun w d => walk n rs d.2 w) ws) ∧ (∀ x ∈ ws, x ∈ ds.foldl (fun w d => walk n rs d.2 w) ws) ∧ ∀ x ∈ ds.foldl (fun w d => walk n rs d.2 w) ws, x ∈ ws ∨ x < k := by
      intro ds
      induction ds with
      | nil => intro ws _ w; exact ⟨w, fun _ h => h, fun x h => .inl h⟩
      | cons d ds ih =>
        intro ws hd w
        obtain ⟨a1, a2, a3⟩ := walk_wd wf n d.2 ws (hd d List.mem_cons_self).1 w
        obtain ⟨b1, b2, b3⟩ := ih (walk n rs d.2 ws) (fun d' h' => hd d' (List.mem_cons_of_mem _ h')) a1
        refine ⟨b1, fun x hx => b2 x (a2 x hx), fun x hx => ?_⟩
        rcases b3 x hx with h | h
        · rcases a3 x h with h | h
          · exact .inl h
          · exact .inr (Int.lt_of_le_of_lt h (hd d List.mem_cons_self).2)
        · exact .inr h
    obtain ⟨a1, a2, a3⟩ := fold (roomAt rs k) ws (fun d hd => ⟨fd d hd, by have := (ok.ahead d hd).2; omega⟩) w
    have kn : k ∉ (roomAt rs k).foldl (fun w d => walk n rs d.2 w) ws := fun h => by
      rcases a3 k h with h | h
      · exact c h
      · omega
    refine ⟨⟨?_, fun x hx => ?_, List.mem_append_left _ a1.z, List.mem_append_left _ a1.o⟩, fun x hx => List.mem_append_left _ (a2 x hx), fun x hx => ?_⟩
    · rw [List.nodup_append]
      exact ⟨a1.nd, by simp, fun x hx y hy => by rw [List.mem_singleton.mp hy]; rintro rfl; exact kn hx⟩
    · rcases List.mem_append.mp hx with h | h
      · exact a1.inn x h
      · rw [List.mem_singleton.mp h]; omega
    · rcases List.mem_append.mp hx with h | h
      · rcases a3 x h with h | h
        · exact .inl h
        · exact .inr (by omega)
      · rw [List.mem_singleton.mp h]; exact .inr (Int.le_refl _)
theorem walk_part {rs : List Room} (wf : WF rs) {n : Nat} {k : Int} {ws : List Int} (w : Wd rs ws) (kl : (k - 2).toNat < rs.length) (k2 : 2 ≤ k) (c : k ∉ ws) (fd : ∀ d ∈ roomAt rs k, Fits n rs d.2) :
    ∀ i, i ≤ (roomAt rs k).length → Wd rs (((roomAt rs k).take i).foldl (fun w d => walk n rs d.2 w) ws) ∧ k ∉ ((roomAt rs k).take i).foldl (fun w d => walk n rs d.2 w) ws
  | 0, _ => ⟨w, c⟩
  | i + 1, h => by
    obtain ⟨a1, a2⟩ := walk_part wf w kl k2 c fd i (by omega)
    have hi : i < (roomAt rs k).length := by omega
    have e : (roomAt rs k).take (i + 1) = (roomAt rs k).take i ++ [(roomAt rs k)[i]] := by rw [List.take_add_one, List.getElem?_eq_getElem hi]; rfl
    rw [e, List.foldl_append]
    show Wd rs (walk n rs (roomAt rs k)[i].2 _) ∧ k ∉ walk n rs (roomAt rs k)[i].2 _
    have mem : (roomAt rs k)[i] ∈ roomAt rs k := List.getElem_mem hi
    have ok := (wf _ _ (roomAt_eq kl)).ahead _ mem
    obtain ⟨b1, b2, b3⟩ := walk_wd wf n _ _ (fd _ mem) a1
    refine ⟨b1, fun hk => ?_⟩
    rcases b3 k hk with z | z
    · exact a2 z
    · omega
end Bk
namespace L2
open PySem
def SameB (d : Addr) (H H' : Hp) : Prop := ∀ b o, b ≠ d → H b = some o → H' b = some o
section
variable {K : W.Frag} {H H' H'' : Hp} {a d : Addr} {xs : List V} {kvs : List (Key × V)}
theorem SameB.refl (d : Addr) (H : Hp) : SameB d H H := fun _ _ _ e => e
theorem SameB.trans (e : SameB d H H') (e' : SameB d H' H'') : SameB d H H'' := fun b o n h => e' b o n (e b o n h)
theorem SameB.upd (o : HO) : SameB d H (L2.upd H d o) := fun b u n h => by rw [upd_ne n]; exact h
theorem SameB.seqT (e : SameB d H H') (hd : H d = some (.dK kvs)) (h : SqT K H a xs) : SqT K H' a xs := by
  rcases h with (h | ⟨o, h⟩) | h
  · exact .inl (.inl (e _ _ (by rintro rfl; rw [hd] at h; cases h) h))
  · exact .inl (.inr ⟨o, e _ _ (by rintro rfl; rw [hd] at h; cases h) h⟩)
  · exact .inr h
theorem SameB.seqL (e : SameB d H H') (hd : H d = some (.dK kvs)) (h : SqL K H a xs) : SqL K H' a xs := by
  rcases h with (h | ⟨o, h⟩) | h
  · exact .inl (.inl (e _ _ (by rintro rfl; rw [hd] at h; cases h) h))
  · exact .inl (.inr ⟨o, e _ _ (by rintro rfl; rw [hd] at h; cases h) h⟩)
  · exact .inr h
end
theorem take_get' {α : Type} {l : List α} {i : Nat} {x : α} (h : l[i]? = some x) : l.take (i + 1) = l.take i ++ [x] := by rw [List.take_add_one, h]; rfl
def wlk (ws : List Int) : List (Key × V) := ws.map fun k => (Sum.inl k, V.bl true)
theorem wlk_val (ws : List Int) (k : Int) : (valV (wlk ws) (.inl k)).isSome = decide (k ∈ ws) := by
  induction ws with
  | nil => rfl
  | cons x ws ih =>
    by_cases h : x = k
    · subst h
      show (valV ((Sum.inl x, V.bl true) :: wlk ws) (.inl x)).isSome = _
      rw [valV_pos rfl]
      simp
    · show (valV ((Sum.inl x, V.bl true) :: wlk ws) (.inl k)).isSome = _
      rw [valV_neg (by intro e; exact h (Sum.inl.inj e)), ih]
      simp [Ne.symm h]
theorem wlk_put {ws : List Int} {k : Int} (h : k ∉ ws) : putK (wlk ws) (.inl k) (.bl true) = wlk (ws ++ [k]) := by
  unfold putK
  rw [valV_any, wlk_val, decide_eq_false h, if_neg (by decide)]
  unfold wlk
  rw [List.map_append]
  rfl
end L2
namespace Ord
open PySem L2 Mx
section
variable {P : Program} {w : World} {K : W.Frag} {mg : Str → Option Value} {base : Heap} {CO : Addr}
theorem RoomA.sameB {H H' : Hp} {d : Addr} {kvs : List (Key × V)} {x : V} {r : Bk.Room} (s : SameB d H H') (hd : H d = some (.dK kvs)) (h : RoomA K H x r) : RoomA K H' x r := by
  obtain ⟨a, xs, e, q, z⟩ := h
  exact ⟨a, xs, e, s.seqT hd q, pimp (fun _ _ ⟨p, e, q⟩ => ⟨p, e, s.seqT hd q⟩) z⟩
def spWalk (K : W.Frag) (n : Nat) : Sp := fun vs H Q _ => ∃ (l wd : Addr) (xs : List V) (rs : List Bk.Room) (k : Int) (ws : List Int), vs = [.ref l, .int k, .ref wd] ∧ SqL K H l xs ∧ Paired (RoomA K H) xs rs ∧ Bk.WF rs ∧ rs.length ≤ 1000 ∧
  H wd = some (.dK (wlk ws)) ∧ Bk.Wd rs ws ∧ Bk.Fits n rs k ∧ ∀ H', SameB wd H H' → H' wd = some (.dK (wlk (Bk.walk n rs k ws))) → Q .non H'
theorem scWalk : FnScope ["rooms", "number", "walked", "door"] ["rooms", "number", "walked"] (defScope sWalk) := ⟨rfl, rfl, rfl, by decide +kernel, rfl, by decide +kernel, by decide +kernel⟩
theorem ok_walk0 {f : Addr} {fd : FuncData} (F : Fun K "walk_rooms" "walk_rooms" sWalk f fd) (T : TxB K mg CO) (n : Nat) (WW : ∀ m, n = m + 1 → Df P w K mg base CX0 (m + 1) "walk_rooms" ["rooms", "number", "walked"] (spWalk K m)) :
    FnOk P w K mg base CX0 (n + 1) f fd ["rooms", "number", "walked"] (spWalk K n) := by
  refine F.ok scWalk (fun vs H Q E h => ?_) (fun cdv A outer s H vs Q E hr h => ?_)
  · obtain ⟨l, wd, xs, rs, k, ws, rfl, _⟩ := h
    rfl
  obtain ⟨l, wd, xs, rs, k, ws, rfl, ql, pr, wf, few, hwd, W, fit, z⟩ := h
  obtain ⟨t2, m2⟩ := T.low
  by_cases c : k ∈ ws
  · refine ⟨_, pss_cons (ps_if (pt_cmp (pc_din (hu_of hr) (pv 1) (pv 2))) (pss_one ps_retN) pss_nil) (pss_cons ps_never (pss_one ps_never)), ?_⟩
    refine ⟨_, rfl, _, rfl, wd, _, rfl, DGet.k (k := .inl k) hwd, _, rfl, ?_⟩
    rw [wlk_val, decide_eq_true c]
    refine iteT ?_
    rw [Bk.walk_in c] at z
    exact z H (SameB.refl _ _) hwd
  cases n with
  | zero =>
    exfalso
    rcases fit with e | e
    · exact c (e ▸ W.z)
    · exact c (e ▸ W.o)
  | succ n =>
    obtain ⟨k2, kl, fd'⟩ : 2 ≤ k ∧ (k - 2).toNat < rs.length ∧ ∀ d ∈ Bk.roomAt rs k, Bk.Fits n rs d.2 := by
      rcases fit with e | e | e
      · exact absurd (e ▸ W.z) c
      · exact absurd (e ▸ W.o) c
      · exact e
    have D := WW n rfl
    refine ⟨_, pss_cons (ps_if (pt_cmp (pc_din (hu_of hr) (pv 1) (pv 2))) (pss_one ps_retN) pss_nil)
      (pss_cons (PS.nox (ps_for PassesOwn.never rfl (pi_tup (pe_ix (show IxR _ (rIxL K) from ix_list) (pv 0) (pe_op op_sub (pv 1) (pe_glob (v := .int 2) rfl m2 ⟨t2, rfl⟩)) (fun _ _ => rfl))) (pg_name (i := 3) scWalk.nd rfl (Or.inl rfl))
        (pss_one (ps_expr (pe_df D hr rfl (passS0 (E := fun _ _ _ _ => False)) (pa_cons (pv 0) (pa_cons (pe_ix (show IxR _ (rIxT K) from ix_tup) (pv 3) pe_int (fun _ _ => rfl)) (pa_cons (pv 2) pa_nil))))))))
      (pss_one (ps_dput (hu_of hr) (pv 2) (pv 1) pe_bl rfl))), ?_⟩
    refine ⟨_, rfl, _, rfl, wd, _, rfl, DGet.k (k := .inl k) hwd, _, rfl, ?_⟩
    rw [wlk_val, decide_eq_false c]
    refine iteF ?_
    obtain ⟨x, hx, ra⟩ := pget' pr (Bk.roomAt_eq kl)
    obtain ⟨a, ys, rfl, qa, pd⟩ := id ra
    have ik : atI xs (k - 2) = some (.ref a) := by
      have := atI_nat hx
      rw [show (((k - 2).toNat : Nat) : Int) = k - 2 by omega] at this
      exact this
    refine ⟨_, rfl, _, rfl, k, 2, rfl, rfl, l, xs, k - 2, .ref a, rfl, rfl, ql, ik, a, rfl, ⟨_, qa⟩,
      for_tup (K := K) (a := a) (xs := ys) (fun i σ H2 => ∃ v3, σ = [some (.ref l), some (.int k), some (.ref wd), v3] ∧ SameB wd H H2 ∧ H2 wd = some (.dK (wlk (((Bk.roomAt rs k).take i).foldl (fun w d => Bk.walk n rs d.2 w) ws)))) ⟨none, rfl, SameB.refl _ _, hwd⟩ ?_ ?_ ?_⟩
    · rintro i σ H2 _ ⟨v3, rfl, s2, _⟩
      exact s2.seqT hwd qa
    · rintro i y σ H2 hy ⟨v3, rfl, s2, h2⟩
      obtain ⟨⟨dt, dk⟩, hd, p, rfl, qd⟩ := pget pd hy
      obtain ⟨il, ie⟩ := List.getElem?_eq_some_iff.mp hd
      obtain ⟨wp, kp⟩ := Bk.walk_part wf W kl k2 c fd' i (by omega)
      refine ⟨_, rfl, _, rfl, p, _, 1, .int dk, rfl, rfl, s2.seqT hwd qd, atI1, _, rfl, l, wd, xs, rs, dk, _, rfl, s2.seqL hwd ql, pimp (fun _ _ z => z.sameB s2 hwd) pr, wf, few, h2, wp, fd' _ (List.mem_of_getElem? hd), fun H3 s3 h3 => ?_⟩
      refine ⟨_, rfl, s2.trans s3, ?_⟩
      rw [take_get' hd, List.foldl_append]
      exact h3
    · rintro σ H2 ⟨v3, rfl, s2, h2⟩
      have hl := pd.length
      obtain ⟨wp, kp⟩ := Bk.walk_part wf W kl k2 c fd' (Bk.roomAt rs k).length (Nat.le_refl _)
      rw [hl] at h2
      rw [List.take_length] at h2 wp kp
      refine ⟨_, rfl, _, rfl, wd, _, rfl, DPut.k (k := .inl k) h2 ?_, ?_⟩
      · unfold wlk
        rw [List.length_map, sizeLine_eq]
        have := wp.len
        omega
      · refine z _ (s2.trans (SameB.upd _)) ?_
        have e : Bk.walk (n + 1) rs k ws = (Bk.roomAt rs k).foldl (fun w d => Bk.walk n rs d.2 w) ws ++ [k] := by rw [Bk.walk]; exact if_neg c
        rw [upd_same, wlk_put kp, e]
theorem ok_walk {f : Addr} {fd : FuncData} (F : Fun K "walk_rooms" "walk_rooms" sWalk f fd) (T : TxB K mg CO) (b : Binds K fd ["rooms", "number", "walked"] []) (m : mg "walk_rooms" = some (.ref f)) :
    ∀ n, FnOk P w K mg base CX0 (n + 1) f fd ["rooms", "number", "walked"] (spWalk K n)
  | 0 => ok_walk0 F T 0 fun m h => nomatch h
  | n + 1 => ok_walk0 F T (n + 1) fun k h => by
    cases h
    exact ⟨f, fd, ok_walk F T b m n, b, F.kp, m⟩
end
end Ord
namespace L2
open PySem
def enc (r : Bk.Room) : List (List Int) := r.map fun d => [d.1, d.2]
theorem enc_inj {r r' : Bk.Room} (h : enc r = enc r') : r = r' := by
  unfold enc at h
  exact (List.map_inj_right (f := fun d : Int × Int => [d.1, d.2]) (fun a b e => by
    simp only [List.cons.injEq, and_true] at e
    exact Prod.ext e.1 e.2)).mp h
theorem b_set : bootBuiltins "set" = some (.type "set") := by decide +kernel
end L2
namespace Ord
open PySem L2 Mx
section
variable {P : Program} {w : World} {K : W.Frag} {mg : Str → Option Value} {base : Heap} {CO : Addr}
theorem RoomA.rep {H : Hp} {x : V} {r : Bk.Room} (h : RoomA K H x r) : dRoomK.rep K H x (enc r) := by
  obtain ⟨a, xs, e, q, z⟩ := h
  refine ⟨a, xs, e, q, ?_⟩
  clear q e
  induction z with
  | nil => exact .nil
  | cons h _ ih =>
    obtain ⟨p, e, q⟩ := h
    exact .cons ⟨p, _, e, q, .cons rfl (.cons rfl .nil)⟩ ih
theorem rooms_rep {H : Hp} : ∀ {xs : List V} {rs : List Bk.Room}, Paired (RoomA K H) xs rs → Paired (dRoomK.rep K H) xs (rs.map enc)
  | _, _, .nil => .nil
  | _, _, .cons h t => .cons h.rep (rooms_rep t)
def spLookT (K : W.Frag) (n : Nat) : Sp := fun vs H Q _ => ∃ (l : Addr) (xs : List V) (rs : List Bk.Room) (k : Int), vs = [.ref l, .int k] ∧ SqL K H l xs ∧ Paired (RoomA K H) xs rs ∧ Bk.WF rs ∧ rs.length < 70 ∧ rs.Nodup ∧ Bk.Fits n rs k ∧ Bk.walk n rs k [0, 1] = upto (rs.length + 2) ∧
  ∀ H', Same H H' → Q .non H'
theorem scLookT : FnScope ["rooms", "first", "walked"] ["rooms", "first"] (defScope sLookT) := ⟨rfl, rfl, rfl, by decide +kernel, rfl, by decide +kernel, by decide +kernel⟩
theorem ok_lookT {f : Addr} {fd : FuncData} (n : Nat) (F : Fun K "look_turn" "look_turn" sLookT f fd) (T : TxB K mg CO) (WW : Df P w K mg base CX0 (n + 1) "walk_rooms" ["rooms", "number", "walked"] (spWalk K n)) :
    FnOk P w K mg base CX0 (n + 2) f fd ["rooms", "first"] (spLookT K n) := by
  refine F.ok scLookT (fun vs H Q E h => ?_) (fun cdv A outer s H vs Q E hr h => ?_)
  · obtain ⟨l, xs, rs, k, rfl, _⟩ := h
    rfl
  obtain ⟨l, xs, rs, k, rfl, ql, pr, wf, few, nd, fit, wk, z⟩ := h
  obtain ⟨t0, m0⟩ := T.no
  obtain ⟨t1, m1⟩ := T.en
  obtain ⟨t2, m2⟩ := T.low
  refine ⟨_, pss_cons (ps_if (pt_cmpR op_ne (pe_callB call_lenS rfl T.t.len b_len (pa_cons (pe_callTy (call_setG dRoomK (roomE P w) (by have := hr.un; show (A.deeper _).units + 1 + 1 + 1 + 1 < cLine; omega) rfl (fun I h => its_of I h) (fun ⟨p, _, e, _⟩ => ⟨p, e⟩)) rfl T.set b_set (pa_cons (pv 0) pa_nil)) pa_nil))
        (pe_callB call_len_seq rfl T.t.len b_len (pa_cons (pv 0) pa_nil)) (nomark _)) (pss_one ps_never) pss_nil)
    (pss_cons (ps_set (i := 2) scLookT.nd rfl (Or.inl rfl) (pe_disp (pps_cons (pe_glob (v := .int 0) rfl m0 ⟨t0, rfl⟩) pe_bl (pps_cons (pe_glob (v := .int 1) rfl m1 ⟨t1, rfl⟩) pe_bl pps_nil)) rfl rfl (by decide) (by decide)))
    (pss_cons (ps_expr (pe_df WW hr rfl (passS0 (E := fun _ _ _ _ => False)) (pa_cons (pv 0) (pa_cons (pv 1) (pa_cons (pv 2) pa_nil)))))
    (pss_one (ps_if (pt_cmpR (op_neL hr.units0) (pe_callTy (call_list_dict rfl) rfl T.t.list b_list (pa_cons (pv 2) pa_nil))
        (pe_callTy (call_list_rng rfl) rfl T.t.list b_list (pa_cons (pe_callTy call_rng1 rfl T.t.range b_range (pa_cons (pe_op op_add (pe_glob (v := .int 2) rfl m2 ⟨t2, rfl⟩) (pe_callB call_len_seq rfl T.t.len b_len (pa_cons (pv 0) pa_nil))) pa_nil)) pa_nil)) (nomark _))
      (pss_one ps_never) pss_nil)))), ?_⟩
  refine ⟨_, rfl, .ref l, rs.map enc, rfl, ⟨l, xs, rfl, ql, rooms_rep pr⟩, by rw [List.length_map]; exact few, fun p bs ks hp0 pb ndk mem => ?_⟩
  have s1 : Same H (upd H p (SetO w p bs)) := same_upd hp0 _
  have hlen := pr.length
  have ndm : (rs.map enc).Nodup := by
    unfold List.Nodup
    rw [List.pairwise_map]
    exact nd.imp fun h e => h (enc_inj e)
  have lb : bs.length = xs.length := by
    have h1 := subset_len ks (rs.map enc) ndk fun x hx => (mem x).mp hx
    have h2 := subset_len (rs.map enc) ks ndm fun x hx => (mem x).mpr hx
    have h3 := pb.length
    rw [List.length_map] at h1 h2
    omega
  refine ⟨p, bs, rfl, upd_same, ?_⟩
  refine ⟨_, rfl, l, _, rfl, .inl (s1.seqL ql), rfl, _, rfl, ?_⟩
  rw [lb, decide_eq_true rfl]
  refine iteF ?_
  intro wd hw0
  refine ⟨upd_same, [(Sum.inl 0, V.bl true), (Sum.inl 1, V.bl true)], rfl, by decide, ?_⟩
  have hwd : (upd (upd (upd H p (SetO w p bs)) wd (HO.dK [])) wd (HO.dK (mergeK [] [(Sum.inl 0, V.bl true), (Sum.inl 1, V.bl true)]))) wd = some (.dK (wlk [0, 1])) := by rw [upd_same]; rfl
  have s3 : Same H (upd (upd (upd H p (SetO w p bs)) wd (HO.dK [])) wd (HO.dK (mergeK [] [(Sum.inl 0, V.bl true), (Sum.inl 1, V.bl true)]))) := fun b o e => by
    have nb : b ≠ wd := ne_of_none (s1 b o e) hw0
    rw [upd_ne nb, upd_ne nb]
    exact s1 b o e
  refine ⟨_, rfl, _, rfl, _, rfl, l, wd, xs, rs, k, [0, 1], rfl, s3.seqL ql, pimp (fun _ _ z => z.same s3) pr, wf, by omega, hwd, ⟨by decide, fun x hx => ?_, by decide, by decide⟩, fit, fun H4 s4 h4 => ?_⟩
  · rcases List.mem_cons.mp hx with rfl | hx
    · omega
    · rw [List.mem_singleton.mp hx]; omega
  rw [wk] at h4
  have wdH : H wd = none := s1.free hw0
  have s5 : Same H H4 := fun b o e => s4 b o (ne_of_none e wdH) (s3 b o e)
  have e1 : (wlk (upto (rs.length + 2))).map (fun kv => kV kv.1) = (upto (rs.length + 2)).map V.int := by
    unfold wlk
    rw [List.map_map]
    rfl
  refine ⟨_, rfl, wd, _, rfl, h4, fun l1 hl1 => ?_⟩
  rw [e1]
  have s6 := s5.trans (same_upd hl1 (.lst ((upto (rs.length + 2)).map V.int)))
  refine ⟨_, rfl, l, _, rfl, .inl (s6.seqL ql), 2, _, rfl, rfl, _, rfl, fun r1 hr1 => ?_⟩
  have s7 := s6.trans (same_upd hr1 (.rng 0 (2 + ((xs.length : Nat) : Int))))
  refine ⟨r1, 0, 2 + ((xs.length : Nat) : Int), rfl, upd_same, by omega, by omega, by omega, by omega, by omega, fun l2 hl2 => ?_⟩
  have e2 : rngV 0 (2 + ((xs.length : Nat) : Int) - 0).toNat = (upto (rs.length + 2)).map V.int := by
    rw [rngV_upto, show (2 + ((xs.length : Nat) : Int) - 0).toNat = rs.length + 2 by omega]
  rw [e2]
  have hl1' : (upd (upd (upd H4 l1 (.lst ((upto (rs.length + 2)).map V.int))) r1 (.rng 0 (2 + ((xs.length : Nat) : Int)))) l2 (.lst ((upto (rs.length + 2)).map V.int))) l1 = some (.lst ((upto (rs.length + 2)).map V.int)) :=
    same_upd hl2 _ _ _ (same_upd hr1 _ _ _ upd_same)
  refine ⟨l1, l2, _, _, rfl, rfl, .inl (.inl hl1'), SqL.up, flat_ints _, flat_ints _, _, rfl, ?_⟩
  rw [eqVs_ints, decide_eq_true rfl]
  exact iteF (z _ (s7.trans (same_upd hl2 _)))
end
end Ord
namespace Ord
open PySem L2 Mx
section
variable {P : Program} {w : World} {K : W.Frag} {mg : Str → Option Value} {base : Heap} {CO : Addr}
structure WholeB (many : Nat) (rs : List Bk.Room) (first : Nat) : Prop where
  m1 : 1 ≤ many
  m8 : many ≤ 8
  rooms : Whole many rs
  few : rs.length < 70
  nd : rs.Nodup
  fst : first = 0 ∨ (1 < first ∧ first < rs.length + 2 ∧ Bk.msk rs first = 2 ^ many - 1)
  fits : Bk.Fits 8 rs first
  walk : Bk.walk 8 rs first [0, 1] = upto (rs.length + 2)
theorem BookA.same {H H' : Hp} {x : V} {many : Int} {rs : List Bk.Room} {first : Int} (s : Same H H') (h : BookA K H x many rs first) : BookA K H' x many rs first := by
  obtain ⟨b, l, xs, e, q, ql, pr⟩ := h.ex
  exact ⟨b, l, xs, e, s.seqT q, s.seqL ql, pimp (fun _ _ z => z.same s) pr⟩
def spBook (K : W.Frag) : Sp := fun vs H Q _ => ∃ (x : V) (many : Nat) (rs : List Bk.Room) (first : Nat), vs = [x] ∧ BookA K H x many rs first ∧ WholeB many rs first ∧ ∀ H', Same H H' → Q .non H'
theorem scBook : FnScope ["book", "many", "rooms", "first", "things"] ["book"] (defScope sBook) := ⟨rfl, rfl, rfl, by decide +kernel, rfl, by decide +kernel, by decide +kernel⟩
theorem ok_book {f : Addr} {fd : FuncData} (F : Fun K "look_book" "look_book" sBook f fd) (WP : Df P w K mg base CX0 3 "look_parts" ["book"] (spParts K)) (WF' : Df P w K mg base CX0 4 "things_from" ["many", "rooms"] (spFrom K))
    (WL : Df P w K mg base CX0 1 "look_first" ["many", "things", "first"] (spLookF K)) (WT : Df P w K mg base CX0 10 "look_turn" ["rooms", "first"] (spLookT K 8)) : FnOk P w K mg base CX0 11 f fd ["book"] (spBook K) := by
  refine F.ok scBook (fun vs H Q E h => ?_) (fun cdv A outer s H vs Q E hr h => ?_)
  · obtain ⟨x, many, rs, first, rfl, _⟩ := h
    rfl
  obtain ⟨x, many, rs, first, rfl, B, W, z⟩ := h
  obtain ⟨b, l, xs, rfl, q, ql, pr⟩ := id B.ex
  have ix : IxR (cxOf CX0 P w K mg base ["book", "many", "rooms", "first", "things"] "look_book" (defScope sBook) f cdv A outer s H E).nox (rIxT K) := ix_tup
  refine ⟨_, pss_cons (ps_expr (pe_df WP (hr.mono (by decide)) rfl (passS0 (E := fun _ _ _ _ => False)) (pa_cons (pv 0) pa_nil)))
    (pss_cons (ps_set (i := 1) scBook.nd rfl (Or.inl rfl) (pe_ix ix (pv 0) pe_int (fun _ _ => rfl)))
    (pss_cons (ps_set (i := 2) scBook.nd rfl (Or.inl rfl) (pe_ix ix (pv 0) pe_int (fun _ _ => rfl)))
    (pss_cons (ps_set (i := 3) scBook.nd rfl (Or.inl rfl) (pe_ix ix (pv 0) pe_int (fun _ _ => rfl)))
    (pss_cons (ps_set (i := 4) scBook.nd rfl (Or.inl rfl) (pe_df WF' (hr.mono (by decide)) rfl (passS0 (E := fun _ _ _ _ => False)) (pa_cons (pv 1) (pa_cons (pv 2) pa_nil))))
    (pss_cons (ps_expr (pe_df WL (hr.mono (by decide)) rfl (passS0 (E := fun _ _ _ _ => False)) (pa_cons (pv 1) (pa_cons (pv 4) (pa_cons (pv 3) pa_nil)))))
    (pss_one (ps_expr (pe_df WT hr rfl (passS0 (E := fun _ _ _ _ => False)) (pa_cons (pv 2) (pa_cons (pv 3) pa_nil)))))))))), ?_⟩
  have m1 := W.m1
  have m8 := W.m8
  refine ⟨_, rfl, .ref b, many, rs, first, rfl, B, by omega, by omega, ?_⟩
  refine ⟨_, rfl, b, _, 0, .int many, rfl, rfl, q, atI0, ?_⟩
  refine ⟨_, rfl, b, _, 1, .ref l, rfl, rfl, q, atI1, ?_⟩
  refine ⟨_, rfl, b, _, 2, .int first, rfl, rfl, q, atI2, ?_⟩
  refine ⟨_, rfl, _, rfl, many, l, xs, rs, rfl, ql, pr, W.rooms, fun t H1 s1 ht => ?_⟩
  refine ⟨_, rfl, _, rfl, _, rfl, many, first, t, Bk.masks rs, rfl, .inl (.inl ht), m8, ?_, ?_⟩
  · rw [Bk.masks_len]
    exact W.fst
  refine ⟨_, rfl, _, rfl, l, xs, rs, first, rfl, s1.seqL ql, pimp (fun _ _ z => z.same s1) pr, W.rooms.wf, W.few, W.nd, W.fits, W.walk, fun H2 s2 => ?_⟩
  exact z H2 (s1.trans s2)
end
end Ord
namespace L2
open PySem
theorem ints_rep {K : W.Frag} {H : Hp} {p : Addr} {o : List Int} (h : SqT K H p (o.map V.int)) : dInts.rep K H (.ref p) o := by
  refine ⟨p, _, rfl, h, ?_⟩
  clear h
  induction o with
  | nil => exact .nil
  | cons x o ih => exact .cons rfl ih
theorem rep_ints {K : W.Frag} {H : Hp} {x : V} {o : List Int} (h : dInts.rep K H x o) : ∃ p, x = .ref p ∧ SqT K H p (o.map V.int) := by
  obtain ⟨p, xs, e, q, r⟩ := h
  have : xs = o.map V.int := by
    clear q e
    induction r with
    | nil => rfl
    | cons h _ ih => rw [ih, List.map_cons]; cases h; rfl
  exact ⟨p, e, this ▸ q⟩
end L2
namespace Ord
open PySem L2 Mx
abbrev Below (many : Nat) : Int → Prop := fun x => 0 ≤ x ∧ x < (many : Int)
theorem whole_none {many : Nat} (m1 : 1 ≤ many) (m8 : many ≤ 8) : WholeB many [] 0 where
  m1 := m1
  m8 := m8
  rooms := ⟨(fun i r h => by simp at h), (fun i r h => by simp at h), (fun r h => nomatch h), (by decide)⟩
  few := by decide
  nd := List.nodup_nil
  fst := .inl rfl
  fits := .inl rfl
  walk := by rw [show ((0 : Nat) : Int) = 0 from rfl, Bk.walk_in (by decide)]; rfl
theorem whole_lay {many : Nat} {os : Bk.Ords} (m1 : 1 ≤ many) (m8 : many ≤ 8) (h : Bk.Sets many (Below many) os) (ne : os ≠ []) (few : (Bk.lay many os []).2.length < 70) : WholeB many (Bk.lay many os []).2 (Bk.lay many os []).1 := by
  have wf0 : Bk.WF [] := fun i r h => by simp at h
  have mk0 : Bk.MOk [] := fun i r h => by simp at h
  obtain ⟨wf, pre, tells⟩ := Bk.lay_spec many os [] h.plain ne wf0
  obtain ⟨mk, hs⟩ := Bk.lay_mask many (Below many) os [] h ne wf0 mk0
  have all : ∀ o ∈ Bk.sem (Bk.lay many os []).2 (Bk.lay many os []).1, o.length = many := fun o ho => (h o ((tells.mem o).mp ho)).1
  have fit := Bk.fits_of wf many _ tells.lo tells.hi all
  refine ⟨m1, m8, ⟨wf, mk, Bk.lay_less many os [] (fun o ho x hx => (((h o ho).2.2.2 x).mp hx).2) (fun r h => by cases h), by omega⟩, few, Bk.lay_nodup many os [] List.nodup_nil, .inr ⟨?_, tells.hi, Bk.mask_all hs⟩, fit.le m8, ?_⟩
  · have lo := tells.lo
    have n1 : (Bk.lay many os []).1 ≠ 1 := fun e => by
      have := all [] (by rw [e, Bk.sem_one]; exact List.mem_cons_self)
      simp at this
      omega
    omega
  · have := Bk.lay_walk many os [] (Bk.lay many os []).2 h.plain ne wf0 List.prefix_rfl 8 m8
    exact this
theorem sem_lay {many : Nat} {os : Bk.Ords} (h : Bk.Sets many (Below many) os) (ne : os ≠ []) : Bk.Rising (Bk.sem (Bk.lay many os []).2 (Bk.lay many os []).1) ∧ Bk.Like (Bk.sem (Bk.lay many os []).2 (Bk.lay many os []).1) os := by
  obtain ⟨wf, pre, tells⟩ := Bk.lay_spec many os [] h.plain ne (fun i r h => by simp at h)
  exact ⟨tells.rise, tells.mem⟩
theorem go_lay {many : Nat} {os : Bk.Ords} {o : List Int} (h : Bk.Sets many (Below many) os) (ne : os ≠ []) (ho : o.length = many) : Bk.GoOk (Bk.lay many os []).2 (Bk.lay many os []).1 o ∧ (Bk.goes (Bk.lay many os []).2 (Bk.lay many os []).1 o = 1 ↔ o ∈ os) := by
  obtain ⟨wf, pre, tells⟩ := Bk.lay_spec many os [] h.plain ne (fun i r h => by simp at h)
  have all : ∀ o' ∈ Bk.sem (Bk.lay many os []).2 (Bk.lay many os []).1, o'.length = o.length := fun o' ho' => by rw [ho]; exact (h o' ((tells.mem o').mp ho')).1
  exact ⟨Bk.goOk_of wf o _ tells.lo tells.hi all, (Bk.goes_iff wf o _ tells.lo tells.hi all).trans (tells.mem o)⟩
end Ord
namespace L2
open PySem
def Soft : HO → Prop
  | .tup _ => False
  | .frz _ _ => False
  | _ => True
section
variable {K : W.Frag} {H : Hp} {a d : Addr} {xs : List V} {o u : HO} {x : V}
theorem SqT.soft (hd : H d = some o) (so : Soft o) (h : SqT K H a xs) : SqT K (upd H d u) a xs := by
  rcases h with (h | ⟨ob, h⟩) | h
  · refine .inl (.inl ?_)
    rw [upd_ne (by rintro rfl; rw [hd] at h; cases h; exact so)]
    exact h
  · refine .inl (.inr ⟨ob, ?_⟩)
    rw [upd_ne (by rintro rfl; rw [hd] at h; cases h; exact so)]
    exact h
  · exact .inr h
theorem ints_soft (hd : H d = some o) (so : Soft o) {ks : List Int} (h : dInts.rep K H x ks) : dInts.rep K (upd H d u) x ks := by
  obtain ⟨p, xs, e, q, r⟩ := h
  exact ⟨p, xs, e, q.soft hd so, pimp (fun _ _ z => z) r⟩
theorem roomK_soft (hd : H d = some o) (so : Soft o) {ks : List (List Int)} (h : dRoomK.rep K H x ks) : dRoomK.rep K (upd H d u) x ks := by
  obtain ⟨p, xs, e, q, r⟩ := h
  exact ⟨p, xs, e, q.soft hd so, pimp (fun _ _ z => ints_soft hd so z) r⟩
end
theorem val_num {r : Bk.Room} : ∀ {L : NL3} {rs : List Bk.Room} {k : Int}, L.length = rs.length → (∀ (i : Nat) (e : List (List Int) × Addr × Int), L[i]? = some e → ∃ r, rs[i]? = some r ∧ e.1 = enc r ∧ e.2.2 = (i : Int) + k) →
    valN L (enc r) = if r ∈ rs then some ((rs.idxOf r : Nat) + k) else none
  | [], [], _, _, _ => rfl
  | [], _ :: _, _, h, _ => by simp at h
  | _ :: _, [], _, h, _ => by simp at h
  | e :: L, r0 :: rs, k, h, all => by
    obtain ⟨r1, h1, h2, h3⟩ := all 0 e rfl
    simp at h1
    subst h1
    have ih := val_num (r := r) (L := L) (rs := rs) (k := k + 1) (by simpa using h) fun i e' he => by
      obtain ⟨r', g1, g2, g3⟩ := all (i + 1) e' (by simpa using he)
      exact ⟨r', by simpa using g1, g2, by rw [g3]; omega⟩
    by_cases c : r0 = r
    · subst c
      rw [if_pos List.mem_cons_self, List.idxOf_cons_self]
      unfold valN
      rw [List.find?_cons_of_pos (by simpa using h2)]
      show some e.2.2 = _
      rw [h3]
    · have c' : ¬ e.1 = enc r := fun z => c (enc_inj (h2.symm.trans z))
      have e1 : valN (e :: L) (enc r) = valN L (enc r) := by
        unfold valN
        rw [List.find?_cons_of_neg (by simpa using c')]
      rw [e1, ih]
      by_cases m : r ∈ rs
      · rw [if_pos m, if_pos (List.mem_cons_of_mem _ m), List.idxOf_cons, show (r0 == r) = false from by simpa using c]
        simp
        omega
      · rw [if_neg m, if_neg (fun z => by rcases List.mem_cons.mp z with z | z; exact c z.symm; exact m z)]
end L2
namespace Ord
open PySem L2 Mx
abbrev sShelf : Stmt := top 19
def clsBody (s : Stmt) : List Stmt := match s with
  | .ClassDef _ _ _ b _ _ _ _ _ _ _ => b
  | _ => []
abbrev sInit : Stmt := (clsBody sShelf).getD 0 (.Pass ⟨0, 0, 0, 0⟩)
abbrev sKeep : Stmt := (clsBody sShelf).getD 1 (.Pass ⟨0, 0, 0, 0⟩)
structure ShC (K : W.Frag) (C : Addr) : Prop where
  cls : Cls K C
  rooms : NoAttr K C "rooms"
  numbers : NoAttr K C "numbers"
def NumL (L : NL3) (rs : List Bk.Room) : Prop := L.length = rs.length ∧ ∀ (i : Nat) (e : List (List Int) × Addr × Int), L[i]? = some e → ∃ r, rs[i]? = some r ∧ e.1 = enc r ∧ e.2.2 = (i : Int) + 2
structure ShA (K : W.Frag) (C : Addr) (H : Hp) (x lr dn : Addr) (rs : List Bk.Room) : Prop where
  ex : ∃ dx xs L, H x = some (.ins C dx [("rooms", .ref lr), ("numbers", .ref dn)]) ∧ H lr = some (.lst xs) ∧ Paired (RoomA K H) xs rs ∧ H dn = some (NumO dn L) ∧ KeysK K H L ∧ NumL L rs
section
variable {P : Program} {w : World} {K : W.Frag} {mg : Str → Option Value} {base : Heap} {CO C : Addr}
def spInit (K : W.Frag) (C : Addr) : Sp := fun vs H Q _ => ∃ (x dx : Addr), vs = [.ref x] ∧ H x = some (.ins C dx []) ∧ ∀ (lr dn : Addr) (H' : Hp), H lr = none → H dn = none → (∀ b o, b ≠ x → H b = some o → H' b = some o) → ShA K C H' x lr dn [] → Q .non H'
theorem scInit : FnScope ["self"] ["self"] (defScope sInit) := ⟨rfl, rfl, rfl, by decide +kernel, rfl, by decide +kernel, by decide +kernel⟩
theorem ok_init {f : Addr} {fd : FuncData} (F : Fun K "__init__" "Shelf.__init__" sInit f fd) (c : ShC K C) : FnOk P w K mg base CX0 1 f fd ["self"] (spInit K C) := by
  refine F.ok scInit (fun vs H Q E h => ?_) (fun cdv A outer s H vs Q E hr h => ?_)
  · obtain ⟨x, dx, rfl, _⟩ := h
    rfl
  obtain ⟨x, dx, rfl, hx, z⟩ := h
  refine ⟨_, pss_cons (ps_fld (pv 0) (pe_lst pa_nil) rfl) (pss_one (ps_fld (pv 0) pe_dnewN rfl)), ?_⟩
  refine ⟨by show 0 ≤ sizeLine; decide, fun lr hlr => ?_⟩
  have n1 : x ≠ lr := ne_of_none hx hlr
  refine ⟨_, rfl, x, C, dx, [], rfl, by rw [upd_ne n1]; exact hx, c.cls, c.rooms, by decide, ?_⟩
  intro dn hdn
  have n2 : x ≠ dn := ne_of_none upd_same hdn
  have n3 : lr ≠ dn := fun e => by
    subst e
    rw [upd_ne (Ne.symm n1), upd_same] at hdn
    cases hdn
  have hdn' : H dn = none := by
    rw [upd_ne (Ne.symm n2), upd_ne (Ne.symm n3)] at hdn
    exact hdn
  refine ⟨_, rfl, x, C, dx, [("rooms", .ref lr)], rfl, by rw [upd_ne n2, upd_same]; rfl, c.cls, c.numbers, by show 1 < 1000; decide, ?_⟩
  refine z lr dn _ hlr hdn' (fun b o nb e => ?_) ⟨dx, [], [], ?_, ?_, .nil, ?_, (fun e h => nomatch h), rfl, (fun i e h => nomatch h)⟩
  · rw [upd_ne nb, upd_ne (ne_of_none e hdn'), upd_ne nb, upd_ne (ne_of_none e hlr)]
    exact e
  · rw [upd_same]; rfl
  · rw [upd_ne (Ne.symm n1), upd_ne n3, upd_ne (Ne.symm n1), upd_same]
  · rw [upd_ne (Ne.symm n2), upd_same]
theorem RoomA.soft {H : Hp} {d : Addr} {o u : HO} {x : V} {r : Bk.Room} (hd : H d = some o) (so : Soft o) (h : RoomA K H x r) : RoomA K (upd H d u) x r := by
  obtain ⟨a, xs, e, q, z⟩ := h
  exact ⟨a, xs, e, q.soft hd so, pimp (fun _ _ ⟨p, e, q⟩ => ⟨p, e, q.soft hd so⟩) z⟩
theorem NumL.val {L : NL3} {rs : List Bk.Room} (h : NumL L rs) (r : Bk.Room) : valN L (enc r) = if r ∈ rs then some (((rs.idxOf r : Nat) : Int) + 2) else none := val_num h.1 h.2
theorem NumL.snoc {L : NL3} {rs : List Bk.Room} (h : NumL L rs) (r : Bk.Room) (b : Addr) : NumL (L ++ [(enc r, b, (rs.length : Int) + 2)]) (rs ++ [r]) := by
  refine ⟨by rw [List.length_append, List.length_append, h.1]; rfl, fun i e he => ?_⟩
  by_cases hi : i < L.length
  · rw [List.getElem?_append_left hi] at he
    obtain ⟨r', g1, g2, g3⟩ := h.2 i e he
    exact ⟨r', by rw [List.getElem?_append_left (by rw [← h.1]; exact hi)]; exact g1, g2, g3⟩
  · have hl := (List.getElem?_eq_some_iff.mp he).1
    rw [List.length_append] at hl
    have hi' : i = L.length := by simp at hl; omega
    subst hi'
    rw [List.getElem?_append_right (Nat.le_refl _)] at he
    simp at he
    subst he
    exact ⟨r, by rw [h.1, List.getElem?_append_right (Nat.le_refl _)]; simp, rfl, by rw [h.1]⟩
def spKeep (K : W.Frag) (C : Addr) : Sp := fun vs H Q _ => ∃ (x lr dn : Addr) (rs : List Bk.Room) (y : V) (r : Bk.Room), vs = [.ref x, y] ∧ ShA K C H x lr dn rs ∧ RoomA K H y r ∧ rs.length < 1000 ∧
  ∀ H', (∀ b o, b ≠ lr → b ≠ dn → H b = some o → H' b = some o) → ShA K C H' x lr dn (Bk.keep rs r).2 → Q (.int ((Bk.keep rs r).1 : Nat)) H'
theorem scKeep : FnScope ["self", "room"] ["self", "room"] (defScope sKeep) := ⟨rfl, rfl, rfl, by decide +kernel, rfl, by decide +kernel, by decide +kernel⟩
theorem ok_keep {f : Addr} {fd : FuncData} (F : Fun K "keep" "Shelf.keep" sKeep f fd) (T : TxB K mg CO) (c : ShC K C) : FnOk P w K mg base CX0 1 f fd ["self", "room"] (spKeep K C) := by
  refine F.ok scKeep (fun vs H Q E h => ?_) (fun cdv A outer s H vs Q E hr h => ?_)
  · obtain ⟨x, lr, dn, rs, y, r, rfl, _⟩ := h
    rfl
  obtain ⟨x, lr, dn, rs, y, r, rfl, S, ra, few, z⟩ := h
  obtain ⟨dx, xs, L, hx, hlr, pr, hdn, hk, nl⟩ := S.ex
  obtain ⟨b, ys, rfl, qb, pb⟩ := id ra
  obtain ⟨t2, m2⟩ := T.low
  have hu : (cxOf CX0 P w K mg base ["self", "room"] "Shelf.keep" (defScope sKeep) f cdv A outer s H E).nox.A.units + 2 < cLine := by have := hr.un; show (A.deeper _).units + 2 < cLine; omega
  refine ⟨_, pss_cons (ps_if (pt_cmpR (op_notInN hu) (pv 1) (pe_fld (pv 0) rfl) rfl)
      (pss_cons (ps_nput hu (pe_fld (pv 0) rfl) (pv 1) (pe_op op_add (pe_callB call_len_seq rfl T.t.len b_len (pa_cons (pe_fld (pv 0) rfl) pa_nil)) (pe_glob (v := .int 2) rfl m2 ⟨t2, rfl⟩)) rfl)
      (pss_one (ps_expr (pe_bm PySem.F.plainAttrs_list PySem.F.slot_list_append PySem.F.type_list_append mt_append (pe_fld (pv 0) rfl) (pa_cons (pv 1) pa_nil))))) pss_nil)
    (pss_one (ps_ret (pe_nget hu (pe_fld (pv 0) rfl) (pv 1) (fun _ _ => rfl)))), ?_⟩
  have hlen := pr.length
  have n1 : x ≠ lr := ne_of hx hlr (fun h => nomatch h)
  have n2 : x ≠ dn := ne_of hx hdn (fun h => nomatch h)
  have n3 : lr ≠ dn := ne_of hlr hdn (fun h => nomatch h)
  refine ⟨_, rfl, _, rfl, x, C, dx, _, .ref dn, rfl, hx, c.cls, c.numbers, rfl, dn, L, b, enc r, rfl, rfl, hdn, hk, ra.rep, _, rfl, ?_⟩
  rw [nl.val r]
  by_cases m : r ∈ rs
  · rw [if_pos m]
    refine iteF ?_
    have ek : Bk.keep rs r = (rs.idxOf r + 2, rs) := by unfold Bk.keep; rw [if_pos m]
    rw [ek] at z
    refine ⟨_, rfl, x, C, dx, _, .ref dn, rfl, hx, c.cls, c.numbers, rfl, _, rfl, dn, L, b, enc r, _, rfl, rfl, hdn, hk, ra.rep, (nl.val r).trans (if_pos m), ?_⟩
    exact z H (fun b o _ _ e => e) S
  · rw [if_neg m]
    refine iteT ?_
    have ek : Bk.keep rs r = (rs.length + 2, rs ++ [r]) := by unfold Bk.keep; rw [if_neg m]
    rw [ek] at z
    refine ⟨_, rfl, x, C, dx, _, .ref lr, rfl, hx, c.cls, c.rooms, rfl, lr, xs, rfl, .inl (.inl (.inl hlr)), _, 2, rfl, rfl, _, rfl, x, C, dx, _, .ref dn, rfl, hx, c.cls, c.numbers, rfl, _, rfl, dn, L, b, enc r, _, rfl, rfl, rfl, hdn, hk, ra.rep, (nl.val r).trans (if_neg m), by rw [nl.1, sizeLine_eq]; omega, ?_⟩
    have sd : Soft (NumO dn L) := trivial
    have hlr1 : ∀ u, upd H dn u lr = some (.lst xs) := fun u => by rw [upd_ne n3]; exact hlr
    have hx1 : ∀ u, upd H dn u x = some (.ins C dx [("rooms", .ref lr), ("numbers", .ref dn)]) := fun u => by rw [upd_ne n2]; exact hx
    have sl : Soft (.lst xs) := trivial
    refine ⟨_, rfl, x, C, dx, _, .ref lr, rfl, hx1 _, c.cls, c.rooms, rfl, .inl ⟨rfl, _, .inl (.inl (hlr1 _))⟩, _, rfl, lr, xs, .ref b, rfl, rfl, hlr1 _, by rw [sizeLine_eq]; omega, ?_⟩
    have eL : (xs.length : Int) + 2 = (rs.length : Int) + 2 := by omega
    have nl' : NumL (L ++ [(enc r, b, (xs.length : Int) + 2)]) (rs ++ [r]) := by rw [eL]; exact nl.snoc r b
    have ra' : ∀ {y : V} {r' : Bk.Room} {u v : HO}, RoomA K H y r' → RoomA K (upd (upd H dn u) lr v) y r' := fun h => (h.soft hdn sd).soft (hlr1 _) sl
    have kk : ∀ {u v : HO}, KeysK K (upd (upd H dn u) lr v) (L ++ [(enc r, b, (xs.length : Int) + 2)]) := fun {u v} e he => by
      rcases List.mem_append.mp he with h | h
      · exact roomK_soft (hlr1 _) sl (roomK_soft hdn sd (hk e h))
      · rw [List.mem_singleton.mp h]
        exact (ra' ra).rep
    have hx2 : ∀ u v, upd (upd H dn u) lr v x = some (.ins C dx [("rooms", .ref lr), ("numbers", .ref dn)]) := fun u v => by rw [upd_ne n1]; exact hx1 u
    have hdn2 : ∀ u v, upd (upd H dn u) lr v dn = some u := fun u v => by rw [upd_ne (Ne.symm n3), upd_same]
    refine ⟨_, rfl, x, C, dx, _, .ref dn, rfl, hx2 _ _, c.cls, c.numbers, rfl, _, rfl, dn, _, b, enc r, (xs.length : Int) + 2, rfl, rfl, hdn2 _ _, kk, (ra' ra).rep, ?_, ?_⟩
    · have h1 := nl'.val r
      rw [if_pos (List.mem_append_right _ List.mem_cons_self)] at h1
      rw [h1, List.idxOf_append, if_neg m]
      simp
      omega
    · have := z _ (fun b o h1 h2 e => by rw [upd_ne h1, upd_ne h2]; exact e) ⟨dx, _, _, hx2 _ _, upd_same, papp (pimp (fun _ _ h => ra' h) pr) (.cons (ra' ra) .nil), hdn2 _ _, kk, nl'⟩
      rw [show ((rs.length + 2 : Nat) : Int) = (xs.length : Int) + 2 by omega] at this
      exact this
end
end Ord
namespace Ord
open PySem L2 Mx
section
variable {K : W.Frag}
def GrpA (K : W.Frag) (H0 : Hp) (dP : Addr) (H : Hp) (kv : Key × V) (e : Int × Bk.Ords) : Prop := ∃ a vs, kv = (Sum.inl e.1, .ref a) ∧ H0 a = none ∧ a ≠ dP ∧ H a = some (.lst vs) ∧ Paired (dInts.rep K H) vs e.2
structure PartA (K : W.Frag) (H0 : Hp) (dP : Addr) (H : Hp) (kvs : List (Key × V)) (g : List (Int × Bk.Ords)) : Prop where
  at_ : H dP = some (.dK kvs)
  grp : Paired (GrpA K H0 dP H) kvs g
  nd : (kvs.map (·.2)).Nodup
theorem GrpA.soft {H0 H : Hp} {dP d : Addr} {kv : Key × V} {e : Int × Bk.Ords} {o u : HO} (hd : H d = some o) (so : Soft o) (ne : kv.2 ≠ .ref d) (h : GrpA K H0 dP H kv e) : GrpA K H0 dP (upd H d u) kv e := by
  obtain ⟨a, vs, rfl, h1, h2, h3, h4⟩ := h
  exact ⟨a, vs, rfl, h1, h2, by rw [upd_ne (fun z => ne (by rw [z]))]; exact h3, pimp (fun _ _ z => ints_soft hd so z) h4⟩
theorem GrpA.same {H0 H H' : Hp} {dP : Addr} {kv : Key × V} {e : Int × Bk.Ords} (s : Same H H') (h : GrpA K H0 dP H kv e) : GrpA K H0 dP H' kv e := by
  obtain ⟨a, vs, rfl, h1, h2, h3, h4⟩ := h
  exact ⟨a, vs, rfl, h1, h2, s _ _ h3, pimp (fun _ _ z => dInts.mono s z) h4⟩
theorem part_at {H0 H : Hp} {dP : Addr} {k : Int} : ∀ {kvs : List (Key × V)} {g : List (Int × Bk.Ords)}, Paired (GrpA K H0 dP H) kvs g → (valV kvs (.inl k) = none ∧ k ∉ g.map (·.1)) ∨ ∃ a vs, valV kvs (.inl k) = some (.ref a) ∧ k ∈ g.map (·.1) ∧ V.ref a ∈ kvs.map (·.2) ∧ H0 a = none ∧ a ≠ dP ∧ H a = some (.lst vs) ∧ ∃ e ∈ g, vs.length = e.2.length
  | _, _, .nil => .inl ⟨rfl, (fun h => nomatch h)⟩
  | kv :: kvs, e :: g, .cons h t => by
    obtain ⟨a, vs, rfl, h1, h2, h3, h4⟩ := h
    by_cases c : e.1 = k
    · subst c
      exact .inr ⟨a, vs, valV_pos rfl, List.mem_map.mpr ⟨e, List.mem_cons_self, rfl⟩, List.mem_cons_self, h1, h2, h3, e, List.mem_cons_self, h4.length⟩
    · rw [valV_neg (fun z => c (Sum.inl.inj z))]
      rcases part_at (k := k) t with ⟨b1, b2⟩ | ⟨a', vs', b1, b2, b3, b4, b5, b6, e', b7, b8⟩
      · exact .inl ⟨b1, fun z => by rcases List.mem_cons.mp z with z | z; exact c z.symm; exact b2 z⟩
      · exact .inr ⟨a', vs', b1, List.mem_cons_of_mem _ b2, List.mem_cons_of_mem _ b3, b4, b5, b6, e', List.mem_cons_of_mem _ b7, b8⟩
theorem part_put {H0 H : Hp} {dP a : Addr} {vs : List V} {y : V} {o : List Int} {k : Int} (hy : dInts.rep K H y o) (ha : H a = some (.lst vs)) : ∀ {kvs : List (Key × V)} {g : List (Int × Bk.Ords)}, Paired (GrpA K H0 dP H) kvs g → (kvs.map (·.2)).Nodup → (g.map (·.1)).Nodup → valV kvs (.inl k) = some (.ref a) →
    Paired (GrpA K H0 dP (upd H a (.lst (vs ++ [y])))) kvs (g.map fun e => if e.1 = k then (e.1, e.2 ++ [o]) else e)
  | _, _, .nil, _, _, h => nomatch h
  | kv :: kvs, e :: g, .cons h t, nd, nk, hv => by
    rw [List.map_cons, List.nodup_cons] at nd nk
    have hg := h
    obtain ⟨a', vs', rfl, h1, h2, h3, h4⟩ := h
    rw [List.map_cons]
    by_cases c : e.1 = k
    · subst c
      rw [valV_pos rfl] at hv
      cases hv
      rw [ha] at h3
      cases h3
      rw [if_pos rfl]
      have rest : ∀ {kvs : List (Key × V)} {g : List (Int × Bk.Ords)}, Paired (GrpA K H0 dP H) kvs g → V.ref a ∉ kvs.map (·.2) → e.1 ∉ g.map (·.1) → Paired (GrpA K H0 dP (upd H a (.lst (vs ++ [y])))) kvs (g.map fun e' => if e'.1 = e.1 then (e'.1, e'.2 ++ [o]) else e') := by
        intro kvs g t
        induction t with
        | nil => intro _ _; exact .nil
        | @cons kv0 e0 kvs g h _ ih =>
          intro n1 n2
          rw [List.map_cons, List.mem_cons, not_or] at n1 n2
          rw [List.map_cons, if_neg (Ne.symm n2.1)]
          exact .cons (h.soft ha trivial (Ne.symm n1.1)) (ih n1.2 n2.2)
      refine .cons ⟨a, vs ++ [y], rfl, h1, h2, upd_same, papp (pimp (fun _ _ z => ints_soft ha trivial z) h4) (.cons (ints_soft ha trivial hy) .nil)⟩ (rest t nd.1 nk.1)
    · rw [if_neg c]
      rw [valV_neg (fun z => c (Sum.inl.inj z))] at hv
      have na : V.ref a' ≠ V.ref a := fun z => by
        have : ∀ {kvs : List (Key × V)}, valV kvs (.inl k) = some (.ref a) → V.ref a ∈ kvs.map (·.2) := by
          intro kvs
          induction kvs with
          | nil => intro h; cases h
          | cons kv kvs ih =>
            intro h
            by_cases c : kv.1 = .inl k
            · rw [valV_pos c] at h
              exact List.mem_cons.mpr (.inl (Option.some.inj h).symm)
            · rw [valV_neg c] at h
              exact List.mem_cons_of_mem _ (ih h)
        exact nd.1 (z ▸ this hv)
      exact .cons (hg.soft ha trivial na) (part_put hy ha t nd.2 nk.2 hv)
theorem groups_len (p : Nat) (os : Bk.Ords) : (Bk.groups p os).length ≤ os.length :=
  Bk.rev_ind (P := fun os => (Bk.groups p os).length ≤ os.length) (Nat.le_refl _) (fun l x ih => by
    rw [Bk.groups_snoc, List.length_append]
    unfold Bk.addG
    split
    · rw [List.length_map]; simp; omega
    · rw [List.length_append]; simp; omega) os
theorem PartA.more {H0 H : Hp} {dP a e0 : Addr} {kvs : List (Key × V)} {vs : List V} {p : Nat} {os : Bk.Ords} {y : V} {o : List Int} (h : PartA K H0 dP H kvs (Bk.groups p os)) (he0 : H e0 = none) (hy : dInts.rep K H y o)
    (hv : valV kvs (.inl (Bk.atP p o)) = some (.ref a)) (hk : Bk.atP p o ∈ (Bk.groups p os).map (·.1)) (ha : H a = some (.lst vs)) (nd : a ≠ dP) : PartA K H0 dP (upd (upd H e0 (.lst [])) a (.lst (vs ++ [y]))) kvs (Bk.groups p (os ++ [o])) := by
  have s1 : Same H (upd H e0 (.lst [])) := same_upd he0 _
  rw [Bk.groups_snoc]
  unfold Bk.addG
  rw [if_pos hk]
  refine ⟨?_, part_put (dInts.mono s1 hy) (s1 _ _ ha) (pimp (fun _ _ z => z.same s1) h.grp) h.nd (Bk.groups_ok p os).nd hv, h.nd⟩
  rw [upd_ne (Ne.symm nd)]
  exact s1 _ _ h.at_
theorem PartA.fresh {H0 H : Hp} {dP e0 : Addr} {kvs : List (Key × V)} {p : Nat} {os : Bk.Ords} {y : V} {o : List Int} (h : PartA K H0 dP H kvs (Bk.groups p os)) (he0 : H e0 = none) (h0 : H0 e0 = none) (hy : dInts.rep K H y o)
    (hv : valV kvs (.inl (Bk.atP p o)) = none) (hk : Bk.atP p o ∉ (Bk.groups p os).map (·.1)) :
    PartA K H0 dP (upd (upd (upd H e0 (.lst [])) dP (.dK (putK kvs (.inl (Bk.atP p o)) (.ref e0)))) e0 (.lst ([] ++ [y]))) (kvs ++ [(.inl (Bk.atP p o), .ref e0)]) (Bk.groups p (os ++ [o])) := by
  have s1 : Same H (upd H e0 (.lst [])) := same_upd he0 _
  have ned : dP ≠ e0 := ne_of_none h.at_ he0
  have ep : putK kvs (.inl (Bk.atP p o)) (.ref e0) = kvs ++ [(.inl (Bk.atP p o), .ref e0)] := by
    unfold putK
    rw [valV_any, hv, if_neg (by decide)]
  have hdP : (upd H e0 (.lst [])) dP = some (.dK kvs) := s1 _ _ h.at_
  have he1 : ∀ u, (upd (upd H e0 (.lst [])) dP u) e0 = some (.lst []) := fun u => by rw [upd_ne (Ne.symm ned), upd_same]
  have far : ∀ {kvs : List (Key × V)} {g : List (Int × Bk.Ords)}, Paired (GrpA K H0 dP H) kvs g → ∀ kv ∈ kvs, kv.2 ≠ .ref dP ∧ kv.2 ≠ .ref e0 := by
    intro kvs g t kv hkv
    obtain ⟨e, _, a, vs, rfl, _, h2, h3, _⟩ := pmem t kv hkv
    exact ⟨fun z => h2 (V.ref.inj z), fun z => by
      have : a = e0 := V.ref.inj z
      rw [this, he0] at h3
      cases h3⟩
  have old : ∀ {kvs : List (Key × V)} {g : List (Int × Bk.Ords)} {u v : HO}, Paired (GrpA K H0 dP H) kvs g → (∀ kv ∈ kvs, kv.2 ≠ .ref dP ∧ kv.2 ≠ .ref e0) → Paired (GrpA K H0 dP (upd (upd (upd H e0 (.lst [])) dP u) e0 v)) kvs g := by
    intro kvs g u v t
    induction t with
    | nil => intro _; exact .nil
    | cons h _ ih =>
      intro f
      obtain ⟨f1, f2⟩ := f _ List.mem_cons_self
      exact .cons (((h.same s1).soft hdP trivial f1).soft (he1 u) trivial f2) (ih fun kv hkv => f kv (List.mem_cons_of_mem _ hkv))
  rw [Bk.groups_snoc]
  unfold Bk.addG
  rw [if_neg hk]
  refine ⟨by rw [upd_ne ned, upd_same, ep], papp (old h.grp (far h.grp)) (.cons ⟨e0, [] ++ [y], rfl, h0, Ne.symm ned, upd_same, .cons (ints_soft (he1 _) trivial (ints_soft hdP trivial (dInts.mono s1 hy))) .nil⟩ .nil), ?_⟩
  rw [List.map_append, List.nodup_append]
  refine ⟨h.nd, by simp, fun x hx y' hy' => ?_⟩
  obtain ⟨kv, hkv, rfl⟩ := List.mem_map.mp hx
  have : y' = V.ref e0 := by simpa using hy'
  rw [this]
  exact (far h.grp kv hkv).2
end
end Ord
namespace Bk
open Mx
theorem sum_take_le (b : Int → Nat) : ∀ (ts : List Int) (i : Nat), ((ts.take i).map b).sum ≤ (ts.map b).sum
  | [], i => by simp
  | t :: ts, 0 => Nat.zero_le _
  | t :: ts, i + 1 => by
    have := sum_take_le b ts i
    rw [List.take_succ_cons, List.map_cons, List.map_cons, List.sum_cons, List.sum_cons]
    omega
theorem door_bound {n : Nat} {os : Ords} {rs : List Room} {i : Nat} {t : Int} (h : (heads os)[i]? = some t) :
    (layD (lay n) os ((heads os).take i) rs).2.length + (rests t os).length * n ≤ rs.length + os.length * n ∧ (layD (lay n) os ((heads os).take i) rs).2.length ≤ rs.length + os.length * n := by
  have nd : (heads os).Nodup := (heads_rising os).imp fun h e => absurd h (by rw [e]; omega)
  have h1 := layD_sum (f := lay n) (os := os) (b := fun t => (rests t os).length * n) ((heads os).take i) rs fun t ht rs => by
    obtain ⟨_, r, hr⟩ := mem_heads.mp (List.mem_of_mem_take ht)
    exact lay_times n (rests t os) rs fun e => by
      have := mem_rests.mpr hr
      rw [e] at this
      cases this
  have h2 := sum_take_le (fun t => (rests t os).length * n) (heads os) (i + 1)
  rw [List.take_add_one, h, Option.toList_some, List.map_append, List.sum_append] at h2
  simp only [List.map_cons, List.map_nil, List.sum_cons, List.sum_nil] at h2
  have h3 : ((heads os).map fun t => (rests t os).length * n).sum ≤ os.length * n := by
    rw [sum_mul n (fun t => (rests t os).length)]
    exact Nat.mul_le_mul_right n (sum_rests (heads os) os nd)
  omega
theorem doors_bound {n : Nat} {os : Ords} {rs : List Room} : (layD (lay n) os (heads os) rs).2.length ≤ rs.length + os.length * n := by
  have nd : (heads os).Nodup := (heads_rising os).imp fun h e => absurd h (by rw [e]; omega)
  have h1 := layD_sum (f := lay n) (os := os) (b := fun t => (rests t os).length * n) (heads os) rs fun t ht rs => by
    obtain ⟨_, r, hr⟩ := mem_heads.mp ht
    exact lay_times n (rests t os) rs fun e => by
      have := mem_rests.mpr hr
      rw [e] at this
      cases this
  have h3 : ((heads os).map fun t => (rests t os).length * n).sum ≤ os.length * n := by
    rw [sum_mul n (fun t => (rests t os).length)]
    exact Nat.mul_le_mul_right n (sum_rests (heads os) os nd)
  omega
end Bk
namespace L2
open PySem
theorem val_at {kvs : List (Key × V)} : ∀ {i : Nat} {kv : Key × V}, (kvs.map (·.1)).Nodup → kvs[i]? = some kv → valV kvs kv.1 = some kv.2 := by
  induction kvs with
  | nil => intro i kv _ h; simp at h
  | cons k0 kvs ih =>
    intro i kv nd h
    rw [List.map_cons, List.nodup_cons] at nd
    cases i with
    | zero => simp at h; subst h; exact valV_pos rfl
    | succ i =>
      have h' : kvs[i]? = some kv := by simpa using h
      rw [valV_neg (fun z => nd.1 (by rw [z]; exact List.mem_map.mpr ⟨kv, List.mem_of_getElem? h', rfl⟩))]
      exact ih nd.2 h'
end L2
namespace Ord
open PySem L2 Mx
section
variable {K : W.Frag} {C : Addr} {H H' H'' : Hp} {x lr dn : Addr} {rs : List Bk.Room}
def SameS (lr dn : Addr) (H H' : Hp) : Prop := ∀ b o, b ≠ lr → b ≠ dn → H b = some o → H' b = some o
theorem SameS.refl : SameS lr dn H H := fun _ _ _ _ e => e
theorem SameS.trans (s : SameS lr dn H H') (s' : SameS lr dn H' H'') : SameS lr dn H H'' := fun b o h1 h2 e => s' b o h1 h2 (s b o h1 h2 e)
theorem SameS.of (s : Same H H') : SameS lr dn H H' := fun b o _ _ e => s b o e
theorem SameS.seqT {a : Addr} {xs rx : List V} {L : NL3} (s : SameS lr dn H H') (hlr : H lr = some (.lst rx)) (hdn : H dn = some (NumO dn L)) (h : SqT K H a xs) : SqT K H' a xs := by
  rcases h with (h | ⟨o, h⟩) | h
  · exact .inl (.inl (s _ _ (by rintro rfl; rw [hlr] at h; cases h) (by rintro rfl; rw [hdn] at h; cases h) h))
  · exact .inl (.inr ⟨o, s _ _ (by rintro rfl; rw [hlr] at h; cases h) (by rintro rfl; rw [hdn] at h; cases h) h⟩)
  · exact .inr h
theorem DoorA.sameS {y : V} {d : Int × Int} {rx : List V} {L : NL3} (s : SameS lr dn H H') (hlr : H lr = some (.lst rx)) (hdn : H dn = some (NumO dn L)) (h : DoorA K H y d) : DoorA K H' y d := by
  obtain ⟨p, e, q⟩ := h
  exact ⟨p, e, s.seqT hlr hdn q⟩
theorem ints_sameS {y : V} {o : List Int} {rx : List V} {L : NL3} (s : SameS lr dn H H') (hlr : H lr = some (.lst rx)) (hdn : H dn = some (NumO dn L)) (h : dInts.rep K H y o) : dInts.rep K H' y o := by
  obtain ⟨p, rfl, q⟩ := rep_ints h
  exact ints_rep (s.seqT hlr hdn q)
theorem ShA.same (s : Same H H') (h : ShA K C H x lr dn rs) : ShA K C H' x lr dn rs := by
  obtain ⟨dx, xs, L, h1, h2, h3, h4, h5, h6⟩ := h.ex
  exact ⟨dx, xs, L, s _ _ h1, s _ _ h2, pimp (fun _ _ z => z.same s) h3, s _ _ h4, fun e he => dRoomK.mono s (h5 e he), h6⟩
theorem ShA.upd {d : Addr} {o u : HO} (hd : H d = some o) (so : Soft o) (n1 : x ≠ d) (n2 : lr ≠ d) (n3 : dn ≠ d) (h : ShA K C H x lr dn rs) : ShA K C (L2.upd H d u) x lr dn rs := by
  obtain ⟨dx, xs, L, h1, h2, h3, h4, h5, h6⟩ := h.ex
  exact ⟨dx, xs, L, by rw [upd_ne n1]; exact h1, by rw [upd_ne n2]; exact h2, pimp (fun _ _ z => z.soft hd so) h3, by rw [upd_ne n3]; exact h4, fun e he => roomK_soft hd so (h5 e he), h6⟩
end
end Ord
namespace Ord
open PySem L2 Mx
abbrev sShelve : Stmt := top 31
section
variable {P : Program} {w : World} {K : W.Frag} {mg : Str → Option Value} {base : Heap} {CO C : Addr}
def spShelve (K : W.Frag) (C : Addr) (n : Nat) : Sp := fun vs H Q _ => ∃ (x lr dn l : Addr) (rs : List Bk.Room) (p : Nat) (ys : List V) (os : Bk.Ords), vs = [.ref x, .ref l, .int (p : Int)] ∧ ShA K C H x lr dn rs ∧ SqL K H l ys ∧ Paired (dInts.rep K H) ys os ∧ Bk.OrdsOk p n os ∧ os.length ≤ 1000 ∧ rs.length + os.length * n < 1000 ∧
  ∀ H', SameS lr dn H H' → ShA K C H' x lr dn (Bk.lay n (os.map (List.drop p)) rs).2 → Q (.int ((Bk.lay n (os.map (List.drop p)) rs).1 : Nat)) H'
theorem scShelve : FnScope ["shelf", "orders", "place", "parted", "order", "doors"] ["shelf", "orders", "place"] (defScope sShelve) := ⟨rfl, rfl, rfl, by decide +kernel, rfl, by decide +kernel, by decide +kernel⟩
theorem ok_shelve0 {f fk : Addr} {fd fdk : FuncData} (F : Fun K "shelve" "shelve" sShelve f fd) (T : TxB K mg CO) (c : ShC K C) (mk : Meth K C "keep" fk) (Fk : FnOk P w K mg base CX0 1 fk fdk ["self", "room"] (spKeep K C)) (bk : Binds K fdk ["self", "room"] [])
    (n : Nat) (WS : ∀ m, n = m + 1 → Df P w K mg base CX0 (m + 2) "shelve" ["shelf", "orders", "place"] (spShelve K C m)) : FnOk P w K mg base CX0 (n + 2) f fd ["shelf", "orders", "place"] (spShelve K C n) := by
  refine F.ok scShelve (fun vs H Q E h => ?_) (fun cdv A outer s H vs Q E hr h => ?_)
  · obtain ⟨x, lr, dn, l, rs, p, ys, os, rfl, _⟩ := h
    rfl
  obtain ⟨x, lr, dn, l, rs, p, ys, os, rfl, S, ql, po, ok, few, fewr, z⟩ := h
  obtain ⟨t1, m1⟩ := T.en
  cases n with
  | zero =>
    refine ⟨_, pss_cons (ps_if (pt_cmpR op_eq (pv 2) (pe_callB call_len_seq rfl T.t.len b_len (pa_cons (pe_ix (show IxR _ (rIxL K) from ix_list) (pv 1) pe_int (fun _ _ => rfl)) pa_nil)) (nomark _)) (pss_one (ps_ret (pe_glob (v := .int 1) rfl m1 ⟨t1, rfl⟩))) pss_nil) (pss_cons ps_never (pss_cons ps_never (pss_cons ps_never (pss_one ps_never)))), ?_⟩
    obtain ⟨o, ho⟩ := List.exists_mem_of_ne_nil os ok.ne
    have hp : 0 < os.length := List.length_pos_of_mem ho
    obtain ⟨y, hy, ro⟩ := pget' po (List.getElem?_eq_getElem hp)
    obtain ⟨a, rfl, qa⟩ := rep_ints ro
    have la := ok.len _ (List.getElem_mem hp)
    refine ⟨_, rfl, _, rfl, l, _, 0, .ref a, rfl, rfl, ql, atI_nat (j := 0) hy, a, _, rfl, .inr qa, rfl, _, rfl, ?_⟩
    rw [decide_eq_true (by rw [List.length_map, la]; rfl)]
    exact iteT (z H (fun b o _ _ e => e) S)
  | succ n =>
    have D := WS n rfl
    refine ⟨_, pss_cons (ps_if (pt_cmpR op_eq (pv 2) (pe_callB call_len_seq rfl T.t.len b_len (pa_cons (pe_ix (show IxR _ (rIxL K) from ix_list) (pv 1) pe_int (fun _ _ => rfl)) pa_nil)) (nomark _)) (pss_one ps_never) pss_nil)
      (pss_cons (ps_set (i := 3) scShelve.nd rfl (Or.inr rfl) pe_dnewK)
      (pss_cons (PS.nox (ps_for PassesOwn.never rfl (pi_list (pv 1)) (pg_name (i := 4) scShelve.nd rfl (Or.inl rfl))
        (pss_one (ps_expr (pe_bm PySem.F.plainAttrs_list PySem.F.slot_list_append PySem.F.type_list_append mt_append
          (pe_bm PySem.F.plainAttrs_dict PySem.F.slot_dict_setdefault PySem.F.type_dict_setdefault mt_setdefault (pv 3) (pa_cons (pe_ix (show IxR _ (rIxT K) from ix_tup) (pv 4) (pv 2) (fun _ _ => rfl)) (pa_cons (pe_lst pa_nil) pa_nil))) (pa_cons (pv 4) pa_nil))))))
      (pss_cons (ps_setC (i0 := 5) scShelve.nd rfl (Or.inl rfl) rfl (show CScope (defScope sShelve) ["shelf", "orders", "place", "parted", "order", "doors"] _ _ from by constructor <;> decide +kernel) (pi_dict (pv 3)) (fun _ _ _ _ _ _ => pts_nil)
          (fun cl C' s₂ H₂ fp pins => pe_tup (pa_cons (pv 0) (pa_cons (pe_df D hr rfl (passS0 (E := fun _ _ _ _ => False)) (pa_cons (pv 1) (pa_cons (pe_dget (hu_of hr) (pv 4) (pv 0) (fun _ _ => rfl)) (pa_cons (pe_op op_add (pv 3) pe_int) pa_nil)))) pa_nil))) rfl)
      (pss_one (ps_ret (pe_meth (pv 0) c.cls mk Fk (hr.mono (by omega)) bk .nil pass0 (pa_cons (pe_callTy call_tuple_of rfl T.t.tuple b_tuple (pa_cons (pv 5) pa_nil)) pa_nil))))))), ?_⟩
    obtain ⟨o, ho⟩ := List.exists_mem_of_ne_nil os ok.ne
    have hp : 0 < os.length := List.length_pos_of_mem ho
    obtain ⟨y, hy, ro⟩ := pget' po (List.getElem?_eq_getElem hp)
    obtain ⟨a, rfl, qa⟩ := rep_ints ro
    have la := ok.len _ (List.getElem_mem hp)
    have hlen := po.length
    refine ⟨_, rfl, _, rfl, l, _, 0, .ref a, rfl, rfl, ql, atI_nat (j := 0) hy, a, _, rfl, .inr qa, rfl, _, rfl, ?_⟩
    rw [decide_eq_false (fun h => by have := V.int.inj h; rw [List.length_map, la] at this; omega)]
    refine iteF ?_
    intro dP hdP
    have s1 : Same H (upd H dP (.dK [])) := same_upd hdP _
    refine ⟨_, rfl, l, rfl, ⟨_, s1.seqL ql⟩, for_list (K := K) (a := l) (xs := ys) (fun i σ H2 => ∃ v4 kvs, σ = [some (.ref x), some (.ref l), some (.int (p : Int)), some (.ref dP), v4, none] ∧ Same H H2 ∧ PartA K H dP H2 kvs (Bk.groups p (os.take i))) ⟨none, [], rfl, s1, upd_same, .nil, List.nodup_nil⟩ ?_ ?_ ?_⟩
    · rintro i σ H2 _ ⟨v4, kvs, rfl, s2, _⟩
      exact s2.seqL ql
    · rintro i y σ H2 hy ⟨v4, kvs, rfl, s2, PA⟩
      obtain ⟨o, ho, ro⟩ := pget po hy
      obtain ⟨a, rfl, qa⟩ := rep_ints ro
      have lo := ok.len o (List.mem_of_getElem? ho)
      have il := (List.getElem?_eq_some_iff.mp ho).1
      have at_ : atI (o.map V.int) (p : Int) = some (.int (Bk.atP p o)) := atI_nat (by
        unfold Bk.atP
        rw [List.getElem?_map, List.getElem?_eq_getElem (show p < o.length by omega)]
        rfl)
      have gl : kvs.length ≤ i := by
        have h1 := PA.grp.length
        have h2 := groups_len p (os.take i)
        rw [List.length_take] at h2
        omega
      refine ⟨_, rfl, .inr (.inr (.inl ⟨rfl, .inl ⟨_, PA.at_⟩⟩)), _, rfl, _, rfl, a, _, (p : Int), .int (Bk.atP p o), rfl, rfl, s2.seqT qa, at_, by show 0 ≤ sizeLine; decide, fun e0 he0 => ?_⟩
      have s3 : Same H2 (upd H2 e0 (.lst [])) := same_upd he0 _
      refine ⟨dP, kvs, .inl (Bk.atP p o), .ref e0, rfl, rfl, s3 _ _ PA.at_, by rw [sizeLine_eq]; omega, fun y' hv => ?_, fun hv => ?_⟩
      · rcases part_at (k := Bk.atP p o) PA.grp with ⟨b1, _⟩ | ⟨ga, vs, b1, b2, b3, b4, b5, b6, e, b7, b8⟩
        · rw [b1] at hv; cases hv
        rw [b1] at hv
        cases hv
        have vl : vs.length ≤ os.length := by
          rw [b8, (Bk.groups_ok p (os.take i)).each e b7]
          refine Nat.le_trans (List.length_filter_le _ _) ?_
          rw [List.length_take]
          omega
        refine ⟨.inl ⟨rfl, _, .inl (.inl (s3 _ _ b6))⟩, _, rfl, ga, vs, .ref a, rfl, rfl, s3 _ _ b6, by rw [sizeLine_eq]; omega, _, kvs, rfl, fun b u q => ?_, ?_⟩
        · rw [upd_ne (ne_of_none q b4)]
          exact s3 b u (s2 b u q)
        · rw [take_get' ho]
          exact PA.more he0 (ints_rep (s2.seqT qa)) b1 b2 b6 b5
      · rcases part_at (k := Bk.atP p o) PA.grp with ⟨b1, b2⟩ | ⟨ga, vs, b1, _⟩
        · have ned : dP ≠ e0 := ne_of_none PA.at_ he0
          have he1 : (upd (upd H2 e0 (.lst [])) dP (.dK (putK kvs (.inl (Bk.atP p o)) (.ref e0)))) e0 = some (.lst []) := by rw [upd_ne (Ne.symm ned), upd_same]
          refine ⟨.inl ⟨rfl, _, .inl (.inl he1)⟩, _, rfl, e0, [], .ref a, rfl, rfl, he1, by decide, _, kvs ++ [(.inl (Bk.atP p o), .ref e0)], rfl, fun b u q => ?_, ?_⟩
          · rw [upd_ne (ne_of_none q (s2.free he0)), upd_ne (ne_of_none q hdP)]
            exact s3 b u (s2 b u q)
          · rw [take_get' ho]
            exact PA.fresh he0 (s2.free he0) (ints_rep (s2.seqT qa)) b1 b2
        · rw [b1] at hv; cases hv
    · rintro σ H2 ⟨v4, kvs, rfl, s2, PA⟩
      rw [hlen, List.take_length] at PA
      have S' := S
      obtain ⟨dx, rx, L, hx, hlr, prs, hdn, hkk, nl⟩ := S.ex
      have ldP : lr ≠ dP := ne_of_none hlr hdP
      have ndP : dn ≠ dP := ne_of_none hdn hdP
      have keys := ok.keys
      have gl : kvs.length = (Bk.groups p os).length := PA.grp.length
      have gk : (Bk.groups p os).length = (Bk.heads (os.map (List.drop p))).length := by rw [← keys, List.length_map]
      have glen := groups_len p os
      refine ⟨_, rfl, dP, kvs, rfl, PA.at_, fun ob => ?_⟩
      have dPs : Soft (.dK kvs) := trivial
      have xdP : x ≠ dP := ne_of_none hx hdP
      have S2 : ShA K C (upd H2 dP (.frz ob (.dK kvs))) x lr dn rs := (S.same s2).upd PA.at_ dPs xdP ldP ndP
      have kn : (kvs.map (·.1)).Nodup := by
        have e : ∀ {kvs : List (Key × V)} {g : List (Int × Bk.Ords)}, Paired (GrpA K H dP H2) kvs g → kvs.map (·.1) = g.map fun e => Sum.inl e.1 := by
          intro kvs g t
          induction t with
          | nil => rfl
          | cons h _ ih =>
            obtain ⟨a, vs, rfl, _⟩ := h
            rw [List.map_cons, List.map_cons, ih]
        rw [e PA.grp]
        have := (Bk.groups_ok p os).nd
        unfold List.Nodup at this ⊢
        rw [List.pairwise_map] at this ⊢
        exact this.imp fun h z => h (Sum.inl.inj z)
      refine comp_dict (a := dP) (ob := ob) (kvs := kvs) (fun i ds H3 => SameS lr dn (upd H2 dP (.frz ob (.dK kvs))) H3 ∧ ShA K C H3 x lr dn (Bk.layD (Bk.lay n) (os.map (List.drop p)) ((Bk.heads (os.map (List.drop p))).take i) rs).2 ∧ Paired (DoorA K H3) ds (Bk.layD (Bk.lay n) (os.map (List.drop p)) ((Bk.heads (os.map (List.drop p))).take i) rs).1 ∧ ds.length = i) ⟨SameS.refl, S2, .nil, rfl⟩ ?_ (by rw [sizeLine_eq]; omega) ?_ ?_
      · rintro i ds H3 hi ⟨s3, _, _, hl⟩
        exact ⟨s3 _ _ (Ne.symm ldP) (Ne.symm ndP) upd_same, by omega⟩
      · rintro i kv ds H3 hkv ⟨s3, S3, p3, hl⟩
        obtain ⟨e, he, ga, vs, rfl, g1, g2, g3, g4⟩ := pget PA.grp hkv
        have mem := List.mem_of_getElem? he
        obtain ⟨oke, rst, ele⟩ := ok.group mem
        have ht : (Bk.heads (os.map (List.drop p)))[i]? = some e.1 := by rw [← keys, List.getElem?_map, he]; rfl
        obtain ⟨bd1, bd2⟩ := Bk.door_bound (n := n) (rs := rs) ht
        have lr2 : e.2.length = (Bk.rests e.1 (os.map (List.drop p))).length := by rw [← rst, List.length_map]
        rw [List.length_map, ← lr2] at bd1
        have mul : List.length os * (n + 1) = List.length os * n + List.length os := Nat.mul_succ _ _
        have hdP3 := s3 _ _ (Ne.symm ldP) (Ne.symm ndP) (upd_same (H := H2) (a := dP) (o := .frz ob (.dK kvs)))
        have nga : ga ≠ lr ∧ ga ≠ dn := ⟨(fun z => by rw [z, hlr] at g1; cases g1), (fun z => by rw [z, hdn] at g1; cases g1)⟩
        have hg3 : H3 ga = some (.lst vs) := s3 _ _ nga.1 nga.2 (by rw [upd_ne g2]; exact g3)
        have hlr2 : (upd H2 dP (.frz ob (.dK kvs))) lr = some (.lst rx) := by rw [upd_ne ldP]; exact s2 _ _ hlr
        have hdn2 : (upd H2 dP (.frz ob (.dK kvs))) dn = some (NumO dn L) := by rw [upd_ne ndP]; exact s2 _ _ hdn
        have rv : Paired (dInts.rep K H3) vs e.2 := pimp (fun _ _ z => ints_sameS s3 hlr2 hdn2 (ints_soft PA.at_ dPs z)) g4
        refine goT (iteT ?_)
        refine ⟨_, rfl, _, rfl, _, rfl, _, rfl, dP, .ref ga, rfl, .inl ⟨kvs, .inl e.1, .inr ⟨ob, hdP3⟩, rfl, (val_at kn hkv).symm⟩, _, rfl, (p : Int), 1, rfl, rfl, x, lr, dn, ga, _, p + 1, vs, e.2, rfl, S3, .inl (.inl hg3), rv, oke, by omega, by omega, fun H4 s4 S4 => ?_⟩
        rw [rst] at S4 ⊢
        refine ⟨by show 2 ≤ sizeLine; decide, fun tq htq => ?_⟩
        obtain ⟨dx3, rx3, L3, _, hlr3, _, hdn3, _⟩ := S3.ex
        have s5 := same_upd htq (.tup [V.int e.1, V.int ((Bk.lay n (Bk.rests e.1 (os.map (List.drop p))) (Bk.layD (Bk.lay n) (os.map (List.drop p)) ((Bk.heads (os.map (List.drop p))).take i) rs).2).1 : Nat)])
        rw [take_get' ht, Bk.layD_snoc]
        refine ⟨s3.trans (s4.trans (SameS.of s5)), S4.same s5, papp (pimp (fun _ _ z => (z.sameS s4 hlr3 hdn3).same s5) p3) (.cons ⟨tq, rfl, SqT.up⟩ .nil), by simp; omega⟩
      · rintro ds H3 c0 ⟨s3, S3, p3, hl⟩ hc0
        rw [gl, gk, List.take_length] at S3 p3
        have s4 : Same H3 (upd H3 c0 (.lst ds)) := same_upd hc0 _
        have S4 := S3.same s4
        obtain ⟨dx4, _, _, hx4, _⟩ := S4.ex
        refine ⟨_, rfl, x, dx4, _, rfl, hx4, rfl, _, rfl, c0, ds, rfl, .inl ⟨SqL.up, fun r0 hr0 => ?_⟩⟩
        have s5 := same_upd hr0 (.tup ds)
        have db := Bk.doors_bound (n := n) (os := os.map (List.drop p)) (rs := rs)
        rw [List.length_map] at db
        have mul : List.length os * (n + 1) = List.length os * n + List.length os := Nat.mul_succ _ _
        refine ⟨x, lr, dn, _, .ref r0, _, rfl, S4.same s5, ⟨r0, ds, rfl, SqT.up, pimp (fun _ _ z => z.same (s4.trans s5)) p3⟩, by omega, fun H6 s6 S6 => ?_⟩
        refine z H6 (fun b u h1 h2 q => ?_) S6
        refine s6 b u h1 h2 (s5 b u (s4 b u (s3 b u h1 h2 ?_)))
        rw [upd_ne (ne_of_none q hdP)]
        exact s2 b u q
theorem ok_shelve {f fk : Addr} {fd fdk : FuncData} (F : Fun K "shelve" "shelve" sShelve f fd) (T : TxB K mg CO) (c : ShC K C) (mk : Meth K C "keep" fk) (Fk : FnOk P w K mg base CX0 1 fk fdk ["self", "room"] (spKeep K C)) (bk : Binds K fdk ["self", "room"] [])
    (b : Binds K fd ["shelf", "orders", "place"] []) (m : mg "shelve" = some (.ref f)) : ∀ n, FnOk P w K mg base CX0 (n + 2) f fd ["shelf", "orders", "place"] (spShelve K C n)
  | 0 => ok_shelve0 F T c mk Fk bk 0 fun m h => nomatch h
  | n + 1 => ok_shelve0 F T c mk Fk bk (n + 1) fun k h => by
    cases h
    exact ⟨f, fd, ok_shelve F T c mk Fk bk b m n, b, F.kp, m⟩
end
end Ord
namespace Ord
open PySem L2 Mx
abbrev sBookOf : Stmt := top 30
theorem lex_of_lt : ∀ {a b : List Int}, Bk.lt a b → HT.lexLt a b = true
  | [], [], h => h.elim
  | [], _ :: _, _ => rfl
  | _ :: _, [], h => h.elim
  | x :: a, y :: b, h => by
    rcases h with h | ⟨rfl, h⟩
    · rw [HT.lexLt_cons, if_neg (by omega)]
      exact decide_eq_true h
    · rw [HT.lexLt_cons, if_pos rfl]
      exact lex_of_lt h
section
variable {P : Program} {w : World} {K : W.Frag} {mg : Str → Option Value} {base : Heap} {CO C : Addr}
def layB (many : Nat) (os : Bk.Ords) : List Bk.Room × Nat := if os = [] then ([], 0) else ((Bk.lay many os []).2, (Bk.lay many os []).1)
structure BookN (K : W.Frag) (H0 H : Hp) (t lr : Addr) (many : Int) (rs : List Bk.Room) (first : Int) : Prop where
  ft : H0 t = none
  fl : H0 lr = none
  at_ : H t = some (.tup [.int many, .ref lr, .int first])
  rooms : ∃ xs, H lr = some (.lst xs) ∧ Paired (RoomA K H) xs rs
def spBookOf (K : W.Frag) : Sp := fun vs H Q _ => ∃ (many : Nat) (l : Addr) (ys : List V) (os : Bk.Ords), vs = [.int (many : Int), .ref l] ∧ SqL K H l ys ∧ Paired (dInts.rep K H) ys os ∧ (∀ o ∈ os, Good many o) ∧ 1 ≤ many ∧ many ≤ 8 ∧ os.length < 64 ∧
  ∀ (t lr : Addr) (H' : Hp), Same H H' → BookN K H H' t lr many (layB many os).1 (layB many os).2 → Q (.ref t) H'
theorem scBookOf : FnScope ["many", "orders", "order", "shelf", "first"] ["many", "orders"] (defScope sBookOf) := ⟨rfl, rfl, rfl, by decide +kernel, rfl, by decide +kernel, by decide +kernel⟩
theorem ok_bookOf {f fi : Addr} {fd fdi : FuncData} (F : Fun K "book_of" "book_of" sBookOf f fd) (T : TxB K mg CO) (c : ShC K C) (M : Mk K C fi) (Fi : FnOk P w K mg base CX0 1 fi fdi ["self"] (spInit K C)) (bi : Binds K fdi ["self"] []) (mC : mg "Shelf" = some (.ref C))
    (WC : Df P w K mg base (CX1 P w) 3 "look_count" ["many"] (spLookC CO)) (WL : Df P w K mg base (CX1 P w) 4 "look_order" ["many", "order"] (spLook K CO)) (WS : ∀ n, Df P w K mg base CX0 (n + 2) "shelve" ["shelf", "orders", "place"] (spShelve K C n)) :
    FnOk P w K mg base (CX1 P w) 12 f fd ["many", "orders"] (spBookOf K) := by
  refine F.okX scBookOf (fun vs H Q E h => ?_) (fun X cdv A outer s H vs Q E hX hp hra hr h => ?_)
  · obtain ⟨many, l, ys, os, rfl, _⟩ := h
    rfl
  obtain ⟨many, l, ys, os, rfl, ql, po, good, m1, m8, few, z⟩ := h
  obtain ⟨t0, m0⟩ := T.no
  have hlen := po.length
  subst hX
  refine ⟨_, pss_cons (ps_expr (pe_df WC (hr.mono (by decide)) rfl hp (pa_cons (pv 0) pa_nil)))
    (pss_cons (PS.nox (ps_for PassesOwn.never rfl (pi_list (pv 1)) (pg_name (i := 2) scBookOf.nd rfl (Or.inl rfl)) (pss_one (ps_expr (pe_df WL (hr.mono (by decide)) rfl passF (pa_cons (pv 0) (pa_cons (pv 2) pa_nil)))))))
    (pss_cons (ps_if (pt_cmpR op_eq (pe_callB call_len_seq rfl T.t.len b_len (pa_cons (pv 1) pa_nil)) pe_int (nomark _)) (pss_one (ps_ret (pe_tup (pa_cons (pv 0) (pa_cons (pe_lst pa_nil) (pa_cons (pe_glob (v := .int 0) rfl m0 ⟨t0, rfl⟩) pa_nil)))))) pss_nil)
    (pss_cons (ps_set (i := 3) scBookOf.nd rfl (Or.inl rfl) (pe_make0 M Fi (hr.mono (by decide)) rfl mC bi .nil pass0))
    (pss_cons (ps_set (i := 4) scBookOf.nd rfl (Or.inl rfl) (pe_df (WS many) (hr.mono (by omega)) rfl (passS0 (E := fun _ _ _ _ => False)) (pa_cons (pv 3) (pa_cons (pe_callB call_sortedD rfl T.t.sorted b_sorted (pa_cons (pv 1) pa_nil)) (pa_cons pe_int pa_nil)))))
    (pss_one (ps_ret (pe_tup (pa_cons (pv 0) (pa_cons (pe_fld (pv 3) rfl) (pa_cons (pv 4) pa_nil)))))))))), ?_⟩
  refine ⟨_, rfl, (many : Int), rfl, fit_small (by omega) (by omega), ?_⟩
  rw [if_pos (by omega)]
  refine ⟨_, rfl, l, rfl, ⟨_, ql⟩, for_list (K := K) (a := l) (xs := ys) (fun i σ H2 => ∃ v2, σ = [some (.int (many : Int)), some (.ref l), v2, none, none] ∧ Same H H2) ⟨none, rfl, Same.refl H⟩ ?_ ?_ ?_⟩
  · rintro i σ H2 _ ⟨v2, rfl, s2⟩
    exact s2.seqL ql
  · rintro i y σ H2 hy ⟨v2, rfl, s2⟩
    obtain ⟨o, ho, ro⟩ := pget po hy
    obtain ⟨a, rfl, qa⟩ := rep_ints ro
    have g := good o (List.mem_of_getElem? ho)
    have gl : (o.length : Int) = many := g.2.2.1
    refine ⟨_, rfl, _, rfl, (many : Int), a, o, rfl, fit_small (by omega) (by omega), ⟨s2.seqT qa, by omega, fun x hx => ?_⟩, fun _ H3 s3 => ⟨_, rfl, s2.trans s3⟩, fun ng => absurd g ng⟩
    have := g.2.2.2.mem hx
    exact fit_small (by omega) (by omega)
  · rintro σ H2 ⟨v2, rfl, s2⟩
    refine ⟨_, rfl, l, _, rfl, .inl (s2.seqL ql), rfl, _, rfl, ?_⟩
    by_cases e0 : os = []
    · subst e0
      have y0 : ys.length = 0 := hlen
      rw [y0, decide_eq_true (by rfl)]
      refine iteT ⟨_, rfl, by show 0 ≤ sizeLine; decide, fun lr hlr => ?_⟩
      have s3 := s2.trans (same_upd hlr (.lst []))
      refine ⟨by show 3 ≤ sizeLine; decide, fun t ht => ?_⟩
      have s4 := same_upd ht (.tup [V.int (many : Int), V.ref lr, V.int 0])
      exact z t lr _ (s3.trans s4) ⟨s3.free ht, s2.free hlr, upd_same, [], s4 _ _ upd_same, .nil⟩
    · have hpos : 0 < os.length := List.length_pos_iff.mpr e0
      rw [decide_eq_false (fun h => by have := V.int.inj h; omega)]
      refine iteF ?_
      intro x dx hx0 hdx0 ndx
      have u1 := same_upd hdx0 (.own x)
      have hx1 : (upd H2 dx (.own x)) x = none := by rw [upd_ne (Ne.symm ndx)]; exact hx0
      have u2 := same_upd hx1 (.ins C dx [])
      have s3 := s2.trans (u1.trans u2)
      refine ⟨x, dx, rfl, upd_same, fun lr dn H3 hlr hdn keep SA => ⟨rfl, ?_⟩⟩
      have s4 : Same H H3 := fun b u q => keep b u (ne_of_none q (s2.free hx0)) (s3 b u q)
      have flr : H lr = none := s3.free hlr
      have fdn : H dn = none := s3.free hdn
      refine ⟨_, rfl, _, rfl, .ref l, os, rfl, ⟨l, ys, rfl, s4.seqL ql, pimp (fun _ _ z => dInts.mono s4 z) po⟩, fun ks hk => ?_, few, fun l2 as' kss' hl2 pas perm ris => ?_⟩
      · have g := good ks hk
        have : (ks.length : Int) = many := g.2.2.1
        intro e
        subst e
        simp at this
        omega
      have s5 := same_upd hl2 (.lst as')
      have mem : ∀ o ∈ kss', Good many o := fun o ho => good o (perm.mem_iff.mp ho)
      have kl : kss'.length = os.length := perm.length_eq
      have d0 : kss'.map (List.drop 0) = kss' := (List.map_congr_left fun o _ => (List.drop_zero : o.drop 0 = o)).trans (List.map_id _)
      have like : Bk.lay many (kss'.map (List.drop 0)) [] = Bk.lay many os [] := by
        rw [d0]
        exact Bk.lay_like many [] fun o => perm.mem_iff
      have lb : layB many os = ((Bk.lay many os []).2, (Bk.lay many os []).1) := by unfold layB; rw [if_neg e0]
      refine ⟨x, lr, dn, l2, [], 0, as', kss', rfl, SA.same s5, SqL.up, pimp (fun _ _ z => dInts.mono s5 z) pas, ⟨fun e => ?_, fun o ho => ?_, fun o ho y hy => ?_, ?_⟩, by omega, ?_, fun H5 s6 S5 => ?_⟩
      · rw [e] at kl
        simp at kl
        omega
      · have : (o.length : Int) = many := (mem o ho).2.2.1
        omega
      · have g := mem o ho
        have gl : (o.length : Int) = many := g.2.2.1
        have := g.2.2.2.mem hy
        omega
      · exact ris.imp fun h z => by
          have := lex_of_lt z
          rw [List.drop_zero, List.drop_zero, h] at this
          cases this
      · show 0 + kss'.length * many < 1000
        have : kss'.length * many ≤ 63 * 8 := Nat.mul_le_mul (by omega) m8
        omega
      · rw [like] at S5 ⊢
        obtain ⟨dx5, xs5, L5, hx5, hlr5, pr5, _⟩ := S5.ex
        refine ⟨_, rfl, _, rfl, x, C, dx5, _, .ref lr, rfl, hx5, c.cls, c.rooms, rfl, _, rfl, by show 3 ≤ sizeLine; decide, fun t ht => ?_⟩
        have s7 := same_upd ht (.tup [V.int (many : Int), V.ref lr, V.int (((Bk.lay many os []).1 : Nat) : Int)])
        have s8 : Same H H5 := fun b u q => s6 b u (ne_of_none q flr) (ne_of_none q fdn) (s5 b u (s4 b u q))
        rw [lb] at z
        exact z t lr _ (s8.trans s7) ⟨s8.free ht, flr, upd_same, xs5, s7 _ _ hlr5, pimp (fun _ _ z => z.same s7) pr5⟩
end
end Ord
namespace L2
open PySem PySem.Spec PyProof.Rows
theorem cutV_to (xs : List V) (k : Nat) : cutV xs none (some (k : Int)) = xs.take k := by
  unfold cutV
  rw [HT.sIx_nat, HT.sIx_none]
  simp only [List.drop_zero, Nat.sub_zero]
  by_cases h : k ≤ xs.length
  · rw [Nat.min_eq_left h]
  · rw [Nat.min_eq_right (by omega), List.take_of_length_le (Nat.le_refl _), List.take_of_length_le (by omega)]
theorem cutV_last (xs : List V) : cutV xs (some (-1)) none = xs.drop (xs.length - 1) := by
  unfold cutV
  have e : HT.sIx xs.length 0 (some (-1)) = xs.length - 1 := by
    simp only [HT.sIx]
    rw [if_pos (by decide)]
    omega
  rw [e, HT.sIx_none]
  exact List.take_of_length_le (by rw [List.length_drop]; omega)
def rCatA (K : W.Frag) : R2 := fun x y H Q => ∃ a b xs ys, x = .ref a ∧ y = .ref b ∧ SqT K H a xs ∧ SqT K H b ys ∧ xs.length + ys.length ≤ sizeLine ∧ ∀ r H', Same H H' → SqT K H' r (xs ++ ys) → Q (.ref r) H'
theorem op_catA {X : Cx} : OpR X (binaryOp .Add) (rCatA X.K) := by
  intro pins s σ H x y v u Q I rx ry h
  obtain ⟨a, b, xs, ys, e1, e2, ha, hb, hz, q⟩ := h
  by_cases hx : xs = []
  · subst hx
    exact op_catT0 pins s σ H x y v u Q I rx ry ⟨a, b, ys, e1, e2, ha, hb, q b H (Same.refl H) hb⟩
  · refine op_catT pins s σ H x y v u Q I rx ry ⟨a, b, xs, ys, e1, e2, ha, hb, hx, hz, fun hy => ?_, fun hy p hp => ?_⟩
    · subst hy
      exact q a H (Same.refl H) (by rw [List.append_nil]; exact ha)
    · exact q p _ (same_upd hp _) SqT.up
section
variable {α β γ : Type} [DecidableEq α] [DecidableEq β] [DecidableEq γ]
end
end L2
namespace Ord
open PySem L2 Mx
theorem layB_nil (many : Nat) : layB many [] = ([], 0) := by unfold layB; rw [if_pos rfl]
theorem layB_ne {many : Nat} {os : Bk.Ords} (h : os ≠ []) : layB many os = ((Bk.lay many os []).2, (Bk.lay many os []).1) := by unfold layB; rw [if_neg h]
section
variable {many : Nat} {os : Bk.Ords} (S : Bk.SetOk many os)
include S
theorem SetOk.whole : WholeB many (layB many os).1 (layB many os).2 := by
  have m1 := S.m1
  have m5 := S.m5
  by_cases e : os = []
  · subst e
    rw [layB_nil]
    exact whole_none m1 (by omega)
  · rw [layB_ne e]
    exact whole_lay m1 (by omega) S.sets e (S.rooms e)
theorem SetOk.sem : Bk.sem (layB many os).1 (layB many os).2 = os := by
  by_cases e : os = []
  · subst e
    rw [layB_nil]
    exact Bk.sem_zero []
  · rw [layB_ne e]
    obtain ⟨a, b⟩ := sem_lay S.sets e
    exact a.eq S.ris b
theorem SetOk.goes {o : List Int} (ho : o.length = many) : Bk.GoOk (layB many os).1 (layB many os).2 o ∧ (Bk.goes (layB many os).1 (layB many os).2 o = 1 ↔ o ∈ os) := by
  by_cases e : os = []
  · subst e
    rw [layB_nil]
    refine ⟨Bk.goOk_zero [] o, ?_⟩
    show Bk.goes [] 0 o = 1 ↔ _
    rw [Bk.goes_zero]
    simp
  · rw [layB_ne e]
    exact go_lay S.sets e ho
end
theorem good_all {many : Nat} (m1 : 1 ≤ many) (m5 : many ≤ 5) {o : List Int} (ho : o ∈ Bk.allO many) : Good many o := by
  obtain ⟨a, b⟩ := Bk.allO_ord m1 m5 ho
  exact ⟨by omega, by omega, by omega, b⟩
theorem BookN.a {K : W.Frag} {H0 H : Hp} {t lr : Addr} {many : Int} {rs : List Bk.Room} {first : Int} (h : BookN K H0 H t lr many rs first) : BookA K H (.ref t) many rs first := by
  obtain ⟨xs, a, b⟩ := h.rooms
  exact ⟨t, lr, xs, rfl, SqT.of h.at_, SqL.of a, b⟩
end Ord
namespace L2
open PySem
theorem atI_in {α : Type} {xs : List α} {z : Int} {v : α} (h0 : 0 ≤ z) (h : xs[z.toNat]? = some v) : atI xs z = some v := by
  have := atI_nat h
  rw [show ((z.toNat : Nat) : Int) = z by omega] at this
  exact this
end L2
namespace Ord
open PySem L2 Mx
abbrev sCell : Stmt := top 41
abbrev sMix : Stmt := top 42
abbrev sAll : Stmt := top 44
abbrev sSet : Stmt := top 45
abbrev sLaw : Stmt := top 49
section
variable {P : Program} {w : World} {K : W.Frag} {mg : Str → Option Value} {base : Heap} {CO : Addr}
def Scr (K : W.Frag) (H : Hp) (a : Addr) : Prop := ∃ ns : List Int, SqL K H a (ns.map V.int)
theorem Scr.same {H H' : Hp} {a : Addr} (h : Scr K H a) (e : Same H H') : Scr K H' a := let ⟨ns, q⟩ := h; ⟨ns, e.seqL q⟩
def spCell (K : W.Frag) : Sp := fun vs H Q _ => ∃ (a : Addr) (k : Int), vs = [.ref a, .int k] ∧ Scr K H a ∧ ∀ c : Int, Q (.int c) H
theorem scCell : FnScope ["_law_script", "_law_k"] ["_law_script", "_law_k"] (defScope sCell) := ⟨rfl, rfl, rfl, by decide +kernel, rfl, by decide +kernel, by decide +kernel⟩
theorem ok_cell {f : Addr} {fd : FuncData} (F : Fun K "_law_cell" "_law_cell" sCell f fd) (T : TxB K mg CO) : FnOk P w K mg base CX0 1 f fd ["_law_script", "_law_k"] (spCell K) := by
  refine F.ok scCell (fun vs H Q E h => ?_) (fun cdv A outer s H vs Q E hr h => ?_)
  · obtain ⟨a, k, rfl, _⟩ := h
    rfl
  obtain ⟨a, k, rfl, ⟨ns, hs⟩, q⟩ := h
  refine ⟨_, pss_cons (ps_if (pt_truth (pv 0) (fun _ => rfl)) (pss_one (ps_ret (pe_ix ix_list (pv 0) (pe_op op_mod (pv 1) (pe_callB call_len_seq rfl T.t.len b_len (pa_cons (pv 0) pa_nil))) (fun _ _ => rfl)))) pss_nil) (pss_one (ps_ret pe_int)), ?_⟩
  refine ⟨_, rfl, _, .inl ⟨_, hs, rfl⟩, ?_⟩
  cases ns with
  | nil => exact iteF (q 0)
  | cons n0 nt =>
    refine iteT ?_
    have hl : ((n0 :: nt).map V.int).length = (n0 :: nt).length := List.length_map _
    have pos : (0 : Int) < (((n0 :: nt).map V.int).length : Nat) := by rw [hl]; simp only [List.length_cons]; omega
    have h0 := Int.emod_nonneg k (Int.ne_of_gt pos)
    have h1 := Int.emod_lt_of_pos k pos
    have hlt : (k % (((n0 :: nt).map V.int).length : Nat)).toNat < (n0 :: nt).length := by rw [hl] at h0 h1 ⊢; omega
    refine ⟨_, rfl, _, rfl, _, rfl, a, _, rfl, .inl hs, _, _, rfl, rfl, pos, a, _, _, V.int ((n0 :: nt)[(k % (((n0 :: nt).map V.int).length : Nat)).toNat]'hlt), rfl, rfl, hs, atI_in h0 ?_, q _⟩
    rw [List.getElem?_map, List.getElem?_eq_getElem hlt]
    rfl
def spMix (K : W.Frag) : Sp := fun vs H Q _ => ∃ (a : Addr) (k : Int), vs = [.ref a, .int k] ∧ Scr K H a ∧ ∀ m : Int, 0 ≤ m → m < 4294967231 → Q (.int m) H
theorem scMix : FnScope ["_law_script", "_law_k", "_law_number_here"] ["_law_script", "_law_k"] (defScope sMix) := ⟨rfl, rfl, rfl, by decide +kernel, rfl, by decide +kernel, by decide +kernel⟩
theorem ok_mix {f : Addr} {fd : FuncData} (F : Fun K "_law_mix" "_law_mix" sMix f fd) (T : TxB K mg CO) (WC : Df P w K mg base CX0 1 "_law_cell" ["_law_script", "_law_k"] (spCell K)) : FnOk P w K mg base CX0 2 f fd ["_law_script", "_law_k"] (spMix K) := by
  refine F.ok scMix (fun vs H Q E h => ?_) (fun cdv A outer s H vs Q E hr h => ?_)
  · obtain ⟨a, k, rfl, _⟩ := h
    rfl
  obtain ⟨a, k, rfl, hs, q⟩ := h
  refine ⟨_, pss_cons (ps_set (i := 2) scMix.nd rfl (Or.inl rfl) (pe_op op_mod (pe_op op_add (pe_df WC hr rfl (passS0 (E := fun _ _ _ _ => False)) (pa_cons (pv 0) (pa_cons (pv 1) pa_nil))) (pe_op op_mul pe_int (pe_op op_add (pv 1) pe_int))) pe_int))
    (pss_cons (ps_set (i := 2) scMix.nd rfl (Or.inl rfl) (pe_op op_mod (pe_op op_mul (pv 2) pe_int) pe_int))
    (pss_one (ps_ret (pe_op op_mod (pe_op op_add (pe_op op_mul (pe_op op_fdiv (pv 2) pe_int) pe_int) (pv 2)) pe_int)))), ?_⟩
  refine ⟨_, rfl, _, rfl, a, k, rfl, hs, fun c => ?_⟩
  refine ⟨_, rfl, _, _, rfl, rfl, _, _, rfl, rfl, .inl ⟨by decide, by decide⟩, _, _, rfl, rfl, _, _, rfl, rfl, by show (0 : Int) < 4294967291; decide, ?_⟩
  refine ⟨_, rfl, _, _, rfl, rfl, .inr ⟨by decide, by decide⟩, _, _, rfl, rfl, by show (0 : Int) < 4294967279; decide, ?_⟩
  refine ⟨_, rfl, _, _, rfl, rfl, ⟨by decide, by decide⟩, _, _, rfl, rfl, .inr ⟨by decide, by decide⟩, _, rfl, _, _, rfl, rfl, _, _, rfl, rfl, by show (0 : Int) < 4294967231; decide, ?_⟩
  exact q _ (Int.emod_nonneg _ (by decide)) (Int.emod_lt_of_pos _ (by decide))
def OL (K : W.Frag) (H : Hp) (a : Addr) (os : Bk.Ords) : Prop := ∃ ys, H a = some (.lst ys) ∧ Paired (dInts.rep K H) ys os
theorem OL.same {H H' : Hp} {a : Addr} {os : Bk.Ords} (s : Same H H') (h : OL K H a os) : OL K H' a os := by
  obtain ⟨ys, q, p⟩ := h
  exact ⟨ys, s _ _ q, pimp (fun _ _ z => dInts.mono s z) p⟩
theorem OL.rep {H : Hp} {a : Addr} {os : Bk.Ords} (h : OL K H a os) : (dLst dInts).rep K H (.ref a) os := by
  obtain ⟨ys, q, p⟩ := h
  exact ⟨a, ys, rfl, SqL.of q, p⟩
theorem OL.new {H : Hp} {a : Addr} {ys : List V} {os : Bk.Ords} (ha : H a = none) (p : Paired (dInts.rep K H) ys os) : OL K (upd H a (.lst ys)) a os :=
  ⟨ys, upd_same, pimp (fun _ _ z => dInts.mono (same_upd ha _) z) p⟩
def spAll (K : W.Frag) : Sp := fun vs H Q _ => ∃ many : Nat, vs = [.int (many : Int)] ∧ 1 ≤ many ∧ many ≤ 5 ∧ ∀ (l : Addr) (H' : Hp), Same H H' → H l = none → OL K H' l (Bk.allO many) → Q (.ref l) H'
abbrev NA : List Str := ["_law_many", "_law_found", "_law_k", "_law_longer", "_law_order"]
theorem scAll : FnScope NA ["_law_many"] (defScope sAll) := ⟨rfl, rfl, rfl, by decide +kernel, rfl, by decide +kernel, by decide +kernel⟩
theorem inV_ints {t : Int} {o : List Int} : inV (.int t) (o.map V.int) = o.contains t := by
  induction o with
  | nil => rfl
  | cons x o ih =>
    simp only [inV, List.map_cons, List.any_cons, List.contains_cons] at ih ⊢
    rw [ih]
    congr 1
    simp [eqV, beq_dec, eq_comm]
theorem ext1_step (many i : Nat) (o : List Int) : (((Mx.upto (i + 1)).filter fun t => !o.contains t).map fun t => o ++ [t]) = (((Mx.upto i).filter fun t => !o.contains t).map fun t => o ++ [t]) ++ (if o.contains (i : Int) = true then [] else [o ++ [(i : Int)]]) := by
  rw [Bk.upto_succ, List.filter_append, List.map_append]
  congr 1
  by_cases h : o.contains (i : Int) = true
  · rw [if_pos h, List.filter_cons_of_neg (by rw [h]; decide)]
    rfl
  · rw [if_neg h, List.filter_cons_of_pos (by rw [Bool.eq_false_iff.mpr h]; rfl)]
    rfl
theorem ok_all {f : Addr} {fd : FuncData} (F : Fun K "_law_all" "_law_all" sAll f fd) (T : TxB K mg CO) : FnOk P w K mg base CX0 1 f fd ["_law_many"] (spAll K) := by
  refine F.ok scAll (fun vs H Q E h => ?_) (fun cdv A outer s H vs Q E hr h => ?_)
  · obtain ⟨many, rfl, _⟩ := h
    rfl
  obtain ⟨many, rfl, m1, m5, z⟩ := h
  refine ⟨_, pss_cons (ps_set (i := 1) scAll.nd rfl (Or.inl rfl) (pe_lst (pa_cons (pe_tup pa_nil) pa_nil)))
    (pss_cons (ps_for PassesOwn.never rfl (pi_range1 rfl T.t.range (pa_cons (pv 0) pa_nil)) (pg_name (i := 2) scAll.nd rfl (Or.inl rfl))
      (pss_cons (ps_set (i := 3) scAll.nd rfl (Or.inl rfl) (pe_lst pa_nil))
      (pss_cons (ps_for PassesOwn.never rfl (pi_list (pv 1)) (pg_name (i := 4) scAll.nd rfl (Or.inr rfl))
        (pss_one (ps_set (i := 3) scAll.nd rfl (Or.inl rfl) (pe_op op_cat (pv 3) (pe_comp rfl (show CScope (defScope sAll) NA _ _ from by constructor <;> decide +kernel) (pi_range1 rfl T.t.range (pa_cons (pv 0) pa_nil))
          (fun _ _ _ _ _ _ => pts_one (pt_cmpR (show OpR _ _ (rIn K true) from op_notIn_seq) (pv 0) (pv 5) rfl))
          (fun cl C s₂ H₂ fp pins => pe_op (show OpR _ _ (rCatA K) from op_catA) (pv 5) (pe_tup (pa_cons (pv 0) pa_nil))) scAll.nd)))))
      (pss_one (ps_set (i := 1) scAll.nd rfl (Or.inl rfl) (pv 3))))))
    (pss_one (ps_ret (pv 1)))), ?_⟩
  refine ⟨by show 0 ≤ sizeLine; decide, fun t0 ht0 => ?_⟩
  have u0 := same_upd ht0 (.tup [])
  refine ⟨by show 1 ≤ sizeLine; decide, fun l0 hl0 => ?_⟩
  have u1 := same_upd hl0 (.lst [V.ref t0])
  have r0 : dInts.rep K (upd H t0 (.tup [])) (.ref t0) [] := ints_rep (SqT.of upd_same)
  refine ⟨_, rfl, _, rfl, by omega, by omega, for_range (lo := 0) (n := ((many : Int)).toNat) (fun k σ H1 => ∃ v2 v3 v4 l, σ = [some (.int (many : Int)), some (.ref l), v2, v3, v4] ∧ Same H H1 ∧ H l = none ∧ OL K H1 l (Bk.allN many k)) ⟨none, none, none, l0, rfl, u0.trans u1, u0.free hl0, OL.new hl0 (.cons r0 .nil)⟩ ?_ ?_⟩
  · rintro k σ H1 hk ⟨v2, v3, v4, l, rfl, s1, hlf, ol⟩
    have hk5 : k < many := by omega
    refine ⟨by show 0 ≤ sizeLine; decide, fun g0 hg0 => ?_⟩
    have s2 := same_upd hg0 (.lst [])
    obtain ⟨ys, hl, py⟩ := ol
    have hlen := py.length
    refine ⟨_, rfl, l, rfl, ⟨_, SqL.of (s2 _ _ hl)⟩, for_list (K := K) (a := l) (xs := ys) (fun i σ H2 => ∃ v4 g, σ = [some (.int (many : Int)), some (.ref l), some (.int (0 + (k : Int))), some (.ref g), v4] ∧ Same H1 H2 ∧ H1 g = none ∧ OL K H2 g (Bk.ext many ((Bk.allN many k).take i))) ⟨v4, g0, rfl, s2, hg0, [], upd_same, .nil⟩ ?_ ?_ ?_⟩
    · rintro i σ H2 _ ⟨v4, g, rfl, s3, _⟩
      exact SqL.of (s3 _ _ hl)
    · rintro i y σ H2 hy ⟨v4, g, rfl, s3, hgf, og⟩
      obtain ⟨o, ho, ro⟩ := pget py hy
      obtain ⟨a, rfl, qa⟩ := rep_ints (dInts.mono s3 ro)
      have lo : o.length = k := Bk.allN_len k o (List.mem_of_getElem? ho)
      obtain ⟨gs, hg, pg⟩ := og
      have glen := pg.length
      have b1 : (Bk.ext many ((Bk.allN many k).take i)).length ≤ 200 := Nat.le_trans (Bk.ext_le i) (Bk.len_allN many (Bk.in5 m1 m5) (k + 1) (Bk.in05 (by omega)))
      refine ⟨_, rfl, _, rfl, _, rfl, by omega, by omega, comp_rng (lo := 0) (n := ((many : Int)).toNat) (fun j zs H3 => Same H2 H3 ∧ Paired (dInts.rep K H3) zs (((Mx.upto j).filter fun t => !o.contains t).map fun t => o ++ [t])) ⟨Same.refl H2, .nil⟩ ?_ (by rw [sizeLine_eq]; omega) ?_ ?_⟩
      · rintro j zs H3 hj ⟨_, p3⟩
        rw [p3.length, List.length_map]
        refine Nat.le_trans (List.length_filter_le _ _) ?_
        rw [Mx.upto_length]
        exact Nat.le_refl _
      · rintro j zs H3 hj ⟨s4, p3⟩
        have qa3 := s4.seqT qa
        refine ⟨_, rfl, _, rfl, a, _, rfl, .inr qa3, rfl, flat_ints _, _, rfl, ?_⟩
        rw [ext1_step many, if_pos rfl, show (0 + (j : Int)) = (j : Int) by omega, inV_ints]
        by_cases c : o.contains (j : Int) = true
        · rw [c]
          refine iteF ⟨s4, ?_⟩
          rw [if_pos rfl, List.append_nil]
          exact p3
        · rw [Bool.eq_false_iff.mpr c]
          refine iteT ⟨_, rfl, _, rfl, by show 1 ≤ sizeLine; decide, fun t1 ht1 => ?_⟩
          have s5 := same_upd ht1 (.tup [V.int (j : Int)])
          refine ⟨a, t1, _, _, rfl, rfl, s5.seqT qa3, SqT.up, by rw [List.length_map, sizeLine_eq]; simp; omega, fun r H5 s6 hr => ?_⟩
          refine ⟨s4.trans (s5.trans s6), ?_⟩
          rw [if_neg Bool.false_ne_true]
          refine papp (pimp (fun _ _ z => dInts.mono (s5.trans s6) z) p3) (.cons (ints_rep ?_) .nil)
          rw [List.map_append]
          exact hr
      · rintro zs H3 c0 ⟨s4, p3⟩ hc0
        have s5 := same_upd hc0 (.lst zs)
        have zl : zs.length ≤ 5 := by
          rw [p3.length, List.length_map]
          refine Nat.le_trans (List.length_filter_le _ _) ?_
          rw [Mx.upto_length]
          omega
        refine ⟨g, c0, gs, zs, rfl, rfl, s5 _ _ (s4 _ _ hg), upd_same, by rw [sizeLine_eq]; omega, fun n0 hn0 => ?_⟩
        have s6 := same_upd hn0 (.lst (gs ++ zs))
        refine ⟨_, n0, rfl, s3.trans (s4.trans (s5.trans s6)), s3.free (s4.free (s5.free hn0)), ?_⟩
        rw [Bk.ext_take ho]
        refine OL.new hn0 (papp (pimp (fun _ _ z => dInts.mono (s4.trans s5) z) pg) (pimp (fun _ _ z => dInts.mono s5 z) p3))
    · rintro σ H2 ⟨v4, g, rfl, s3, hgf, og⟩
      rw [hlen, List.take_length] at og
      exact ⟨_, rfl, _, _, _, g, rfl, s1.trans s3, s1.free hgf, og⟩
  · rintro σ H1 ⟨v2, v3, v4, l, rfl, s1, hlf, ol⟩
    exact ⟨_, rfl, z l H1 s1 hlf ol⟩
end
end Ord
namespace Ord
open PySem L2 Mx
section
variable {P : Program} {w : World} {K : W.Frag} {mg : Str → Option Value} {base : Heap} {CO : Addr}
def spSet (K : W.Frag) : Sp := fun vs H Q _ => ∃ (a : Addr) (k : Int) (many : Nat), vs = [.ref a, .int k, .int (many : Int)] ∧ Scr K H a ∧ 1 ≤ many ∧ many ≤ 4 ∧ ∀ (r : Addr) (os : Bk.Ords) (H' : Hp), Same H H' → OL K H' r os → os.Sublist (Bk.allO many) → Q (.ref r) H'
abbrev NSt : List Str := ["_law_script", "_law_k", "_law_many", "_law_some", "_law_way", "_law_number_here", "_law_share"]
theorem scSet : FnScope NSt ["_law_script", "_law_k", "_law_many"] (defScope sSet) := ⟨rfl, rfl, rfl, by decide +kernel, rfl, by decide +kernel, by decide +kernel⟩
theorem sub_step {L os : Bk.Ords} {i : Nat} {o : List Int} (ho : L[i]? = some o) (h : os.Sublist (L.take i)) : os.Sublist (L.take (i + 1)) ∧ (os ++ [o]).Sublist (L.take (i + 1)) := by
  rw [take_get' ho]
  exact ⟨h.trans (List.sublist_append_left _ _), h.append (List.Sublist.refl _)⟩
theorem menu6 {i : Int} (h0 : 0 ≤ i) (h1 : i < 6) : ∃ c : Int, atI [V.int 0, V.int 0, V.int 1, V.int 3, V.int 6, V.int 4] i = some (.int c) := by
  have : i = 0 ∨ i = 1 ∨ i = 2 ∨ i = 3 ∨ i = 4 ∨ i = 5 := by omega
  rcases this with rfl | rfl | rfl | rfl | rfl | rfl
  · exact ⟨0, rfl⟩
  · exact ⟨0, rfl⟩
  · exact ⟨1, rfl⟩
  · exact ⟨3, rfl⟩
  · exact ⟨6, rfl⟩
  · exact ⟨4, rfl⟩
theorem ok_set {f : Addr} {fd : FuncData} (F : Fun K "_law_set" "_law_set" sSet f fd) (T : TxB K mg CO) (WA : Df P w K mg base CX0 1 "_law_all" ["_law_many"] (spAll K)) (WM : Df P w K mg base CX0 2 "_law_mix" ["_law_script", "_law_k"] (spMix K)) : FnOk P w K mg base CX0 3 f fd ["_law_script", "_law_k", "_law_many"] (spSet K) := by
  refine F.ok scSet (fun vs H Q E h => ?_) (fun cdv A outer s H vs Q E hr h => ?_)
  · obtain ⟨a, k, many, rfl, _⟩ := h
    rfl
  obtain ⟨a, k, many, rfl, hs, m1, m4, z⟩ := h
  refine ⟨_, pss_cons (ps_set (i := 3) scSet.nd rfl (Or.inr rfl) (pe_df WA (hr.mono (by decide)) rfl (passS0 (E := fun _ _ _ _ => False)) (pa_cons (pv 2) pa_nil)))
    (pss_cons (ps_set (i := 4) scSet.nd rfl (Or.inl rfl) (pe_op op_mod (pe_df WM hr rfl (passS0 (E := fun _ _ _ _ => False)) (pa_cons (pv 0) (pa_cons (pv 1) pa_nil))) pe_int))
    (pss_cons (ps_set (i := 5) scSet.nd rfl (Or.inr rfl) (pe_df WM hr rfl (passS0 (E := fun _ _ _ _ => False)) (pa_cons (pv 0) (pa_cons (pe_op op_add (pv 1) pe_int) pa_nil))))
    (pss_cons (ps_if (pt_cmpR op_eq (pv 4) pe_int (nomark _)) (pss_one (ps_ret (pe_comp rfl (show CScope (defScope sSet) NSt _ _ from by constructor <;> decide +kernel) (pi_list (pv 3))
        (fun _ _ _ _ _ _ => pts_one (pt_cmpR op_eq (pe_ix (show IxR _ (rIxT K) from ix_tup) (pv 0) (pe_op op_mod (pv 6) (pv 3)) (fun _ _ => rfl)) (pe_op op_mod (pe_op op_fdiv (pv 6) pe_int) (pv 3)) (nomark _)))
        (fun cl C s₂ H₂ fp pins => pv 0) scSet.nd))) pss_nil)
    (pss_cons (ps_if (pt_cmpR op_eq (pv 4) pe_int (nomark _)) (pss_one (ps_ret (pe_ix ix_list (pe_lst (pa_cons (pe_lst pa_nil) (pa_cons (pv 3) (pa_cons (pe_slice sl_list (pv 3) po_none (po_some pe_int)) (pa_cons (pe_slice sl_list (pv 3) (po_some (pe_un un_neg pe_int)) po_none) pa_nil))))) (pe_op op_mod (pv 5) pe_int) (fun _ _ => rfl)))) pss_nil)
    (pss_cons (ps_set (i := 6) scSet.nd rfl (Or.inr rfl) (pe_ix ix_list (pe_lst (pa_cons pe_int (pa_cons pe_int (pa_cons pe_int (pa_cons pe_int (pa_cons pe_int (pa_cons pe_int pa_nil))))))) (pv 4) (fun _ _ => rfl)))
    (pss_one (ps_ret (pe_comp rfl (show CScope (defScope sSet) NSt _ _ from by constructor <;> decide +kernel) (pi_range1 rfl T.t.range (pa_cons (pe_callB call_len_seq rfl T.t.len b_len (pa_cons (pv 3) pa_nil)) pa_nil))
        (fun _ _ _ _ _ _ => pts_one (pt_cmpR op_lt (pe_op op_mod (pe_op op_fdiv (pe_df WM hr rfl (passS0 (E := fun _ _ _ _ => False)) (pa_cons (pv 1) (pa_cons (pe_op op_add (pe_op op_add (pv 2) pe_int) (pv 0)) pa_nil))) pe_int) pe_int) (pv 7) (nomark _)))
        (fun cl C s₂ H₂ fp pins => pe_ix (show IxR _ (rIxL K) from ix_list) (pv 4) (pv 0) (fun _ _ => rfl)) scSet.nd)))))))), ?_⟩
  refine ⟨_, rfl, many, rfl, m1, by omega, fun l H1 s1 hlf ol => ?_⟩
  obtain ⟨ys, hl, py⟩ := ol
  have hlen := py.length
  have len24 := Bk.len_all4 many (Bk.in4 m1 m4)
  refine ⟨_, rfl, _, rfl, a, k, rfl, hs.same s1, fun m _ _ => ⟨_, _, rfl, rfl, by show (0 : Int) < 6; decide, ?_⟩⟩
  have w0 := Int.emod_nonneg m (show (6 : Int) ≠ 0 by decide)
  have w1 := Int.emod_lt_of_pos m (show (0 : Int) < 6 by decide)
  refine ⟨_, rfl, _, rfl, _, _, rfl, rfl, a, _, rfl, hs.same s1, fun num n0 _ => ?_⟩
  refine ⟨_, rfl, rfl, _, rfl, ?_⟩
  refine ite2 (fun _ => ?_) (fun _ => ?_)
  · refine ⟨_, rfl, l, rfl, ⟨_, SqL.of hl⟩, comp_lst (K := K) (a := l) (xs := ys) (fun i zs H2 => H2 = H1 ∧ zs.length ≤ i ∧ ∃ os, Paired (dInts.rep K H1) zs os ∧ os.Sublist ((Bk.allO many).take i)) ⟨rfl, Nat.zero_le _, [], .nil, List.Sublist.refl _⟩ ?_ (by rw [sizeLine_eq]; omega) ?_ ?_⟩
    · rintro i zs H2 _ ⟨rfl, zl, _⟩
      exact ⟨SqL.of hl, zl⟩
    · rintro i y zs H2 hy ⟨rfl, zl, os, po, sub⟩
      obtain ⟨o, ho, ro⟩ := pget py hy
      obtain ⟨b, rfl, qb⟩ := rep_ints ro
      have lo := (Bk.allO_ord m1 (by omega) (List.mem_of_getElem? ho)).1
      have p0 := Int.emod_nonneg num (show (many : Int) ≠ 0 by omega)
      have p1 := Int.emod_lt_of_pos num (show (0 : Int) < (many : Int) by omega)
      have hlt : (num % (many : Int)).toNat < o.length := by omega
      obtain ⟨t1, t2⟩ := sub_step ho sub
      refine ⟨_, rfl, _, rfl, _, rfl, _, _, rfl, rfl, by show (0 : Int) < (many : Int); omega, b, _, _, .int (o[(num % (many : Int)).toNat]'hlt), rfl, rfl, qb, atI_in p0 (by rw [List.getElem?_map, List.getElem?_eq_getElem hlt]; rfl), ?_⟩
      refine ⟨_, rfl, _, _, rfl, rfl, ⟨by decide, by decide⟩, _, rfl, _, _, rfl, rfl, by show (0 : Int) < (many : Int); omega, rfl, _, rfl, ?_⟩
      refine ite2 (fun _ => ?_) (fun _ => ?_)
      · exact ⟨_, rfl, rfl, by rw [List.length_append]; show zs.length + 1 ≤ i + 1; omega, os ++ [o], papp po (.cons ro .nil), t2⟩
      · exact ⟨rfl, by omega, os, po, t1⟩
    · rintro zs H2 p ⟨rfl, _, os, po, sub⟩ hp
      exact z p os _ (s1.trans (same_upd hp _)) (OL.new hp po) (sub.trans (List.take_sublist _ _))
  refine ⟨_, rfl, rfl, _, rfl, ?_⟩
  refine ite2 (fun _ => ?_) (fun _ => ?_)
  · refine ⟨by show 0 ≤ sizeLine; decide, fun e0 he0 => ?_⟩
    have s2 := same_upd he0 (.lst [])
    refine ⟨_, rfl, _, rfl, 1, rfl, l, ys, rfl, SqL.of (s2 _ _ hl), fun f0 hf0 => ?_⟩
    have s3 := same_upd hf0 (.lst (cutV ys none (some 1)))
    refine ⟨_, rfl, 1, rfl, -1, rfl, l, ys, rfl, SqL.of (s3 _ _ (s2 _ _ hl)), fun g0 hg0 => ?_⟩
    have s4 := same_upd hg0 (.lst (cutV ys (some (-1)) none))
    refine ⟨by show 4 ≤ sizeLine; decide, fun h0 hh0 => ?_⟩
    have s5 := same_upd hh0 (.lst [V.ref e0, V.ref l, V.ref f0, V.ref g0])
    have s6 := s2.trans (s3.trans (s4.trans s5))
    have p0 := Int.emod_nonneg num (show (4 : Int) ≠ 0 by decide)
    have p1 := Int.emod_lt_of_pos num (show (0 : Int) < 4 by decide)
    have c1 : cutV ys none (some 1) = ys.take 1 := cutV_to ys 1
    have e1 : OL K (upd (upd (upd (upd H1 e0 (.lst [])) f0 (.lst (cutV ys none (some 1)))) g0 (.lst (cutV ys (some (-1)) none))) h0 (.lst [V.ref e0, V.ref l, V.ref f0, V.ref g0])) e0 [] := OL.same (s3.trans (s4.trans s5)) ⟨[], upd_same, .nil⟩
    have e2 := OL.same s6 ⟨ys, hl, py⟩
    have e3 : OL K (upd (upd (upd (upd H1 e0 (.lst [])) f0 (.lst (cutV ys none (some 1)))) g0 (.lst (cutV ys (some (-1)) none))) h0 (.lst [V.ref e0, V.ref l, V.ref f0, V.ref g0])) f0 ((Bk.allO many).take 1) := OL.same (s4.trans s5) ⟨_, upd_same, by have q := ptake 1 (pimp (fun _ _ z => dInts.mono (s2.trans s3) z) py); rw [← c1] at q; exact q⟩
    have e4 : OL K (upd (upd (upd (upd H1 e0 (.lst [])) f0 (.lst (cutV ys none (some 1)))) g0 (.lst (cutV ys (some (-1)) none))) h0 (.lst [V.ref e0, V.ref l, V.ref f0, V.ref g0])) g0 ((Bk.allO many).drop (ys.length - 1)) := OL.same s5 ⟨_, upd_same, by have q := pdrop (ys.length - 1) (pimp (fun _ _ z => dInts.mono (s2.trans (s3.trans s4)) z) py); rw [← cutV_last] at q; exact q⟩
    have cs : num % 4 = 0 ∨ num % 4 = 1 ∨ num % 4 = 2 ∨ num % 4 = 3 := by omega
    refine ⟨_, rfl, _, _, rfl, rfl, by show (0 : Int) < 4; decide, ?_⟩
    show rIxL _ (V.ref h0) (V.int (num % 4)) _ _
    rcases cs with c | c | c | c
    · rw [c]
      exact ⟨h0, _, 0, V.ref e0, rfl, rfl, SqL.up, rfl, z e0 [] _ (s1.trans s6) e1 (List.nil_sublist _)⟩
    · rw [c]
      exact ⟨h0, _, 1, V.ref l, rfl, rfl, SqL.up, rfl, z l _ _ (s1.trans s6) e2 (List.Sublist.refl _)⟩
    · rw [c]
      exact ⟨h0, _, 2, V.ref f0, rfl, rfl, SqL.up, rfl, z f0 _ _ (s1.trans s6) e3 (List.take_sublist _ _)⟩
    · rw [c]
      exact ⟨h0, _, 3, V.ref g0, rfl, rfl, SqL.up, rfl, z g0 _ _ (s1.trans s6) e4 (List.drop_sublist _ _)⟩
  obtain ⟨sh, esh⟩ := menu6 w0 w1
  refine ⟨by show 6 ≤ sizeLine; decide, fun e0 he0 => ?_⟩
  have s2 := same_upd he0 (.lst [V.int 0, V.int 0, V.int 1, V.int 3, V.int 6, V.int 4])
  refine ⟨_, rfl, e0, _, _, V.int sh, rfl, rfl, SqL.up, esh, ?_⟩
  generalize (upd H1 e0 (.lst [V.int 0, V.int 0, V.int 1, V.int 3, V.int 6, V.int 4])) = H2 at s2 ⊢
  have hl2 := s2 _ _ hl
  refine ⟨_, rfl, l, _, rfl, .inl (SqL.of hl2), _, rfl, by omega, by omega, comp_rng (lo := 0) (n := (((ys.length : Nat) : Int)).toNat) (fun i zs H3 => H3 = H2 ∧ zs.length ≤ i ∧ ∃ os, Paired (dInts.rep K H2) zs os ∧ os.Sublist ((Bk.allO many).take i)) ⟨rfl, Nat.zero_le _, [], .nil, List.Sublist.refl _⟩ ?_ (by rw [sizeLine_eq]; omega) ?_ ?_⟩
  · rintro i zs H3 _ ⟨_, zl, _⟩
    exact zl
  · rintro i zs H3 hi ⟨rfl, zl, os, po, sub⟩
    have hi' : i < ys.length := by omega
    obtain ⟨o, ho, ro⟩ := pget py (List.getElem?_eq_getElem hi')
    obtain ⟨t1, t2⟩ := sub_step ho sub
    refine ⟨_, rfl, _, rfl, _, _, rfl, rfl, _, rfl, _, _, rfl, rfl, a, _, rfl, hs.same (s1.trans s2), fun m2 _ _ => ?_⟩
    refine ⟨_, _, rfl, rfl, ⟨by decide, by decide⟩, _, _, rfl, rfl, by show (0 : Int) < 8; decide, _, rfl, _, _, rfl, rfl, _, rfl, ?_⟩
    refine ite2 (fun _ => ?_) (fun _ => ?_)
    · refine ⟨_, rfl, _, rfl, l, ys, _, _, rfl, rfl, SqL.of hl2, ?_, rfl, by rw [List.length_append]; show zs.length + 1 ≤ i + 1; omega, os ++ [o], papp po (.cons (dInts.mono s2 ro) .nil), t2⟩
      rw [show (0 + (i : Int)) = (i : Int) by omega]
      exact atI_nat (List.getElem?_eq_getElem hi')
    · exact ⟨rfl, by omega, os, po, t1⟩
  · rintro zs H3 p ⟨rfl, _, os, po, sub⟩ hp
    exact z p os _ (s1.trans (s2.trans (same_upd hp _))) (OL.new hp po) (sub.trans (List.take_sublist _ _))
end
end Ord
namespace Ord
open PySem L2 Mx
abbrev sHow : Stmt := top 34
abbrev sFromR : Stmt := top 35
abbrev sAt : Stmt := top 36
abbrev sDoorB : Stmt := top 37
abbrev sLess : Stmt := top 38
abbrev sNumber : Stmt := top 39
theorem b_sum : bootBuiltins "sum" = some (.builtin "sum") := by decide +kernel
theorem sum_cast (l : List Nat) : (l.map fun n : Nat => (n : Int)).sum = ((l.sum : Nat) : Int) := by
  induction l with
  | nil => rfl
  | cons x l ih => simp only [List.map_cons, List.sum_cons, ih]; omega
theorem natsV_map {α : Type} (l : List α) (g : α → Nat) : natsV (l.map g) = (l.map fun d => ((g d : Nat) : Int)).map V.int := by
  unfold natsV
  rw [List.map_map, List.map_map]
  rfl
section
variable {P : Program} {w : World} {K : W.Frag} {mg : Str → Option Value} {base : Heap} {CO : Addr}
def spFromR (K : W.Frag) : Sp := fun vs H Q _ => ∃ (many : Int) (l : Addr) (xs : List V) (rs : List Bk.Room), vs = [.ref l] ∧ SqL K H l xs ∧ Paired (RoomA K H) xs rs ∧ Whole many rs ∧
  ∀ (t : Addr) (H' : Hp), Same H H' → H' t = some (.lst (natsV (Bk.cnts rs))) → Q (.ref t) H'
theorem scFromR : FnScope ["rooms", "counts", "room"] ["rooms"] (defScope sFromR) := ⟨rfl, rfl, rfl, by decide +kernel, rfl, by decide +kernel, by decide +kernel⟩
theorem ok_fromR {f : Addr} {fd : FuncData} (F : Fun K "rows_from" "rows_from" sFromR f fd) (T : TxB K mg CO) (zs : mg "sum" = none) : FnOk P w K mg base CX0 1 f fd ["rooms"] (spFromR K) := by
  refine F.ok scFromR (fun vs H Q E h => ?_) (fun cdv A outer s H vs Q E hr h => ?_)
  · obtain ⟨many, l, xs, rs, rfl, _⟩ := h
    rfl
  obtain ⟨many, l, xs, rs, rfl, ql, pr, W, z⟩ := h
  refine ⟨_, pss_cons (ps_set (i := 1) scFromR.nd rfl (Or.inr rfl) (pe_lst (pa_cons pe_int (pa_cons pe_int pa_nil))))
    (pss_cons (ps_for PassesOwn.never rfl (pi_list (pv 0)) (pg_name (i := 2) scFromR.nd rfl (Or.inl rfl))
      (pss_one (ps_expr (pe_bm PySem.F.plainAttrs_list PySem.F.slot_list_append PySem.F.type_list_append mt_append (pv 1) (pa_cons (pe_callB (call_sum rfl) rfl zs b_sum (pa_cons
        (pe_comp rfl (show CScope (defScope sFromR) ["rooms", "counts", "room"] _ _ from by constructor <;> decide +kernel) (pi_tup (pv 2)) (fun _ _ _ _ _ _ => pts_nil)
          (fun cl C s₂ H₂ fp pins => pe_ix (show IxR _ (rIxL K) from ix_list) (pv 2) (pe_ix (show IxR _ (rIxT K) from ix_tup) (pv 0) pe_int (fun _ _ => rfl)) (fun _ _ => rfl)) scFromR.nd) pa_nil)) pa_nil)))))
    (pss_one (ps_ret (pv 1)))), ?_⟩
  refine ⟨by show 2 ≤ sizeLine; decide, fun t ht => ?_⟩
  have s1 : Same H (upd H t (.lst [V.int 0, V.int 1])) := same_upd ht _
  have hlen := pr.length
  refine ⟨_, rfl, l, rfl, ⟨_, s1.seqL ql⟩, for_list (K := K) (a := l) (xs := xs) (fun i σ H2 => ∃ v2, σ = [some (.ref l), some (.ref t), v2] ∧ Same H H2 ∧ H2 t = some (.lst (natsV (Bk.cnts (rs.take i))))) ⟨none, rfl, s1, upd_same⟩ ?_ ?_ ?_⟩
  · rintro i σ H2 _ ⟨v2, rfl, s2, _⟩
    exact s2.seqL ql
  · rintro i x σ H2 hx ⟨v2, rfl, s2, h2⟩
    obtain ⟨r, hr', ra⟩ := pget pr hx
    obtain ⟨a, ds, rfl, qa, pd⟩ := ra.same s2
    have il := (List.getElem?_eq_some_iff.mp hr').1
    have ok := W.wf i r hr'
    have r8 : r.length ≤ 8 := Bk.room_len8 ok.rise fun d hd => by
      obtain ⟨a1, a2, _⟩ := W.mask i r hr' d hd
      exact ⟨a1, a2⟩
    have dl := pd.length
    have cl := Bk.cnts_len (rs.take i)
    have tl : (rs.take i).length = i := by rw [List.length_take]; omega
    have few := W.few
    refine ⟨_, rfl, .inl ⟨rfl, _, SqL.of h2⟩, _, rfl, a, rfl, ⟨_, qa⟩, comp_tup (K := K) (a := a) (xs := ds) (fun j ys H3 => H3 = H2 ∧ ys = natsV ((r.take j).map (Bk.cnt1 (Bk.cnts (rs.take i))))) ⟨rfl, rfl⟩ ?_ (by rw [sizeLine_eq]; omega) ?_ ?_⟩
    · rintro j ys H3 _ ⟨rfl, rfl⟩
      exact ⟨qa, by unfold natsV; rw [List.length_map, List.length_map, List.length_take]; omega⟩
    · rintro j y ys H3 hy ⟨rfl, rfl⟩
      obtain ⟨d, hd, da⟩ := pget pd hy
      obtain ⟨p, rfl, qp⟩ := da
      obtain ⟨b1, b2⟩ := ok.ahead d (List.mem_of_getElem? hd)
      obtain ⟨k, hk⟩ : ∃ k : Nat, d.2 = (k : Int) := ⟨d.2.toNat, by omega⟩
      refine goT (iteT ⟨_, rfl, _, rfl, p, _, 1, .int d.2, rfl, rfl, qp, atI1, t, _, d.2, _, rfl, rfl, SqL.of h2, (by rw [hk]; exact natsV_at (by rw [cl, tl]; omega)), rfl, ?_⟩)
      rw [take_get' hd, List.map_append]
      unfold natsV
      rw [List.map_append]
      congr 1
      show [_] = [_]
      congr 2
      unfold Bk.cnt1
      rw [hk]
      rfl
    rintro ys H3 p ⟨rfl, rfl⟩ hp
    rw [dl, List.take_length]
    have s3 := same_upd hp (.lst (natsV (r.map (Bk.cnt1 (Bk.cnts (rs.take i))))))
    refine ⟨p, r.map fun d => ((Bk.cnt1 (Bk.cnts (rs.take i)) d : Nat) : Int), rfl, SqL.of (by rw [upd_same, natsV_map]), ?_⟩
    refine ⟨t, _, _, rfl, rfl, s3 _ _ h2, by unfold natsV; rw [List.length_map, cl, tl, sizeLine_eq]; omega, ?_⟩
    refine ⟨_, rfl, fun b u q => ?_, ?_⟩
    · rw [upd_ne (ne_of_none q ht)]
      exact s3 _ _ (s2 _ _ q)
    · rw [upd_same, Bk.cnts_take hr']
      unfold natsV
      rw [List.map_append]
      congr 3
      show [_] = [_]
      congr 2
      have := sum_cast (r.map (Bk.cnt1 (Bk.cnts (rs.take i))))
      rw [List.map_map] at this
      exact this
  · rintro σ H2 ⟨v2, rfl, s2, h2⟩
    rw [hlen, List.take_length] at h2
    exact ⟨_, rfl, z t H2 s2 h2⟩
def spLess (K : W.Frag) : Sp := fun vs H Q _ => ∃ (x : V) (r : Bk.Room) (c : Addr) (cs : List Nat) (t : Int), vs = [x, .ref c, .int t] ∧ RoomA K H x r ∧ SqL K H c (natsV cs) ∧ (∀ d ∈ r, 0 ≤ d.2 ∧ d.2 < (cs.length : Int)) ∧ r.length ≤ 8 ∧
  ∀ H', Same H H' → Q (.int ((Bk.lessR cs r t : Nat) : Int)) H'
theorem scLess : FnScope ["room", "counts", "thing"] ["room", "counts", "thing"] (defScope sLess) := ⟨rfl, rfl, rfl, by decide +kernel, rfl, by decide +kernel, by decide +kernel⟩
theorem ok_less {f : Addr} {fd : FuncData} (F : Fun K "rows_less" "rows_less" sLess f fd) (zs : mg "sum" = none) : FnOk P w K mg base CX0 1 f fd ["room", "counts", "thing"] (spLess K) := by
  refine F.ok scLess (fun vs H Q E h => ?_) (fun cdv A outer s H vs Q E hr h => ?_)
  · obtain ⟨x, r, c, cs, t, rfl, _⟩ := h
    rfl
  obtain ⟨x, r, c, cs, t, rfl, ⟨a, ds, rfl, qa, pd⟩, qc, bd, r8, z⟩ := h
  have dl := pd.length
  refine ⟨_, pss_one (ps_ret (pe_callB (call_sum rfl) rfl zs b_sum (pa_cons (pe_comp rfl (show CScope (defScope sLess) ["room", "counts", "thing"] _ _ from by constructor <;> decide +kernel) (pi_tup (pv 0))
      (fun _ _ _ _ _ _ => pts_one (pt_cmpR op_lt (pe_ix (show IxR _ (rIxT K) from ix_tup) (pv 0) pe_int (fun _ _ => rfl)) (pv 3) (nomark _)))
      (fun cl C s₂ H₂ fp pins => pe_ix (show IxR _ (rIxL K) from ix_list) (pv 2) (pe_ix (show IxR _ (rIxT K) from ix_tup) (pv 0) pe_int (fun _ _ => rfl)) (fun _ _ => rfl)) scLess.nd) pa_nil))), ?_⟩
  refine ⟨_, rfl, a, rfl, ⟨_, qa⟩, comp_tup (K := K) (a := a) (xs := ds) (fun j ys H3 => H3 = H ∧ ys.length ≤ j ∧ ys = natsV (((r.take j).filter fun d => decide (d.1 < t)).map (Bk.cnt1 cs))) ⟨rfl, Nat.zero_le _, rfl⟩ ?_ (by rw [sizeLine_eq]; omega) ?_ ?_⟩
  · rintro j ys H3 _ ⟨rfl, yl, _⟩
    exact ⟨qa, yl⟩
  · rintro j y ys H3 hy ⟨rfl, yl, rfl⟩
    obtain ⟨d, hd, da⟩ := pget pd hy
    obtain ⟨p, rfl, qp⟩ := da
    obtain ⟨b1, b2⟩ := bd d (List.mem_of_getElem? hd)
    obtain ⟨k, hk⟩ : ∃ k : Nat, d.2 = (k : Int) := ⟨d.2.toNat, by omega⟩
    refine ⟨_, rfl, p, _, 0, .int d.1, rfl, rfl, qp, atI0, _, rfl, _, _, rfl, rfl, _, rfl, ?_⟩
    rw [take_get' hd, List.filter_append, List.map_append]
    by_cases lt : d.1 < t
    · rw [decide_eq_true lt]
      refine iteT ⟨_, rfl, _, rfl, p, _, 1, .int d.2, rfl, rfl, qp, atI1, c, _, d.2, _, rfl, rfl, qc, (by rw [hk]; exact natsV_at (by omega)), rfl, by rw [List.length_append]; show _ + 1 ≤ j + 1; omega, ?_⟩
      rw [List.filter_cons_of_pos (by simpa using lt)]
      unfold natsV
      rw [List.map_append]
      congr 1
      show [_] = [_]
      congr 2
      unfold Bk.cnt1
      rw [hk]
      rfl
    · rw [decide_eq_false lt]
      refine iteF ⟨rfl, by omega, ?_⟩
      rw [List.filter_cons_of_neg (by simpa using lt)]
      simp
  rintro ys H3 p ⟨rfl, _, rfl⟩ hp
  rw [dl, List.take_length]
  refine ⟨p, (r.filter fun d => decide (d.1 < t)).map fun d => ((Bk.cnt1 cs d : Nat) : Int), rfl, SqL.of (by rw [upd_same, natsV_map]), ?_⟩
  have e : (((r.filter fun d => decide (d.1 < t)).map fun d => ((Bk.cnt1 cs d : Nat) : Int))).sum = ((Bk.lessR cs r t : Nat) : Int) := by
    have := sum_cast ((r.filter fun d => decide (d.1 < t)).map (Bk.cnt1 cs))
    rw [List.map_map] at this
    exact this
  rw [e]
  exact z _ (same_upd hp _)
def spDoorB (K : W.Frag) : Sp := fun vs H Q _ => ∃ (x : V) (r : Bk.Room) (c : Addr) (cs : List Nat) (n : Nat) (d : Int × Int) (dd : Bk.Room), vs = [x, .ref c, .int (n : Int)] ∧ RoomA K H x r ∧ SqL K H c (natsV cs) ∧ (∀ d ∈ r, 0 ≤ d.2 ∧ d.2 < (cs.length : Int)) ∧ r.length ≤ 8 ∧
  (r.filter fun e => decide (Bk.lessR cs r e.1 ≤ n)) = dd ++ [d] ∧ ∀ (y : V) (H' : Hp), Same H H' → DoorA K H' y d → Q y H'
theorem scDoorB : FnScope ["room", "counts", "skipped"] ["room", "counts", "skipped"] (defScope sDoorB) := ⟨rfl, rfl, rfl, by decide +kernel, rfl, by decide +kernel, by decide +kernel⟩
theorem ok_doorB {f : Addr} {fd : FuncData} (F : Fun K "door_behind" "door_behind" sDoorB f fd) (WL : Df P w K mg base CX0 1 "rows_less" ["room", "counts", "thing"] (spLess K)) : FnOk P w K mg base CX0 2 f fd ["room", "counts", "skipped"] (spDoorB K) := by
  refine F.ok scDoorB (fun vs H Q E h => ?_) (fun cdv A outer s H vs Q E hr h => ?_)
  · obtain ⟨x, r, c, cs, n, d, dd, rfl, _⟩ := h
    rfl
  obtain ⟨x, r, c, cs, n, d, dd, rfl, ra, qc, bd, r8, hf, z⟩ := h
  obtain ⟨a, ds, rfl, qa, pd⟩ := id ra
  have dl := pd.length
  refine ⟨_, pss_one (ps_ret (pe_ix ix_list (pe_comp rfl (show CScope (defScope sDoorB) ["room", "counts", "skipped"] _ _ from by constructor <;> decide +kernel) (pi_tup (pv 0))
      (fun _ _ _ _ _ _ => pts_one (pt_cmpR op_le (pe_df WL hr rfl (passS0 (E := fun _ _ _ _ => False)) (pa_cons (pv 1) (pa_cons (pv 2) (pa_cons (pe_ix (show IxR _ (rIxT K) from ix_tup) (pv 0) pe_int (fun _ _ => rfl)) pa_nil)))) (pv 3) (nomark _)))
      (fun cl C s₂ H₂ fp pins => pv 0) scDoorB.nd) (pe_un un_neg pe_int) (fun _ _ => rfl))), ?_⟩
  refine ⟨_, rfl, a, rfl, ⟨_, qa⟩, comp_tup (K := K) (a := a) (xs := ds) (fun j ys H3 => Same H H3 ∧ ys.length ≤ j ∧ Paired (DoorA K H3) ys ((r.take j).filter fun e => decide (Bk.lessR cs r e.1 ≤ n))) ⟨Same.refl _, Nat.zero_le _, .nil⟩ ?_ (by rw [sizeLine_eq]; omega) ?_ ?_⟩
  · rintro j ys H3 _ ⟨s3, yl, _⟩
    exact ⟨s3.seqT qa, yl⟩
  · rintro j y ys H3 hy ⟨s3, yl, py⟩
    obtain ⟨e, he, da⟩ := pget pd hy
    obtain ⟨p, rfl, qp⟩ := da.same s3
    refine ⟨_, rfl, _, rfl, _, rfl, p, _, 0, .int e.1, rfl, rfl, qp, atI0, .ref a, r, c, cs, e.1, rfl, ra.same s3, s3.seqL qc, bd, r8, fun H4 s4 => ?_⟩
    refine ⟨_, rfl, _, _, rfl, rfl, _, rfl, ?_⟩
    rw [take_get' he, List.filter_append]
    by_cases le : Bk.lessR cs r e.1 ≤ n
    · rw [decide_eq_true (by omega)]
      refine iteT ⟨_, rfl, s3.trans s4, by rw [List.length_append]; show _ + 1 ≤ j + 1; omega, papp (pimp (fun _ _ z => z.same s4) py) ?_⟩
      rw [List.filter_cons_of_pos (by simpa using le)]
      exact .cons (da.same (s3.trans s4)) .nil
    · rw [decide_eq_false (by omega)]
      refine iteF ⟨s3.trans s4, by omega, ?_⟩
      rw [List.filter_cons_of_neg (by simpa using le), List.filter_nil, List.append_nil]
      exact pimp (fun _ _ z => z.same s4) py
  rintro ys H3 p ⟨s3, yl, py⟩ hp
  rw [dl, List.take_length, hf] at py
  have ylen := py.length
  rw [List.length_append] at ylen
  obtain ⟨y, hy, da⟩ := pget' (i := dd.length) (b := d) py (by simp)
  refine ⟨1, rfl, p, ys, -1, y, rfl, rfl, SqL.up, ?_, z y _ (s3.trans (same_upd hp _)) (da.same (same_upd hp _))⟩
  unfold atI ixN
  rw [if_neg (by decide), if_pos (by rw [ylen]; simp; omega)]
  have : ((-1 : Int) + (ys.length : Int)).toNat = dd.length := by rw [ylen]; simp; omega
  simpa [this] using hy
def spHow (K : W.Frag) : Sp := fun vs H Q _ => ∃ (x : V) (many : Nat) (rs : List Bk.Room) (first : Nat), vs = [x] ∧ BookA K H x many rs first ∧ WholeB many rs first ∧ ∀ H', Same H H' → Q (.int ((Bk.sem rs first).length : Nat)) H'
theorem scHow : FnScope ["book"] ["book"] (defScope sHow) := ⟨rfl, rfl, rfl, by decide +kernel, rfl, by decide +kernel, by decide +kernel⟩
theorem first_lt {many first : Nat} {rs : List Bk.Room} (W : WholeB many rs first) : first < rs.length + 2 := by
  rcases W.fst with h | h
  · omega
  · exact h.2.1
theorem ok_how {f : Addr} {fd : FuncData} (F : Fun K "how_many" "how_many" sHow f fd) (WB : Df P w K mg base CX0 11 "look_book" ["book"] (spBook K)) (WR : Df P w K mg base CX0 1 "rows_from" ["rooms"] (spFromR K)) : FnOk P w K mg base CX0 12 f fd ["book"] (spHow K) := by
  refine F.ok scHow (fun vs H Q E h => ?_) (fun cdv A outer s H vs Q E hr h => ?_)
  · obtain ⟨x, many, rs, first, rfl, _⟩ := h
    rfl
  obtain ⟨x, many, rs, first, rfl, ba, W, z⟩ := h
  refine ⟨_, pss_cons (ps_expr (pe_df WB hr rfl (passS0 (E := fun _ _ _ _ => False)) (pa_cons (pv 0) pa_nil)))
    (pss_one (ps_ret (pe_ix ix_list (pe_df WR (hr.mono (by decide)) rfl (passS0 (E := fun _ _ _ _ => False)) (pa_cons (pe_ix (show IxR _ (rIxT K) from ix_tup) (pv 0) pe_int (fun _ _ => rfl)) pa_nil)) (pe_ix (show IxR _ (rIxT K) from ix_tup) (pv 0) pe_int (fun _ _ => rfl)) (fun _ _ => rfl)))), ?_⟩
  refine ⟨_, rfl, x, many, rs, first, rfl, ba, W, fun H1 s1 => ?_⟩
  obtain ⟨b, l, xs, rfl, q, ql, pr⟩ := (ba.same s1).ex
  refine ⟨_, rfl, b, _, 1, .ref l, rfl, rfl, q, atI1, many, l, xs, rs, rfl, ql, pr, W.rooms, fun t H2 s2 ht => ?_⟩
  refine ⟨_, rfl, b, _, 2, .int (first : Int), rfl, rfl, s2.seqT q, atI2, t, _, _, _, rfl, rfl, SqL.of ht, natsV_at (by rw [Bk.cnts_len]; exact first_lt W), ?_⟩
  rw [Bk.cnts_at]
  exact z H2 (s1.trans s2)
end
end Ord
namespace Bk
theorem row_step {rs : List Room} (wf : WF rs) {k s : Nat} (k2 : 2 ≤ k) (hk : k < rs.length + 2) (hs : s < (sem rs k).length) : ∃ r d ds, rs[k - 2]? = some r ∧ Room.Ok (k - 2) r ∧ (r.filter fun e => decide (lessR (cnts rs) r e.1 ≤ s)) = ds ++ [d] ∧ d ∈ r ∧ lessR (cnts rs) r d.1 ≤ s ∧
    s - lessR (cnts rs) r d.1 < (sem rs d.2.toNat).length ∧ (sem rs k)[s]? = ((sem rs d.2.toNat)[s - lessR (cnts rs) r d.1]?).map (d.1 :: ·) := by
  obtain ⟨r, hr, ok, e⟩ := sem_at wf k2 hk
  have g1 : ∀ d ∈ r, cnt1 (cnts rs) d = (sem rs d.2.toNat).length ∧ 0 < (sem rs d.2.toNat).length := fun d hd => by
    obtain ⟨a1, a2⟩ := ok.ahead d hd
    exact ⟨cnts_at rs _, List.length_pos_iff.mpr (sem_ne wf d.2.toNat d.2.toNat (Nat.le_refl _) (by omega) (by omega))⟩
  have hs' : s < (r.map (cnt1 (cnts rs))).sum := by
    rw [e, flat_count] at hs
    rw [List.map_congr_left fun d hd => (g1 d hd).1]
    exact hs
  obtain ⟨d, ds, h1, h2, h3, h4, h5⟩ := door_find (g := fun d => sem rs d.2.toNat) ok.rise g1 hs'
  exact ⟨r, d, ds, hr, ok, h1, h2, h3, h4, by rw [e]; exact h5⟩
theorem below_nil (os : Ords) : below os [] = 0 := by
  unfold below
  rw [List.length_eq_zero_iff, List.filter_eq_nil_iff]
  intro a _
  cases a <;> simp [HT.lexLt]
theorem below_step {rs : List Room} (wf : WF rs) {k : Nat} {t : Int} {o : List Int} (k2 : 2 ≤ k) (hk : k < rs.length + 2) : below (sem rs k) (t :: o) = lessR (cnts rs) (roomAt rs k) t + below (sem rs (behind (roomAt rs k) t).toNat) o := by
  obtain ⟨r, hr, ok, e⟩ := sem_at wf k2 hk
  rw [roomAt_of hr k2, e, below_flat (cs := cnts rs) ok.rise fun d _ => cnts_at rs _]
  congr 1
  unfold behind
  cases hf : r.find? (fun d => decide (d.1 = t)) with
  | some d => rfl
  | none =>
    show 0 = below (sem rs 0) o
    rw [sem_zero]
    rfl
end Bk
namespace Ord
open PySem L2 Mx
section
variable {P : Program} {w : World} {K : W.Frag} {mg : Str → Option Value} {base : Heap} {CO CN : Addr}
def spAt (K : W.Frag) (CN : Addr) : Sp := fun vs H Q E => ∃ (x : V) (many : Nat) (rs : List Bk.Room) (first : Nat) (i : Int), vs = [x, .int i] ∧ BookA K H x many rs first ∧ WholeB many rs first ∧ (∀ o ∈ Bk.sem rs first, o.length ≤ 100) ∧
  (∀ (n : Nat) (o : List Int) (r : Addr) (H' : Hp), i = (n : Int) → (Bk.sem rs first)[n]? = some o → Same H H' → H' r = some (.tup (o.map V.int)) → Q (.ref r) H') ∧
  (¬ (0 ≤ i ∧ i < ((Bk.sem rs first).length : Int)) → ∀ H', Same H H' → E (.ref CN) none H')
abbrev NAt : List Str := ["book", "number", "counts", "things", "skipped", "came", "room", "door"]
theorem scAt : FnScope NAt ["book", "number"] (defScope sAt) := ⟨rfl, rfl, rfl, by decide +kernel, rfl, by decide +kernel, by decide +kernel⟩
def intOf : V → Nat
  | .int k => k.toNat
  | _ => 0
def cameAt (σ : St) : Nat := intOf ((σ.getD 5 none).getD .non)
theorem ok_at {f : Addr} {fd : FuncData} (F : Fun K "order_at" "order_at" sAt f fd) (T : TxB K mg CO) (BN : OwnX K mg "BadNumber" CN) (WB : Df P w K mg base CX0 11 "look_book" ["book"] (spBook K)) (WR : Df P w K mg base CX0 1 "rows_from" ["rooms"] (spFromR K)) (W0 : Df P w K mg base CX0 1 "is_whole" ["value"] spWhole)
    (WD : Df P w K mg base CX0 2 "door_behind" ["room", "counts", "skipped"] (spDoorB K)) (WL : Df P w K mg base CX0 1 "rows_less" ["room", "counts", "thing"] (spLess K)) : FnOk P w K mg base (CX1 P w) 12 f fd ["book", "number"] (spAt K CN) := by
  refine F.okX scAt (fun vs H Q E h => ?_) (fun X cdv A outer s H vs Q E hX hp hra hr h => ?_)
  · obtain ⟨x, many, rs, first, i, rfl, _⟩ := h
    rfl
  obtain ⟨x, many, rs, first, i, rfl, B, W, small, qg, qb⟩ := h
  obtain ⟨b, l, xs, rfl, q, ql, pr⟩ := id B.ex
  obtain ⟨t1, m1⟩ := T.en
  obtain ⟨t2, m2⟩ := T.low
  subst hX
  refine ⟨_, pss_cons (ps_expr (pe_df WB hr rfl (passS0 (E := fun _ _ _ _ => False)) (pa_cons (pv 0) pa_nil)))
    (pss_cons (ps_set (i := 2) scAt.nd rfl (Or.inl rfl) (pe_df WR (hr.mono (by decide)) rfl (passS0 (E := fun _ _ _ _ => False)) (pa_cons (pe_ix (show IxR _ (rIxT K) from ix_tup) (pv 0) pe_int (fun _ _ => rfl)) pa_nil)))
    (pss_cons (ps_if (PW.pt (pw_or (pt_not (pt_val (pe_df W0 (hr.mono (by decide)) rfl (passS0 (E := fun _ _ _ _ => False)) (pa_cons (pv 1) pa_nil))))
        (pw_or1 (pt_not (pt_chain op_le op_lt pe_int (pv 1) (pe_ix (show IxR _ (rIxL K) from ix_list) (pv 2) (pe_ix (show IxR _ (rIxT K) from ix_tup) (pv 0) pe_int (fun _ _ => rfl)) (fun _ _ => rfl)))))))
      (pss_one (ps_raise rfl rfl BN hra (pa_cons pe_str pa_nil))) pss_nil)
    (pss_cons (ps_set (i := 3) scAt.nd rfl (Or.inl rfl) (pe_lst pa_nil))
    (pss_cons (ps_set (i := 4) scAt.nd rfl (Or.inl rfl) (pv 1))
    (pss_cons (ps_set (i := 5) scAt.nd rfl (Or.inl rfl) (pe_ix (show IxR _ (rIxT K) from ix_tup) (pv 0) pe_int (fun _ _ => rfl)))
    (pss_cons (PS.nox (ps_while PassesOwn.never (pt_cmpR op_ne (pv 5) (pe_glob (v := .int 1) rfl m1 ⟨t1, rfl⟩) (nomark _))
      (pss_cons (ps_set (i := 6) scAt.nd rfl (Or.inl rfl) (pe_ix (show IxR _ (rIxL K) from ix_list) (pe_ix (show IxR _ (rIxT K) from ix_tup) (pv 0) pe_int (fun _ _ => rfl)) (pe_op op_sub (pv 5) (pe_glob (v := .int 2) rfl m2 ⟨t2, rfl⟩)) (fun _ _ => rfl)))
      (pss_cons (ps_set (i := 7) scAt.nd rfl (Or.inl rfl) (pe_df WD (hr.mono (by decide)) rfl (passS0 (E := fun _ _ _ _ => False)) (pa_cons (pv 6) (pa_cons (pv 2) (pa_cons (pv 4) pa_nil)))))
      (pss_cons (ps_aug (i := 4) scAt.nd rfl (Or.inl rfl) (pe_df WL (hr.mono (by decide)) rfl (passS0 (E := fun _ _ _ _ => False)) (pa_cons (pv 6) (pa_cons (pv 2) (pa_cons (pe_ix (show IxR _ (rIxT K) from ix_tup) (pv 7) pe_int (fun _ _ => rfl)) pa_nil)))) ip_sub)
      (pss_cons (ps_expr (pe_bm PySem.F.plainAttrs_list PySem.F.slot_list_append PySem.F.type_list_append mt_append (pv 3) (pa_cons (pe_ix (show IxR _ (rIxT K) from ix_tup) (pv 7) pe_int (fun _ _ => rfl)) pa_nil)))
      (pss_one (ps_set (i := 5) scAt.nd rfl (Or.inl rfl) (pe_ix (show IxR _ (rIxT K) from ix_tup) (pv 7) pe_int (fun _ _ => rfl))))))))))
    (pss_one (ps_ret (pe_callTy call_tuple_of rfl T.t.tuple b_tuple (pa_cons (pv 3) pa_nil)))))))))), ?_⟩
  refine ⟨_, rfl, .ref b, many, rs, first, rfl, B, W, fun H1 s1 => ?_⟩
  refine ⟨_, rfl, b, _, 1, .ref l, rfl, rfl, s1.seqT q, atI1, many, l, xs, rs, rfl, s1.seqL ql, pimp (fun _ _ z => z.same s1) pr, W.rooms, fun c H2 s2 hc => ?_⟩
  have s12 := s1.trans s2
  have fl := first_lt W
  refine ⟨_, rfl, i, rfl, _, rfl, iteF ?_⟩
  refine ⟨_, rfl, 0, i, rfl, rfl, _, rfl, ?_⟩
  have cn : (natsV (Bk.cnts rs)).length = rs.length + 2 := by unfold natsV; rw [List.length_map, Bk.cnts_len]
  by_cases c0 : 0 ≤ i
  case neg =>
    rw [decide_eq_false c0]
    refine iteF ⟨_, rfl, iteT ?_⟩
    exact ⟨by show 1 ≤ sizeLine; decide, qb (fun z => c0 z.1) H2 s12⟩
  rw [decide_eq_true c0]
  refine iteT ⟨_, rfl, _, rfl, b, _, 2, .int (first : Int), rfl, rfl, s12.seqT q, atI2, c, _, _, _, rfl, rfl, SqL.of hc, natsV_at (by rw [Bk.cnts_len]; exact fl), i, _, rfl, rfl, _, rfl, ?_⟩
  rw [Bk.cnts_at]
  by_cases c1 : i < ((Bk.sem rs first).length : Int)
  case neg =>
    rw [decide_eq_false c1]
    refine iteT ?_
    exact ⟨by show 1 ≤ sizeLine; decide, qb (fun z => c1 z.2) H2 s12⟩
  rw [decide_eq_true c1]
  refine iteF ?_
  obtain ⟨n, hn⟩ : ∃ n : Nat, i = (n : Int) := ⟨i.toNat, by omega⟩
  have nl : n < (Bk.sem rs first).length := by omega
  have ho := List.getElem?_eq_getElem nl
  generalize (Bk.sem rs first)[n] = o at ho
  have osm := small o (List.mem_of_getElem? ho)
  have f0 : first ≠ 0 := fun z => by
    rw [z, Bk.sem_zero] at nl
    simp at nl
  refine ⟨by show 0 ≤ sizeLine; decide, fun g hg => ?_⟩
  have s3 := same_upd hg (.lst [])
  have hg3 : (upd H2 g (.lst [])) g = some (.lst []) := upd_same
  have s13 := s12.trans s3
  have gH : H g = none := s12.free hg
  have hc3 := s3 _ _ hc
  generalize (upd H2 g (.lst [])) = H3 at s3 hg3 s13 hc3 ⊢
  have gc : g ≠ c := (ne_of_none hc hg).symm
  refine ⟨_, rfl, ?_⟩
  refine ⟨_, rfl, b, _, 2, .int (first : Int), rfl, rfl, s13.seqT q, atI2, ?_⟩
  subst hn
  dsimp only [gName, tSeq]
  refine while_by (fun σ H4 => ∃ (ts : List Int) (k s : Nat) (v6 v7 : Option V), σ = [some (.ref b), some (.int (n : Int)), some (.ref c), some (.ref g), some (.int (s : Int)), some (.int (k : Int)), v6, v7] ∧ Same H H4 ∧ H4 c = some (.lst (natsV (Bk.cnts rs))) ∧ H4 g = some (.lst (ts.map V.int)) ∧ 1 ≤ k ∧ k < rs.length + 2 ∧ s < (Bk.sem rs k).length ∧ ((Bk.sem rs k)[s]?).map (ts ++ ·) = some o)
    (fun σ _ => cameAt σ) ⟨[], first, n, none, none, rfl, s13, hc3, hg3, by omega, fl, nl, by rw [ho]; rfl⟩ ?_ (fun σ H Q Q' i ⟨v, e, fl, b, hb, hq⟩ => ⟨v, e, fl, b, hb, i _ _ hq⟩)
  rintro σ H4 ⟨ts, k, s, v6, v7, rfl, s4, hc4, hg4, k1, kl, sl, ht⟩
  refine ⟨_, rfl, rfl, _, rfl, ?_⟩
  by_cases ke : k = 1
  · subst ke
    rw [decide_eq_true (show V.int ((1 : Nat) : Int) = V.int 1 from rfl)]
    refine iteF ?_
    rw [Bk.sem_one] at sl ht
    have s0 : s = 0 := by simp at sl; omega
    subst s0
    have : ts = o := by simpa using ht
    subst this
    exact ⟨_, rfl, g, _, rfl, .inl ⟨SqL.of hg4, fun r hr0 => qg n ts r _ rfl ho (s4.trans (same_upd hr0 _)) upd_same⟩⟩
  · rw [decide_eq_false (fun h => ke (by have := V.int.inj h; omega))]
    refine iteT ?_
    obtain ⟨r, d, ds, hr', ok, h1, h2, h3, h4, h5⟩ := Bk.row_step W.rooms.wf (by omega) kl sl
    obtain ⟨x, hx, ra⟩ := pget' pr hr'
    have ra4 := ra.same s4
    obtain ⟨a1, a2⟩ := ok.ahead d h2
    have r8 : r.length ≤ 8 := Bk.room_len8 ok.rise fun d hd => by
      obtain ⟨e1, e2, _⟩ := W.rooms.mask _ r hr' d hd
      exact ⟨e1, e2⟩
    have bd : ∀ d ∈ r, 0 ≤ d.2 ∧ d.2 < ((Bk.cnts rs).length : Int) := fun d hd => by
      obtain ⟨e1, e2⟩ := ok.ahead d hd
      rw [Bk.cnts_len]
      omega
    have ik : atI xs ((k : Int) - 2) = some x := by
      have := atI_nat hx
      rw [show ((k - 2 : Nat) : Int) = (k : Int) - 2 by omega] at this
      exact this
    refine ⟨_, rfl, b, _, 1, .ref l, rfl, rfl, s4.seqT q, atI1, _, rfl, _, _, rfl, rfl, l, xs, (k : Int) - 2, x, rfl, rfl, s4.seqL ql, ik, ?_⟩
    refine ⟨_, rfl, _, rfl, _, rfl, x, r, c, Bk.cnts rs, s, d, ds, rfl, ra4, SqL.of hc4, bd, r8, h1, fun y H5 s5 da => ?_⟩
    obtain ⟨p, rfl, qp⟩ := da
    refine ⟨_, rfl, _, rfl, _, rfl, _, rfl, p, _, 0, .int d.1, rfl, rfl, qp, atI0, x, r, c, Bk.cnts rs, d.1, rfl, ra4.same s5, SqL.of (s5 _ _ hc4), bd, r8, fun H6 s6 => ?_⟩
    refine ⟨_, _, rfl, rfl, ?_⟩
    have hg6 := s6 _ _ (s5 _ _ hg4)
    have qp6 := s6.seqT qp
    obtain ⟨oo, hoo⟩ : ∃ oo, (Bk.sem rs d.2.toNat)[s - Bk.lessR (Bk.cnts rs) r d.1]? = some oo := ⟨_, List.getElem?_eq_getElem h4⟩
    have e2 : ts ++ d.1 :: oo = o := by
      rw [h5, hoo] at ht
      simpa using ht
    have tl : ts.length ≤ 100 := by
      rw [← e2, List.length_append] at osm
      omega
    refine ⟨_, rfl, .inl ⟨rfl, _, SqL.of hg6⟩, _, rfl, p, _, 0, .int d.1, rfl, rfl, qp6, atI0, g, _, _, rfl, rfl, hg6, by rw [List.length_map, sizeLine_eq]; omega, ?_⟩
    have qp7 : SqT K (upd H6 g (.lst (ts.map V.int ++ [V.int d.1]))) p [.int d.1, .int d.2] := qp6.soft hg6 trivial
    refine ⟨_, rfl, p, _, 1, .int d.2, rfl, rfl, qp7, atI1, ?_⟩
    obtain ⟨k', hk'⟩ : ∃ k' : Nat, d.2 = (k' : Int) := ⟨d.2.toNat, by omega⟩
    have k't : d.2.toNat = k' := by omega
    rw [k't] at h4 hoo
    refine ⟨⟨ts ++ [d.1], k', s - Bk.lessR (Bk.cnts rs) r d.1, some x, some (.ref p), ?_, fun bb u qq => ?_, ?_, ?_, by omega, by omega, h4, ?_⟩, ?_⟩
    · rw [hk']
      show [_, _, _, _, some (V.int ((s : Int) - ((Bk.lessR (Bk.cnts rs) r d.1 : Nat) : Int))), _, _, _] = _
      rw [show ((s : Int) - ((Bk.lessR (Bk.cnts rs) r d.1 : Nat) : Int)) = ((s - Bk.lessR (Bk.cnts rs) r d.1 : Nat) : Int) by omega]
    · rw [upd_ne (ne_of_none qq gH)]
      exact s6 _ _ (s5 _ _ (s4 _ _ qq))
    · rw [upd_ne gc.symm]
      exact s6 _ _ (s5 _ _ hc4)
    · rw [upd_same, List.map_append]
      rfl
    · rw [hoo]
      simpa using e2
    · show d.2.toNat < k
      omega
def spNumber (K : W.Frag) (CO : Addr) : Sp := fun vs H Q E => ∃ (x : V) (many : Nat) (rs : List Bk.Room) (first : Nat) (a : Addr) (o : List Int), vs = [x, .ref a] ∧ BookA K H x many rs first ∧ WholeB many rs first ∧ Tp K H a o ∧
  (Good many o → Bk.GoOk rs first o ∧ ∀ (r : Addr) (H' : Hp), Same H H' → H' r = some (.tup [.int ((Bk.below (Bk.sem rs first) o : Nat) : Int), .bl (decide (Bk.goes rs first o = 1))]) → Q (.ref r) H') ∧
  (¬ Good many o → ∀ H', Same H H' → E (.ref CO) none H')
abbrev NNm : List Str := ["book", "order", "counts", "less", "came", "thing", "room"]
theorem scNumber : FnScope NNm ["book", "order"] (defScope sNumber) := ⟨rfl, rfl, rfl, by decide +kernel, rfl, by decide +kernel, by decide +kernel⟩
theorem ok_number {f : Addr} {fd : FuncData} (F : Fun K "number_of" "number_of" sNumber f fd) (T : TxB K mg CO) (WB : Df P w K mg base CX0 11 "look_book" ["book"] (spBook K)) (WO : Df P w K mg base (CX1 P w) 4 "look_order" ["many", "order"] (spLook K CO)) (WR : Df P w K mg base CX0 1 "rows_from" ["rooms"] (spFromR K))
    (WL : Df P w K mg base CX0 1 "rows_less" ["room", "counts", "thing"] (spLess K)) (WD : Df P w K mg base CX0 1 "behind_door" ["room", "thing"] (spBehindD K)) : FnOk P w K mg base (CX1 P w) 12 f fd ["book", "order"] (spNumber K CO) := by
  refine F.okX scNumber (fun vs H Q E h => ?_) (fun X cdv A outer s H vs Q E hX hp hra hr h => ?_)
  · obtain ⟨x, many, rs, first, a, o, rfl, _⟩ := h
    rfl
  obtain ⟨x, many, rs, first, a, o, rfl, B, W, tp, qg, qb⟩ := h
  obtain ⟨b, l, xs, rfl, q, ql, pr⟩ := id B.ex
  obtain ⟨t0, m0⟩ := T.no
  obtain ⟨t1, m1⟩ := T.en
  obtain ⟨t2, m2⟩ := T.low
  subst hX
  refine ⟨_, pss_cons (ps_expr (pe_df WB hr rfl (passS0 (E := fun _ _ _ _ => False)) (pa_cons (pv 0) pa_nil)))
    (pss_cons (ps_expr (pe_df WO (hr.mono (by decide)) rfl hp (pa_cons (pe_ix (show IxR _ (rIxT K) from ix_tup) (pv 0) pe_int (fun _ _ => rfl)) (pa_cons (pv 1) pa_nil))))
    (pss_cons (ps_set (i := 2) scNumber.nd rfl (Or.inl rfl) (pe_df WR (hr.mono (by decide)) rfl (passS0 (E := fun _ _ _ _ => False)) (pa_cons (pe_ix (show IxR _ (rIxT K) from ix_tup) (pv 0) pe_int (fun _ _ => rfl)) pa_nil)))
    (pss_cons (ps_set (i := 3) scNumber.nd rfl (Or.inl rfl) pe_int)
    (pss_cons (ps_set (i := 4) scNumber.nd rfl (Or.inl rfl) (pe_ix (show IxR _ (rIxT K) from ix_tup) (pv 0) pe_int (fun _ _ => rfl)))
    (pss_cons (PS.nox (ps_for PassesOwn.never rfl (pi_tup (pv 1)) (pg_name (i := 5) scNumber.nd rfl (Or.inl rfl))
      (pss_cons (ps_if (pt_cmpR op_eq (pv 4) (pe_glob (v := .int 0) rfl m0 ⟨t0, rfl⟩) (nomark _)) (pss_one (ps_ret (pe_tup (pa_cons (pv 3) (pa_cons pe_bl pa_nil))))) pss_nil)
      (pss_cons (ps_set (i := 6) scNumber.nd rfl (Or.inl rfl) (pe_ix (show IxR _ (rIxL K) from ix_list) (pe_ix (show IxR _ (rIxT K) from ix_tup) (pv 0) pe_int (fun _ _ => rfl)) (pe_op op_sub (pv 4) (pe_glob (v := .int 2) rfl m2 ⟨t2, rfl⟩)) (fun _ _ => rfl)))
      (pss_cons (ps_aug (i := 3) scNumber.nd rfl (Or.inl rfl) (pe_df WL (hr.mono (by decide)) rfl (passS0 (E := fun _ _ _ _ => False)) (pa_cons (pv 6) (pa_cons (pv 2) (pa_cons (pv 5) pa_nil)))) ip_add)
      (pss_one (ps_set (i := 4) scNumber.nd rfl (Or.inl rfl) (pe_df WD (hr.mono (by decide)) rfl (passS0 (E := fun _ _ _ _ => False)) (pa_cons (pv 6) (pa_cons (pv 5) pa_nil)))))))))
    ) (pss_one (ps_ret (pe_tup (pa_cons (pv 3) (pa_cons (pe_cmpR op_eq (pv 4) (pe_glob (v := .int 1) rfl m1 ⟨t1, rfl⟩) (nomark _)) pa_nil)))))))))), ?_⟩
  refine ⟨_, rfl, .ref b, many, rs, first, rfl, B, W, fun H1 s1 => ?_⟩
  refine ⟨_, rfl, b, _, 0, .int many, rfl, rfl, s1.seqT q, atI0, _, rfl, many, a, o, rfl, fit_small (by have := W.m8; omega) (by have := W.m8; omega), tp.same s1, fun good H2 s2 => ?_, fun ng H2 s2 => qb ng H2 (s1.trans s2)⟩
  obtain ⟨go, z⟩ := qg good
  have s12 := s1.trans s2
  refine ⟨_, rfl, b, _, 1, .ref l, rfl, rfl, s12.seqT q, atI1, many, l, xs, rs, rfl, s12.seqL ql, pimp (fun _ _ z => z.same s12) pr, W.rooms, fun c H3 s3 hc => ?_⟩
  have s13 := s12.trans s3
  have hl : (o.map V.int).length = o.length := List.length_map _
  refine ⟨_, rfl, b, _, 2, .int first, rfl, rfl, s13.seqT q, atI2, ?_⟩
  refine ⟨_, rfl, a, rfl, ⟨_, s13.seqT tp.sq⟩, for_tup (K := K) (a := a) (xs := o.map V.int) (fun i σ H4 => ∃ (k ls : Nat) (v5 v6 : Option V), σ = [some (.ref b), some (.ref a), some (.ref c), some (.int (ls : Int)), some (.int (k : Int)), v5, v6] ∧ Same H3 H4 ∧ k < rs.length + 2 ∧ Bk.goes rs first o = Bk.goes rs k (o.drop i) ∧ Bk.GoOk rs k (o.drop i) ∧ Bk.below (Bk.sem rs first) o = ls + Bk.below (Bk.sem rs k) (o.drop i))
    ⟨first, 0, none, none, rfl, Same.refl _, first_lt W, rfl, go, by rw [List.drop_zero]; omega⟩ ?_ ?_ ?_⟩
  · rintro i σ H4 _ ⟨k, ls, v5, v6, rfl, s4, _⟩
    exact s4.seqT (s13.seqT tp.sq)
  · rintro i y σ H4 hy ⟨k, ls, v5, v6, rfl, s4, kl, e, g, bl⟩
    obtain ⟨t, rfl, ht⟩ := get_int hy
    obtain ⟨il, ie⟩ := List.getElem?_eq_some_iff.mp ht
    rw [List.drop_eq_getElem_cons il, ie] at e g bl
    have s14 := s13.trans s4
    refine ⟨_, rfl, rfl, _, rfl, ?_⟩
    by_cases c0 : k = 0
    · subst c0
      rw [decide_eq_true (show V.int ((0 : Nat) : Int) = V.int 0 from rfl)]
      refine iteT ?_
      refine ⟨_, rfl, by show 2 ≤ sizeLine; decide, fun r hr0 => ?_⟩
      refine z r _ (s14.trans (same_upd hr0 _)) ?_
      have e0 : Bk.goes rs first o = 0 := by rw [e]; exact Bk.goes_zero rs _
      have b0 : Bk.below (Bk.sem rs first) o = ls := by
        rw [bl, Bk.sem_zero]
        rfl
      rw [upd_same, e0, b0]
      rfl
    · rw [decide_eq_false (fun h => c0 (by have := V.int.inj h; omega))]
      refine iteF ?_
      obtain ⟨k2, kl2, g'⟩ : 2 ≤ (k : Int) ∧ ((k : Int) - 2).toNat < rs.length ∧ Bk.GoOk rs (Bk.behind (Bk.roomAt rs k) t) (o.drop (i + 1)) := by
        rcases g with h | h
        · omega
        · exact h
      have hr' := Bk.roomAt_eq kl2
      obtain ⟨x, hx, ra⟩ := pget' pr hr'
      have ik : atI xs ((k : Int) - 2) = some x := by
        have := atI_nat hx
        rw [show ((((k : Int) - 2).toNat : Nat) : Int) = (k : Int) - 2 by omega] at this
        exact this
      have ok := W.rooms.wf _ _ hr'
      have r8 : (Bk.roomAt rs k).length ≤ 8 := Bk.room_len8 ok.rise fun d hd => by
        obtain ⟨e1, e2, _⟩ := W.rooms.mask _ _ hr' d hd
        exact ⟨e1, e2⟩
      have bd : ∀ d ∈ Bk.roomAt rs k, 0 ≤ d.2 ∧ d.2 < ((Bk.cnts rs).length : Int) := fun d hd => by
        obtain ⟨e1, e2⟩ := ok.ahead d hd
        rw [Bk.cnts_len]
        omega
      have ra4 := ra.same s14
      refine ⟨_, rfl, b, _, 1, .ref l, rfl, rfl, s14.seqT q, atI1, _, rfl, _, _, rfl, rfl, l, xs, (k : Int) - 2, x, rfl, rfl, s14.seqL ql, ik, ?_⟩
      refine ⟨_, rfl, _, rfl, _, rfl, _, rfl, x, _, c, Bk.cnts rs, t, rfl, ra4, SqL.of (s4 _ _ hc), bd, r8, fun H5 s5 => ?_⟩
      refine ⟨_, _, rfl, rfl, ?_⟩
      refine ⟨_, rfl, _, rfl, x, _, t, rfl, ra4.same s5, ?_⟩
      have bn : ∃ k' : Nat, Bk.behind (Bk.roomAt rs k) t = (k' : Int) ∧ k' < rs.length + 2 := by
        unfold Bk.behind
        cases hf : (Bk.roomAt rs k).find? (fun d => decide (d.1 = t)) with
        | none => exact ⟨0, rfl, by omega⟩
        | some d =>
          obtain ⟨e1, e2⟩ := ok.ahead d (List.mem_of_find?_eq_some hf)
          refine ⟨d.2.toNat, ?_, by omega⟩
          show d.2 = _
          omega
      obtain ⟨k', hk', kl'⟩ := bn
      have e' : Bk.goes rs k (t :: o.drop (i + 1)) = Bk.goes rs (Bk.behind (Bk.roomAt rs k) t) (o.drop (i + 1)) := by
        show (if (k : Int) = 0 then 0 else _) = _
        rw [if_neg (by omega)]
      have bs := Bk.below_step (t := t) (o := o.drop (i + 1)) W.rooms.wf (show 2 ≤ k by omega) kl
      rw [hk'] at g' e' bs
      refine ⟨k', ls + Bk.lessR (Bk.cnts rs) (Bk.roomAt rs k) t, some (.int t), some x, ?_, s4.trans s5, kl', by rw [e, e'], g', ?_⟩
      · rw [hk', Int.natCast_add]
        rfl
      · rw [bl, bs, Int.toNat_natCast]
        omega
  · rintro σ H4 ⟨k, ls, v5, v6, rfl, s4, kl, e, g, bl⟩
    rw [hl, List.drop_length] at e bl
    rw [Bk.below_nil] at bl
    refine ⟨_, rfl, _, rfl, rfl, by show 2 ≤ sizeLine; decide, fun r hr0 => ?_⟩
    refine z r _ (s13.trans (s4.trans (same_upd hr0 _))) ?_
    have ee : decide (V.int (k : Int) = V.int 1) = decide (Bk.goes rs first o = 1) := by
      rw [e]
      show decide (V.int (k : Int) = V.int 1) = decide ((k : Int) = 1)
      by_cases c1 : (k : Int) = 1
      · rw [c1]; rfl
      · rw [decide_eq_false c1, decide_eq_false (fun h => c1 (V.int.inj h))]
    rw [upd_same, ← ee, bl]
    rfl
end
end Ord
namespace Ord
open PySem L2 Mx
abbrev sLWhole : Stmt := top 43
abbrev sRefu : Stmt := top 46
abbrev sLAt : Stmt := top 47
abbrev sLNum : Stmt := top 48
theorem b_verr' : bootBuiltins "ValueError" = some (.type "ValueError") := by decide +kernel
section
variable {P : Program} {w : World} {K : W.Frag} {mg : Str → Option Value} {base : Heap} {CO : Addr}
theorem scLWhole : FnScope ["_law_found"] ["_law_found"] (defScope sLWhole) := ⟨rfl, rfl, rfl, by decide +kernel, rfl, by decide +kernel, by decide +kernel⟩
theorem ok_lwhole {f : Addr} {fd : FuncData} (F : Fun K "_law_whole" "_law_whole" sLWhole f fd) (T : TxB K mg CO) : FnOk P w K mg base CX0 1 f fd ["_law_found"] spWhole := by
  refine F.ok scLWhole (fun vs H Q E h => ?_) (fun cdv A outer s H vs Q E hr h => ?_)
  · obtain ⟨i, rfl, _⟩ := h
    rfl
  obtain ⟨i, rfl, q⟩ := h
  refine ⟨_, pss_one (ps_ret (pe_and (pe_callB call_isi rfl T.t.isi b_isi (pa_cons (pv 0) (pa_cons (pe_bltn (v := .ty "int") rfl T.t.int b_int rfl) pa_nil)))
    (pe_one (pe_not (pe_callB call_isi rfl T.t.isi b_isi (pa_cons (pv 0) (pa_cons (pe_bltn (v := .ty "bool") rfl T.t.bool b_bool rfl) pa_nil))))))), ?_⟩
  refine ⟨_, rfl, _, _, _, _, _, rfl, rfl, .of (.int i), kit_ii, _, rfl, iteT ?_⟩
  exact ⟨_, rfl, _, _, _, _, _, rfl, rfl, .of (.int i), kit_ib, _, rfl, q⟩
def Kd (K : W.Frag) (mg : Str → Option Value) (C : Addr) (x : Str) (b : Bool) : Prop := ∃ D, mg x = some (.ref D) ∧ W.kitOne K (.ref C) (.ref D) = some b
structure Ref (K : W.Frag) (mg : Str → Option Value) (C : Addr) (b0 b1 b2 b3 b4 b5 b6 : Bool) (j : Nat) (word : Str) : Prop where
  k0 : Kd K mg C "BadBook" b0
  k1 : Kd K mg C "BadNumber" b1
  k2 : Kd K mg C "BadOrder" b2
  k3 : Kd K mg C "BadRule" b3
  k4 : Kd K mg C "BadText" b4
  k5 : Kd K mg C "BadWeights" b5
  k6 : Kd K mg C "Unlike" b6
  ei : ExcI K C
  ve : mg "ValueError" = none
  kv : W.kitOne K (.ref C) (.type "ValueError") = some true
  cnt : [V.bl b0, V.bl b1, V.bl b2, V.bl b3, V.bl b4, V.bl b5, V.bl b6].countP (fun y => eqV y (.bl true)) = 1
  at_ : [b0, b1, b2, b3, b4, b5, b6][j]? = some true
  bef : ∀ i, i < j → [b0, b1, b2, b3, b4, b5, b6][i]? = some false
  wd : atI [V.str "book", V.str "number", V.str "order", V.str "rule", V.str "text", V.str "weights", V.str "unlike"] (j : Int) = some (.str word)
def spRefu (K : W.Frag) (mg : Str → Option Value) : Sp := fun vs H Q _ => (vs = [.non] ∧ Q (.str "ok") H) ∨ ∃ (e C : Addr) (b0 b1 b2 b3 b4 b5 b6 : Bool) (j : Nat) (word : Str), vs = [.ref e] ∧ H e = some (excO e (.ref C)) ∧ Ref K mg C b0 b1 b2 b3 b4 b5 b6 j word ∧ ∀ H', Same H H' → Q (.str word) H'
theorem scRefu : FnScope ["_law_kept", "_law_kinds"] ["_law_kept"] (defScope sRefu) := ⟨rfl, rfl, rfl, by decide +kernel, rfl, by decide +kernel, by decide +kernel⟩
theorem ok_refu {f : Addr} {fd : FuncData} (F : Fun K "_law_refusal" "_law_refusal" sRefu f fd) (T : TxB K mg CO) : FnOk P w K mg base CX0 1 f fd ["_law_kept"] (spRefu K mg) := by
  refine F.ok scRefu (fun vs H Q E h => ?_) (fun cdv A outer s H vs Q E hr h => ?_)
  · rcases h with ⟨rfl, _⟩ | ⟨e, C, _, _, _, _, _, _, _, _, _, rfl, _⟩
    · rfl
    · rfl
  rcases h with ⟨rfl, q⟩ | ⟨e, C, b0, b1, b2, b3, b4, b5, b6, j, word, rfl, he, R, q⟩
  · exact ⟨_, pss_cons (ps_if (pt_cmpR op_isN (pv 0) pe_non (nomark _)) (pss_one (ps_ret pe_str)) pss_nil) (pss_cons ps_never (pss_cons ps_never (pss_cons ps_never (pss_cons ps_never (pss_one ps_never))))), ⟨_, rfl, rfl, _, rfl, iteT q⟩⟩
  obtain ⟨D0, m0, k0⟩ := R.k0
  obtain ⟨D1, m1, k1⟩ := R.k1
  obtain ⟨D2, m2, k2⟩ := R.k2
  obtain ⟨D3, m3, k3⟩ := R.k3
  obtain ⟨D4, m4, k4⟩ := R.k4
  obtain ⟨D5, m5, k5⟩ := R.k5
  obtain ⟨D6, m6, k6⟩ := R.k6
  refine ⟨_, pss_cons (ps_if (pt_cmpR op_isN (pv 0) pe_non (nomark _)) (pss_one (ps_ret pe_str)) pss_nil)
    (pss_cons (ps_set (i := 1) scRefu.nd rfl (Or.inl rfl) (pe_lst
      (pa_cons (pe_callB call_isi rfl T.t.isi b_isi (pa_cons (pv 0) (pa_cons (pe_glob (v := .ref D0) rfl m0 rfl) pa_nil)))
      (pa_cons (pe_callB call_isi rfl T.t.isi b_isi (pa_cons (pv 0) (pa_cons (pe_glob (v := .ref D1) rfl m1 rfl) pa_nil)))
      (pa_cons (pe_callB call_isi rfl T.t.isi b_isi (pa_cons (pv 0) (pa_cons (pe_glob (v := .ref D2) rfl m2 rfl) pa_nil))) pa_nil)))))
    (pss_cons (ps_set (i := 1) scRefu.nd rfl (Or.inl rfl) (pe_op op_cat (pv 1) (pe_lst
      (pa_cons (pe_callB call_isi rfl T.t.isi b_isi (pa_cons (pv 0) (pa_cons (pe_glob (v := .ref D3) rfl m3 rfl) pa_nil)))
      (pa_cons (pe_callB call_isi rfl T.t.isi b_isi (pa_cons (pv 0) (pa_cons (pe_glob (v := .ref D4) rfl m4 rfl) pa_nil)))
      (pa_cons (pe_callB call_isi rfl T.t.isi b_isi (pa_cons (pv 0) (pa_cons (pe_glob (v := .ref D5) rfl m5 rfl) pa_nil))) pa_nil))))))
    (pss_cons (ps_expr (pe_bm PySem.F.plainAttrs_list PySem.F.slot_list_append PySem.F.type_list_append mt_append (pv 1) (pa_cons (pe_callB call_isi rfl T.t.isi b_isi (pa_cons (pv 0) (pa_cons (pe_glob (v := .ref D6) rfl m6 rfl) pa_nil))) pa_nil)))
    (pss_cons (ps_if (PW.pt (pw_or (pt_cmpR op_ne (pe_bm PySem.F.plainAttrs_list PySem.F.slot_list_count PySem.F.type_list_count mt_count (pv 1) (pa_cons pe_bl pa_nil)) pe_int (nomark _))
        (pw_or1 (pt_not (pt_val (pe_callB call_isi rfl T.t.isi b_isi (pa_cons (pv 0) (pa_cons (pe_bltn (v := .ty "ValueError") rfl R.ve b_verr' rfl) pa_nil))))))))
      (pss_one (ps_ret pe_str)) pss_nil)
    (pss_one (ps_ret (pe_ix ix_list (pe_lst (pa_cons pe_str (pa_cons pe_str (pa_cons pe_str (pa_cons pe_str (pa_cons pe_str (pa_cons pe_str (pa_cons pe_str pa_nil))))))))
      (pe_bm PySem.F.plainAttrs_list PySem.F.slot_list_index PySem.F.type_list_index mt_index (pv 1) (pa_cons pe_bl pa_nil)) (fun _ _ => rfl)))))))), ?_⟩
  have ty : ∀ H', Same H H' → TyX K H' (.ref e) (.ref C) := fun H' s1 => .exc (s1 _ _ he) R.ei
  refine ⟨_, rfl, rfl, _, rfl, iteF ?_⟩
  refine ⟨_, rfl, _, _, _, _, _, rfl, rfl, ty H (Same.refl H), k0, ?_⟩
  refine ⟨_, rfl, _, _, _, _, _, rfl, rfl, ty H (Same.refl H), k1, ?_⟩
  refine ⟨_, rfl, _, _, _, _, _, rfl, rfl, ty H (Same.refl H), k2, ?_⟩
  refine ⟨by show 3 ≤ sizeLine; decide, fun l1 n1 => ?_⟩
  have s1 := same_upd n1 (.lst [V.bl b0, V.bl b1, V.bl b2])
  have h1 : (upd H l1 (.lst [V.bl b0, V.bl b1, V.bl b2])) l1 = some (.lst [V.bl b0, V.bl b1, V.bl b2]) := upd_same
  generalize (upd H l1 (.lst [V.bl b0, V.bl b1, V.bl b2])) = H1 at s1 h1 ⊢
  refine ⟨_, rfl, ?_⟩
  refine ⟨_, rfl, _, _, _, _, _, rfl, rfl, ty _ s1, k3, ?_⟩
  refine ⟨_, rfl, _, _, _, _, _, rfl, rfl, ty _ s1, k4, ?_⟩
  refine ⟨_, rfl, _, _, _, _, _, rfl, rfl, ty _ s1, k5, ?_⟩
  refine ⟨by show 3 ≤ sizeLine; decide, fun l2 n2 => ?_⟩
  have s2 := s1.trans (same_upd n2 (.lst [V.bl b3, V.bl b4, V.bl b5]))
  have h2 := same_upd n2 (.lst [V.bl b3, V.bl b4, V.bl b5]) _ _ h1
  have h2' : (upd H1 l2 (.lst [V.bl b3, V.bl b4, V.bl b5])) l2 = some (.lst [V.bl b3, V.bl b4, V.bl b5]) := upd_same
  generalize (upd H1 l2 (.lst [V.bl b3, V.bl b4, V.bl b5])) = H2 at s2 h2 h2' ⊢
  refine ⟨l1, l2, _, _, rfl, rfl, h2, h2', by show 6 ≤ sizeLine; decide, fun l n3 => ?_⟩
  have s3 := s2.trans (same_upd n3 (.lst [V.bl b0, V.bl b1, V.bl b2, V.bl b3, V.bl b4, V.bl b5]))
  have h3 : (upd H2 l (.lst [V.bl b0, V.bl b1, V.bl b2, V.bl b3, V.bl b4, V.bl b5])) l = some (.lst [V.bl b0, V.bl b1, V.bl b2, V.bl b3, V.bl b4, V.bl b5]) := upd_same
  have hl0 : H l = none := s2.free n3
  have e6 : ([V.bl b0, V.bl b1, V.bl b2] ++ [V.bl b3, V.bl b4, V.bl b5]) = [V.bl b0, V.bl b1, V.bl b2, V.bl b3, V.bl b4, V.bl b5] := rfl
  rw [e6]
  generalize (upd H2 l (.lst [V.bl b0, V.bl b1, V.bl b2, V.bl b3, V.bl b4, V.bl b5])) = H3 at s3 h3 ⊢
  refine ⟨_, rfl, .inl ⟨rfl, _, SqL.of h3⟩, ?_⟩
  refine ⟨_, rfl, _, _, _, _, _, rfl, rfl, ty _ s3, k6, ?_⟩
  refine ⟨l, _, _, rfl, rfl, h3, by show 6 < sizeLine; decide, ?_⟩
  have e7 : ([V.bl b0, V.bl b1, V.bl b2, V.bl b3, V.bl b4, V.bl b5] ++ [V.bl b6]) = [V.bl b0, V.bl b1, V.bl b2, V.bl b3, V.bl b4, V.bl b5, V.bl b6] := rfl
  rw [e7]
  have s4 : Same H (upd H3 l (.lst [V.bl b0, V.bl b1, V.bl b2, V.bl b3, V.bl b4, V.bl b5, V.bl b6])) := fun b o qq => by
    rw [upd_ne (ne_of_none qq hl0)]
    exact s3 b o qq
  have h4 : (upd H3 l (.lst [V.bl b0, V.bl b1, V.bl b2, V.bl b3, V.bl b4, V.bl b5, V.bl b6])) l = some (.lst [V.bl b0, V.bl b1, V.bl b2, V.bl b3, V.bl b4, V.bl b5, V.bl b6]) := upd_same
  generalize (upd H3 l (.lst [V.bl b0, V.bl b1, V.bl b2, V.bl b3, V.bl b4, V.bl b5, V.bl b6])) = H4 at s4 h4 ⊢
  refine ⟨_, rfl, .inl ⟨rfl, _, SqL.of h4⟩, l, _, _, rfl, rfl, SqL.of h4, rfl, rfl, rfl, _, rfl, ?_⟩
  rw [R.cnt, decide_eq_true (show V.int ((1 : Nat) : Int) = V.int 1 from rfl)]
  refine iteF ?_
  refine ⟨_, rfl, _, _, _, _, _, rfl, rfl, ty _ s4, R.kv, _, rfl, iteF ?_⟩
  refine ⟨by show 7 ≤ sizeLine; decide, fun l3 n5 => ?_⟩
  have s5 := same_upd n5 (.lst [V.str "book", V.str "number", V.str "order", V.str "rule", V.str "text", V.str "weights", V.str "unlike"])
  have h5 := SqL.of (K := K) (s5 _ _ h4)
  have bm : ∀ i : Nat, [V.bl b0, V.bl b1, V.bl b2, V.bl b3, V.bl b4, V.bl b5, V.bl b6][i]? = ([b0, b1, b2, b3, b4, b5, b6][i]?).map V.bl := fun i => by
    rw [← List.getElem?_map]
    rfl
  refine ⟨_, rfl, .inl ⟨rfl, _, h5⟩, l, _, _, j, rfl, rfl, h5, rfl, rfl, ⟨.bl true, by rw [bm, R.at_]; rfl, rfl⟩, fun i y hi hy => ?_, l3, _, _, _, rfl, rfl, SqL.up, R.wd, q _ (s4.trans s5)⟩
  rw [bm, R.bef i hi] at hy
  cases hy
  rfl
end
end Ord
namespace Ord
open PySem L2 Mx
structure Tr (K : W.Frag) (mg : Str → Option Value) (CE : Addr) : Prop where
  kn : mg "NestError" = some (.ref CE)
  nt : W.instIn K (.ref CE) (.type "tuple") = some false
  xc : W.mroIn K CE (.type "BaseException") = some true
  cl : W.isClsIn K CE = true
section
variable {P : Program} {w : World} {K : W.Frag} {mg : Str → Option Value} {base : Heap} {CO CN CE : Addr}
abbrev RefN (K : W.Frag) (mg : Str → Option Value) (CN : Addr) : Prop := Ref K mg CN false true false false false false false 1 "number"
abbrev RefO (K : W.Frag) (mg : Str → Option Value) (CO : Addr) : Prop := Ref K mg CO false false true false false false false 2 "order"
def spLAt (K : W.Frag) : Sp := fun vs H Q _ => ∃ (x : V) (many : Nat) (rs : List Bk.Room) (first : Nat) (i : Int), vs = [x, .int i] ∧ BookA K H x many rs first ∧ WholeB many rs first ∧ (∀ o ∈ Bk.sem rs first, o.length ≤ 100) ∧
  (∀ (n : Nat) (o : List Int) (r : Addr) (H' : Hp), i = (n : Int) → (Bk.sem rs first)[n]? = some o → Same H H' → H' r = some (.tup (o.map V.int)) → Q (.ref r) H') ∧
  (¬ (0 ≤ i ∧ i < ((Bk.sem rs first).length : Int)) → ∀ H', Same H H' → Q (.str "number") H')
theorem scLAt : FnScope ["_law_book", "_law_number_here", "_law_kept", "_law_found", "e"] ["_law_book", "_law_number_here"] (defScope sLAt) := ⟨rfl, rfl, rfl, by decide +kernel, rfl, by decide +kernel, by decide +kernel⟩
theorem ok_lat {f : Addr} {fd : FuncData} (F : Fun K "_law_at" "_law_at" sLAt f fd) (E0 : Tr K mg CE) (on : W.mroIn K CN (.ref CE) = some true) (R : RefN K mg CN) (WA : Df P w K mg base (CX1 P w) 12 "order_at" ["book", "number"] (spAt K CN))
    (WR : Df P w K mg base CX0 1 "_law_refusal" ["_law_kept"] (spRefu K mg)) : FnOk P w K mg base (CX1 P w) 13 f fd ["_law_book", "_law_number_here"] (spLAt K) := by
  refine F.okX scLAt (fun vs H Q E h => ?_) (fun X cdv A outer s H vs Q E hX hp hra hr h => ?_)
  · obtain ⟨x, many, rs, first, i, rfl, _⟩ := h
    rfl
  obtain ⟨x, many, rs, first, i, rfl, B, W, small, qg, qb⟩ := h
  subst hX
  refine ⟨_, pss_cons (ps_set (i := 2) scLAt.nd rfl (Or.inl rfl) pe_non)
    (pss_cons (ps_set (i := 3) scLAt.nd rfl (Or.inl rfl) pe_non)
    (pss_cons (ps_try rfl rfl rfl rfl rfl E0.kn E0.nt E0.xc E0.cl scLAt.nd (ie := 4) rfl rfl
      (fun pn' xe' E hp' => pss_one (ps_set (i := 3) scLAt.nd rfl (Or.inl rfl) (pe_df WA hr rfl hp' (pa_cons (pv 0) (pa_cons (pv 1) pa_nil)))))
      (fun A' pn' xe' => pss_one (ps_set (i := 2) scLAt.nd rfl (Or.inl rfl) (pv 4))))
    (pss_one (ps_ret (pe_ifExp (pt_cmpR op_isN (pv 2) pe_non (nomark _)) (pv 3) (pe_df WR (hr.mono (by decide)) rfl (passS0 (E := fun _ _ _ _ => False)) (pa_cons (pv 2) pa_nil))))))), ?_⟩
  refine ⟨_, rfl, _, rfl, x, many, rs, first, i, rfl, B, W, small, fun n o r H1 e ho s1 hr1 => ?_, fun ng H1 s1 => ?_⟩
  · exact ⟨_, rfl, rfl, _, rfl, iteT ⟨_, rfl, qg n o r H1 e ho s1 hr1⟩⟩
  · exact ⟨CN, rfl, on, fun e he => ⟨_, rfl, _, rfl, rfl, _, rfl, iteF ⟨_, rfl, .inr ⟨e, CN, false, true, false, false, false, false, false, 1, "number", rfl, upd_same, R, fun H2 s2 => qb ng H2 ((s1.trans (same_upd he _)).trans s2)⟩⟩⟩⟩
def spLNum (K : W.Frag) : Sp := fun vs H Q _ => ∃ (x : V) (many : Nat) (rs : List Bk.Room) (first : Nat) (a : Addr) (o : List Int), vs = [x, .ref a] ∧ BookA K H x many rs first ∧ WholeB many rs first ∧ Tp K H a o ∧
  (Good many o → Bk.GoOk rs first o ∧ ∀ (r : Addr) (H' : Hp), Same H H' → H' r = some (.tup [.int ((Bk.below (Bk.sem rs first) o : Nat) : Int), .bl (decide (Bk.goes rs first o = 1))]) → Q (.ref r) H') ∧
  (¬ Good many o → ∀ H', Same H H' → Q (.str "order") H')
theorem scLNum : FnScope ["_law_book", "_law_order", "_law_kept", "_law_found", "e"] ["_law_book", "_law_order"] (defScope sLNum) := ⟨rfl, rfl, rfl, by decide +kernel, rfl, by decide +kernel, by decide +kernel⟩
theorem ok_lnum {f : Addr} {fd : FuncData} (F : Fun K "_law_number" "_law_number" sLNum f fd) (E0 : Tr K mg CE) (on : W.mroIn K CO (.ref CE) = some true) (R : RefO K mg CO) (WN : Df P w K mg base (CX1 P w) 12 "number_of" ["book", "order"] (spNumber K CO))
    (WR : Df P w K mg base CX0 1 "_law_refusal" ["_law_kept"] (spRefu K mg)) : FnOk P w K mg base (CX1 P w) 13 f fd ["_law_book", "_law_order"] (spLNum K) := by
  refine F.okX scLNum (fun vs H Q E h => ?_) (fun X cdv A outer s H vs Q E hX hp hra hr h => ?_)
  · obtain ⟨x, many, rs, first, a, o, rfl, _⟩ := h
    rfl
  obtain ⟨x, many, rs, first, a, o, rfl, B, W, tp, qg, qb⟩ := h
  subst hX
  refine ⟨_, pss_cons (ps_set (i := 2) scLNum.nd rfl (Or.inl rfl) pe_non)
    (pss_cons (ps_set (i := 3) scLNum.nd rfl (Or.inl rfl) pe_non)
    (pss_cons (ps_try rfl rfl rfl rfl rfl E0.kn E0.nt E0.xc E0.cl scLNum.nd (ie := 4) rfl rfl
      (fun pn' xe' E hp' => pss_one (ps_set (i := 3) scLNum.nd rfl (Or.inl rfl) (pe_df WN hr rfl hp' (pa_cons (pv 0) (pa_cons (pv 1) pa_nil)))))
      (fun A' pn' xe' => pss_one (ps_set (i := 2) scLNum.nd rfl (Or.inl rfl) (pv 4))))
    (pss_one (ps_ret (pe_ifExp (pt_cmpR op_isN (pv 2) pe_non (nomark _)) (pv 3) (pe_df WR (hr.mono (by decide)) rfl (passS0 (E := fun _ _ _ _ => False)) (pa_cons (pv 2) pa_nil))))))), ?_⟩
  refine ⟨_, rfl, _, rfl, x, many, rs, first, a, o, rfl, B, W, tp, fun g => ⟨(qg g).1, fun r H1 s1 hr1 => ?_⟩, fun ng H1 s1 => ?_⟩
  · exact ⟨_, rfl, rfl, _, rfl, iteT ⟨_, rfl, (qg g).2 r H1 s1 hr1⟩⟩
  · exact ⟨CO, rfl, on, fun e he => ⟨_, rfl, _, rfl, rfl, _, rfl, iteF ⟨_, rfl, .inr ⟨e, CO, false, false, true, false, false, false, false, 2, "order", rfl, upd_same, R, fun H2 s2 => qb ng H2 ((s1.trans (same_upd he _)).trans s2)⟩⟩⟩⟩
end
end Ord
namespace L2
open PySem PySem.Spec PyProof.Rows
def HS (X : Cx) (R : VK) (st : Stmt) (A B : St → Hp → Prop) : Prop := ∃ t, PS X st t ∧ ∀ (D : Ends) (σ : St) (H : Hp), A σ H → (∀ σ' H', B σ' H' → D.nx σ' H') → (∀ v H', R v H' → D.rt v H') → t D σ H
def HSs (X : Cx) (R : VK) (sts : List Stmt) (A B : St → Hp → Prop) : Prop := ∃ t, PSs X sts t ∧ ∀ (D : Ends) (σ : St) (H : Hp), A σ H → (∀ σ' H', B σ' H' → D.nx σ' H') → (∀ v H', R v H' → D.rt v H') → t D σ H
theorem HSs.nil {X : Cx} {R : VK} {A : St → Hp → Prop} : HSs X R [] A A := ⟨_, pss_nil, fun _ σ H a q _ => q σ H a⟩
theorem HS.cons {X : Cx} {R : VK} {st : Stmt} {rest : List Stmt} {A B C : St → Hp → Prop} (h1 : HS X R st A B) (h2 : HSs X R rest B C) : HSs X R (st :: rest) A C := by
  obtain ⟨t, ht, h⟩ := h1
  obtain ⟨u, hu, k⟩ := h2
  exact ⟨_, pss_cons ht hu, fun D σ H a q r => h { D with nx := u D } σ H a (fun σ' H' m => k D σ' H' m q r) r⟩
end L2
namespace L2
open PySem PySem.Spec PyProof.Rows
section
variable {α β : Type} [DecidableEq α] [DecidableEq β]
def prAt (a b : α × β) (j : Nat) : Bool := match j with
  | 0 => decide (a.1 = b.1)
  | _ => decide (a.2 = b.2)
theorem pr_eq (k1 : Dk α) (k2 : Dk β) {X : Cx} {pins : List (Addr × Obj)} {σ : St} {H : Hp} {s : Shared} {A : Around} {x1 x2 y1 y2 : V} {a b : α × β} {us vs : List Value} (I : Inv X pins σ H s) (hu : A.units + (k1.dep + k2.dep) < cLine)
    (p1 : k1.rep X.K H x1 a.1) (p2 : k2.rep X.K H x2 a.2) (q1 : k1.rep X.K H y1 b.1) (q2 : k2.rep X.K H y2 b.2) (r1 : Vals [x1, x2] us) (r2 : Vals [y1, y2] vs) :
    us.toArray.size = 2 ∧ vs.toArray.size = 2 ∧ ∀ j (h1 : j < us.toArray.size) (h2 : j < vs.toArray.size), SeqAt.EqAt A s us.toArray[j] vs.toArray[j] (prAt a b j) := by
  cases r1 with
  | cons s1 r1 => cases r1 with
  | cons s2 r1 => cases r1 with
  | nil => cases r2 with
  | cons t1 r2 => cases r2 with
  | cons t2 r2 => cases r2 with
  | nil =>
    refine ⟨rfl, rfl, fun j h1 h2 => ?_⟩
    match j, h1, h2 with
    | 0, _, _ => exact k1.eqAt I (by omega) p1 q1 s1 t1
    | 1, _, _ => exact k2.eqAt I (by omega) p2 q2 s2 t2
    | n + 2, h, _ => exact absurd h (by simp)
theorem pr_all (a b : α × β) : ((List.range (min 2 2)).all (prAt a b) && 2 == 2) = decide (a = b) := by
  obtain ⟨a1, a2⟩ := a
  obtain ⟨b1, b2⟩ := b
  simp [List.range, List.range.loop, Prod.ext_iff, prAt]
def dPair (k1 : Dk α) (k2 : Dk β) : Dk (α × β) where
  rep := fun K H x a => ∃ p x1 x2, x = .ref p ∧ SqT K H p [x1, x2] ∧ k1.rep K H x1 a.1 ∧ k2.rep K H x2 a.2
  dep := k1.dep + k2.dep + 1
  mono := fun s ⟨p, x1, x2, e, q, r1, r2⟩ => ⟨p, x1, x2, e, s.seqT q, k1.mono s r1, k2.mono s r2⟩
  fn := fun {X pins σ H s x a b} I ⟨p, x1, x2, e, q, r1, r2⟩ ⟨p', y1, y2, e', q', t1, t2⟩ => by
    rw [e] at e'
    cases e'
    have := I.tuple_inj q q'
    cases this
    exact Prod.ext (k1.fn I r1 t1) (k2.fn I r2 t2)
  eqAt := fun {X pins σ H s A x y a b u v} I hu ⟨p, x1, x2, e, q, r1, r2⟩ ⟨p', y1, y2, e', q', t1, t2⟩ rx ry => by
    subst e e'
    cases rx
    cases ry
    by_cases hp : p = p'
    · subst hp
      have := I.tuple_inj q q'
      cases this
      have : a = b := Prod.ext (k1.fn I r1 t1) (k2.fn I r2 t2)
      subst this
      rw [decide_eq_true rfl]
      exact SeqAt.EqAt.same _
    · obtain ⟨its, v1, w1, _⟩ := I.tuple q
      obtain ⟨its', v2, w2, _⟩ := I.tuple q'
      refine SeqAt.EqAt.of_refs hp ?_
      obtain ⟨z1, z2, ev⟩ := pr_eq k1 k2 (A := A.in1) I (by show A.units + 1 + _ < cLine; omega) r1 r2 t1 t2 v1 v2
      have h := SeqAt.RcAt.tuples (A := A) (e := prAt a b) w1 w2 (by omega) ev
      rw [z1, z2, pr_all] at h
      exact h
  rcAt := fun {X pins σ H s A x y a b u v} I hu ⟨p, x1, x2, e, q, r1, r2⟩ ⟨p', y1, y2, e', q', t1, t2⟩ rx ry => by
    subst e e'
    cases rx
    cases ry
    obtain ⟨its, v1, w1, _⟩ := I.tuple q
    obtain ⟨its', v2, w2, _⟩ := I.tuple q'
    obtain ⟨z1, z2, ev⟩ := pr_eq k1 k2 (A := A.in1) I (by show A.units + 1 + _ < cLine; omega) r1 r2 t1 t2 v1 v2
    have h := SeqAt.RcAt.tuples (A := A) (e := prAt a b) w1 w2 (by omega) ev
    rw [z1, z2, pr_all] at h
    exact h
  neAt := fun {X pins σ H s A x y a b u v} I hu ⟨p, x1, x2, e, q, r1, r2⟩ ⟨p', y1, y2, e', q', t1, t2⟩ rx ry => by
    subst e e'
    cases rx
    cases ry
    obtain ⟨its, v1, w1, _⟩ := I.tuple q
    obtain ⟨its', v2, w2, _⟩ := I.tuple q'
    obtain ⟨z1, z2, ev⟩ := pr_eq k1 k2 (A := A.in1) I (by show A.units + 1 + _ < cLine; omega) r1 r2 t1 t2 v1 v2
    have h := SeqAt.RcNeAt.tuples (A := A) (e := prAt a b) w1 w2 (by omega) ev
    rw [z1, z2, pr_all] at h
    exact h
end
end L2
namespace Ord
open PySem L2 Mx
abbrev lawAt (i : Nat) : Stmt := (defBody sLaw).getD i (.Pass ⟨0, 0, 0, 0⟩)
abbrev NW : List Str := ["_law_script", "_law_many", "_law_some", "_law_book", "_law_number_here", "_law_due", "_law_order", "_law_found"]
theorem scLaw : FnScope NW ["_law_script"] (defScope sLaw) := ⟨rfl, rfl, rfl, by decide +kernel, rfl, by decide +kernel, by decide +kernel⟩
abbrev XL (P : Program) (w : World) (K : W.Frag) (mg : Str → Option Value) (base : Heap) (f : Addr) (cdv : Value) (A : Around) (outer : List Env) (s : Shared) (H : Hp) (E : XK) : Cx := (cxOf CX0 P w K mg base NW "law" (defScope sLaw) f cdv A outer s H E).nox
abbrev RT : VK := fun v _ => v = .bl true
abbrev RM (n : Nat) (A : Around) (s : Shared) (f : Addr) (cdv : Value) : Prop := Room n (A.deeper (PyProof.Rows.envOfC "law" (defScope sLaw) s.heap.objs.size f cdv))
section
variable {P : Program} {w : World} {K : W.Frag} {mg : Str → Option Value} {base : Heap} {CO : Addr} {f : Addr} {cdv : Value} {A : Around} {outer : List Env} {s : Shared} {H0 : Hp} {E : XK}
def C0 (K : W.Frag) : St → Hp → Prop := fun σ H => ∃ a : Addr, σ = [some (.ref a), none, none, none, none, none, none, none] ∧ Scr K H a
structure Nk (K : W.Frag) (H : Hp) (sa : Addr) (x : V) (many : Nat) (os : Bk.Ords) : Prop where
  ok : Bk.SetOk many os
  m4 : many ≤ 4
  ol : OL K H sa os
  bk : BookA K H x many (layB many os).1 (layB many os).2
theorem Nk.same {H H' : Hp} {sa : Addr} {x : V} {many : Nat} {os : Bk.Ords} (n : Nk K H sa x many os) (s : Same H H') : Nk K H' sa x many os := ⟨n.ok, n.m4, n.ol.same s, n.bk.same s⟩
def C2 (K : W.Frag) : St → Hp → Prop := fun σ H => ∃ (v0 x : V) (sa : Addr) (many : Nat) (os : Bk.Ords) (v4 v5 v6 v7 : Option V), σ = [some v0, some (.int (many : Int)), some (.ref sa), some x, v4, v5, v6, v7] ∧ Nk K H sa x many os
theorem seg0 {rest : List Stmt} {B : St → Hp → Prop} (hr : RM 13 A s f cdv) (WM : Df P w K mg base CX0 2 "_law_mix" ["_law_script", "_law_k"] (spMix K)) (WS : Df P w K mg base CX0 3 "_law_set" ["_law_script", "_law_k", "_law_many"] (spSet K)) (WB : Df P w K mg base (CX1 P w) 12 "book_of" ["many", "orders"] (spBookOf K))
    (h : HSs (XL P w K mg base f cdv A outer s H0 E) RT rest (C2 K) B) : HSs (XL P w K mg base f cdv A outer s H0 E) RT (lawAt 0 :: lawAt 1 :: lawAt 2 :: rest) (C0 K) B := by
  obtain ⟨u, hu, kk⟩ := h
  refine ⟨_, pss_cons (ps_set (i := 1) scLaw.nd rfl (Or.inl rfl) (pe_op op_add pe_int (pe_op op_mod (pe_df WM (hr.mono (by decide)) rfl (passS0 (E := fun _ _ _ _ => False)) (pa_cons (pv 0) (pa_cons pe_int pa_nil))) pe_int)))
    (pss_cons (ps_set (i := 2) scLaw.nd rfl (Or.inl rfl) (pe_df WS (hr.mono (by decide)) rfl (passS0 (E := fun _ _ _ _ => False)) (pa_cons (pv 0) (pa_cons pe_int (pa_cons (pv 1) pa_nil)))))
    (pss_cons (ps_set (i := 3) scLaw.nd rfl (Or.inl rfl) (pe_df WB (hr.mono (by decide)) rfl passF (pa_cons (pv 1) (pa_cons (pv 2) pa_nil)))) hu)), fun D σ H b qn qr => ?_⟩
  obtain ⟨a, rfl, hs⟩ := b
  refine ⟨_, rfl, a, 0, rfl, hs, fun m0 h0 h1 => ⟨_, _, rfl, rfl, by show (0 : Int) < 4; decide, _, _, rfl, rfl, ?_⟩⟩
  obtain ⟨many, hm⟩ : ∃ many : Nat, 1 + m0 % 4 = (many : Int) := ⟨(1 + m0 % 4).toNat, by omega⟩
  have m1 : 1 ≤ many := by omega
  have m4 : many ≤ 4 := by omega
  dsimp only
  rw [hm]
  refine ⟨_, rfl, _, rfl, a, 10, many, rfl, hs, m1, m4, fun sa os H1 s1 ol sub => ?_⟩
  have ok := Bk.SetOk.of m1 m4 sub
  obtain ⟨ys, hy, py⟩ := id ol
  have len := ok.len
  refine ⟨_, rfl, _, rfl, many, sa, ys, os, rfl, SqL.of hy, py, fun o ho => good_all m1 (by omega) (ok.mem o ho), m1, by omega, by omega, fun t lr H2 s2 bn => ?_⟩
  exact kk D _ _ ⟨_, _, sa, many, os, _, _, _, _, rfl, ok, m4, ol.same s2, bn.a⟩ qn qr
theorem seg3 (hr : RM 13 A s f cdv) (T : TxB K mg CO) (WW : Df P w K mg base CX0 1 "_law_whole" ["_law_found"] spWhole) (WH : Df P w K mg base CX0 12 "how_many" ["book"] (spHow K)) : HS (XL P w K mg base f cdv A outer s H0 E) RT (lawAt 3) (C2 K) (C2 K) := by
  refine ⟨_, ps_if (PW.pt (pw_or (pt_not (pt_val (pe_df WW (hr.mono (by decide)) rfl (passS0 (E := fun _ _ _ _ => False)) (pa_cons (pe_df WH (hr.mono (by decide)) rfl (passS0 (E := fun _ _ _ _ => False)) (pa_cons (pv 3) pa_nil)) pa_nil))))
      (pw_or1 (pt_cmpR op_ne (pe_df WH (hr.mono (by decide)) rfl (passS0 (E := fun _ _ _ _ => False)) (pa_cons (pv 3) pa_nil)) (pe_callB call_len_seq rfl T.t.len b_len (pa_cons (pv 2) pa_nil)) (nomark _)))))
    (pss_one ps_never) pss_nil, fun D σ H b qn qr => ?_⟩
  obtain ⟨v0, x, sa, many, os, v4, v5, v6, v7, rfl, nk⟩ := b
  refine ⟨_, rfl, x, many, _, _, rfl, nk.bk, SetOk.whole nk.ok, fun H1 s1 => ?_⟩
  refine ⟨_, rfl, _, rfl, iteF ?_⟩
  have n1 := nk.same s1
  refine ⟨_, rfl, x, many, _, _, rfl, n1.bk, SetOk.whole nk.ok, fun H2 s2 => ?_⟩
  have n2 := n1.same s2
  obtain ⟨ys, hy, py⟩ := id n2.ol
  refine ⟨_, rfl, sa, ys, rfl, .inl (SqL.of hy), rfl, _, rfl, ?_⟩
  rw [SetOk.sem nk.ok, py.length, decide_eq_true rfl]
  exact iteF (qn _ _ ⟨v0, x, sa, many, os, v4, v5, v6, v7, rfl, n2⟩)
theorem short {many : Nat} {os : Bk.Ords} (S : Bk.SetOk many os) : ∀ o ∈ Bk.sem (layB many os).1 (layB many os).2, o.length ≤ 100 := fun o ho => by
  rw [SetOk.sem S] at ho
  have := (Bk.allO_ord S.m1 S.m5 (S.mem o ho)).1
  have := S.m5
  omega
theorem seg4 (hr : RM 13 A s f cdv) (T : TxB K mg CO) (WA : Df P w K mg base (CX1 P w) 13 "_law_at" ["_law_book", "_law_number_here"] (spLAt K)) : HS (XL P w K mg base f cdv A outer s H0 E) RT (lawAt 4) (C2 K) (C2 K) := by
  have hu0 : (A.deeper (PyProof.Rows.envOfC "law" (defScope sLaw) s.heap.objs.size f cdv)).units + 64 < cLine := hr.units
  have hu1 : (A.deeper (PyProof.Rows.envOfC "law" (defScope sLaw) s.heap.objs.size f cdv)).units + 1 < cLine := by omega
  refine ⟨_, ps_for PassesOwn.never rfl (pi_range2 rfl T.t.range (pa_cons (pe_un un_neg pe_int) (pa_cons (pe_op op_add (pe_callB call_len_seq rfl T.t.len b_len (pa_cons (pv 2) pa_nil)) pe_int) pa_nil))) (pg_name (i := 4) scLaw.nd rfl (Or.inl rfl))
    (pss_cons (ps_set (i := 5) scLaw.nd rfl (Or.inl rfl) (pe_ifExp (pt_chain op_le op_lt pe_int (pv 4) (pe_callB call_len_seq rfl T.t.len b_len (pa_cons (pv 2) pa_nil))) (pe_ix (show IxR _ (rIxL K) from ix_list) (pv 2) (pv 4) (fun _ _ => rfl)) pe_str))
    (pss_one (ps_if (pt_cmpR (OpR.or (op_neD dInts hu1) op_ne) (pe_df WA hr rfl passF (pa_cons (pv 3) (pa_cons (pv 4) pa_nil))) (pv 5) (nomark _)) (pss_one ps_never) pss_nil))), fun D σ H b qn qr => ?_⟩
  obtain ⟨v0, x, sa, many, os, v4, v5, v6, v7, rfl, nk⟩ := b
  obtain ⟨ys, hy, py⟩ := id nk.ol
  have yl := py.length
  have len := nk.ok.len
  refine ⟨1, rfl, _, rfl, sa, ys, rfl, .inl (SqL.of hy), _, _, rfl, rfl, -1, ((ys.length : Nat) : Int) + 1, rfl, ⟨by decide, by decide, by omega, by omega⟩, for_range (lo := -1) (n := (((ys.length : Nat) : Int) + 1 - -1).toNat) (fun i σ H1 => ∃ v4 v5, σ = [some v0, some (.int (many : Int)), some (.ref sa), some x, v4, v5, v6, v7] ∧ Same H H1) ⟨v4, v5, rfl, Same.refl _⟩ ?_ ?_⟩
  · rintro i σ H1 hi ⟨v4, v5, rfl, s1⟩
    have n1 := nk.same s1
    have hy1 := s1 _ _ hy
    refine ⟨_, rfl, 0, -1 + (i : Int), rfl, rfl, _, rfl, ?_⟩
    by_cases c0 : 0 ≤ -1 + (i : Int)
    case neg =>
      rw [decide_eq_false c0]
      refine iteF ⟨_, rfl, iteF ?_⟩
      refine ⟨_, rfl, _, rfl, x, many, _, _, -1 + (i : Int), rfl, n1.bk, SetOk.whole nk.ok, short nk.ok, fun n o r H2 e => by omega, fun _ H2 s2 => ?_⟩
      refine ⟨_, rfl, .inr ⟨rfl, _, rfl, ?_⟩⟩
      rw [decide_eq_true rfl]
      exact iteF ⟨_, _, rfl, s1.trans s2⟩
    rw [decide_eq_true c0]
    refine iteT ⟨_, rfl, sa, ys, rfl, .inl (SqL.of hy1), _, _, rfl, rfl, _, rfl, ?_⟩
    by_cases c1 : -1 + (i : Int) < ((ys.length : Nat) : Int)
    case neg =>
      rw [decide_eq_false c1]
      refine iteF ?_
      refine ⟨_, rfl, _, rfl, x, many, _, _, -1 + (i : Int), rfl, n1.bk, SetOk.whole nk.ok, short nk.ok, fun n o r H2 e ho => ?_, fun _ H2 s2 => ?_⟩
      · rw [SetOk.sem nk.ok] at ho
        have := (List.getElem?_eq_some_iff.mp ho).1
        omega
      refine ⟨_, rfl, .inr ⟨rfl, _, rfl, ?_⟩⟩
      rw [decide_eq_true rfl]
      exact iteF ⟨_, _, rfl, s1.trans s2⟩
    rw [decide_eq_true c1]
    refine iteT ?_
    obtain ⟨n, hn⟩ : ∃ n : Nat, -1 + (i : Int) = (n : Int) := ⟨(-1 + (i : Int)).toNat, by omega⟩
    have nl : n < ys.length := by omega
    obtain ⟨o, ho, ro⟩ := pget py (List.getElem?_eq_getElem nl)
    refine ⟨_, rfl, _, rfl, sa, ys, -1 + (i : Int), ys[n], rfl, rfl, SqL.of hy1, by rw [hn]; exact atI_nat (List.getElem?_eq_getElem nl), ?_⟩
    refine ⟨_, rfl, _, rfl, x, many, _, _, -1 + (i : Int), rfl, n1.bk, SetOk.whole nk.ok, short nk.ok, fun n' o' r H2 e ho' s2 hr2 => ?_, fun ng => ?_⟩
    · rw [SetOk.sem nk.ok] at ho'
      have en : n' = n := by omega
      subst en
      rw [ho] at ho'
      cases ho'
      refine ⟨_, rfl, .inl ⟨o, o, ints_rep (SqT.of hr2), dInts.mono (s1.trans s2) ro, _, rfl, ?_⟩⟩
      rw [if_pos rfl, decide_eq_true rfl]
      exact iteF ⟨_, _, rfl, s1.trans s2⟩
    · rw [SetOk.sem nk.ok, ← yl] at ng
      exact absurd ⟨c0, c1⟩ ng
  · rintro σ H1 ⟨v4, v5, rfl, s1⟩
    exact qn _ _ ⟨v0, x, sa, many, os, v4, v5, v6, v7, rfl, nk.same s1⟩
theorem seg5 (hr : RM 13 A s f cdv) (T : TxB K mg CO) (WA : Df P w K mg base CX0 1 "_law_all" ["_law_many"] (spAll K)) (WN : Df P w K mg base (CX1 P w) 13 "_law_number" ["_law_book", "_law_order"] (spLNum K)) (WW : Df P w K mg base CX0 1 "_law_whole" ["_law_found"] spWhole) : HS (XL P w K mg base f cdv A outer s H0 E) RT (lawAt 5) (C2 K) (C2 K) := by
  have hu0 : (A.deeper (PyProof.Rows.envOfC "law" (defScope sLaw) s.heap.objs.size f cdv)).units + 64 < cLine := hr.units
  have hu1 : (A.deeper (PyProof.Rows.envOfC "law" (defScope sLaw) s.heap.objs.size f cdv)).units + (dPair dInt dBl).dep < cLine := by show _ + 1 < cLine; omega
  have hu3 : (A.deeper (PyProof.Rows.envOfC "law" (defScope sLaw) s.heap.objs.size f cdv)).units + 1 + 1 < cLine := by omega
  refine ⟨_, ps_for PassesOwn.never rfl (pi_list (pe_df WA (hr.mono (by decide)) rfl (passS0 (E := fun _ _ _ _ => False)) (pa_cons (pv 1) pa_nil))) (pg_name (i := 6) scLaw.nd rfl (Or.inr rfl))
    (pss_cons (ps_set (i := 7) scLaw.nd rfl (Or.inl rfl) (pe_df WN hr rfl passF (pa_cons (pv 3) (pa_cons (pv 6) pa_nil))))
    (pss_cons (ps_if (pt_cmpR (op_neD (dPair dInt dBl) hu1) (pv 7) (pe_tup (pa_cons (pe_callB call_len_seq rfl T.t.len b_len (pa_cons (pe_comp rfl (show CScope (defScope sLaw) NW _ _ from by constructor <;> decide +kernel) (pi_list (pv 2))
          (fun _ _ _ _ _ _ => pts_one (pt_cmpR (show OpR _ _ (rLtT K) from op_ltT hr.units0) (pv 0) (pv 7) (nomark _))) (fun cl C s₂ H₂ fp pins => pv 0) scLaw.nd) pa_nil)) (pa_cons (pe_cmpR (op_inD dInts hu3) (pv 6) (pv 2) rfl) pa_nil))) (nomark _)) (pss_one ps_never) pss_nil)
    (pss_one (ps_if (PW.pt (pw_or (pt_not (pt_val (pe_df WW (hr.mono (by decide)) rfl (passS0 (E := fun _ _ _ _ => False)) (pa_cons (pe_ix (show IxR _ (rIxT K) from ix_tup) (pv 7) pe_int (fun _ _ => rfl)) pa_nil))))
      (pw_or1 (pt_not (pt_val (pe_callB call_isi rfl T.t.isi b_isi (pa_cons (pe_ix (show IxR _ (rIxT K) from ix_tup) (pv 7) pe_int (fun _ _ => rfl)) (pa_cons (pe_bltn (v := .ty "bool") rfl T.t.bool b_bool rfl) pa_nil))))))))
      (pss_one ps_never) pss_nil)))), fun D σ H b qn qr => ?_⟩
  obtain ⟨v0, x, sa, many, os, v4, v5, v6, v7, rfl, nk⟩ := b
  have m1 := nk.ok.m1
  have m5 := nk.ok.m5
  have len := nk.ok.len
  refine ⟨_, rfl, many, rfl, m1, m5, fun l H1 s1 hlf ol => ?_⟩
  obtain ⟨ys, hl, py⟩ := ol
  refine ⟨l, rfl, ⟨_, SqL.of hl⟩, for_list (K := K) (a := l) (xs := ys) (fun i σ H2 => ∃ v6 v7, σ = [some v0, some (.int (many : Int)), some (.ref sa), some x, v4, v5, v6, v7] ∧ Same H1 H2) ⟨v6, v7, rfl, Same.refl _⟩ ?_ ?_ ?_⟩
  · rintro i σ H2 _ ⟨v6, v7, rfl, s2⟩
    exact SqL.of (s2 _ _ hl)
  · rintro i y σ H2 hy ⟨v6, v7, rfl, s2⟩
    obtain ⟨o, ho, ro⟩ := pget py hy
    have mem := List.mem_of_getElem? ho
    have g := good_all m1 m5 mem
    have ol' : o.length = many := (Bk.allO_ord m1 m5 mem).1
    obtain ⟨b, rfl, qb⟩ := rep_ints (dInts.mono s2 ro)
    have n2 := nk.same (s1.trans s2)
    obtain ⟨g1, g2⟩ := SetOk.goes nk.ok ol'
    refine ⟨_, rfl, _, rfl, x, many, _, _, b, o, rfl, n2.bk, SetOk.whole nk.ok, ⟨qb, by omega, fun x hx => ?_⟩, fun _ => ⟨g1, fun r H3 s3 hr3 => ?_⟩, fun ng => absurd g ng⟩
    · have := g.2.2.2.mem hx
      exact fit_small (by omega) (by omega)
    rw [SetOk.sem nk.ok] at hr3
    have n3 := n2.same s3
    obtain ⟨zs, hz, pz⟩ := id n3.ol
    have zl := pz.length
    have qb3 := s3.seqT qb
    refine ⟨_, rfl, _, rfl, sa, rfl, ⟨_, SqL.of hz⟩, comp_lst (K := K) (a := sa) (xs := zs) (fun j ws H4 => H4 = H3 ∧ ws.length ≤ j ∧ ws.length = ((os.take j).filter fun z => HT.lexLt z o).length) ⟨rfl, Nat.zero_le _, rfl⟩ ?_ (by rw [sizeLine_eq]; omega) ?_ ?_⟩
    · rintro j ws H4 _ ⟨rfl, wl, _⟩
      exact ⟨SqL.of hz, wl⟩
    · rintro j y ws H4 hy ⟨rfl, wl, we⟩
      obtain ⟨o2, ho2, ro2⟩ := pget pz hy
      obtain ⟨b2, rfl, qb2⟩ := rep_ints ro2
      refine ⟨_, rfl, _, rfl, b2, b, o2, o, rfl, rfl, qb2, qb3, _, rfl, ?_⟩
      rw [take_get' ho2, List.filter_append]
      cases e : HT.lexLt o2 o with
      | true =>
        refine iteT ⟨_, rfl, rfl, by rw [List.length_append]; show ws.length + 1 ≤ j + 1; omega, ?_⟩
        rw [List.filter_cons_of_pos (p := fun z => HT.lexLt z o) e, List.length_append, List.length_append, we]
        rfl
      | false =>
        refine iteF ⟨rfl, by omega, ?_⟩
        rw [List.filter_cons_of_neg (p := fun z => HT.lexLt z o) (by rw [e]; decide), List.filter_nil, List.append_nil]
        exact we
    rintro ws H4 p ⟨rfl, _, we⟩ hp
    rw [zl, List.take_length] at we
    have s5 := same_upd hp (.lst ws)
    refine ⟨p, ws, rfl, .inl SqL.up, ?_⟩
    refine ⟨_, rfl, _, rfl, o, os, dInts.mono s5 (ints_rep qb3), (n3.ol.same s5).rep, by show 2 ≤ sizeLine; decide, fun q hq => ?_⟩
    have s6 := same_upd hq (.tup [V.int (ws.length : Nat), V.bl (if false = true then !os.any (fun a => decide (a = o)) else os.any (fun a => decide (a = o)))])
    have e1 : (if false = true then !os.any (fun a => decide (a = o)) else os.any (fun a => decide (a = o))) = decide (Bk.goes (layB many os).1 (layB many os).2 o = 1) := by
      rw [if_neg Bool.false_ne_true]
      by_cases z : o ∈ os
      · rw [decide_eq_true (g2.mpr z)]
        exact List.any_eq_true.mpr ⟨o, z, by simp⟩
      · rw [decide_eq_false (fun h => z (g2.mp h))]
        refine List.any_eq_false.mpr fun x hx h => z ?_
        rw [← of_decide_eq_true h]
        exact hx
    have hr6 := (s5.trans s6) _ _ hr3
    refine ⟨(((Bk.below os o : Nat) : Int), decide (Bk.goes (layB many os).1 (layB many os).2 o = 1)), (((Bk.below os o : Nat) : Int), decide (Bk.goes (layB many os).1 (layB many os).2 o = 1)), ⟨r, _, _, rfl, SqT.of hr6, rfl, rfl⟩, ⟨q, _, _, rfl, SqT.of upd_same, by rw [we]; rfl, by rw [e1]; rfl⟩, _, rfl, ?_⟩
    rw [if_pos rfl, decide_eq_true rfl]
    refine iteF ?_
    refine ⟨_, rfl, r, _, 0, _, rfl, rfl, SqT.of hr6, atI0, _, rfl, _, rfl, iteF ?_⟩
    refine ⟨_, rfl, r, _, 1, _, rfl, rfl, SqT.of hr6, atI1, _, _, _, _, _, rfl, rfl, .of (.bl _), kit_bb, _, rfl, iteF ?_⟩
    exact ⟨_, _, rfl, s2.trans (s3.trans (s5.trans s6))⟩
  · rintro σ H2 ⟨v6, v7, rfl, s2⟩
    exact qn _ _ ⟨v0, x, sa, many, os, v4, v5, v6, v7, rfl, nk.same (s1.trans s2)⟩
theorem seg6 (hr : RM 13 A s f cdv) (WN : Df P w K mg base (CX1 P w) 13 "_law_number" ["_law_book", "_law_order"] (spLNum K)) {B : St → Hp → Prop} : HS (XL P w K mg base f cdv A outer s H0 E) RT (lawAt 6) (C2 K) B := by
  refine ⟨_, ps_ret (pe_cmpR op_eq (pe_df WN hr rfl passF (pa_cons (pv 3) (pa_cons (pe_op op_catA (pe_op op_repT (pe_tup (pa_cons pe_int pa_nil)) (pv 1)) (pe_tup (pa_cons pe_int pa_nil))) pa_nil))) pe_str (nomark _)), fun D σ H b qn qr => ?_⟩
  obtain ⟨v0, x, sa, many, os, v4, v5, v6, v7, rfl, nk⟩ := b
  have m1 := nk.ok.m1
  have m4 := nk.m4
  refine ⟨_, rfl, by show 1 ≤ sizeLine; decide, fun p hp => ?_⟩
  have s1 := same_upd hp (.tup [V.int 0])
  refine ⟨_, rfl, p, (many : Int), [V.int 0], rfl, rfl, SqT.up, by simp, by omega, by show 1 * _ ≤ sizeLine; rw [sizeLine_eq]; omega, fun r H2 s2 hr2 => ?_⟩
  refine ⟨by show 1 ≤ sizeLine; decide, fun p3 hp3 => ?_⟩
  have s3 := same_upd hp3 (.tup [V.int 0])
  have fl : (List.replicate ((many : Int)).toNat [V.int 0]).flatten = (List.replicate many (0 : Int)).map V.int := by
    rw [Int.toNat_natCast]
    clear hr2
    induction many with
    | zero => rfl
    | succ n ih => simp [List.replicate_succ]
  rw [fl] at hr2
  refine ⟨r, p3, _, _, rfl, rfl, s3.seqT hr2, SqT.up, by rw [List.length_map, List.length_replicate, sizeLine_eq]; simp; omega, fun r4 H4 s4 hr4 => ?_⟩
  have n4 := nk.same (s1.trans (s2.trans (s3.trans s4)))
  have e4 : (List.replicate many (0 : Int)).map V.int ++ [V.int 0] = (List.replicate many (0 : Int) ++ [0]).map V.int := by rw [List.map_append]; rfl
  rw [e4] at hr4
  refine ⟨x, many, _, _, r4, List.replicate many (0 : Int) ++ [0], rfl, n4.bk, SetOk.whole nk.ok, ⟨hr4, by simp; omega, fun y hy => ?_⟩, fun g => ?_, fun _ H5 s5 => ?_⟩
  · have : y = 0 := by
      rcases List.mem_append.mp hy with h | h
      · exact List.eq_of_mem_replicate h
      · exact List.mem_singleton.mp h
    subst this
    exact fit_small (by decide) (by decide)
  · have := g.2.2.1
    simp at this
    omega
  · refine ⟨rfl, qr _ _ ?_⟩
    rw [decide_eq_true rfl]
def spLaw (K : W.Frag) : Sp := fun vs H Q _ => ∃ (a : Addr) (ns : List Int), vs = [.ref a] ∧ SqL K H a (ns.map V.int) ∧ ∀ H', Q (.bl true) H'
theorem ok_law {fd : FuncData} (F : Fun K "law" "law" sLaw f fd) (T : TxB K mg CO)
    (WM : Df P w K mg base CX0 2 "_law_mix" ["_law_script", "_law_k"] (spMix K)) (WA : Df P w K mg base CX0 1 "_law_all" ["_law_many"] (spAll K))
    (WS : Df P w K mg base CX0 3 "_law_set" ["_law_script", "_law_k", "_law_many"] (spSet K)) (WB : Df P w K mg base (CX1 P w) 12 "book_of" ["many", "orders"] (spBookOf K))
    (WW : Df P w K mg base CX0 1 "_law_whole" ["_law_found"] spWhole) (WH : Df P w K mg base CX0 12 "how_many" ["book"] (spHow K))
    (WT : Df P w K mg base (CX1 P w) 13 "_law_at" ["_law_book", "_law_number_here"] (spLAt K)) (WN : Df P w K mg base (CX1 P w) 13 "_law_number" ["_law_book", "_law_order"] (spLNum K)) : FnOk P w K mg base CX0 14 f fd ["_law_script"] (spLaw K) := by
  refine F.ok scLaw (fun vs H Q E h => ?_) (fun cdv A outer s H vs Q E hr h => ?_)
  · obtain ⟨a, ns, rfl, _⟩ := h
    rfl
  obtain ⟨a, ns, rfl, hs, q⟩ := h
  have all : HSs (XL P w K mg base f cdv A outer s H E) RT [lawAt 0, lawAt 1, lawAt 2, lawAt 3, lawAt 4, lawAt 5, lawAt 6] (C0 K) (fun _ _ => False) :=
    seg0 hr WM WS WB <| (seg3 hr T WW WH).cons <| (seg4 hr T WT).cons <| (seg5 hr T WA WN WW).cons <| (seg6 hr WN).cons HSs.nil
  obtain ⟨t, ht, k⟩ := all
  refine ⟨t, ht, k _ _ _ ⟨a, rfl, ns, hs⟩ (fun _ _ z => z.elim) fun v H' e => ?_⟩
  subst e
  exact q H'
end
end Ord
set_option maxHeartbeats 0
namespace Vw
open PySem PySem.W L2
noncomputable section
abbrev pw : Program := PySem.Challenge.pw_ordernest_k20_whole_numbers
def at_ (i : Nat) : Stmt := pw.main.body.getD i (.Pass ⟨0, 0, 0, 0⟩)
def s0 : Stmt := at_ 0
def s1 : Stmt := at_ 1
def s2 : Stmt := at_ 2
def s3 : Stmt := at_ 3
def s4 : Stmt := at_ 4
def s5 : Stmt := at_ 5
def s6 : Stmt := at_ 6
def s7 : Stmt := at_ 7
def s8 : Stmt := at_ 8
def s9 : Stmt := at_ 9
def s10 : Stmt := at_ 10
def s11 : Stmt := at_ 11
def s12 : Stmt := at_ 12
def s13 : Stmt := at_ 13
def s14 : Stmt := at_ 14
def s15 : Stmt := at_ 15
def s16 : Stmt := at_ 16
def s17 : Stmt := at_ 17
def s18 : Stmt := at_ 18
def s19 : Stmt := at_ 19
def s20 : Stmt := at_ 20
def s21 : Stmt := at_ 21
def s22 : Stmt := at_ 22
def s23 : Stmt := at_ 23
def s24 : Stmt := at_ 24
def s25 : Stmt := at_ 25
def s26 : Stmt := at_ 26
def s27 : Stmt := at_ 27
def s28 : Stmt := at_ 28
def s29 : Stmt := at_ 29
def s30 : Stmt := at_ 30
def s31 : Stmt := at_ 31
def s32 : Stmt := at_ 32
def s33 : Stmt := at_ 33
def s34 : Stmt := at_ 34
def s35 : Stmt := at_ 35
def s36 : Stmt := at_ 36
def s37 : Stmt := at_ 37
def s38 : Stmt := at_ 38
def s39 : Stmt := at_ 39
def s40 : Stmt := at_ 40
def s41 : Stmt := at_ 41
def s42 : Stmt := at_ 42
def s43 : Stmt := at_ 43
def s44 : Stmt := at_ 44
def s45 : Stmt := at_ 45
def s46 : Stmt := at_ 46
def s47 : Stmt := at_ 47
def s48 : Stmt := at_ 48
def s49 : Stmt := at_ 49
def dk (P : Params) (x : Str) (t : Nat) (v : Value) : DictEntry := ⟨PyData.keyHash P x, .str x t, v⟩
def kf (x q : Str) (s : Stmt) (kV doc pm cdv ct : Value) : Obj := ⟨.type "function", none, .func (fnOf x q (defArgs s) (defBody s) (defScope s) .none kV doc pm none cdv ct), #[]⟩
def kg (c : Value) (x q : Str) (s : Stmt) (g : Nat) (dV kV doc pm cdv ct : Value) : Obj := ⟨c, none, .func { name := x, qualname := q, params := defArgs s, body := .stmts (defBody s), scope := defScope s, globals := g, closure := [], defaults := dV, kwdefaults := kV, doc := doc, pyModule := pm, code := cdv, closureTuple := ct }, #[]⟩
def kj (c : Value) (d : Data) : Obj := ⟨c, none, d, #[]⟩
def kt (l : List Value) : Obj := ⟨.type "tuple", none, .seq ⟨l⟩ 0, #[]⟩
def cbody (s : Stmt) (i : Nat) : Stmt := match s with
  | .ClassDef _ _ _ b _ _ _ _ _ _ _ => b.getD i (.Pass ⟨0, 0, 0, 0⟩)
  | s => s
def r (a : Nat) : Value := .ref a
def i (a : Int) (t : Nat) : Value := .int a t
def z (x : Str) (t : Nat) : Value := .str x t
def kc (x q : Str) (a b c l n f r1 r2 r3 r4 r5 t m u : Nat) : Obj := kj (.type "code") (.fields #[z x a, z q b, z "/claim/cut.py" c, i l 0, i n 0, i 0 0, i 0 0, i f 0, r r1, .bool true, i 181 0, r r2, .none, r r3, r r4, r r5, i t 0, i m 0, z "/claim/cut.py" u])
variable (P : Params)
def o11 : Obj := kt []
def o12 : Obj := kj .none (.fields #[])
def o13 : Obj := kj (.type "code") (.fields #[(z "<module>" 182), (z "<module>" 183), (z "/claim/cut.py" 184), (i 1 0), (i 0 0), (i 0 0), (i 0 0), (i 0 0), (r 11), (.bool false), (i 181 0), (r 12), .none, .none, .none, .none, (i 185 0), (i 1 0), (z "/claim/cut.py" 186)])
def o14 : Obj := ⟨(.type "frame"), none, .plain, #[(some (r 13)), (some (r 3)), (some (r 3)), none, (some (z "__main__" 164)), none, (some (r 0))]⟩
def eo3 : List DictEntry := [dk P "__doc__" 166 .none, dk P "__package__" 167 .none, dk P "__loader__" 168 (.builtin "__main__.__loader__#opaque"), dk P "__spec__" 169 .none, dk P "__annotations__" 170 (r 6), dk P "__builtins__" 171 (r 4), dk P "__file__" 173 (z "/claim/cut.py" 172), dk P "__cached__" 174 .none, dk P "NestError" 206 (r 24)]
def o3 : Obj := kj (.type "dict") (.dict ⟨dk P "__name__" 165 (z "ordernest.errors" 187) :: eo3 P⟩ 10)
def o12v1 : Obj := kj .none (.fields #[(i 2 0), (i 0 0), (r 20)])
def o15 : Obj := kt [(.type "ValueError")]
def o16 : Obj := kj (.type "builtin_function_or_method") (.fields #[(.builtin "type.__prepare__"), (.type "type")])
def o17 : Obj := kj (.type "dict") (.dict #[dk P "__module__" 196 (z "ordernest.errors" 187), dk P "__qualname__" 198 (z "NestError" 197), dk P "__firstlineno__" 200 (i 2 199), dk P "__static_attributes__" 201 (r 22)] 4)
def o20 : Obj := kj (.type "code") (.fields #[(z "NestError" 191), (z "NestError" 192), (z "/claim/cut.py" 193), (i 2 0), (i 0 0), (i 0 0), (i 0 0), (i 0 0), (r 18), (.bool false), (i 181 0), (r 19), .none, .none, .none, .none, (i 194 0), (i 2 0), (z "/claim/cut.py" 195)])
def o21 : Obj := ⟨(.type "frame"), none, .plain, #[(some (r 20)), (some (r 3)), (some (r 17)), none, (some (z "ordernest.errors" 187)), none, (some (r 0))]⟩
def o23 : Obj := kj (.type "dict") (.dict #[dk P "__module__" 196 (z "ordernest.errors" 187), dk P "__firstlineno__" 200 (i 2 199), dk P "__static_attributes__" 201 (r 22), dk P "__weakref__" 203 (r 25), dk P "__doc__" 204 .none] 3)
def o24 : Obj := ⟨(.type "type"), none, .cls { name := "NestError", bases := [(.type "ValueError")], mro := [(r 24), (.type "ValueError"), (.type "Exception"), (.type "BaseException"), (.type "object")], ns := 23, qualname := "NestError", subclasses := [] }, #[(some (r 15)), none, (some (z "NestError" 189)), (some (z "NestError" 197)), (some (.builtin "ValueError.__new__")), (some (.bool true))]⟩
def o25 : Obj := kj (.type "getset_descriptor") (.fields #[(z "__weakref__" 202), (r 24), (.builtin "ExceptionGroup.__weakref__"), .none])
def o26 : Obj := kj (.type "super") (.fields #[(r 24), (r 24), (r 24)])
def o27 : Obj := kj (.type "builtin_function_or_method") (.fields #[(.builtin "object.__init_subclass__"), (r 24)])
def eo3v1 : List DictEntry := eo3 P ++ [dk P "BadOrder" 222 (r 37)]
def o3v1 : Obj := kj (.type "dict") (.dict ⟨dk P "__name__" 165 (z "ordernest.errors" 187) :: eo3v1 P⟩ 11)
def o12v2 : Obj := kj .none (.fields #[(i 2 0), (i 0 0), (r 20), (i 4 0), (i 0 0), (r 33)])
def o24v1 : Obj := ⟨(.type "type"), none, .cls { name := "NestError", bases := [(.type "ValueError")], mro := [(r 24), (.type "ValueError"), (.type "Exception"), (.type "BaseException"), (.type "object")], ns := 23, qualname := "NestError", subclasses := [(r 37)] }, #[(some (r 15)), none, (some (z "NestError" 189)), (some (z "NestError" 197)), (some (.builtin "ValueError.__new__")), (some (.bool true))]⟩
def o28 : Obj := kt [(r 24)]
def o30 : Obj := kj (.type "dict") (.dict #[dk P "__module__" 214 (z "ordernest.errors" 187), dk P "__qualname__" 216 (z "BadOrder" 215), dk P "__firstlineno__" 218 (i 4 217), dk P "__static_attributes__" 219 (r 35)] 4)
def o31 : Obj := kt []
def o32 : Obj := kj .none (.fields #[])
def o33 : Obj := kj (.type "code") (.fields #[(z "BadOrder" 209), (z "BadOrder" 210), (z "/claim/cut.py" 211), (i 4 0), (i 0 0), (i 0 0), (i 0 0), (i 0 0), (r 31), (.bool false), (i 181 0), (r 32), .none, .none, .none, .none, (i 212 0), (i 4 0), (z "/claim/cut.py" 213)])
def o34 : Obj := ⟨(.type "frame"), none, .plain, #[(some (r 33)), (some (r 3)), (some (r 30)), none, (some (z "ordernest.errors" 187)), none, (some (r 0))]⟩
def o35 : Obj := kt []
def o36 : Obj := kj (.type "dict") (.dict #[dk P "__module__" 214 (z "ordernest.errors" 187), dk P "__firstlineno__" 218 (i 4 217), dk P "__static_attributes__" 219 (r 35), dk P "__doc__" 220 .none] 2)
def o37 : Obj := ⟨(.type "type"), none, .cls { name := "BadOrder", bases := [(r 24)], mro := [(r 37), (r 24), (.type "ValueError"), (.type "Exception"), (.type "BaseException"), (.type "object")], ns := 36, qualname := "BadOrder", subclasses := [] }, #[(some (r 28)), none, (some (z "BadOrder" 207)), (some (z "BadOrder" 215)), (some (.builtin "ValueError.__new__")), (some (.bool true))]⟩
def o38 : Obj := kj (.type "super") (.fields #[(r 37), (r 37), (r 37)])
def o39 : Obj := kj (.type "builtin_function_or_method") (.fields #[(.builtin "object.__init_subclass__"), (r 37)])
def eo3v2 : List DictEntry := eo3v1 P ++ [dk P "BadBook" 238 (r 49)]
def o3v2 : Obj := kj (.type "dict") (.dict ⟨dk P "__name__" 165 (z "ordernest.errors" 187) :: eo3v2 P⟩ 12)
def o12v3 : Obj := kj .none (.fields #[(i 2 0), (i 0 0), (r 20), (i 4 0), (i 0 0), (r 33), (i 6 0), (i 0 0), (r 45)])
def o24v2 : Obj := ⟨(.type "type"), none, .cls { name := "NestError", bases := [(.type "ValueError")], mro := [(r 24), (.type "ValueError"), (.type "Exception"), (.type "BaseException"), (.type "object")], ns := 23, qualname := "NestError", subclasses := [(r 37), (r 49)] }, #[(some (r 15)), none, (some (z "NestError" 189)), (some (z "NestError" 197)), (some (.builtin "ValueError.__new__")), (some (.bool true))]⟩
def o42 : Obj := kj (.type "dict") (.dict #[dk P "__module__" 230 (z "ordernest.errors" 187), dk P "__qualname__" 232 (z "BadBook" 231), dk P "__firstlineno__" 234 (i 6 233), dk P "__static_attributes__" 235 (r 47)] 4)
def o45 : Obj := kj (.type "code") (.fields #[(z "BadBook" 225), (z "BadBook" 226), (z "/claim/cut.py" 227), (i 6 0), (i 0 0), (i 0 0), (i 0 0), (i 0 0), (r 43), (.bool false), (i 181 0), (r 44), .none, .none, .none, .none, (i 228 0), (i 6 0), (z "/claim/cut.py" 229)])
def o46 : Obj := ⟨(.type "frame"), none, .plain, #[(some (r 45)), (some (r 3)), (some (r 42)), none, (some (z "ordernest.errors" 187)), none, (some (r 0))]⟩
def o48 : Obj := kj (.type "dict") (.dict #[dk P "__module__" 230 (z "ordernest.errors" 187), dk P "__firstlineno__" 234 (i 6 233), dk P "__static_attributes__" 235 (r 47), dk P "__doc__" 236 .none] 2)
def o49 : Obj := ⟨(.type "type"), none, .cls { name := "BadBook", bases := [(r 24)], mro := [(r 49), (r 24), (.type "ValueError"), (.type "Exception"), (.type "BaseException"), (.type "object")], ns := 48, qualname := "BadBook", subclasses := [] }, #[(some (r 40)), none, (some (z "BadBook" 223)), (some (z "BadBook" 231)), (some (.builtin "ValueError.__new__")), (some (.bool true))]⟩
def o50 : Obj := kj (.type "super") (.fields #[(r 49), (r 49), (r 49)])
def o51 : Obj := kj (.type "builtin_function_or_method") (.fields #[(.builtin "object.__init_subclass__"), (r 49)])
def eo3v3 : List DictEntry := eo3v2 P ++ [dk P "Unlike" 254 (r 61)]
def o3v3 : Obj := kj (.type "dict") (.dict ⟨dk P "__name__" 165 (z "ordernest.errors" 187) :: eo3v3 P⟩ 13)
def o12v4 : Obj := kj .none (.fields #[(i 2 0), (i 0 0), (r 20), (i 4 0), (i 0 0), (r 33), (i 6 0), (i 0 0), (r 45), (i 8 0), (i 0 0), (r 57)])
def o24v3 : Obj := ⟨(.type "type"), none, .cls { name := "NestError", bases := [(.type "ValueError")], mro := [(r 24), (.type "ValueError"), (.type "Exception"), (.type "BaseException"), (.type "object")], ns := 23, qualname := "NestError", subclasses := [(r 37), (r 49), (r 61)] }, #[(some (r 15)), none, (some (z "NestError" 189)), (some (z "NestError" 197)), (some (.builtin "ValueError.__new__")), (some (.bool true))]⟩
def o54 : Obj := kj (.type "dict") (.dict #[dk P "__module__" 246 (z "ordernest.errors" 187), dk P "__qualname__" 248 (z "Unlike" 247), dk P "__firstlineno__" 250 (i 8 249), dk P "__static_attributes__" 251 (r 59)] 4)
def o57 : Obj := kj (.type "code") (.fields #[(z "Unlike" 241), (z "Unlike" 242), (z "/claim/cut.py" 243), (i 8 0), (i 0 0), (i 0 0), (i 0 0), (i 0 0), (r 55), (.bool false), (i 181 0), (r 56), .none, .none, .none, .none, (i 244 0), (i 8 0), (z "/claim/cut.py" 245)])
def o58 : Obj := ⟨(.type "frame"), none, .plain, #[(some (r 57)), (some (r 3)), (some (r 54)), none, (some (z "ordernest.errors" 187)), none, (some (r 0))]⟩
def o60 : Obj := kj (.type "dict") (.dict #[dk P "__module__" 246 (z "ordernest.errors" 187), dk P "__firstlineno__" 250 (i 8 249), dk P "__static_attributes__" 251 (r 59), dk P "__doc__" 252 .none] 2)
def o61 : Obj := ⟨(.type "type"), none, .cls { name := "Unlike", bases := [(r 24)], mro := [(r 61), (r 24), (.type "ValueError"), (.type "Exception"), (.type "BaseException"), (.type "object")], ns := 60, qualname := "Unlike", subclasses := [] }, #[(some (r 52)), none, (some (z "Unlike" 239)), (some (z "Unlike" 247)), (some (.builtin "ValueError.__new__")), (some (.bool true))]⟩
def o62 : Obj := kj (.type "super") (.fields #[(r 61), (r 61), (r 61)])
def o63 : Obj := kj (.type "builtin_function_or_method") (.fields #[(.builtin "object.__init_subclass__"), (r 61)])
def eo3v4 : List DictEntry := eo3v3 P ++ [dk P "BadRule" 270 (r 73)]
def o3v4 : Obj := kj (.type "dict") (.dict ⟨dk P "__name__" 165 (z "ordernest.errors" 187) :: eo3v4 P⟩ 14)
def o12v5 : Obj := kj .none (.fields #[(i 2 0), (i 0 0), (r 20), (i 4 0), (i 0 0), (r 33), (i 6 0), (i 0 0), (r 45), (i 8 0), (i 0 0), (r 57), (i 10 0), (i 0 0), (r 69)])
def o24v4 : Obj := ⟨(.type "type"), none, .cls { name := "NestError", bases := [(.type "ValueError")], mro := [(r 24), (.type "ValueError"), (.type "Exception"), (.type "BaseException"), (.type "object")], ns := 23, qualname := "NestError", subclasses := [(r 37), (r 49), (r 61), (r 73)] }, #[(some (r 15)), none, (some (z "NestError" 189)), (some (z "NestError" 197)), (some (.builtin "ValueError.__new__")), (some (.bool true))]⟩
def o66 : Obj := kj (.type "dict") (.dict #[dk P "__module__" 262 (z "ordernest.errors" 187), dk P "__qualname__" 264 (z "BadRule" 263), dk P "__firstlineno__" 266 (i 10 265), dk P "__static_attributes__" 267 (r 71)] 4)
def o69 : Obj := kj (.type "code") (.fields #[(z "BadRule" 257), (z "BadRule" 258), (z "/claim/cut.py" 259), (i 10 0), (i 0 0), (i 0 0), (i 0 0), (i 0 0), (r 67), (.bool false), (i 181 0), (r 68), .none, .none, .none, .none, (i 260 0), (i 10 0), (z "/claim/cut.py" 261)])
def o70 : Obj := ⟨(.type "frame"), none, .plain, #[(some (r 69)), (some (r 3)), (some (r 66)), none, (some (z "ordernest.errors" 187)), none, (some (r 0))]⟩
def o72 : Obj := kj (.type "dict") (.dict #[dk P "__module__" 262 (z "ordernest.errors" 187), dk P "__firstlineno__" 266 (i 10 265), dk P "__static_attributes__" 267 (r 71), dk P "__doc__" 268 .none] 2)
def o73 : Obj := ⟨(.type "type"), none, .cls { name := "BadRule", bases := [(r 24)], mro := [(r 73), (r 24), (.type "ValueError"), (.type "Exception"), (.type "BaseException"), (.type "object")], ns := 72, qualname := "BadRule", subclasses := [] }, #[(some (r 64)), none, (some (z "BadRule" 255)), (some (z "BadRule" 263)), (some (.builtin "ValueError.__new__")), (some (.bool true))]⟩
def o74 : Obj := kj (.type "super") (.fields #[(r 73), (r 73), (r 73)])
def o75 : Obj := kj (.type "builtin_function_or_method") (.fields #[(.builtin "object.__init_subclass__"), (r 73)])
def eo3v5 : List DictEntry := eo3v4 P ++ [dk P "BadNumber" 286 (r 85)]
def o3v5 : Obj := kj (.type "dict") (.dict ⟨dk P "__name__" 165 (z "ordernest.errors" 187) :: eo3v5 P⟩ 15)
def o12v6 : Obj := kj .none (.fields #[(i 2 0), (i 0 0), (r 20), (i 4 0), (i 0 0), (r 33), (i 6 0), (i 0 0), (r 45), (i 8 0), (i 0 0), (r 57), (i 10 0), (i 0 0), (r 69), (i 12 0), (i 0 0), (r 81)])
def o24v5 : Obj := ⟨(.type "type"), none, .cls { name := "NestError", bases := [(.type "ValueError")], mro := [(r 24), (.type "ValueError"), (.type "Exception"), (.type "BaseException"), (.type "object")], ns := 23, qualname := "NestError", subclasses := [(r 37), (r 49), (r 61), (r 73), (r 85)] }, #[(some (r 15)), none, (some (z "NestError" 189)), (some (z "NestError" 197)), (some (.builtin "ValueError.__new__")), (some (.bool true))]⟩
def o78 : Obj := kj (.type "dict") (.dict #[dk P "__module__" 278 (z "ordernest.errors" 187), dk P "__qualname__" 280 (z "BadNumber" 279), dk P "__firstlineno__" 282 (i 12 281), dk P "__static_attributes__" 283 (r 83)] 4)
def o81 : Obj := kj (.type "code") (.fields #[(z "BadNumber" 273), (z "BadNumber" 274), (z "/claim/cut.py" 275), (i 12 0), (i 0 0), (i 0 0), (i 0 0), (i 0 0), (r 79), (.bool false), (i 181 0), (r 80), .none, .none, .none, .none, (i 276 0), (i 12 0), (z "/claim/cut.py" 277)])
def o82 : Obj := ⟨(.type "frame"), none, .plain, #[(some (r 81)), (some (r 3)), (some (r 78)), none, (some (z "ordernest.errors" 187)), none, (some (r 0))]⟩
def o84 : Obj := kj (.type "dict") (.dict #[dk P "__module__" 278 (z "ordernest.errors" 187), dk P "__firstlineno__" 282 (i 12 281), dk P "__static_attributes__" 283 (r 83), dk P "__doc__" 284 .none] 2)
def o85 : Obj := ⟨(.type "type"), none, .cls { name := "BadNumber", bases := [(r 24)], mro := [(r 85), (r 24), (.type "ValueError"), (.type "Exception"), (.type "BaseException"), (.type "object")], ns := 84, qualname := "BadNumber", subclasses := [] }, #[(some (r 76)), none, (some (z "BadNumber" 271)), (some (z "BadNumber" 279)), (some (.builtin "ValueError.__new__")), (some (.bool true))]⟩
def o86 : Obj := kj (.type "super") (.fields #[(r 85), (r 85), (r 85)])
def o87 : Obj := kj (.type "builtin_function_or_method") (.fields #[(.builtin "object.__init_subclass__"), (r 85)])
def eo3v6 : List DictEntry := eo3v5 P ++ [dk P "BadWeights" 302 (r 97)]
def o3v6 : Obj := kj (.type "dict") (.dict ⟨dk P "__name__" 165 (z "ordernest.errors" 187) :: eo3v6 P⟩ 16)
def o12v7 : Obj := kj .none (.fields #[(i 2 0), (i 0 0), (r 20), (i 4 0), (i 0 0), (r 33), (i 6 0), (i 0 0), (r 45), (i 8 0), (i 0 0), (r 57), (i 10 0), (i 0 0), (r 69), (i 12 0), (i 0 0), (r 81), (i 14 0), (i 0 0), (r 93)])
def o24v6 : Obj := ⟨(.type "type"), none, .cls { name := "NestError", bases := [(.type "ValueError")], mro := [(r 24), (.type "ValueError"), (.type "Exception"), (.type "BaseException"), (.type "object")], ns := 23, qualname := "NestError", subclasses := [(r 37), (r 49), (r 61), (r 73), (r 85), (r 97)] }, #[(some (r 15)), none, (some (z "NestError" 189)), (some (z "NestError" 197)), (some (.builtin "ValueError.__new__")), (some (.bool true))]⟩
def o90 : Obj := kj (.type "dict") (.dict #[dk P "__module__" 294 (z "ordernest.errors" 187), dk P "__qualname__" 296 (z "BadWeights" 295), dk P "__firstlineno__" 298 (i 14 297), dk P "__static_attributes__" 299 (r 95)] 4)
def o93 : Obj := kj (.type "code") (.fields #[(z "BadWeights" 289), (z "BadWeights" 290), (z "/claim/cut.py" 291), (i 14 0), (i 0 0), (i 0 0), (i 0 0), (i 0 0), (r 91), (.bool false), (i 181 0), (r 92), .none, .none, .none, .none, (i 292 0), (i 14 0), (z "/claim/cut.py" 293)])
def o94 : Obj := ⟨(.type "frame"), none, .plain, #[(some (r 93)), (some (r 3)), (some (r 90)), none, (some (z "ordernest.errors" 187)), none, (some (r 0))]⟩
def o96 : Obj := kj (.type "dict") (.dict #[dk P "__module__" 294 (z "ordernest.errors" 187), dk P "__firstlineno__" 298 (i 14 297), dk P "__static_attributes__" 299 (r 95), dk P "__doc__" 300 .none] 2)
def o97 : Obj := ⟨(.type "type"), none, .cls { name := "BadWeights", bases := [(r 24)], mro := [(r 97), (r 24), (.type "ValueError"), (.type "Exception"), (.type "BaseException"), (.type "object")], ns := 96, qualname := "BadWeights", subclasses := [] }, #[(some (r 88)), none, (some (z "BadWeights" 287)), (some (z "BadWeights" 295)), (some (.builtin "ValueError.__new__")), (some (.bool true))]⟩
def o98 : Obj := kj (.type "super") (.fields #[(r 97), (r 97), (r 97)])
def o99 : Obj := kj (.type "builtin_function_or_method") (.fields #[(.builtin "object.__init_subclass__"), (r 97)])
def eo3v7 : List DictEntry := eo3v6 P ++ [dk P "BadText" 318 (r 109), dk P "MOST_THINGS" 322 (i 8 321), dk P "is_whole" 329 (r 118), dk P "is_count" 336 (r 125), dk P "look_count" 343 (r 132), dk P "look_order" 349 (r 137), dk P "NO_ROOM" 353 (i 0 352), dk P "END" 355 (i 1 354), dk P "LOWEST" 357 (i 2 356)]
def o3v7 : Obj := kj (.type "dict") (.dict ⟨dk P "__name__" 165 (z "ordernest.books" 350) :: eo3v7 P⟩ 25)
def o12v8 : Obj := kj .none (.fields #[(i 2 0), (i 0 0), (r 20), (i 4 0), (i 0 0), (r 33), (i 6 0), (i 0 0), (r 45), (i 8 0), (i 0 0), (r 57), (i 10 0), (i 0 0), (r 69), (i 12 0), (i 0 0), (r 81), (i 14 0), (i 0 0), (r 93), (i 16 0), (i 0 0), (r 105), (i 20 0), (i 0 0), (r 117), (i 22 0), (i 0 0), (r 124), (i 24 0), (i 0 0), (r 131), (i 27 0), (i 0 0), (r 136)])
def o24v7 : Obj := ⟨(.type "type"), none, .cls { name := "NestError", bases := [(.type "ValueError")], mro := [(r 24), (.type "ValueError"), (.type "Exception"), (.type "BaseException"), (.type "object")], ns := 23, qualname := "NestError", subclasses := [(r 37), (r 49), (r 61), (r 73), (r 85), (r 97), (r 109)] }, #[(some (r 15)), none, (some (z "NestError" 189)), (some (z "NestError" 197)), (some (.builtin "ValueError.__new__")), (some (.bool true))]⟩
def o102 : Obj := kj (.type "dict") (.dict #[dk P "__module__" 310 (z "ordernest.errors" 187), dk P "__qualname__" 312 (z "BadText" 311), dk P "__firstlineno__" 314 (i 16 313), dk P "__static_attributes__" 315 (r 107)] 4)
def o105 : Obj := kj (.type "code") (.fields #[(z "BadText" 305), (z "BadText" 306), (z "/claim/cut.py" 307), (i 16 0), (i 0 0), (i 0 0), (i 0 0), (i 0 0), (r 103), (.bool false), (i 181 0), (r 104), .none, .none, .none, .none, (i 308 0), (i 16 0), (z "/claim/cut.py" 309)])
def o106 : Obj := ⟨(.type "frame"), none, .plain, #[(some (r 105)), (some (r 3)), (some (r 102)), none, (some (z "ordernest.errors" 187)), none, (some (r 0))]⟩
def o108 : Obj := kj (.type "dict") (.dict #[dk P "__module__" 310 (z "ordernest.errors" 187), dk P "__firstlineno__" 314 (i 16 313), dk P "__static_attributes__" 315 (r 107), dk P "__doc__" 316 .none] 2)
def o109 : Obj := ⟨(.type "type"), none, .cls { name := "BadText", bases := [(r 24)], mro := [(r 109), (r 24), (.type "ValueError"), (.type "Exception"), (.type "BaseException"), (.type "object")], ns := 108, qualname := "BadText", subclasses := [] }, #[(some (r 100)), none, (some (z "BadText" 303)), (some (z "BadText" 311)), (some (.builtin "ValueError.__new__")), (some (.bool true))]⟩
def o110 : Obj := kj (.type "super") (.fields #[(r 109), (r 109), (r 109)])
def o111 : Obj := kj (.type "builtin_function_or_method") (.fields #[(.builtin "object.__init_subclass__"), (r 109)])
def o114 : Obj := kt [(z "value" 326)]
def o116 : Obj := kg .none "is_whole" "is_whole" s11 0 .none .none .none .none .none .none
def o117 : Obj := kc "is_whole" "is_whole" 323 324 325 20 1 3 112 113 114 115 116 327 20 328
def o118 : Obj := kf "is_whole" "is_whole" s11 .none .none (z "ordernest.orders" 319) (r 117) .none
def o121 : Obj := kt [(z "many" 333)]
def o123 : Obj := kg .none "is_count" "is_count" s12 0 .none .none .none .none .none .none
def o124 : Obj := kc "is_count" "is_count" 330 331 332 22 1 3 119 120 121 122 123 334 22 335
def o125 : Obj := kf "is_count" "is_count" s12 .none .none (z "ordernest.orders" 319) (r 124) .none
def o128 : Obj := kt [(z "many" 340)]
def o130 : Obj := kg .none "look_count" "look_count" s13 0 .none .none .none .none .none .none
def o131 : Obj := kc "look_count" "look_count" 337 338 339 24 1 3 126 127 128 129 130 341 24 342
def o132 : Obj := kf "look_count" "look_count" s13 .none .none (z "ordernest.orders" 319) (r 131) .none
def o135 : Obj := kg .none "look_order" "look_order" s14 0 .none .none .none .none .none .none
def o136 : Obj := kj (.type "code") (.fields #[(z "look_order" 344), (z "look_order" 345), (z "/claim/cut.py" 346), (i 27 0), (i 2 0), (i 0 0), (i 0 0), (i 3 0), (r 133), (.bool true), (i 181 0), (r 134), .none, .none, .none, (r 135), (i 347 0), (i 27 0), (z "/claim/cut.py" 348)])
def o137 : Obj := kf "look_order" "look_order" s14 .none .none (z "ordernest.orders" 319) (r 136) .none
def eo3v8 : List DictEntry := eo3v7 P ++ [dk P "Shelf" 394 (r 161), dk P "look_book" 405 (r 172), dk P "look_parts" 412 (r 179), dk P "things_from" 422 (r 186), dk P "look_doors" 433 (r 193)]
def o3v8 : Obj := kj (.type "dict") (.dict ⟨dk P "__name__" 165 (z "ordernest.books" 350) :: eo3v8 P⟩ 30)
def o12v9 : Obj := kj .none (.fields #[(i 2 0), (i 0 0), (r 20), (i 4 0), (i 0 0), (r 33), (i 6 0), (i 0 0), (r 45), (i 8 0), (i 0 0), (r 57), (i 10 0), (i 0 0), (r 69), (i 12 0), (i 0 0), (r 81), (i 14 0), (i 0 0), (r 93), (i 16 0), (i 0 0), (r 105), (i 20 0), (i 0 0), (r 117), (i 22 0), (i 0 0), (r 124), (i 24 0), (i 0 0), (r 131), (i 27 0), (i 0 0), (r 136), (i 39 0), (i 0 0), (r 143), (i 50 0), (i 0 0), (r 171), (i 58 0), (i 0 0), (r 178), (i 67 0), (i 0 0), (r 185), (i 73 0), (i 0 0), (r 192)])
def o140 : Obj := kj (.type "dict") (.dict #[dk P "__module__" 365 (z "ordernest.books" 350), dk P "__qualname__" 367 (z "Shelf" 366), dk P "__firstlineno__" 369 (i 39 368), dk P "__init__" 376 (r 151), dk P "keep" 384 (r 158), dk P "__static_attributes__" 387 (r 159)] 6)
def o142 : Obj := kj .none (.fields #[(i 41 0), (i 4 0), (r 150), (i 45 0), (i 4 0), (r 157)])
def o143 : Obj := kj (.type "code") (.fields #[(z "Shelf" 360), (z "Shelf" 361), (z "/claim/cut.py" 362), (i 39 0), (i 0 0), (i 0 0), (i 0 0), (i 0 0), (r 141), (.bool false), (i 181 0), (r 142), .none, .none, .none, .none, (i 363 0), (i 39 0), (z "/claim/cut.py" 364)])
def o144 : Obj := ⟨(.type "frame"), none, .plain, #[(some (r 143)), (some (r 3)), (some (r 140)), none, (some (z "ordernest.books" 350)), none, (some (r 0))]⟩
def o147 : Obj := kt [(z "self" 373)]
def o149 : Obj := kg .none "__init__" "Shelf.__init__" (cbody s19 0) 0 .none .none .none .none .none .none
def o150 : Obj := kc "__init__" "Shelf.__init__" 370 371 372 41 1 3 145 146 147 148 149 374 41 375
def o151 : Obj := kf "__init__" "Shelf.__init__" (cbody s19 0) .none .none (z "ordernest.books" 350) (r 150) .none
def o154 : Obj := kt [(z "self" 380), (z "room" 381)]
def o156 : Obj := kg .none "keep" "Shelf.keep" (cbody s19 1) 0 .none .none .none .none .none .none
def o157 : Obj := kc "keep" "Shelf.keep" 377 378 379 45 2 3 152 153 154 155 156 382 45 383
def o158 : Obj := kf "keep" "Shelf.keep" (cbody s19 1) .none .none (z "ordernest.books" 350) (r 157) .none
def o159 : Obj := kt [(z "numbers" 385), (z "rooms" 386)]
def o160 : Obj := kj (.type "dict") (.dict #[dk P "__module__" 365 (z "ordernest.books" 350), dk P "__firstlineno__" 369 (i 39 368), dk P "__init__" 376 (r 151), dk P "keep" 384 (r 158), dk P "__static_attributes__" 387 (r 159), dk P "__dict__" 389 (r 162), dk P "__weakref__" 391 (r 163), dk P "__doc__" 392 .none] 4)
def o161 : Obj := ⟨(.type "type"), none, .cls { name := "Shelf", bases := [(.type "object")], mro := [(r 161), (.type "object")], ns := 160, qualname := "Shelf", subclasses := [] }, #[none, none, (some (z "Shelf" 358)), (some (z "Shelf" 366)), (some (.builtin "object.__new__")), (some (.bool true))]⟩
def o162 : Obj := kj (.type "getset_descriptor") (.fields #[(z "__dict__" 388), (r 161), (.builtin "function.__dict__"), (.builtin "function.__dict__#set")])
def o163 : Obj := kj (.type "getset_descriptor") (.fields #[(z "__weakref__" 390), (r 161), (.builtin "ExceptionGroup.__weakref__"), .none])
def o164 : Obj := kj (.type "super") (.fields #[(r 161), (r 161), (r 161)])
def o165 : Obj := kj (.type "builtin_function_or_method") (.fields #[(.builtin "object.__init_subclass__"), (r 161)])
def o168 : Obj := kt [(z "book" 398), (z "many" 399), (z "rooms" 400), (z "first" 401), (z "things" 402)]
def o170 : Obj := kg .none "look_book" "look_book" s20 0 .none .none .none .none .none .none
def o171 : Obj := kc "look_book" "look_book" 395 396 397 50 1 3 166 167 168 169 170 403 50 404
def o172 : Obj := kf "look_book" "look_book" s20 .none .none (z "ordernest.books" 350) (r 171) .none
def o175 : Obj := kt [(z "book" 409)]
def o177 : Obj := kg .none "look_parts" "look_parts" s21 0 .none .none .none .none .none .none
def o178 : Obj := kc "look_parts" "look_parts" 406 407 408 58 1 3 173 174 175 176 177 410 58 411
def o179 : Obj := kf "look_parts" "look_parts" s21 .none .none (z "ordernest.books" 350) (r 178) .none
def o182 : Obj := kt [(z "many" 416), (z "rooms" 417), (z "things" 418), (z "room" 419)]
def o184 : Obj := kg .none "things_from" "things_from" s22 0 .none .none .none .none .none .none
def o185 : Obj := kc "things_from" "things_from" 413 414 415 67 2 3 180 181 182 183 184 420 67 421
def o186 : Obj := kf "things_from" "things_from" s22 .none .none (z "ordernest.books" 350) (r 185) .none
def o189 : Obj := kt [(z "many" 426), (z "room" 427), (z "number" 428), (z "last" 429), (z "door" 430)]
def o191 : Obj := kg .none "look_doors" "look_doors" s23 0 .none .none .none .none .none .none
def o192 : Obj := kc "look_doors" "look_doors" 423 424 425 73 3 3 187 188 189 190 191 431 73 432
def o193 : Obj := kf "look_doors" "look_doors" s23 .none .none (z "ordernest.books" 350) (r 192) .none
def eo3v9 : List DictEntry := eo3v8 P ++ [dk P "is_door" 440 (r 200), dk P "things_of_room" 446 (r 205), dk P "things_through" 456 (r 212), dk P "look_first" 465 (r 219), dk P "look_turn" 474 (r 226), dk P "walk_rooms" 484 (r 233), dk P "book_of" 495 (r 240), dk P "shelve" 501 (r 245), dk P "behind_door" 510 (r 252), dk P "how_many" 519 (r 259), dk P "rows_from" 525 (r 264), dk P "order_at" 539 (r 271), dk P "door_behind" 545 (r 276)]
def o3v9 : Obj := kj (.type "dict") (.dict ⟨dk P "__name__" 165 (z "ordernest.numbers" 511) :: eo3v9 P⟩ 43)
def o12v10 : Obj := kj .none (.fields #[(i 2 0), (i 0 0), (r 20), (i 4 0), (i 0 0), (r 33), (i 6 0), (i 0 0), (r 45), (i 8 0), (i 0 0), (r 57), (i 10 0), (i 0 0), (r 69), (i 12 0), (i 0 0), (r 81), (i 14 0), (i 0 0), (r 93), (i 16 0), (i 0 0), (r 105), (i 20 0), (i 0 0), (r 117), (i 22 0), (i 0 0), (r 124), (i 24 0), (i 0 0), (r 131), (i 27 0), (i 0 0), (r 136), (i 39 0), (i 0 0), (r 143), (i 50 0), (i 0 0), (r 171), (i 58 0), (i 0 0), (r 178), (i 67 0), (i 0 0), (r 185), (i 73 0), (i 0 0), (r 192), (i 85 0), (i 0 0), (r 199), (i 87 0), (i 0 0), (r 204), (i 92 0), (i 0 0), (r 211), (i 98 0), (i 0 0), (r 218), (i 105 0), (i 0 0), (r 225), (i 112 0), (i 0 0), (r 232), (i 118 0), (i 0 0), (r 239), (i 127 0), (i 0 0), (r 244), (i 135 0), (i 0 0), (r 251), (i 141 0), (i 0 0), (r 258), (i 144 0), (i 0 0), (r 263), (i 149 0), (i 0 0), (r 270), (i 164 0), (i 0 0), (r 275)])
def o196 : Obj := kt [(z "door" 437)]
def o198 : Obj := kg .none "is_door" "is_door" s24 0 .none .none .none .none .none .none
def o199 : Obj := kc "is_door" "is_door" 434 435 436 85 1 3 194 195 196 197 198 438 85 439
def o200 : Obj := kf "is_door" "is_door" s24 .none .none (z "ordernest.books" 350) (r 199) .none
def o203 : Obj := kg .none "things_of_room" "things_of_room" s25 0 .none .none .none .none .none .none
def o204 : Obj := kj (.type "code") (.fields #[(z "things_of_room" 441), (z "things_of_room" 442), (z "/claim/cut.py" 443), (i 87 0), (i 2 0), (i 0 0), (i 0 0), (i 3 0), (r 201), (.bool true), (i 181 0), (r 202), .none, .none, .none, (r 203), (i 444 0), (i 87 0), (z "/claim/cut.py" 445)])
def o205 : Obj := kf "things_of_room" "things_of_room" s25 .none .none (z "ordernest.books" 350) (r 204) .none
def o208 : Obj := kt [(z "door" 450), (z "things" 451), (z "thing" 452), (z "later" 453)]
def o210 : Obj := kg .none "things_through" "things_through" s26 0 .none .none .none .none .none .none
def o211 : Obj := kc "things_through" "things_through" 447 448 449 92 2 3 206 207 208 209 210 454 92 455
def o212 : Obj := kf "things_through" "things_through" s26 .none .none (z "ordernest.books" 350) (r 211) .none
def o215 : Obj := kt [(z "many" 460), (z "things" 461), (z "first" 462)]
def o217 : Obj := kg .none "look_first" "look_first" s27 0 .none .none .none .none .none .none
def o218 : Obj := kc "look_first" "look_first" 457 458 459 98 3 3 213 214 215 216 217 463 98 464
def o219 : Obj := kf "look_first" "look_first" s27 .none .none (z "ordernest.books" 350) (r 218) .none
def o222 : Obj := kt [(z "rooms" 469), (z "first" 470), (z "walked" 471)]
def o224 : Obj := kg .none "look_turn" "look_turn" s28 0 .none .none .none .none .none .none
def o225 : Obj := kc "look_turn" "look_turn" 466 467 468 105 2 3 220 221 222 223 224 472 105 473
def o226 : Obj := kf "look_turn" "look_turn" s28 .none .none (z "ordernest.books" 350) (r 225) .none
def o229 : Obj := kt [(z "rooms" 478), (z "number" 479), (z "walked" 480), (z "door" 481)]
def o231 : Obj := kg .none "walk_rooms" "walk_rooms" s29 0 .none .none .none .none .none .none
def o232 : Obj := kc "walk_rooms" "walk_rooms" 475 476 477 112 3 3 227 228 229 230 231 482 112 483
def o233 : Obj := kf "walk_rooms" "walk_rooms" s29 .none .none (z "ordernest.books" 350) (r 232) .none
def o236 : Obj := kt [(z "many" 488), (z "orders" 489), (z "order" 490), (z "shelf" 491), (z "first" 492)]
def o238 : Obj := kg .none "book_of" "book_of" s30 0 .none .none .none .none .none .none
def o239 : Obj := kc "book_of" "book_of" 485 486 487 118 2 3 234 235 236 237 238 493 118 494
def o240 : Obj := kf "book_of" "book_of" s30 .none .none (z "ordernest.books" 350) (r 239) .none
def o243 : Obj := kg .none "shelve" "shelve" s31 0 .none .none .none .none .none .none
def o244 : Obj := kj (.type "code") (.fields #[(z "shelve" 496), (z "shelve" 497), (z "/claim/cut.py" 498), (i 127 0), (i 3 0), (i 0 0), (i 0 0), (i 3 0), (r 241), (.bool true), (i 181 0), (r 242), .none, .none, .none, (r 243), (i 499 0), (i 127 0), (z "/claim/cut.py" 500)])
def o245 : Obj := kf "shelve" "shelve" s31 .none .none (z "ordernest.books" 350) (r 244) .none
def o248 : Obj := kt [(z "room" 505), (z "thing" 506), (z "door" 507)]
def o250 : Obj := kg .none "behind_door" "behind_door" s32 0 .none .none .none .none .none .none
def o251 : Obj := kc "behind_door" "behind_door" 502 503 504 135 2 3 246 247 248 249 250 508 135 509
def o252 : Obj := kf "behind_door" "behind_door" s32 .none .none (z "ordernest.books" 350) (r 251) .none
def o255 : Obj := kt [(z "book" 516)]
def o257 : Obj := kg .none "how_many" "how_many" s34 0 .none .none .none .none .none .none
def o258 : Obj := kc "how_many" "how_many" 513 514 515 141 1 3 253 254 255 256 257 517 141 518
def o259 : Obj := kf "how_many" "how_many" s34 .none .none (z "ordernest.numbers" 511) (r 258) .none
def o262 : Obj := kg .none "rows_from" "rows_from" s35 0 .none .none .none .none .none .none
def o263 : Obj := kj (.type "code") (.fields #[(z "rows_from" 520), (z "rows_from" 521), (z "/claim/cut.py" 522), (i 144 0), (i 1 0), (i 0 0), (i 0 0), (i 3 0), (r 260), (.bool true), (i 181 0), (r 261), .none, .none, .none, (r 262), (i 523 0), (i 144 0), (z "/claim/cut.py" 524)])
def o264 : Obj := kf "rows_from" "rows_from" s35 .none .none (z "ordernest.numbers" 511) (r 263) .none
def o267 : Obj := kt [(z "book" 529), (z "number" 530), (z "counts" 531), (z "things" 532), (z "skipped" 533), (z "came" 534), (z "room" 535), (z "door" 536)]
def o269 : Obj := kg .none "order_at" "order_at" s36 0 .none .none .none .none .none .none
def o270 : Obj := kc "order_at" "order_at" 526 527 528 149 2 3 265 266 267 268 269 537 149 538
def o271 : Obj := kf "order_at" "order_at" s36 .none .none (z "ordernest.numbers" 511) (r 270) .none
def o274 : Obj := kg .none "door_behind" "door_behind" s37 0 .none .none .none .none .none .none
def o275 : Obj := kj (.type "code") (.fields #[(z "door_behind" 540), (z "door_behind" 541), (z "/claim/cut.py" 542), (i 164 0), (i 3 0), (i 0 0), (i 0 0), (i 3 0), (r 272), (.bool true), (i 181 0), (r 273), .none, .none, .none, (r 274), (i 543 0), (i 164 0), (z "/claim/cut.py" 544)])
def o276 : Obj := kf "door_behind" "door_behind" s37 .none .none (z "ordernest.numbers" 511) (r 275) .none
def eo3v10 : List DictEntry := eo3v9 P ++ [dk P "rows_less" 551 (r 281), dk P "number_of" 564 (r 288), dk P "_law_cell" 574 (r 295), dk P "_law_mix" 583 (r 302), dk P "_law_whole" 590 (r 309), dk P "_law_all" 596 (r 314), dk P "_law_set" 602 (r 319), dk P "_law_refusal" 610 (r 326), dk P "_law_at" 621 (r 333), dk P "_law_number" 632 (r 340), dk P "law" 638 (r 345)]
def o3v10 : Obj := kj (.type "dict") (.dict ⟨dk P "__name__" 165 (z "law_ordernest_k20_whole_numbers" 565) :: eo3v10 P⟩ 54)
def o12v11 : Obj := kj .none (.fields #[(i 2 0), (i 0 0), (r 20), (i 4 0), (i 0 0), (r 33), (i 6 0), (i 0 0), (r 45), (i 8 0), (i 0 0), (r 57), (i 10 0), (i 0 0), (r 69), (i 12 0), (i 0 0), (r 81), (i 14 0), (i 0 0), (r 93), (i 16 0), (i 0 0), (r 105), (i 20 0), (i 0 0), (r 117), (i 22 0), (i 0 0), (r 124), (i 24 0), (i 0 0), (r 131), (i 27 0), (i 0 0), (r 136), (i 39 0), (i 0 0), (r 143), (i 50 0), (i 0 0), (r 171), (i 58 0), (i 0 0), (r 178), (i 67 0), (i 0 0), (r 185), (i 73 0), (i 0 0), (r 192), (i 85 0), (i 0 0), (r 199), (i 87 0), (i 0 0), (r 204), (i 92 0), (i 0 0), (r 211), (i 98 0), (i 0 0), (r 218), (i 105 0), (i 0 0), (r 225), (i 112 0), (i 0 0), (r 232), (i 118 0), (i 0 0), (r 239), (i 127 0), (i 0 0), (r 244), (i 135 0), (i 0 0), (r 251), (i 141 0), (i 0 0), (r 258), (i 144 0), (i 0 0), (r 263), (i 149 0), (i 0 0), (r 270), (i 164 0), (i 0 0), (r 275), (i 166 0), (i 0 0), (r 280), (i 168 0), (i 0 0), (r 287), (i 182 0), (i 0 0), (r 294), (i 186 0), (i 0 0), (r 301), (i 190 0), (i 0 0), (r 308), (i 192 0), (i 0 0), (r 313), (i 200 0), (i 0 0), (r 318), (i 210 0), (i 0 0), (r 325), (i 219 0), (i 0 0), (r 332), (i 227 0), (i 0 0), (r 339), (i 235 0), (i 0 0), (r 344)])
def o279 : Obj := kg .none "rows_less" "rows_less" s38 0 .none .none .none .none .none .none
def o280 : Obj := kj (.type "code") (.fields #[(z "rows_less" 546), (z "rows_less" 547), (z "/claim/cut.py" 548), (i 166 0), (i 3 0), (i 0 0), (i 0 0), (i 3 0), (r 277), (.bool true), (i 181 0), (r 278), .none, .none, .none, (r 279), (i 549 0), (i 166 0), (z "/claim/cut.py" 550)])
def o281 : Obj := kf "rows_less" "rows_less" s38 .none .none (z "ordernest.numbers" 511) (r 280) .none
def o284 : Obj := kt [(z "book" 555), (z "order" 556), (z "counts" 557), (z "less" 558), (z "came" 559), (z "thing" 560), (z "room" 561)]
def o286 : Obj := kg .none "number_of" "number_of" s39 0 .none .none .none .none .none .none
def o287 : Obj := kc "number_of" "number_of" 552 553 554 168 2 3 282 283 284 285 286 562 168 563
def o288 : Obj := kf "number_of" "number_of" s39 .none .none (z "ordernest.numbers" 511) (r 287) .none
def o291 : Obj := kt [(z "_law_script" 570), (z "_law_k" 571)]
def o293 : Obj := kg .none "_law_cell" "_law_cell" s41 0 .none .none .none .none .none .none
def o294 : Obj := kc "_law_cell" "_law_cell" 567 568 569 182 2 3 289 290 291 292 293 572 182 573
def o295 : Obj := kf "_law_cell" "_law_cell" s41 .none .none (z "law_ordernest_k20_whole_numbers" 565) (r 294) .none
def o298 : Obj := kt [(z "_law_script" 578), (z "_law_k" 579), (z "_law_number_here" 580)]
def o300 : Obj := kg .none "_law_mix" "_law_mix" s42 0 .none .none .none .none .none .none
def o301 : Obj := kc "_law_mix" "_law_mix" 575 576 577 186 2 3 296 297 298 299 300 581 186 582
def o302 : Obj := kf "_law_mix" "_law_mix" s42 .none .none (z "law_ordernest_k20_whole_numbers" 565) (r 301) .none
def o303 : Obj := kt []
def o304 : Obj := kj .none (.fields #[])
def o305 : Obj := kt [(z "_law_found" 587)]
def o306 : Obj := kt []
def o307 : Obj := kg .none "_law_whole" "_law_whole" s43 0 .none .none .none .none .none .none
def o308 : Obj := kc "_law_whole" "_law_whole" 584 585 586 190 1 3 303 304 305 306 307 588 190 589
def o309 : Obj := kf "_law_whole" "_law_whole" s43 .none .none (z "law_ordernest_k20_whole_numbers" 565) (r 308) .none
def o310 : Obj := kt []
def o311 : Obj := kj .none (.fields #[])
def o312 : Obj := kg .none "_law_all" "_law_all" s44 0 .none .none .none .none .none .none
def o313 : Obj := kj (.type "code") (.fields #[(z "_law_all" 591), (z "_law_all" 592), (z "/claim/cut.py" 593), (i 192 0), (i 1 0), (i 0 0), (i 0 0), (i 3 0), (r 310), (.bool true), (i 181 0), (r 311), .none, .none, .none, (r 312), (i 594 0), (i 192 0), (z "/claim/cut.py" 595)])
def o314 : Obj := kf "_law_all" "_law_all" s44 .none .none (z "law_ordernest_k20_whole_numbers" 565) (r 313) .none
def o315 : Obj := kt []
def o316 : Obj := kj .none (.fields #[])
def o317 : Obj := kg .none "_law_set" "_law_set" s45 0 .none .none .none .none .none .none
def o318 : Obj := kj (.type "code") (.fields #[(z "_law_set" 597), (z "_law_set" 598), (z "/claim/cut.py" 599), (i 200 0), (i 3 0), (i 0 0), (i 0 0), (i 3 0), (r 315), (.bool true), (i 181 0), (r 316), .none, .none, .none, (r 317), (i 600 0), (i 200 0), (z "/claim/cut.py" 601)])
def o319 : Obj := kf "_law_set" "_law_set" s45 .none .none (z "law_ordernest_k20_whole_numbers" 565) (r 318) .none
def o320 : Obj := kt []
def o321 : Obj := kj .none (.fields #[])
def o322 : Obj := kt [(z "_law_kept" 606), (z "_law_kinds" 607)]
def o323 : Obj := kt []
def o324 : Obj := kg .none "_law_refusal" "_law_refusal" s46 0 .none .none .none .none .none .none
def o325 : Obj := kc "_law_refusal" "_law_refusal" 603 604 605 210 1 3 320 321 322 323 324 608 210 609
def o326 : Obj := kf "_law_refusal" "_law_refusal" s46 .none .none (z "law_ordernest_k20_whole_numbers" 565) (r 325) .none
def o327 : Obj := kt []
def o328 : Obj := kj .none (.fields #[])
def o329 : Obj := kt [(z "_law_book" 614), (z "_law_number_here" 615), (z "_law_kept" 616), (z "_law_found" 617), (z "e" 618)]
def o330 : Obj := kt []
def o331 : Obj := kg .none "_law_at" "_law_at" s47 0 .none .none .none .none .none .none
def o332 : Obj := kc "_law_at" "_law_at" 611 612 613 219 2 3 327 328 329 330 331 619 219 620
def o333 : Obj := kf "_law_at" "_law_at" s47 .none .none (z "law_ordernest_k20_whole_numbers" 565) (r 332) .none
def o334 : Obj := kt []
def o335 : Obj := kj .none (.fields #[])
def o336 : Obj := kt [(z "_law_book" 625), (z "_law_order" 626), (z "_law_kept" 627), (z "_law_found" 628), (z "e" 629)]
def o337 : Obj := kt []
def o338 : Obj := kg .none "_law_number" "_law_number" s48 0 .none .none .none .none .none .none
def o339 : Obj := kc "_law_number" "_law_number" 622 623 624 227 2 3 334 335 336 337 338 630 227 631
def o340 : Obj := kf "_law_number" "_law_number" s48 .none .none (z "law_ordernest_k20_whole_numbers" 565) (r 339) .none
def o341 : Obj := kt []
def o342 : Obj := kj .none (.fields #[])
def o343 : Obj := kg .none "law" "law" s49 0 .none .none .none .none .none .none
def o344 : Obj := kj (.type "code") (.fields #[(z "law" 633), (z "law" 634), (z "/claim/cut.py" 635), (i 235 0), (i 1 0), (i 0 0), (i 0 0), (i 3 0), (r 341), (.bool true), (i 181 0), (r 342), .none, .none, .none, (r 343), (i 636 0), (i 235 0), (z "/claim/cut.py" 637)])
def o345 : Obj := kf "law" "law" s49 .none .none (z "law_ordernest_k20_whole_numbers" 565) (r 344) .none
def ev : List Obj → List Obj
  | x :: _ :: r => x :: ev r
  | l => l
def od : List Obj → List Obj
  | _ :: y :: r => y :: od r
  | _ => []
def tr : Nat → List Obj → BT
  | n + 1, x :: r => .node x (tr n (ev r)) (tr n (od r))
  | _, _ => .nil
def L_pre (x3 x12 x24 : Obj) : List Obj := [boot_o_0 P, boot_o_1 P, boot_o_2 P, x3, boot_o_4 P, boot_o_5 P, boot_o_6 P, boot_o_7 P, boot_o_8 P, boot_o_9 P, boot_o_10 P, o11, x12, o13, o14]
abbrev L_block := L_pre
def L_g0 (x3 x12 x24 : Obj) : List Obj := L_pre P x3 x12 x24 ++ [o15, o16, o17 P, o11, o12, o20, o21, o11, o23 P, x24, o25, o26, o27]
def L_g1 (x3 x12 x24 : Obj) : List Obj := L_g0 P x3 x12 x24 ++ [o28, o16, o30 P, o31, o32, o33, o34, o35, o36 P, o37, o38, o39]
def L_g2 (x3 x12 x24 : Obj) : List Obj := L_g1 P x3 x12 x24 ++ [o28, o16, o42 P, o35, o32, o45, o46, o35, o48 P, o49, o50, o51]
def L_g3 (x3 x12 x24 : Obj) : List Obj := L_g2 P x3 x12 x24 ++ [o28, o16, o54 P, o35, o32, o57, o58, o35, o60 P, o61, o62, o63]
def L_g4 (x3 x12 x24 : Obj) : List Obj := L_g3 P x3 x12 x24 ++ [o28, o16, o66 P, o35, o32, o69, o70, o35, o72 P, o73, o74, o75]
def L_g5 (x3 x12 x24 : Obj) : List Obj := L_g4 P x3 x12 x24 ++ [o28, o16, o78 P, o35, o32, o81, o82, o35, o84 P, o85, o86, o87]
def L_g6 (x3 x12 x24 : Obj) : List Obj := L_g5 P x3 x12 x24 ++ [o28, o16, o90 P, o35, o32, o93, o94, o35, o96 P, o97, o98, o99]
def L_g7 (x3 x12 x24 : Obj) : List Obj := L_g6 P x3 x12 x24 ++ [o28, o16, o102 P, o35, o32, o105, o106, o35, o108 P, o109, o110, o111, o35, o32, o114, o35, o116, o117, o118, o35, o32, o121, o35, o123, o124, o125, o35, o32, o128, o35, o130, o131, o132, o35, o32, o135, o136, o137]
def L_g8 (x3 x12 x24 : Obj) : List Obj := L_g7 P x3 x12 x24 ++ [o35, o16, o140 P, o35, o142, o143, o144, o35, o32, o147, o35, o149, o150, o151, o35, o32, o154, o35, o156, o157, o158, o159, o160 P, o161, o162, o163, o164, o165, o35, o32, o168, o35, o170, o171, o172, o35, o32, o175, o35, o177, o178, o179, o35, o32, o182, o35, o184, o185, o186, o35, o32, o189, o35, o191, o192, o193]
def L_g9 (x3 x12 x24 : Obj) : List Obj := L_g8 P x3 x12 x24 ++ [o35, o32, o196, o35, o198, o199, o200, o35, o32, o203, o204, o205, o35, o32, o208, o35, o210, o211, o212, o35, o32, o215, o35, o217, o218, o219, o35, o32, o222, o35, o224, o225, o226, o35, o32, o229, o35, o231, o232, o233, o35, o32, o236, o35, o238, o239, o240, o35, o32, o243, o244, o245, o35, o32, o248, o35, o250, o251, o252, o35, o32, o255, o35, o257, o258, o259, o35, o32, o262, o263, o264, o35, o32, o267, o35, o269, o270, o271, o35, o32, o274, o275, o276]
def L_g10 (x3 x12 x24 : Obj) : List Obj := L_g9 P x3 x12 x24 ++ [o35, o32, o279, o280, o281, o35, o32, o284, o35, o286, o287, o288, o35, o32, o291, o35, o293, o294, o295, o35, o32, o298, o35, o300, o301, o302, o303, o304, o305, o306, o307, o308, o309, o310, o311, o312, o313, o314, o315, o316, o317, o318, o319, o320, o321, o322, o323, o324, o325, o326, o327, o328, o329, o330, o331, o332, o333, o334, o335, o336, o337, o338, o339, o340, o341, o342, o343, o344, o345]
def t_block : BT := tr 10 (L_block P (boot_o_3 P) (o12) (o14))
def t_g0 : BT := tr 10 (L_g0 P (o3 P) (o12v1) (o24))
def t_g1 : BT := tr 10 (L_g1 P (o3v1 P) (o12v2) (o24v1))
def t_g2 : BT := tr 10 (L_g2 P (o3v2 P) (o12v3) (o24v2))
def t_g3 : BT := tr 10 (L_g3 P (o3v3 P) (o12v4) (o24v3))
def t_g4 : BT := tr 10 (L_g4 P (o3v4 P) (o12v5) (o24v4))
def t_g5 : BT := tr 10 (L_g5 P (o3v5 P) (o12v6) (o24v5))
def t_g6 : BT := tr 10 (L_g6 P (o3v6 P) (o12v7) (o24v6))
def t_g7 : BT := tr 10 (L_g7 P (o3v7 P) (o12v8) (o24v7))
def t_g8 : BT := tr 10 (L_g8 P (o3v8 P) (o12v9) (o24v7))
def t_g9 : BT := tr 10 (L_g9 P (o3v9 P) (o12v10) (o24v7))
def t_g10 : BT := tr 10 (L_g10 P (o3v10 P) (o12v11) (o24v7))
def hA : Heap := ⟨⟨L_pre P (boot_o_3 P) (o12) (o14)⟩, {}⟩
def hF : Heap := ⟨⟨L_g10 P (o3v10 P) (o12v11) (o24v7)⟩, {}⟩
def K : Frag := (nat_lit 2, boot_o_2 P) :: (nat_lit 3, o3v10 P) :: (nat_lit 23, o23 P) :: (nat_lit 24, o24v7) :: (nat_lit 36, o36 P) :: (nat_lit 37, o37) :: (nat_lit 48, o48 P) :: (nat_lit 49, o49) :: (nat_lit 60, o60 P) :: (nat_lit 61, o61) :: (nat_lit 72, o72 P) :: (nat_lit 73, o73) :: (nat_lit 84, o84 P) :: (nat_lit 85, o85) :: (nat_lit 96, o96 P) :: (nat_lit 97, o97) :: (nat_lit 108, o108 P) :: (nat_lit 109, o109) :: (nat_lit 117, o117) :: (nat_lit 118, o118) :: (nat_lit 124, o124) :: (nat_lit 125, o125) :: (nat_lit 131, o131) :: (nat_lit 132, o132) :: (nat_lit 136, o136) :: (nat_lit 137, o137) :: (nat_lit 150, o150) :: (nat_lit 151, o151) :: (nat_lit 157, o157) :: (nat_lit 158, o158) :: (nat_lit 160, o160 P) :: (nat_lit 161, o161) :: (nat_lit 171, o171) :: (nat_lit 172, o172) :: (nat_lit 178, o178) :: (nat_lit 179, o179) :: (nat_lit 185, o185) :: (nat_lit 186, o186) :: (nat_lit 192, o192) :: (nat_lit 193, o193) :: (nat_lit 199, o199) :: (nat_lit 200, o200) :: (nat_lit 204, o204) :: (nat_lit 205, o205) :: (nat_lit 211, o211) :: (nat_lit 212, o212) :: (nat_lit 218, o218) :: (nat_lit 219, o219) :: (nat_lit 225, o225) :: (nat_lit 226, o226) :: (nat_lit 232, o232) :: (nat_lit 233, o233) :: (nat_lit 239, o239) :: (nat_lit 240, o240) :: (nat_lit 244, o244) :: (nat_lit 245, o245) :: (nat_lit 251, o251) :: (nat_lit 252, o252) :: (nat_lit 258, o258) :: (nat_lit 259, o259) :: (nat_lit 263, o263) :: (nat_lit 264, o264) :: (nat_lit 270, o270) :: (nat_lit 271, o271) :: (nat_lit 275, o275) :: (nat_lit 276, o276) :: (nat_lit 280, o280) :: (nat_lit 281, o281) :: (nat_lit 287, o287) :: (nat_lit 288, o288) :: (nat_lit 294, o294) :: (nat_lit 295, o295) :: (nat_lit 301, o301) :: (nat_lit 302, o302) :: (nat_lit 308, o308) :: (nat_lit 309, o309) :: (nat_lit 313, o313) :: (nat_lit 314, o314) :: (nat_lit 318, o318) :: (nat_lit 319, o319) :: (nat_lit 325, o325) :: (nat_lit 326, o326) :: (nat_lit 332, o332) :: (nat_lit 333, o333) :: (nat_lit 339, o339) :: (nat_lit 340, o340) :: (nat_lit 344, o344) :: (nat_lit 345, o345) :: []
def as_ : List Addr := [2, 3, 23, 24, 36, 37, 48, 49, 60, 61, 72, 73, 84, 85, 96, 97, 108, 109, 117, 118, 124, 125, 131, 132, 136, 137, 150, 151, 157, 158, 160, 161, 171, 172, 178, 179, 185, 186, 192, 193, 199, 200, 204, 205, 211, 212, 218, 219, 225, 226, 232, 233, 239, 240, 244, 245, 251, 252, 258, 259, 263, 264, 270, 271, 275, 276, 280, 281, 287, 288, 294, 295, 301, 302, 308, 309, 313, 314, 318, 319, 325, 326, 332, 333, 339, 340, 344, 345]
def B : List Frame := [topFrame ⟨0, 0, 0, 0⟩]
def env : Env := { scope := pw.main.scope, locals := mainNs, globals := mainNs, cells := [], code := (.ref 13), frame := some 14 }
def cE : Code := .body (behindTheImports pw) env
def sT (t : Params → BT) (n k : Nat) (w : World) (os : OsState) : SharedT := ⟨t w.params, n, {}, ⟨[]⟩, {}, k, os⟩
def sH (h : Params → Heap) (k : Nat) (w : World) (os : OsState) : Shared := ⟨h w.params, ⟨[]⟩, {}, k, os⟩
def sO (w : World) (os : OsState) : Shared := ⟨boot_heap w.params, ⟨[]⟩, boot_drawn, boot_toks, os⟩
theorem pre_ (w : World) (os : OsState) : topGo treeTable pw w 11 (some (.ref 6)) 12 (sO w os) (topStub pw) = some (sH hA 187 w os, ⟨denote treeTable cE, cE, ⟨0, 0, 0, 0⟩, B⟩) := by
  rewrite [W.Fast.te15667345088766844465, W.Fast.te14364793385576792824, W.Fast.te11892475500146522536]; kernel_rfl
theorem block_ (w : World) (os : OsState) : segRun treeTable pw w 11 (some (.ref 6)) 1 1 (sH hA 187 w os) (blockOf (behindTheImports pw) env cE ⟨0, 0, 0, 0⟩ B) = some (.next, (sT t_block 15 187 w os).abs, cE, ⟨0, 0, 0, 0⟩) := by
  rewrite [W.Fast.te14374325043358763698, W.Fast.te14364793385576792824]; kernel_rfl
def b_g0 : List Stmt := [s0, s1]
theorem p_g0 (w : World) (os : OsState) : segRunT treeTable pw w 11 (some (.ref 6)) 1 196 (sT t_block 15 187 w os) (piecesOf b_g0 env cE ⟨0, 0, 0, 0⟩ B) = some (.next, sT t_g0 28 207 w os, cE, ⟨2, 0, 3, 8⟩) := by
  rewrite [W.Fast.te10110043849684766642, W.Fast.te14364793385576792824]; kernel_rfl
def b_g1 : List Stmt := [s2]
theorem p_g1 (w : World) (os : OsState) : segRunT treeTable pw w 11 (some (.ref 6)) 1 214 (sT t_g0 28 207 w os) (piecesOf b_g1 env cE ⟨2, 0, 3, 8⟩ B) = some (.next, sT t_g1 40 223 w os, cE, ⟨4, 0, 5, 8⟩) := by
  rewrite [W.Fast.te10110043849684766642, W.Fast.te14364793385576792824]; kernel_rfl
def b_g2 : List Stmt := [s3]
theorem p_g2 (w : World) (os : OsState) : segRunT treeTable pw w 11 (some (.ref 6)) 1 214 (sT t_g1 40 223 w os) (piecesOf b_g2 env cE ⟨4, 0, 5, 8⟩ B) = some (.next, sT t_g2 52 239 w os, cE, ⟨6, 0, 7, 8⟩) := by
  rewrite [W.Fast.te10110043849684766642, W.Fast.te14364793385576792824]; kernel_rfl
def b_g3 : List Stmt := [s4]
theorem p_g3 (w : World) (os : OsState) : segRunT treeTable pw w 11 (some (.ref 6)) 1 214 (sT t_g2 52 239 w os) (piecesOf b_g3 env cE ⟨6, 0, 7, 8⟩ B) = some (.next, sT t_g3 64 255 w os, cE, ⟨8, 0, 9, 8⟩) := by
  rewrite [W.Fast.te10110043849684766642, W.Fast.te14364793385576792824]; kernel_rfl
def b_g4 : List Stmt := [s5]
theorem p_g4 (w : World) (os : OsState) : segRunT treeTable pw w 11 (some (.ref 6)) 1 214 (sT t_g3 64 255 w os) (piecesOf b_g4 env cE ⟨8, 0, 9, 8⟩ B) = some (.next, sT t_g4 76 271 w os, cE, ⟨10, 0, 11, 8⟩) := by
  rewrite [W.Fast.te10110043849684766642, W.Fast.te14364793385576792824]; kernel_rfl
def b_g5 : List Stmt := [s6]
theorem p_g5 (w : World) (os : OsState) : segRunT treeTable pw w 11 (some (.ref 6)) 1 214 (sT t_g4 76 271 w os) (piecesOf b_g5 env cE ⟨10, 0, 11, 8⟩ B) = some (.next, sT t_g5 88 287 w os, cE, ⟨12, 0, 13, 8⟩) := by
  rewrite [W.Fast.te10110043849684766642, W.Fast.te14364793385576792824]; kernel_rfl
def b_g6 : List Stmt := [s7]
theorem p_g6 (w : World) (os : OsState) : segRunT treeTable pw w 11 (some (.ref 6)) 1 214 (sT t_g5 88 287 w os) (piecesOf b_g6 env cE ⟨12, 0, 13, 8⟩ B) = some (.next, sT t_g6 100 303 w os, cE, ⟨14, 0, 15, 8⟩) := by
  rewrite [W.Fast.te10110043849684766642, W.Fast.te14364793385576792824]; kernel_rfl
def b_g7 : List Stmt := [s8, s9, s10, s11, s12, s13, s14, s15, s16, s17, s18]
theorem p_g7 (w : World) (os : OsState) : segRunT treeTable pw w 11 (some (.ref 6)) 1 381 (sT t_g6 100 303 w os) (piecesOf b_g7 env cE ⟨14, 0, 15, 8⟩ B) = some (.next, sT t_g7 138 358 w os, cE, ⟨38, 0, 38, 6⟩) := by
  rewrite [W.Fast.te10110043849684766642, W.Fast.te14364793385576792824]; kernel_rfl
def b_g8 : List Stmt := [s19, s20, s21, s22, s23]
theorem p_g8 (w : World) (os : OsState) : segRunT treeTable pw w 11 (some (.ref 6)) 1 382 (sT t_g7 138 358 w os) (piecesOf b_g8 env cE ⟨38, 0, 38, 6⟩ B) = some (.next, sT t_g8 194 434 w os, cE, ⟨73, 0, 84, 22⟩) := by
  rewrite [W.Fast.te10110043849684766642, W.Fast.te14364793385576792824]; kernel_rfl
def b_g9 : List Stmt := [s24, s25, s26, s27, s28, s29, s30, s31, s32, s33, s34, s35, s36, s37]
theorem p_g9 (w : World) (os : OsState) : segRunT treeTable pw w 11 (some (.ref 6)) 1 398 (sT t_g8 194 434 w os) (piecesOf b_g9 env cE ⟨73, 0, 84, 22⟩ B) = some (.next, sT t_g9 277 546 w os, cE, ⟨164, 0, 165, 85⟩) := by
  rewrite [W.Fast.te10110043849684766642, W.Fast.te14364793385576792824]; kernel_rfl
def b_g10 : List Stmt := [s38, s39, s40, s41, s42, s43, s44, s45, s46, s47, s48, s49]
theorem p_g10 (w : World) (os : OsState) : segRunT treeTable pw w 11 (some (.ref 6)) 1 335 (sT t_g9 277 546 w os) (piecesOf b_g10 env cE ⟨164, 0, 165, 85⟩ B) = some (.next, sT t_g10 346 639 w os, cE, ⟨235, 0, 251, 69⟩) := by
  rewrite [W.Fast.te10110043849684766642, W.Fast.te14364793385576792824]; kernel_rfl
theorem fin_ (w : World) (os : OsState) : topRun treeTable pw w 11 (some (.ref 6)) 2 (sT t_g10 346 639 w os).abs (restOf [] env cE ⟨235, 0, 251, 69⟩ B) = some (sH hF 639 w os) := by
  rewrite [W.Fast.te14082659384304107361, W.Fast.te14364793385576792824]; kernel_rfl
theorem body_ : behindTheImports pw = b_g0 ++ (b_g1 ++ (b_g2 ++ (b_g3 ++ (b_g4 ++ (b_g5 ++ (b_g6 ++ (b_g7 ++ (b_g8 ++ (b_g9 ++ (b_g10 ++ [])))))))))) := by kernel_rfl
theorem run_ (w : World) (os : OsState) : topRun treeTable pw w 11 (some (.ref 6)) (12 + (1 + (196 + (214 + (214 + (214 + (214 + (214 + (214 + (381 + (382 + (398 + (335 + (2)))))))))))))) (sO w os) (topStub pw) = some (sH hF 639 w os) := by
  refine go_top (pre_ w os) (piece_block (block_ w os) ?_)
  rw [body_]
  exact piece_app (segRun_of (p_g0 w os)) (piece_app (segRun_of (p_g1 w os)) (piece_app (segRun_of (p_g2 w os)) (piece_app (segRun_of (p_g3 w os)) (piece_app (segRun_of (p_g4 w os)) (piece_app (segRun_of (p_g5 w os)) (piece_app (segRun_of (p_g6 w os)) (piece_app (segRun_of (p_g7 w os)) (piece_app (segRun_of (p_g8 w os)) (piece_app (segRun_of (p_g9 w os)) (piece_app (segRun_of (p_g10 w os)) (fin_ w os)))))))))))
def view : Program := { pw with main := { pw.main with body := [s1, s2, s3, s4, s5, s6, s7, s8, s10, s11, s12, s13, s14, s16, s17, s18, s19, s20, s21, s22, s23, s24, s25, s26, s27, s28, s29, s30, s31, s32, s34, s35, s36, s37, s38, s39, s41, s42, s43, s44, s45, s46, s47, s48, s49] } }
abbrev rec_ : WRecords := RowW.records (OpenRow.toRowW (OpenLaw.row PySem.Challenge.rw_ordernest_k20_whole_numbers))
def Xt (s : Shared) : Bool := xlAt view [] s && recOk rec_ s
abbrev H : Hook := kHook K as_ (fun _ => by kernel_rfl)
theorem size_ (w : World) : ((boot_heap w.params).isNs mainGlobals && (Array.mk ([] : List GenState)).size == 0, (boot_heap w.params).objs.size, (boot_heap w.params).nsMap mainGlobals "__annotations__") = (true, 11, (some (.ref 6))) := by kernel_rfl
open PyProof.Rows in
theorem seen_ (w : World) (os : OsState) : openSeen view [] (importedModules pw.main.body) Xt true (sH hF 639 w os) = openGood view [] := by
  unfold openSeen openGood
  refine looks_pair ?a (looks_pair ?b (looks_pair ?c (looks_pair ?d (looks_pair ?e (looks_pair ?f (looks_pair ?g (looks_pair ?h ?i)))))))
  case a => rewrite [W.Fast.te5160383126252970620, W.R.mapR_eq, W.Fast.te3399658132070893891, W.Fast.te5991557255702980513]; kernel_rfl
  case b => kernel_rfl
  case c => rewrite [W.Fast.te10880121769531294198, W.Fast.te821141287760084731, W.R.mapR_eq, W.Fast.te3399658132070893891, W.Fast.te7409074990110511671, W.Fast.te13664370479719496447, W.Fast.te14722251495701143533, W.Fast.te5923862056798008813, W.Fast.te10994771534591457954]; kernel_rfl
  case d => rewrite [W.Fast.te479339242167458305]; kernel_rfl
  case e => rewrite [W.Fast.te16090120013241838585, W.Fast.te3247288618530077131]; kernel_rfl
  case f => rewrite [W.Fast.te2386780881361962483, W.Fast.te821141287760084731]; kernel_rfl
  case g => rewrite [W.Fast.te11698064438423848299]; kernel_rfl
  case h => rewrite [W.Fast.te7317090234206586261]; kernel_rfl
  case i => rewrite [W.Fast.te7369524293546568484]; kernel_rfl
theorem four_ (w : World) (os : OsState) : (staticsOk (importedModules pw.main.body) (boot_heap w.params) (hF w.params) && namesBound pw (hF w.params) && gensDone (sH hF 639 w os) && laidKept (boot_heap w.params) (hF w.params)) = true := by
  rewrite [W.Fast.te5923862056798008813]; kernel_rfl
theorem obs_ (w : World) (os : OsState) : Hook.obs H (sH hF 639 w os) = Hook.val H w := by kernel_rfl
theorem opening_ : opening pw = plainProg pw.main.scope.names := by kernel_rfl
theorem left_ : LeftO pw view [] Xt (Hook.obs H) (Hook.val H) 6056 :=
  LeftO.of_pieces (H₁ := hF) (boot_open opening_ rfl fun s => by kernel_rfl) size_ run_ rfl fun w => funext fun os => looks_pair (four_ w os) (looks_pair (seen_ w os) (obs_ w os))
end
end Vw
namespace L2
open PySem PySem.Spec PyProof.Rows
structure Dn (K : W.Frag) (x : Str) (st : Stmt) (f : Addr) (fd : FuncData) : Prop where
  fn : Fun K x x st f fd
  ns : W.nsIn K mainGlobals x = some (some (.ref f))
theorem dn_mk {K : W.Frag} {x : Str} {st : Stmt} {f : Addr} {oc : Value} {od an : Option Addr} {osl : Array (Option Value)} {kV doc pm cdv ct : Value} (a : W.nsIn K mainGlobals x = some (some (.ref f)))
    (l : K.lookup f = some ⟨oc, od, .func (W.fnOf x x (defArgs st) (defBody st) (defScope st) .none kV doc pm an cdv ct), osl⟩) (c : W.codeIn K cdv x = true) (k : W.keepIn K (.ref f) = true) :
    Dn K x st f (W.fnOf x x (defArgs st) (defBody st) (defScope st) .none kV doc pm an cdv ct) := ⟨fun_mk l c k, a⟩
theorem Dn.df {P : Program} {w : World} {K : W.Frag} {mg : Str → Option Value} {base h : Heap} {CX : CXT} {k : Nat} {x : Str} {st : Stmt} {f : Addr} {fd : FuncData} {ps : List Str} {sp : Sp} (D : Dn K x st f fd) (X : K.In h) (G : h.Ns mainGlobals mg)
    (b : Binds K fd ps []) (F : FnOk P w K mg base CX k f fd ps sp) : Df P w K mg base CX k x ps sp := ⟨f, fd, F, b, D.fn.kp, W.mg_of X G D.ns⟩
structure Mn (K : W.Frag) (C : Addr) (x qual : Str) (st : Stmt) (f : Addr) (fd : FuncData) : Prop where
  fn : Fun K x qual st f fd
  mt : Meth K C x f
theorem mn_mk {K : W.Frag} {C : Addr} {x qual : Str} {st : Stmt} {f : Addr} {oc : Value} {od an : Option Addr} {osl : Array (Option Value)} {kV doc pm cdv ct : Value} (a : W.findIn K (.ref C) x = some (some (.ref f))) (i : W.isFn K (.ref f) = true)
    (l : K.lookup f = some ⟨oc, od, .func (W.fnOf x qual (defArgs st) (defBody st) (defScope st) .none kV doc pm an cdv ct), osl⟩) (c : W.codeIn K cdv qual = true) (k : W.keepIn K (.ref f) = true) :
    Mn K C x qual st f (W.fnOf x qual (defArgs st) (defBody st) (defScope st) .none kV doc pm an cdv ct) := ⟨fun_mk l c k, a, i, k⟩
theorem each1 {p : List Value → Prop} (h : ∀ a, p [a]) (us : List Value) (e : us.length = 1) : p us := by
  cases us with
  | nil => cases e
  | cons a us => cases us with
  | nil => exact h a
  | cons x us => cases e
theorem each2 {p : List Value → Prop} (h : ∀ a b, p [a, b]) (us : List Value) (e : us.length = 2) : p us := by
  cases us with
  | nil => cases e
  | cons a us => cases us with
  | nil => cases e
  | cons b us => cases us with
  | nil => exact h a b
  | cons x us => cases e
theorem each3 {p : List Value → Prop} (h : ∀ a b c, p [a, b, c]) (us : List Value) (e : us.length = 3) : p us := by
  cases us with
  | nil => cases e
  | cons a us => cases us with
  | nil => cases e
  | cons b us => cases us with
  | nil => cases e
  | cons c us => cases us with
  | nil => exact h a b c
  | cons x us => cases e
end L2
namespace Ord
open PySem L2 Mx
theorem Kd.mk' {K : W.Frag} {mg : Str → Option Value} {h : Heap} {x : Str} {C D : Addr} {b : Bool} (X : K.In h) (G : h.Ns mainGlobals mg) (ho : W.mroIn K C (.ref C) = some true) (a : W.nsIn K mainGlobals x = some (some (.ref D))) (c : W.isClsIn K D = true) (t : W.typeIn K (.ref D) = some (.type "type")) (m : W.mroIn K C (.ref D) = some b) : Kd K mg C x b := by
  refine ⟨D, W.mg_of X G a, ?_⟩
  rw [kit_own ⟨c, t⟩ m]
  by_cases e : C = D
  · subst e
    rw [ho] at m
    cases m
    rw [if_pos rfl]
  · rw [if_neg e]
theorem all_mk {l : W.OpenLaw} {w : World} {K : W.Frag} {h : Heap} {mg : Str → Option Value} {fa CO CN CE C : Addr} (X : K.In h) (G : h.Ns mainGlobals mg) (hfa : mg "law" = some (.ref fa))
    {t8 t0 t1 t2 : Tok} {fi fk : Addr} {gi gk : FuncData} {f0 f1 f2 f3 f4 f5 f6 f7 f8 f9 f10 f11 f12 f13 f14 f15 f16 f17 f18 f19 f20 f21 f22 f23 f24 f25 f26 f27 f28 f29 f30 f31 : Addr} {g0 g1 g2 g3 g4 g5 g6 g7 g8 g9 g10 g11 g12 g13 g14 g15 g16 g17 g18 g19 g20 g21 g22 g23 g24 g25 g26 g27 g28 g29 g30 g31 : FuncData}
    (d0 : Dn K "is_whole" sWhole f0 g0)
    (d1 : Dn K "is_count" sCount f1 g1)
    (d2 : Dn K "look_count" sLookC f2 g2)
    (d3 : Dn K "look_order" sLook f3 g3)
    (d4 : Dn K "is_door" sDoorI f4 g4)
    (d5 : Dn K "things_through" sThrough f5 g5)
    (d6 : Dn K "behind_door" sBehindD f6 g6)
    (d7 : Dn K "look_parts" sParts f7 g7)
    (d8 : Dn K "look_first" sLookF f8 g8)
    (d9 : Dn K "look_doors" sLookD f9 g9)
    (d10 : Dn K "things_of_room" sOfRoom f10 g10)
    (d11 : Dn K "things_from" sFrom f11 g11)
    (d12 : Dn K "walk_rooms" sWalk f12 g12)
    (d13 : Dn K "look_turn" sLookT f13 g13)
    (d14 : Dn K "look_book" sBook f14 g14)
    (d15 : Dn K "shelve" sShelve f15 g15)
    (d16 : Dn K "book_of" sBookOf f16 g16)
    (d17 : Dn K "rows_from" sFromR f17 g17)
    (d18 : Dn K "how_many" sHow f18 g18)
    (d19 : Dn K "rows_less" sLess f19 g19)
    (d20 : Dn K "door_behind" sDoorB f20 g20)
    (d21 : Dn K "order_at" sAt f21 g21)
    (d22 : Dn K "number_of" sNumber f22 g22)
    (d23 : Dn K "_law_cell" sCell f23 g23)
    (d24 : Dn K "_law_mix" sMix f24 g24)
    (d25 : Dn K "_law_whole" sLWhole f25 g25)
    (d26 : Dn K "_law_all" sAll f26 g26)
    (d27 : Dn K "_law_set" sSet f27 g27)
    (d28 : Dn K "_law_refusal" sRefu f28 g28)
    (d29 : Dn K "_law_at" sLAt f29 g29)
    (d30 : Dn K "_law_number" sLNum f30 g30)
    (d31 : Dn K "law" sLaw f31 g31)
    (aC : W.nsIn K mainGlobals "Shelf" = some (some (.ref C))) (mi : Mn K C "__init__" "Shelf.__init__" sInit fi gi) (mk : Mn K C "keep" "Shelf.keep" sKeep fk gk)
    (pg : W.plainGet K C Str.empty = true) (hd : W.hasDictIn K C = true) (po : W.plainOver K C = true) (sa : W.findIn K (.ref C) "__setattr__" = some (some (.builtin "object.__setattr__"))) (ms : W.makesIn K C = true) (kc : W.keepIn K (.ref C) = true)
    (nR : W.findIn K (.ref C) "rooms" = some none) (nN : W.findIn K (.ref C) "numbers" = some none)
    (xo : W.excIn K CO bmV "ValueError.__new__" = true) (xn : W.excIn K CN bmV "ValueError.__new__" = true)
    (cn : W.nsIn K mainGlobals "NestError" = some (some (.ref CE))) (nt : W.instIn K (.ref CE) (.type "tuple") = some false) (xc : W.mroIn K CE (.type "BaseException") = some true) (cl : W.isClsIn K CE = true)
    {D0 D3 D4 D5 D6 : Addr}
    (na0 : W.nsIn K mainGlobals "BadBook" = some (some (.ref D0))) (nc0 : W.isClsIn K D0 = true) (ny0 : W.typeIn K (.ref D0) = some (.type "type"))
    (na1 : W.nsIn K mainGlobals "BadNumber" = some (some (.ref CN))) (nc1 : W.isClsIn K CN = true) (ny1 : W.typeIn K (.ref CN) = some (.type "type"))
    (na2 : W.nsIn K mainGlobals "BadOrder" = some (some (.ref CO))) (nc2 : W.isClsIn K CO = true) (ny2 : W.typeIn K (.ref CO) = some (.type "type"))
    (na3 : W.nsIn K mainGlobals "BadRule" = some (some (.ref D3))) (nc3 : W.isClsIn K D3 = true) (ny3 : W.typeIn K (.ref D3) = some (.type "type"))
    (na4 : W.nsIn K mainGlobals "BadText" = some (some (.ref D4))) (nc4 : W.isClsIn K D4 = true) (ny4 : W.typeIn K (.ref D4) = some (.type "type"))
    (na5 : W.nsIn K mainGlobals "BadWeights" = some (some (.ref D5))) (nc5 : W.isClsIn K D5 = true) (ny5 : W.typeIn K (.ref D5) = some (.type "type"))
    (na6 : W.nsIn K mainGlobals "Unlike" = some (some (.ref D6))) (nc6 : W.isClsIn K D6 = true) (ny6 : W.typeIn K (.ref D6) = some (.type "type"))
    (onn : W.mroIn K CN (.ref CE) = some true) (en1 : W.isClsIn K CN = true) (en2 : W.findIn K (.ref CN) "__getattribute__" = some (some (.builtin "BaseException.__getattribute__"))) (en3 : W.findIn K (.ref CN) "__getattr__" = some none) (en4 : W.findIn K (.ref CN) "__class__" = some (some (.builtin "object.__class__"))) (en5 : W.mroIn K CN (.type "object") = some true) (en6 : W.mroIn K CN (.type "BaseException") = some true)
    (en7 : W.mroIn K CN (.ref CN) = some true) (en8 : W.mroIn K CN (.type "ValueError") = some true)
    (mn0 : W.mroIn K CN (.ref D0) = some false)
    (mn1 : W.mroIn K CN (.ref CN) = some true)
    (mn2 : W.mroIn K CN (.ref CO) = some false)
    (mn3 : W.mroIn K CN (.ref D3) = some false)
    (mn4 : W.mroIn K CN (.ref D4) = some false)
    (mn5 : W.mroIn K CN (.ref D5) = some false)
    (mn6 : W.mroIn K CN (.ref D6) = some false)
    (ono : W.mroIn K CO (.ref CE) = some true) (eo1 : W.isClsIn K CO = true) (eo2 : W.findIn K (.ref CO) "__getattribute__" = some (some (.builtin "BaseException.__getattribute__"))) (eo3 : W.findIn K (.ref CO) "__getattr__" = some none) (eo4 : W.findIn K (.ref CO) "__class__" = some (some (.builtin "object.__class__"))) (eo5 : W.mroIn K CO (.type "object") = some true) (eo6 : W.mroIn K CO (.type "BaseException") = some true)
    (eo7 : W.mroIn K CO (.ref CO) = some true) (eo8 : W.mroIn K CO (.type "ValueError") = some true)
    (mo0 : W.mroIn K CO (.ref D0) = some false)
    (mo1 : W.mroIn K CO (.ref CN) = some false)
    (mo2 : W.mroIn K CO (.ref CO) = some true)
    (mo3 : W.mroIn K CO (.ref D3) = some false)
    (mo4 : W.mroIn K CO (.ref D4) = some false)
    (mo5 : W.mroIn K CO (.ref D5) = some false)
    (mo6 : W.mroIn K CO (.ref D6) = some false)
    (m8 : W.nsIn K mainGlobals "MOST_THINGS" = some (some (.int 8 t8))) (m0 : W.nsIn K mainGlobals "NO_ROOM" = some (some (.int 0 t0))) (m1 : W.nsIn K mainGlobals "END" = some (some (.int 1 t1))) (m2 : W.nsIn K mainGlobals "LOWEST" = some (some (.int 2 t2)))
    (z0 : W.nsIn K mainGlobals "isinstance" = some none)
    (z1 : W.nsIn K mainGlobals "int" = some none)
    (z2 : W.nsIn K mainGlobals "bool" = some none)
    (z3 : W.nsIn K mainGlobals "tuple" = some none)
    (z4 : W.nsIn K mainGlobals "list" = some none)
    (z5 : W.nsIn K mainGlobals "range" = some none)
    (z6 : W.nsIn K mainGlobals "sorted" = some none)
    (z7 : W.nsIn K mainGlobals "all" = some none)
    (z8 : W.nsIn K mainGlobals "len" = some none)
    (z9 : W.nsIn K mainGlobals "enumerate" = some none)
    (z10 : W.nsIn K mainGlobals "set" = some none)
    (z11 : W.nsIn K mainGlobals "sum" = some none)
    (z12 : W.nsIn K mainGlobals "ValueError" = some none)
    : ∃ fd : FuncData, (∀ (s : Shared) (v : Value), BindsTo s fd ⟨[v], []⟩ [("_law_script", v)]) ∧ ∀ base : Heap, K.In base → base.Ns mainGlobals mg → FnOk l.prog w K mg base CX0 14 fa fd ["_law_script"] (spLaw K) := by
  have e := hfa.symm.trans (W.mg_of X G d31.ns)
  cases e
  have T0 : Txt K mg CO := ⟨⟨W.mg_of X G na2, xo⟩, ⟨t8, W.mg_of X G m8⟩, W.mg_none_of X G z0, W.mg_none_of X G z1, W.mg_none_of X G z2, W.mg_none_of X G z3, W.mg_none_of X G z4, W.mg_none_of X G z5, W.mg_none_of X G z6, W.mg_none_of X G z7, W.mg_none_of X G z8, W.mg_none_of X G z9⟩
  have T : TxB K mg CO := ⟨T0, ⟨t0, W.mg_of X G m0⟩, ⟨t1, W.mg_of X G m1⟩, ⟨t2, W.mg_of X G m2⟩, W.mg_none_of X G z10⟩
  have zs := W.mg_none_of X G z11
  have BN : OwnX K mg "BadNumber" CN := ⟨W.mg_of X G na1, xn⟩
  have E0 : Tr K mg CE := ⟨W.mg_of X G cn, nt, xc, cl⟩
  have RN : RefN K mg CN := ⟨Kd.mk' X G en7 na0 nc0 ny0 mn0, Kd.mk' X G en7 na1 nc1 ny1 mn1, Kd.mk' X G en7 na2 nc2 ny2 mn2, Kd.mk' X G en7 na3 nc3 ny3 mn3, Kd.mk' X G en7 na4 nc4 ny4 mn4, Kd.mk' X G en7 na5 nc5 ny5 mn5, Kd.mk' X G en7 na6 nc6 ny6 mn6, ⟨en1, en2, en3, en4, en5, en6⟩, W.mg_none_of X G z12, kit_ve en8, rfl, rfl, fun i hi => by
      have : i = 0 := by omega
      subst this
      rfl, rfl⟩
  have RO : RefO K mg CO := ⟨Kd.mk' X G eo7 na0 nc0 ny0 mo0, Kd.mk' X G eo7 na1 nc1 ny1 mo1, Kd.mk' X G eo7 na2 nc2 ny2 mo2, Kd.mk' X G eo7 na3 nc3 ny3 mo3, Kd.mk' X G eo7 na4 nc4 ny4 mo4, Kd.mk' X G eo7 na5 nc5 ny5 mo5, Kd.mk' X G eo7 na6 nc6 ny6 mo6, ⟨eo1, eo2, eo3, eo4, eo5, eo6⟩, W.mg_none_of X G z12, kit_ve eo8, rfl, rfl, fun i hi => by
      have : i = 0 ∨ i = 1 := by omega
      rcases this with h | h
      · subst h; rfl
      · subst h; rfl, rfl⟩
  have c : ShC K C := ⟨⟨pg, hd, po, sa⟩, nR, nN⟩
  have M : Mk K C fi := ⟨ms, mi.mt.at_, mi.mt.fn, kc⟩
  have mC := W.mg_of X G aC
  have bi := mi.fn.binds (ps := ["self"]) fun _ _ _ _ _ _ => each1 fun _ => rfl
  have bk := mk.fn.binds (ps := ["self", "room"]) fun _ _ _ _ _ _ => each2 fun _ _ => rfl
  have b0 := d0.fn.binds (ps := ["value"]) fun _ _ _ _ _ _ => each1 fun _ => rfl
  have b1 := d1.fn.binds (ps := ["many"]) fun _ _ _ _ _ _ => each1 fun _ => rfl
  have b2 := d2.fn.binds (ps := ["many"]) fun _ _ _ _ _ _ => each1 fun _ => rfl
  have b3 := d3.fn.binds (ps := ["many", "order"]) fun _ _ _ _ _ _ => each2 fun _ _ => rfl
  have b4 := d4.fn.binds (ps := ["door"]) fun _ _ _ _ _ _ => each1 fun _ => rfl
  have b5 := d5.fn.binds (ps := ["door", "things"]) fun _ _ _ _ _ _ => each2 fun _ _ => rfl
  have b6 := d6.fn.binds (ps := ["room", "thing"]) fun _ _ _ _ _ _ => each2 fun _ _ => rfl
  have b7 := d7.fn.binds (ps := ["book"]) fun _ _ _ _ _ _ => each1 fun _ => rfl
  have b8 := d8.fn.binds (ps := ["many", "things", "first"]) fun _ _ _ _ _ _ => each3 fun _ _ _ => rfl
  have b9 := d9.fn.binds (ps := ["many", "room", "number"]) fun _ _ _ _ _ _ => each3 fun _ _ _ => rfl
  have b10 := d10.fn.binds (ps := ["room", "things"]) fun _ _ _ _ _ _ => each2 fun _ _ => rfl
  have b11 := d11.fn.binds (ps := ["many", "rooms"]) fun _ _ _ _ _ _ => each2 fun _ _ => rfl
  have b12 := d12.fn.binds (ps := ["rooms", "number", "walked"]) fun _ _ _ _ _ _ => each3 fun _ _ _ => rfl
  have b13 := d13.fn.binds (ps := ["rooms", "first"]) fun _ _ _ _ _ _ => each2 fun _ _ => rfl
  have b14 := d14.fn.binds (ps := ["book"]) fun _ _ _ _ _ _ => each1 fun _ => rfl
  have b15 := d15.fn.binds (ps := ["shelf", "orders", "place"]) fun _ _ _ _ _ _ => each3 fun _ _ _ => rfl
  have b16 := d16.fn.binds (ps := ["many", "orders"]) fun _ _ _ _ _ _ => each2 fun _ _ => rfl
  have b17 := d17.fn.binds (ps := ["rooms"]) fun _ _ _ _ _ _ => each1 fun _ => rfl
  have b18 := d18.fn.binds (ps := ["book"]) fun _ _ _ _ _ _ => each1 fun _ => rfl
  have b19 := d19.fn.binds (ps := ["room", "counts", "thing"]) fun _ _ _ _ _ _ => each3 fun _ _ _ => rfl
  have b20 := d20.fn.binds (ps := ["room", "counts", "skipped"]) fun _ _ _ _ _ _ => each3 fun _ _ _ => rfl
  have b21 := d21.fn.binds (ps := ["book", "number"]) fun _ _ _ _ _ _ => each2 fun _ _ => rfl
  have b22 := d22.fn.binds (ps := ["book", "order"]) fun _ _ _ _ _ _ => each2 fun _ _ => rfl
  have b23 := d23.fn.binds (ps := ["_law_script", "_law_k"]) fun _ _ _ _ _ _ => each2 fun _ _ => rfl
  have b24 := d24.fn.binds (ps := ["_law_script", "_law_k"]) fun _ _ _ _ _ _ => each2 fun _ _ => rfl
  have b25 := d25.fn.binds (ps := ["_law_found"]) fun _ _ _ _ _ _ => each1 fun _ => rfl
  have b26 := d26.fn.binds (ps := ["_law_many"]) fun _ _ _ _ _ _ => each1 fun _ => rfl
  have b27 := d27.fn.binds (ps := ["_law_script", "_law_k", "_law_many"]) fun _ _ _ _ _ _ => each3 fun _ _ _ => rfl
  have b28 := d28.fn.binds (ps := ["_law_kept"]) fun _ _ _ _ _ _ => each1 fun _ => rfl
  have b29 := d29.fn.binds (ps := ["_law_book", "_law_number_here"]) fun _ _ _ _ _ _ => each2 fun _ _ => rfl
  have b30 := d30.fn.binds (ps := ["_law_book", "_law_order"]) fun _ _ _ _ _ _ => each2 fun _ _ => rfl
  have b31 := d31.fn.binds (ps := ["_law_script"]) fun _ _ _ _ _ _ => each1 fun _ => rfl
  refine ⟨g31, fun s v => ?_, fun base _ _ => ?_⟩
  · obtain ⟨oc, od, kV, doc, pm, an, cdv, ct, osl, rfl, lk, hcd⟩ := d31.fn.ex
    exact .of_eq rfl
  have Fi := ok_init (P := l.prog) (w := w) (mg := mg) (base := base) mi.fn c
  have Fk := ok_keep (P := l.prog) (w := w) (base := base) mk.fn T c
  have W0 := d0.df (P := l.prog) (w := w) (base := base) X G b0 (ok_whole d0.fn T.t)
  have W1 := d1.df (P := l.prog) (w := w) (base := base) X G b1 (ok_count d1.fn T.t W0)
  have W2 := d2.df (P := l.prog) (w := w) (base := base) X G b2 (ok_lookC d2.fn T.t W1)
  have W3 := d3.df (P := l.prog) (w := w) (base := base) X G b3 (ok_look d3.fn T.t W2 W0)
  have W4 := d4.df (P := l.prog) (w := w) (base := base) X G b4 (ok_doorI d4.fn T W0)
  have W5 := d5.df (P := l.prog) (w := w) (base := base) X G b5 (ok_through d5.fn)
  have W6 := d6.df (P := l.prog) (w := w) (base := base) X G b6 (ok_behindD d6.fn T)
  have W7 := d7.df (P := l.prog) (w := w) (base := base) X G b7 (ok_parts d7.fn T W0 W1)
  have W8 := d8.df (P := l.prog) (w := w) (base := base) X G b8 (ok_lookF d8.fn T)
  have W9 := d9.df (P := l.prog) (w := w) (base := base) X G b9 (ok_lookD d9.fn T W4)
  have W10 := d10.df (P := l.prog) (w := w) (base := base) X G b10 (ok_ofRoom d10.fn T W5)
  have W11 := d11.df (P := l.prog) (w := w) (base := base) X G b11 (ok_from d11.fn T W9 W10)
  have W12 := fun n => d12.df (P := l.prog) (w := w) (base := base) X G b12 (ok_walk d12.fn T b12 (W.mg_of X G d12.ns) n)
  have W13 := d13.df (P := l.prog) (w := w) (base := base) X G b13 (ok_lookT 8 d13.fn T (W12 8))
  have W14 := d14.df (P := l.prog) (w := w) (base := base) X G b14 (ok_book d14.fn W7 W11 W8 W13)
  have W15 := fun n => d15.df (P := l.prog) (w := w) (base := base) X G b15 (ok_shelve d15.fn T c mk.mt Fk bk b15 (W.mg_of X G d15.ns) n)
  have W16 := d16.df (P := l.prog) (w := w) (base := base) X G b16 (ok_bookOf d16.fn T c M Fi bi mC W2 W3 W15)
  have W17 := d17.df (P := l.prog) (w := w) (base := base) X G b17 (ok_fromR d17.fn T zs)
  have W18 := d18.df (P := l.prog) (w := w) (base := base) X G b18 (ok_how d18.fn W14 W17)
  have W19 := d19.df (P := l.prog) (w := w) (base := base) X G b19 (ok_less d19.fn zs)
  have W20 := d20.df (P := l.prog) (w := w) (base := base) X G b20 (ok_doorB d20.fn W19)
  have W21 := d21.df (P := l.prog) (w := w) (base := base) X G b21 (ok_at d21.fn T BN W14 W17 W0 W20 W19)
  have W22 := d22.df (P := l.prog) (w := w) (base := base) X G b22 (ok_number d22.fn T W14 W3 W17 W19 W6)
  have W23 := d23.df (P := l.prog) (w := w) (base := base) X G b23 (ok_cell d23.fn T)
  have W24 := d24.df (P := l.prog) (w := w) (base := base) X G b24 (ok_mix d24.fn T W23)
  have W25 := d25.df (P := l.prog) (w := w) (base := base) X G b25 (ok_lwhole d25.fn T)
  have W26 := d26.df (P := l.prog) (w := w) (base := base) X G b26 (ok_all d26.fn T)
  have W27 := d27.df (P := l.prog) (w := w) (base := base) X G b27 (ok_set d27.fn T W26 W24)
  have W28 := d28.df (P := l.prog) (w := w) (base := base) X G b28 (ok_refu d28.fn T)
  have W29 := d29.df (P := l.prog) (w := w) (base := base) X G b29 (ok_lat d29.fn E0 onn RN W21 W28)
  have W30 := d30.df (P := l.prog) (w := w) (base := base) X G b30 (ok_lnum d30.fn E0 ono RO W22 W28)
  exact ok_law d31.fn T W24 W26 W27 W16 W25 W18 W29 W30
theorem walk {l : W.OpenLaw} {q : Program} {loose : List Str} {XP : (Str → Option Value) → Heap → Prop} {YP : World → Heap → Prop} {d : DefRec} {K : Params → W.Frag} (hn : l.most = some 63) (hdf : d.params.defaults = [])
    (hY : ∀ (w : World) (h : Heap), YP w h → (K w.params).In h)
    (F : ∀ (w : World) (mg : Str → Option Value) (fa : Addr) (h : Heap), (K w.params).In h → h.Ns mainGlobals mg → mg d.name = some (.ref fa) →
      ∃ fd : FuncData, (∀ (s : Shared) (u : Value), BindsTo s fd ⟨[u], []⟩ [("_law_script", u)]) ∧ ∀ base : Heap, (K w.params).In base → base.Ns mainGlobals mg → FnOk l.prog w (K w.params) mg base CX0 14 fa fd ["_law_script"] (spLaw (K w.params))) :
    W.WalkO q loose XP YP l.row.toRowW d [] (fun f vs => PySem.call f vs) :=
  L2.walk_of (n := 63) (k := 14) (x := "_law_script") (CX := fun _ => CX0) (sp := fun w => spLaw (K w.params)) hn (by decide) hdf ⟨rfl, by decide, by decide, rfl⟩ hY F (fun _ _ a ns hl _ hS => ⟨a, ns, rfl, hS, fun _ => rfl⟩) fun _ _ _ _ _ z => z
end Ord
open PySem PySem.W PyProof.Rows
set_option maxRecDepth 100000 in
set_option maxHeartbeats 0 in
theorem PySem.Challenge.cw_ordernest_k20_whole_numbers_holds : PySem.Challenge.rw_ordernest_k20_whole_numbers.Holds := by
  w_on; o_law
  refine holds_open (q := Vw.view) (loose := []) (Xt := Vw.Xt) (XP := XL Vw.view []) (Yf := Hook.obs Vw.H) (Ya := Hook.val Vw.H)
    (YP := Hook.says Vw.H) (N := 6056) Vw.left_ (Hook.of Vw.H) (Hook.keeps Vw.H) (fun s e => xl_of s (Bool.and_eq_true_iff.mp (id e : (xlAt Vw.view [] s && recOk Vw.rec_ s) = true)).1) XL.keeps
    (by rfl) (by rfl) (by rfl) (fun s e => recFacts_of (Bool.and_eq_true_iff.mp (id e : (xlAt Vw.view [] s && recOk Vw.rec_ s) = true)).2) (by rfl)
    (by assumption) (by decide +kernel) ⟨rfl, rfl, rfl, rfl, rfl, by decide +kernel⟩ ?hw ?hc
  (case hw => w_witness2)
  refine Ord.walk (l := PySem.Challenge.rw_ordernest_k20_whole_numbers) rfl rfl (fun w h Y => W.kIn_of Y) ?F
  case F =>
    intro w mg fa h KX G hmg
    k_fill
    refine' Ord.all_mk KX G hmg (L2.dn_mk ?a0 ?l0 ?c0 ?k0) (L2.dn_mk ?a1 ?l1 ?c1 ?k1) (L2.dn_mk ?a2 ?l2 ?c2 ?k2) (L2.dn_mk ?a3 ?l3 ?c3 ?k3) (L2.dn_mk ?a4 ?l4 ?c4 ?k4) (L2.dn_mk ?a5 ?l5 ?c5 ?k5) (L2.dn_mk ?a6 ?l6 ?c6 ?k6) (L2.dn_mk ?a7 ?l7 ?c7 ?k7) (L2.dn_mk ?a8 ?l8 ?c8 ?k8) (L2.dn_mk ?a9 ?l9 ?c9 ?k9) (L2.dn_mk ?a10 ?l10 ?c10 ?k10) (L2.dn_mk ?a11 ?l11 ?c11 ?k11) (L2.dn_mk ?a12 ?l12 ?c12 ?k12) (L2.dn_mk ?a13 ?l13 ?c13 ?k13) (L2.dn_mk ?a14 ?l14 ?c14 ?k14) (L2.dn_mk ?a15 ?l15 ?c15 ?k15) (L2.dn_mk ?a16 ?l16 ?c16 ?k16) (L2.dn_mk ?a17 ?l17 ?c17 ?k17) (L2.dn_mk ?a18 ?l18 ?c18 ?k18) (L2.dn_mk ?a19 ?l19 ?c19 ?k19) (L2.dn_mk ?a20 ?l20 ?c20 ?k20) (L2.dn_mk ?a21 ?l21 ?c21 ?k21) (L2.dn_mk ?a22 ?l22 ?c22 ?k22) (L2.dn_mk ?a23 ?l23 ?c23 ?k23) (L2.dn_mk ?a24 ?l24 ?c24 ?k24) (L2.dn_mk ?a25 ?l25 ?c25 ?k25) (L2.dn_mk ?a26 ?l26 ?c26 ?k26) (L2.dn_mk ?a27 ?l27 ?c27 ?k27) (L2.dn_mk ?a28 ?l28 ?c28 ?k28) (L2.dn_mk ?a29 ?l29 ?c29 ?k29) (L2.dn_mk ?a30 ?l30 ?c30 ?k30) (L2.dn_mk ?a31 ?l31 ?c31 ?k31) ?aC (L2.mn_mk ?ia ?ii ?il ?ic ?ik) (L2.mn_mk ?ka ?ki ?kl ?kcc ?kk) ?pg ?hd ?po ?sa ?ms ?kc ?nR ?nN ?xo ?xn ?cn ?nt ?xc ?cl ?na0 ?nc0 ?ny0 ?na1 ?nc1 ?ny1 ?na2 ?nc2 ?ny2 ?na3 ?nc3 ?ny3 ?na4 ?nc4 ?ny4 ?na5 ?nc5 ?ny5 ?na6 ?nc6 ?ny6 ?onn ?en1 ?en2 ?en3 ?en4 ?en5 ?en6 ?en7 ?en8 ?mn0 ?mn1 ?mn2 ?mn3 ?mn4 ?mn5 ?mn6 ?ono ?eo1 ?eo2 ?eo3 ?eo4 ?eo5 ?eo6 ?eo7 ?eo8 ?mo0 ?mo1 ?mo2 ?mo3 ?mo4 ?mo5 ?mo6 ?m8 ?m0 ?m1 ?m2 ?z0 ?z1 ?z2 ?z3 ?z4 ?z5 ?z6 ?z7 ?z8 ?z9 ?z10 ?z11 ?z12
    case a0 | l0 | c0 | k0 | a1 | l1 | c1 | k1 | a2 | l2 | c2 | k2 | a3 | l3 | c3 | k3 | a4 | l4 | c4 | k4 | a5 | l5 | c5 | k5 | a6 | l6 | c6 | k6 | a7 | l7 | c7 | k7 | a8 | l8 | c8 | k8 | a9 | l9 | c9 | k9 | a10 | l10 | c10 | k10 | a11 | l11 | c11 | k11 | a12 | l12 | c12 | k12 | a13 | l13 | c13 | k13 | a14 | l14 | c14 | k14 | a15 | l15 | c15 | k15 | a16 | l16 | c16 | k16 | a17 | l17 | c17 | k17 | a18 | l18 | c18 | k18 | a19 | l19 | c19 | k19 | a20 | l20 | c20 | k20 | a21 | l21 | c21 | k21 | a22 | l22 | c22 | k22 | a23 | l23 | c23 | k23 | a24 | l24 | c24 | k24 | a25 | l25 | c25 | k25 | a26 | l26 | c26 | k26 | a27 | l27 | c27 | k27 | a28 | l28 | c28 | k28 | a29 | l29 | c29 | k29 | a30 | l30 | c30 | k30 | a31 | l31 | c31 | k31 | aC | ia | ii | il | ic | ik | ka | ki | kl | kcc | kk | pg | hd | po | sa | ms | kc | nR | nN | na2 | na1 => k_is
    (case xo => k_exc); (case xn => k_exc); (case cn => k_is); (case nt => k_is); (case xc => k_is); (case cl => k_is); (case na0 => k_is); (case nc0 => k_is); (case ny0 => k_is); (case nc1 => k_is); (case ny1 => k_is); (case nc2 => k_is); (case ny2 => k_is); (case na3 => k_is); (case nc3 => k_is); (case ny3 => k_is); (case na4 => k_is); (case nc4 => k_is); (case ny4 => k_is); (case na5 => k_is); (case nc5 => k_is); (case ny5 => k_is); (case na6 => k_is); (case nc6 => k_is); (case ny6 => k_is); (case onn => k_is); (case en1 => k_is); (case en2 => k_is); (case en3 => k_is); (case en4 => k_is); (case en5 => k_is); (case en6 => k_is); (case en7 => k_is); (case en8 => k_is); (case mn0 => k_is); (case mn1 => k_is); (case mn2 => k_is); (case mn3 => k_is); (case mn4 => k_is); (case mn5 => k_is); (case mn6 => k_is); (case ono => k_is); (case eo1 => k_is); (case eo2 => k_is); (case eo3 => k_is); (case eo4 => k_is); (case eo5 => k_is); (case eo6 => k_is); (case eo7 => k_is); (case eo8 => k_is); (case mo0 => k_is); (case mo1 => k_is); (case mo2 => k_is); (case mo3 => k_is); (case mo4 => k_is); (case mo5 => k_is); (case mo6 => k_is); (case m8 => k_is); (case m0 => k_is); (case m1 => k_is); (case m2 => k_is)
    case z0 | z1 | z2 | z3 | z4 | z5 | z6 | z7 | z8 | z9 | z10 | z11 | z12 => k_is
