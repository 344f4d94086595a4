import PyProof.Rows.All
import Wide.All
import OpenK.AllK
import Wide.FinOn
import PyProof.EqAt
import PyProof.EqKinds
import PyProof.TupleCall
import KE.BitLaws
import Open.SpecLaws
import KE.OsHead
import KE.OsGo
import KE.IntBitsLaws
import KE.KDictSum
import PySem.Challenge.RW_ruledroots_s04_double
section
set_option Elab.async false
set_option linter.all false
set_option maxRecDepth 100000
namespace L2
open PySem PySem.Spec PyProof.Rows
abbrev Key := Sum Int Str
def keyIs : Key → Value → Bool
  | .inl k, v => Value.isInt k v
  | .inr x, v => Value.isStrOf x v
def keyH (w : World) : Key → Int
  | .inl k => hashInt k
  | .inr x => hashStr w x
theorem keyIs_shape : ∀ {k : Key} {v : Value}, keyIs k v = true → (∃ i t, k = Sum.inl i ∧ v = Value.int i t) ∨ (∃ x t, k = Sum.inr x ∧ v = Value.str x t)
  | .inl i, v, h => by
    obtain ⟨t, e⟩ := Value.isInt_shape (k := i) (v := v) h
    exact .inl ⟨i, t, rfl, e⟩
  | .inr x, v, h => by
    obtain ⟨t, e⟩ := Value.isStrOf_shape (x := x) (v := v) h
    exact .inr ⟨x, t, rfl, e⟩
theorem keyIs_int (i : Int) (t : Tok) : keyIs (.inl i) (.int i t) = true := by simp [keyIs, Value.isInt]
theorem keyIs_str (x : Str) (t : Tok) : keyIs (.inr x) (.str x t) = true := by simp [keyIs, Value.isStrOf]
theorem key_ll (a b : Int) : decide ((Sum.inl a : Key) = Sum.inl b) = (a == b) := by
  by_cases e : a = b
  · subst e; simp
  · have h : ¬ (Sum.inl a : Key) = Sum.inl b := fun q => e (Sum.inl.inj q)
    rw [decide_eq_false h]
    exact (beq_eq_false_iff_ne.mpr e).symm
theorem key_rr (a b : Str) : decide ((Sum.inr a : Key) = Sum.inr b) = decide (a = b) := by
  by_cases e : a = b
  · subst e; simp
  · have h : ¬ (Sum.inr a : Key) = Sum.inr b := fun q => e (Sum.inr.inj q)
    rw [decide_eq_false h, decide_eq_false e]
theorem key_lr (a : Int) (b : Str) : decide ((Sum.inl a : Key) = Sum.inr b) = false := decide_eq_false (fun q => nomatch q)
theorem key_rl (a : Str) (b : Int) : decide ((Sum.inr a : Key) = Sum.inl b) = false := decide_eq_false (fun q => nomatch q)
def mixKind (prog : Program) (w : World) : PySem.KeyKind prog w Key where
  is := keyIs
  hash := keyH w
  inj := fun v a b ha hb => by
    rcases keyIs_shape ha with ⟨i, t, rfl, rfl⟩ | ⟨x, t, rfl, rfl⟩
    · rcases keyIs_shape hb with ⟨j, u, rfl, e⟩ | ⟨y, u, rfl, e⟩
      · injection e with e1 _; rw [e1]
      · exact nomatch e
    · rcases keyIs_shape hb with ⟨j, u, rfl, e⟩ | ⟨y, u, rfl, e⟩
      · exact nomatch e
      · injection e with e1 _; rw [e1]
  byValue := fun k v h => by
    rcases keyIs_shape h with ⟨i, t, rfl, rfl⟩ | ⟨x, t, rfl, rfl⟩ <;> rfl
  pyHash := fun hv h => by
    rcases keyIs_shape hv with ⟨i, t, rfl, rfl⟩ | ⟨x, t, rfl, rfl⟩
    · exact wpAny_pyHash_int h
    · exact wpAny_pyHash_str h
  eqBool := fun hu hv h => by
    rcases keyIs_shape hu with ⟨i, t, rfl, rfl⟩ | ⟨x, t, rfl, rfl⟩
    · rcases keyIs_shape hv with ⟨j, u, rfl, rfl⟩ | ⟨y, u, rfl, rfl⟩
      · rw [key_ll] at h; exact wpAny_eqBool_int h
      · rw [key_lr] at h; exact SeqAt.EqAt.int_str i t y u _ _ _ _ h
    · rcases keyIs_shape hv with ⟨j, u, rfl, rfl⟩ | ⟨y, u, rfl, rfl⟩
      · rw [key_rl] at h; exact SeqAt.EqAt.str_int x t j u _ _ _ _ h
      · rw [key_rr] at h; exact wpAny_eqBool_str h
  «strs» := fun k x t v h => by
    rcases keyIs_shape h with ⟨i, u, rfl, e⟩ | ⟨y, u, rfl, e⟩
    · exact nomatch e
    · injection e with e1 _
      subst e1
      cases v <;> rfl
theorem mixKind_int (prog : Program) (w : World) (i : Int) (t : Tok) : (mixKind prog w).is (.inl i) (.int i t) = true := keyIs_int i t
theorem mixKind_str (prog : Program) (w : World) (x : Str) (t : Tok) : (mixKind prog w).is (.inr x) (.str x t) = true := keyIs_str x t
end L2
namespace L2
open PySem PySem.Spec PyProof.Rows
inductive V where
  | non | bl (b : Bool) | int (i : Int) | str (x : Str) | byt (b : Array UInt8) | flt (b : UInt64) | ref (a : Addr) | ty (n : String)
  deriving DecidableEq
def RelV : V → Value → Prop
  | .non, u => u = Value.none
  | .bl b, u => u = Value.bool b
  | .int i, u => ∃ t, u = Value.int i t
  | .str x, u => ∃ t, u = Value.str x t
  | .byt b, u => ∃ t, u = Value.bytes b t
  | .flt b, u => ∃ t, u = Value.float b t
  | .ref a, u => u = Value.ref a
  | .ty n, u => u = Value.type n
abbrev Vals : List V → List Value → Prop := Paired RelV
theorem Vals.length {xs : List V} {us : List Value} (r : Vals xs us) : xs.length = us.length := Paired.length r
theorem Vals.get : ∀ {xs : List V} {us : List Value} {i : Nat} {x : V}, Vals xs us → xs[i]? = some x → ∃ u, us[i]? = some u ∧ RelV x u
  | _, _, _, _, .nil, e => by simp at e
  | _, _, 0, _, .cons r _, e => by simp at e; subst e; exact ⟨_, rfl, r⟩
  | _, _, i + 1, x, .cons _ t, e => by
    obtain ⟨u, h1, h2⟩ := Vals.get (i := i) (x := x) t (by simpa using e)
    exact ⟨u, by simpa using h1, h2⟩
theorem Vals.append : ∀ {xs ys : List V} {us ws : List Value}, Vals xs us → Vals ys ws → Vals (xs ++ ys) (us ++ ws)
  | _, _, _, _, .nil, s => s
  | _, _, _, _, .cons r t, s => .cons r (Vals.append t s)
theorem Vals.take : ∀ {xs : List V} {us : List Value} (n : Nat), Vals xs us → Vals (xs.take n) (us.take n)
  | _, _, 0, _ => .nil
  | _, _, _ + 1, .nil => .nil
  | _, _, n + 1, .cons r t => .cons r (Vals.take n t)
theorem Vals.drop : ∀ {xs : List V} {us : List Value} (n : Nat), Vals xs us → Vals (xs.drop n) (us.drop n)
  | _, _, 0, r => r
  | _, _, _ + 1, .nil => .nil
  | _, _, n + 1, .cons _ t => Vals.drop n t
theorem Vals.none_of : ∀ {xs : List V} {us : List Value} {i : Nat}, Vals xs us → xs[i]? = none → us[i]? = none := fun {xs us i} r e => by
  have h1 := r.length
  have h2 : xs.length ≤ i := List.getElem?_eq_none_iff.mp e
  exact List.getElem?_eq_none_iff.mpr (by omega)
def RelO : Option V → Option Value → Prop
  | some v, some u => RelV v u
  | none, none => True
  | _, _ => False
def KV {κ : Type} : List (κ × V) → List (κ × Value) → Prop := Paired fun (p : κ × V) (q : κ × Value) => p.1 = q.1 ∧ RelV p.2 q.2
def kV : Key → V
  | .inl i => .int i
  | .inr x => .str x
inductive HO where
    | lst (xs : List V)
    | tup (xs : List V)
    | dK (kvs : List (Key × V)) | dT (kvs : List (List Key × V))
    | set (S : Int → Bool) (n : Nat)
    | ins (C dx : Addr) (fs : List (Str × V))
    | own (x : Addr)
    | xd (fs : List (Str × V))
    | met (f x : Addr)
    | rng (lo hi : Int)
    | frz (o : Obj) (u : HO)
    | tbl (ps : Array Value)
    | ext (φ : Heap → Prop)
abbrev Hp := Addr → Option HO
def upd (H : Hp) (a : Addr) (o : HO) : Hp := fun b => if b = a then some o else H b
theorem upd_same {H : Hp} {a : Addr} {o : HO} : upd H a o a = some o := by unfold upd; rw [if_pos rfl]
theorem upd_ne {H : Hp} {a b : Addr} {o : HO} (h : b ≠ a) : upd H a o b = H b := by unfold upd; rw [if_neg h]
theorem ne_of {H : Hp} {a b : Addr} {o u : HO} (h : H a = some o) (h' : H b = some u) (d : o ≠ u) : a ≠ b := by
  intro e; subst e; rw [h] at h'; exact d (Option.some.inj h')
theorem ne_of_none {H : Hp} {a b : Addr} {o : HO} (h : H a = some o) (h' : H b = none) : a ≠ b := by
  intro e; subst e; rw [h] at h'; cases h'
section
variable (P : Program) (w : World)
def ObjOk (H : Hp) (h : Heap) (a : Addr) : HO → Prop
  | .lst xs => xs.length ≤ sizeLine ∧ ∃ (its : List Value) (n : Nat), Vals xs its ∧ h.get? a = some { cls := .type "list", data := .seq its.toArray n }
  | .tup xs => xs.length ≤ sizeLine ∧ ∃ its : List Value, Vals xs its ∧ IsTup h a its.toArray
  | .dK kvs => kvs.length ≤ sizeLine ∧ (a == sysModules) = false ∧ ∃ vs, KV kvs vs ∧ h.DictOf (mixKind P w) a vs
  | .dT kvs => kvs.length ≤ sizeLine ∧ (a == sysModules) = false ∧ ∃ xs : List (List Key × Addr × Value),
      Paired (fun (p : List Key × V) (q : List Key × Addr × Value) => p.1 = q.1 ∧ H q.2.1 = some (.tup (p.1.map kV)) ∧ RelV p.2 q.2.2) kvs xs ∧
      ∃ o es ep, h.get? a = some o ∧ o.ExactDict ∧ o.data = .dict es ep ∧ es.toList = xs.map (entryOfKey (tupleKind (mixKind P w))) ∧ (xs.map (·.1)).Nodup
  | .set S n => h.SetOf (intKind P w) a S n
  | .ins C dx fs => H dx = some (.own a) ∧ fs.length ≤ 1000 ∧ dx ≠ a ∧ h.get? a = some (PySem.W.instObj C dx) ∧
      ∃ mA, h.Ns1 dx mA ∧ (∀ f, RelO (fs.lookup f) (mA f)) ∧ PySem.Within mA (fs.map (·.1))
  | .own _ => ∃ o, h.get? a = some o
  | .xd fs => ∃ mA, h.Ns1 a mA ∧ ∀ f, RelO (fs.lookup f) (mA f)
  | .rng lo hi => ∃ t u v, h.get? a = some { cls := .type "range", data := .fields #[.int lo t, .int hi u, .int 1 v] }
  | .frz o u => h.get? a = some o ∧ ObjOk H h a u
  | .tbl ps => h.get? a = some { cls := .none, data := .fields ps }
  | .met f x => h.get? a = some (PySem.W.methodObj (.ref f) (.ref x))
  | .ext φ => φ h ∧ (∃ o, h.get? a = some o) ∧ ∀ h1 h2 : Heap, φ h1 → (∀ o, h1.get? a = some o → h2.get? a = some o) → φ h2
def HOk (H : Hp) (h : Heap) : Prop := ∀ a o, H a = some o → ObjOk P w H h a o
end
section
variable {P : Program} {w : World} {H H' : Hp} {h h' : Heap} {a : Addr} {o : HO}
theorem ObjOk.lt (x : ObjOk P w H h a o) : a < h.objs.size := by
  cases o with
  | lst xs => obtain ⟨_, _, _, _, e⟩ := x; exact Heap.lt_size e
  | tup xs => obtain ⟨_, _, _, p⟩ := x; exact p.lt
  | dK kvs => obtain ⟨_, _, _, _, o, _, _, e, _⟩ := x; exact Heap.lt_size e
  | dT kvs => obtain ⟨_, _, _, _, o, _, _, e, _⟩ := x; exact Heap.lt_size e
  | set S n => obtain ⟨o, _, _, _, e, _⟩ := x; exact Heap.lt_size e
  | ins C dx fs => obtain ⟨_, _, _, e, _⟩ := x; exact Heap.lt_size e
  | own y => obtain ⟨_, e⟩ := x; exact Heap.lt_size e
  | xd fs => obtain ⟨_, ⟨_, _, _, e, _⟩, _⟩ := x; exact Heap.lt_size e
  | rng lo hi => obtain ⟨_, _, _, e⟩ := x; exact Heap.lt_size e
  | frz ob u => obtain ⟨e, _⟩ := x; exact Heap.lt_size e
  | tbl ps => exact Heap.lt_size (show h.get? a = some _ from x)
  | met f y => exact Heap.lt_size (show h.get? a = some _ from x)
  | ext φ => obtain ⟨_, ⟨_, e⟩, _⟩ := x; exact Heap.lt_size e
theorem Paired.mapP {α β : Type} {F G : α → β → Prop} : ∀ {l₁ : List α} {l₂ : List β}, Paired F l₁ l₂ → (∀ a b, F a b → G a b) → Paired G l₁ l₂
  | _, _, .nil, _ => .nil
  | _, _, .cons r t, f => .cons (f _ _ r) (Paired.mapP t f)
theorem ObjOk.stay (x : ObjOk P w H h a o) (k : ∀ b u, (b = a ∨ H b = some (.own a)) → h.get? b = some u → h'.get? b = some u)
    (ho : ∀ b, H b = some (.own a) → H' b = some (.own a)) (ht : ∀ b xs, H b = some (.tup xs) → H' b = some (.tup xs)) : ObjOk P w H' h' a o := by
  induction o with
  | lst xs => obtain ⟨z, its, n, r, e⟩ := x; exact ⟨z, its, n, r, k _ _ (.inl rfl) e⟩
  | tup xs => obtain ⟨z, its, r, ob, e, c⟩ := x; exact ⟨z, its, r, ob, k _ _ (.inl rfl) e, c⟩
  | dK kvs => obtain ⟨z, y, vs, r, ob, es, ep, e, c⟩ := x; exact ⟨z, y, vs, r, ob, es, ep, k _ _ (.inl rfl) e, c⟩
  | dT kvs =>
    obtain ⟨z, y, xs, r, ob, es, ep, e, c⟩ := x
    exact ⟨z, y, xs, Paired.mapP r fun p q z => ⟨z.1, ht _ _ z.2.1, z.2.2⟩, ob, es, ep, k _ _ (.inl rfl) e, c⟩
  | set S n => obtain ⟨ob, es, ep, t, e, c⟩ := x; exact ⟨ob, es, ep, t, k _ _ (.inl rfl) e, c⟩
  | ins C dx fs =>
    obtain ⟨d, z, ne, e, mA, ⟨od, es, ep, e2, c⟩, r⟩ := x
    exact ⟨ho _ d, z, ne, k _ _ (.inl rfl) e, mA, ⟨od, es, ep, k _ _ (.inr d) e2, c⟩, r⟩
  | own y => obtain ⟨ob, e⟩ := x; exact ⟨ob, k _ _ (.inl rfl) e⟩
  | xd fs => obtain ⟨mA, ⟨od, es, ep, e, c⟩, r⟩ := x; exact ⟨mA, ⟨od, es, ep, k _ _ (.inl rfl) e, c⟩, r⟩
  | rng lo hi => obtain ⟨t, u, v, e⟩ := x; exact ⟨t, u, v, k _ _ (.inl rfl) e⟩
  | frz ob u ih => obtain ⟨e, q⟩ := x; exact ⟨k _ _ (.inl rfl) e, ih q⟩
  | tbl ps =>
    have e : h.get? a = some { cls := .none, data := .fields ps } := x
    show h'.get? a = some { cls := .none, data := .fields ps }
    exact k a _ (.inl rfl) e
  | met f y =>
    have e : h.get? a = some (PySem.W.methodObj (.ref f) (.ref y)) := x
    show h'.get? a = some (PySem.W.methodObj (.ref f) (.ref y))
    exact k a _ (.inl rfl) e
  | ext φ => obtain ⟨p, ⟨o, e⟩, st⟩ := x; exact ⟨st _ _ p fun o q => k _ _ (.inl rfl) q, ⟨o, k _ _ (.inl rfl) e⟩, st⟩
theorem HOk.lt (x : HOk P w H h) (e : H a = some o) : a < h.objs.size := (x a o e).lt
theorem HOk.fresh (x : HOk P w H h) (e : h.objs.size ≤ a) : H a = none := by
  cases q : H a with
  | none => rfl
  | some u => exact absurd (Nat.lt_of_lt_of_le (x.lt q) e) (Nat.lt_irrefl _)
theorem HOk.kept (x : HOk P w H h) (k : ∀ b u, h.get? b = some u → h'.get? b = some u) : HOk P w H h' := fun a o e =>
  (x a o e).stay (fun b u _ q => k b u q) (fun _ q => q) fun _ _ q => q
theorem HOk.laid (x : HOk P w H h) (k : ∀ b u, h.get? b = some u → h'.get? b = some u) (hp : h.objs.size ≤ a) (new : ObjOk P w (upd H a o) h' a o) : HOk P w (upd H a o) h' := fun b u e => by
  have hn := x.fresh hp
  by_cases hb : b = a
  · subst hb; rw [upd_same] at e; cases e; exact new
  · rw [upd_ne hb] at e
    exact (x b u e).stay (fun c v _ q => k c v q) (fun c q => by rw [upd_ne (ne_of_none q hn)]; exact q) fun c xs q => by rw [upd_ne (ne_of_none q hn)]; exact q
end
def Rd (H : Hp) (a : Addr) (u : HO) : Prop := H a = some u ∨ ∃ o, H a = some (.frz o u)
theorem Rd.ok {P : Program} {w : World} {H : Hp} {h : Heap} {a : Addr} {u : HO} (r : Rd H a u) (x : HOk P w H h) : ObjOk P w H h a u := by
  rcases r with r | ⟨o, r⟩
  · exact x a u r
  · obtain ⟨_, q⟩ := x a _ r
    exact q
def Mut : Option HO → Prop
  | some (.lst _) => True
  | some (.dK _) => True
  | some (.dT _) => True
  | some (.set _ _) => True
  | some (.ins _ _ _) => True
  | some (.ext _) => True
  | _ => False
section
variable {P : Program} {w : World} {H : Hp} {h h' : Heap} {x e : Addr} {o' : HO}
theorem HOk.write (ok : HOk P w H h) (mu : Mut (H x)) (he : e = x ∨ H e = some (.own x)) (k : ∀ b u, b ≠ e → h.get? b = some u → h'.get? b = some u) (heo : ∃ u, h'.get? e = some u)
    (new : ObjOk P w (upd H x o') h' x o') : HOk P w (upd H x o') h' := fun b u q => by
  have nown : ∀ c y, H c = some (.own y) → c ≠ x := fun c y r z => by subst z; rw [r] at mu; exact mu
  have ntup : ∀ c xs, H c = some (.tup xs) → c ≠ x := fun c xs r z => by subst z; rw [r] at mu; exact mu
  by_cases hb : b = x
  · subst hb; rw [upd_same] at q; cases q; exact new
  · rw [upd_ne hb] at q
    by_cases hbe : b = e
    · have q' : H b = some (.own x) := by
        rcases he with z | z
        · exact absurd (hbe.trans z) hb
        · rw [hbe]; exact z
      rw [q] at q'; cases q'
      obtain ⟨v, hv⟩ := heo
      exact ⟨v, by rw [hbe]; exact hv⟩
    · refine (ok b u q).stay (fun c v hc r => k c v ?_ r) (fun c r => by rw [upd_ne (nown c b r)]; exact r) fun c xs r => by rw [upd_ne (ntup c xs r)]; exact r
      rcases hc with rfl | hc
      · exact hbe
      · rintro rfl
        rcases he with z | z
        · exact nown c b hc z
        · rw [hc] at z; cases z; exact hb rfl
end
structure Un (fs ex : List Addr) (H H' : Hp) (h h' : Heap) : Prop where
  keep : ∀ b o, h.get? b = some o → H b = none → b ∉ fs → b ∉ ex → h'.get? b = some o
  slot : ∀ b o, h.get? b = some o → H b = none → b ∈ fs → b ∉ ex → ∃ sl, h'.get? b = some { o with slots := sl }
  free : ∀ b o, h.get? b = some o → H b = none → b ∉ ex → H' b = none
  there : ∀ b o, h.get? b = some o → b ∉ ex → ∃ o', h'.get? b = some o'
  tups : ∀ b xs, H b = some (.tup xs) → H' b = some (.tup xs)
  frzs : ∀ b o u, H b = some (.frz o u) → H' b = some (.frz o u)
  tbls : ∀ b ps, H b = some (.tbl ps) → ∃ more, H' b = some (.tbl (ps ++ more))
section
variable {fs fs' ex ex' : List Addr} {H H1 H2 : Hp} {h h1 h2 h' : Heap} {a x e : Addr} {o : HO}
theorem Un.any (u : Un fs ex H H1 h h1) {b : Addr} {ob : Obj} (q : h.get? b = some ob) (n : H b = none) (hx : b ∉ ex) : ∃ sl, h1.get? b = some { ob with slots := sl } := by
  by_cases hb : b ∈ fs
  · exact u.slot b ob q n hb hx
  · exact ⟨ob.slots, u.keep b ob q n hb hx⟩
theorem Un.kept (k : ∀ b u, h.get? b = some u → h'.get? b = some u) : Un fs ex H H h h' :=
  ⟨fun b ob q _ _ _ => k b ob q, fun b ob q _ _ _ => ⟨ob.slots, k b ob q⟩, fun _ _ _ n _ => n, fun b ob q _ => ⟨ob, k b ob q⟩, fun _ _ q => q, fun _ _ _ q => q, fun _ ps q => ⟨#[], by rw [q]; simp⟩⟩
theorem Un.refl : Un fs ex H H h h := Un.kept fun _ _ q => q
theorem Un.laid (k : ∀ b u, h.get? b = some u → h'.get? b = some u) (hp : h.objs.size ≤ a) (hn : H a = none) : Un fs ex H (upd H a o) h h' where
  keep := fun b u q _ _ _ => k b u q
  slot := fun b u q _ _ _ => ⟨u.slots, k b u q⟩
  free := fun b u q n _ => by rw [upd_ne (Nat.ne_of_lt (Nat.lt_of_lt_of_le (Heap.lt_size q) hp))]; exact n
  there := fun b u q _ => ⟨u, k b u q⟩
  tups := fun b xs q => by rw [upd_ne (ne_of_none q hn)]; exact q
  frzs := fun b u xs q => by rw [upd_ne (ne_of_none q hn)]; exact q
  tbls := fun b ps q => ⟨#[], by rw [upd_ne (ne_of_none q hn), q]; simp⟩
theorem Un.write (mu : Mut (H x)) (he : e = x ∨ H e = some (.own x)) (k : ∀ b u, b ≠ e → h.get? b = some u → h'.get? b = some u) (heo : ∃ u, h'.get? e = some u) : Un fs ex H (upd H x o) h h' := by
  have hx : ∀ b, H b = none → b ≠ x := fun b n z => by subst z; rw [n] at mu; exact mu
  have hb : ∀ b, H b = none → b ≠ e := fun b n z => by
    subst z
    rcases he with r | r
    · exact hx b n r
    · rw [n] at r; cases r
  have hm : ∀ b u, H b = some u → ¬ Mut (some u) → b ≠ x := fun b u q nm z => by subst z; rw [q] at mu; exact nm mu
  refine ⟨fun b u q n _ _ => k b u (hb b n) q, fun b u q n _ _ => ⟨u.slots, k b u (hb b n) q⟩, fun b u q n _ => by rw [upd_ne (hx b n)]; exact n, fun b u q _ => ?_,
    fun b xs q => by rw [upd_ne (hm b _ q fun z => z)]; exact q, fun b u xs q => by rw [upd_ne (hm b _ q fun z => z)]; exact q, fun b ps q => ⟨#[], by rw [upd_ne (hm b _ q fun z => z), q]; simp⟩⟩
  by_cases hbe : b = e
  · subst hbe; exact heo
  · exact ⟨u, k b u hbe q⟩
end
def trk (h : Heap) (H : Hp) : List Addr := (List.range h.objs.size).filter fun a => (H a).isSome
def hidT (h : Heap) (H : Hp) : Heap := PySem.W.hideAll h (trk h H)
theorem hidT_size (h : Heap) (H : Hp) : (hidT h H).objs.size = h.objs.size := PySem.W.hideAll_size _ _
theorem hidT_get {h : Heap} {H : Hp} {b : Addr} {o : Obj} (e : h.get? b = some o) (n : H b = none) : (hidT h H).get? b = some o :=
  PySem.W.hideAll_get _ e fun hm => by
    have q : (H b).isSome = true := (List.mem_filter.mp hm).2
    rw [n] at q; simp at q
theorem of_hidT {h : Heap} {H : Hp} {b : Addr} {o : Obj} (e : (hidT h H).get? b = some o) : h.get? b = some o ∧ H b = none := by
  have e' : h.get? b = some o := PySem.W.of_hideAll (trk h H) e
  refine ⟨e', ?_⟩
  cases q : H b with
  | none => rfl
  | some x =>
    have hm : b ∈ trk h H := List.mem_filter.mpr ⟨List.mem_range.mpr (Heap.lt_size e'), by simp [q]⟩
    have z : (hidT h H).get? b = none := PySem.W.hideAll_none (trk h H) hm
    rw [z] at e; cases e
end L2
namespace L2
open PySem PySem.Spec PyProof.Rows
structure Mod (K : PySem.W.Frag) (mg : Str → Option Value) (base : Heap) : Prop where
  kin : K.In base
  glob : base.Ns mainGlobals mg
  blt : ∃ mb, base.Ns builtinsNs mb ∧ ∀ x : Str, x ≠ "__name__" → mb x = bootBuiltins x
  nolimit : base.NoLimit
structure Cx where
  prog : Program
  w : World
  K : PySem.W.Frag
  mg : Str → Option Value
  base : Heap
  A : Around
  N : List Str
  s_0 : Shared
  H_0 : Hp
  env : Env
  outer : List Env
  stack : List Env
  ex : List Addr
  fn : Str → Bool
  calm : Bool
  pn : List (Addr × Obj)
  xe : Value → Shared → Prop
def frs (l : List Env) : List Addr := l.filterMap (·.frame)
abbrev Cx.fs (X : Cx) : List Addr := frs X.outer
def Vis (sc : Scope) (x : Str) : Prop := sc.names.lookup x = some .local ∨ sc.names.lookup x = some .cell ∨ sc.names.lookup x = some .free
def Loc (sc : Scope) (x : Str) : Prop := sc.names.lookup x = some .local ∨ sc.names.lookup x = some .cell
def Look (env : Env) (h : Heap) (m : Str → Option Value) (x : Str) (u : Value) : Prop :=
  (env.kindOf x = some .local ∧ m x = some u) ∨ ((env.kindOf x = some .cell ∨ env.kindOf x = some .free) ∧ ∃ c, env.cells.lookup x = some c ∧ h.IsCell c (some u))
structure Cx.Ok (X : Cx) : Prop where
  mod : Mod X.K X.mg X.base
  kind : X.env.scope.kind = .function
  glob : X.env.globals = mainGlobals
  blt : X.env.builtins = builtinsNs
  above : X.s_0.heap.objs.size ≤ X.env.locals
  inj : ∀ x y c, X.env.cells.lookup x = some c → X.env.cells.lookup y = some c → x = y
  has : ∀ x, (X.env.kindOf x = some .cell ∨ X.env.kindOf x = some .free) → ∃ c, X.env.cells.lookup x = some c
  cab : ∀ x c, X.fn x = true → X.env.cells.lookup x = some c → X.s_0.heap.objs.size ≤ c
  hd : X.calm = true → X.A.handled = none
  frames : X.A.frames = some X.stack
  stk : X.stack = X.outer ∨ (X.stack = X.env :: X.outer ∧ X.env.frame = some X.env.locals)
  exf : ∀ b ∈ X.ex, b ≠ X.env.locals ∧ ∀ x c, X.env.cells.lookup x = some c → c ≠ b
  bs : ∀ b o, X.base.get? b = some o → X.s_0.heap.get? b = some o ∧ X.H_0 b = none
  bsz : X.base.objs.size ≤ X.s_0.heap.objs.size
  noex : ∀ b o, X.base.get? b = some o → b ∉ X.ex
  exfs : ∀ b ∈ X.ex, b ∉ X.fs
  funs : X.s_0.heap.FunFrames X.base X.outer
  frf : ∀ b ∈ X.fs, X.H_0 b = none
structure Inv (X : Cx) (pins : List (Addr × Obj)) (σ : List (Option V)) (H : Hp) (s : Shared) : Prop where
  ok : X.Ok
  os : s.os = X.s_0.os
  bare : AllBare s.gens
  base : Un X.fs X.ex X.H_0 H X.s_0.heap s.heap
  loc : ∃ m, s.heap.Ns X.env.locals m ∧ ∀ (i : Nat) (x : Str) (v : V), X.N[i]? = some x → σ[i]? = some (some v) → Vis X.env.scope x → ∃ u, RelV v u ∧ Look X.env s.heap m x u
  cell : ∀ x c, X.env.cells.lookup x = some c → ∃ v, s.heap.IsCell c v
  free : H X.env.locals = none
  freeC : ∀ x c, X.env.cells.lookup x = some c → H c = none
  pin : ∀ p ∈ X.pn ++ pins, s.heap.get? p.1 = some p.2 ∧ H p.1 = none ∧ p.1 ≠ X.env.locals ∧ p.1 ∉ X.fs ∧ ∀ v, p.2.data ≠ .cell v
  hok : HOk X.prog X.w H s.heap
  len : σ.length = X.N.length
section
variable {X : Cx} {pins : List (Addr × Obj)} {σ : List (Option V)} {H H' : Hp} {s : Shared} {h' : Heap}
theorem Cx.Ok.nofr (ok : X.Ok) {b : Addr} {o : Obj} (e : X.base.get? b = some o) : b ∉ X.fs := fun hb => by
  have := (ok.funs.mem hb).1
  rw [e] at this; cases this
theorem Inv.bs (I : Inv X pins σ H s) : ∀ b o, X.base.get? b = some o → s.heap.get? b = some o ∧ H b = none := fun b o e =>
  ⟨I.base.keep b o (I.ok.bs b o e).1 (I.ok.bs b o e).2 (I.ok.nofr e) (I.ok.noex b o e), I.base.free b o (I.ok.bs b o e).1 (I.ok.bs b o e).2 (I.ok.noex b o e)⟩
theorem Inv.bk (I : Inv X pins σ H s) : ∀ b o, X.base.get? b = some o → s.heap.get? b = some o := fun b o e => (I.bs b o e).1
theorem Inv.mod (I : Inv X pins σ H s) : Mod X.K X.mg X.base := I.ok.mod
theorem Inv.kIn (I : Inv X pins σ H s) : X.K.In s.heap := I.ok.mod.kin.keeps I.bk
theorem Inv.nolimit (I : Inv X pins σ H s) : s.heap.NoLimit := I.ok.mod.nolimit.keeps I.bk
theorem Inv.lt (I : Inv X pins σ H s) : X.env.locals < s.heap.objs.size := let ⟨_, hn, _⟩ := I.loc; hn.lt
theorem Inv.sz (I : Inv X pins σ H s) : X.s_0.heap.objs.size ≤ s.heap.objs.size := Nat.le_trans I.ok.above (Nat.le_of_lt I.lt)
theorem Inv.nofs (I : Inv X pins σ H s) {a : Addr} (h : s.heap.objs.size ≤ a) : a ∉ X.fs := fun hb => by
  obtain ⟨_, o, ho, _⟩ := I.ok.funs.mem hb
  exact absurd (Nat.lt_of_lt_of_le (Heap.lt_size ho) (Nat.le_trans I.sz h)) (Nat.lt_irrefl _)
theorem Inv.cne (I : Inv X pins σ H s) : ∀ x c, X.env.cells.lookup x = some c → c ≠ X.env.locals := fun x c e z => by
  obtain ⟨v, o, ho, hd⟩ := I.cell x c e
  obtain ⟨m, ⟨o', es, ep, ho', hd', _⟩, _⟩ := I.loc
  rw [z, ho'] at ho; cases ho; rw [hd'] at hd; cases hd
theorem Inv.funs (I : Inv X pins σ H s) : s.heap.FunFrames X.base X.outer := by
  have all : ∀ (l : List Env), (∀ b ∈ frs l, b ∈ X.fs) → X.s_0.heap.FunFrames X.base l → s.heap.FunFrames X.base l := by
    intro l
    induction l with
    | nil => intro _ _; trivial
    | cons env r ih =>
      intro hs hl
      obtain ⟨hk, ⟨L, o, hf, hn, ho, hd⟩, hr⟩ := hl
      have hL : L ∈ X.fs := hs L (by unfold frs; rw [List.filterMap_cons, hf]; exact List.mem_cons_self)
      obtain ⟨sl, e⟩ := I.base.slot L o ho (I.ok.frf L hL) hL fun z => I.ok.exfs L z hL
      exact ⟨hk, ⟨L, _, hf, hn, e, hd⟩, ih (fun b hb => hs b (by unfold frs; rw [List.filterMap_cons, hf]; exact List.mem_cons_of_mem _ hb)) hr⟩
  exact all X.outer (fun _ hb => hb) I.ok.funs
theorem Inv.stack (I : Inv X pins σ H s) : s.heap.FunFrames X.base X.stack := by
  rcases I.ok.stk with e | ⟨e, hf⟩
  · rw [e]; exact I.funs
  · rw [e]
    obtain ⟨m, hn, _⟩ := I.loc
    refine .cons (by rw [I.ok.kind]; decide) hf hn ?_ I.funs
    exact Heap.get?_none_of_le (Nat.le_trans I.ok.bsz I.ok.above)
theorem Inv.stkSub (I : Inv X pins σ H s) : ∀ b ∈ frs X.stack, b ∈ X.env.locals :: X.fs := fun b hb => by
  rcases I.ok.stk with e | ⟨e, hf⟩
  · rw [e] at hb; exact List.mem_cons_of_mem _ hb
  · rw [e] at hb
    unfold frs at hb
    rw [List.filterMap_cons, hf] at hb
    exact hb
theorem Inv.stkFree (I : Inv X pins σ H s) : ∀ b ∈ frs X.stack, H b = none := fun b hb => by
  rcases List.mem_cons.mp (I.stkSub b hb) with e | hb
  · rw [e]; exact I.free
  · obtain ⟨_, o, ho, _⟩ := I.ok.funs.mem hb
    exact I.base.free b o ho (I.ok.frf b hb) fun z => I.ok.exfs b z hb
theorem Inv.step {g' : Array GenState} {t' : Nat} {d' : Drawn} {ch : List Addr} (I : Inv X pins σ H s)
    (hch : ∀ b ∈ ch, (b ∈ X.ex ∨ X.s_0.heap.objs.size ≤ b) ∧ b ≠ X.env.locals ∧ (∀ x c, X.env.cells.lookup x = some c → c ≠ b) ∧ ∀ p ∈ X.pn ++ pins, p.1 ≠ b)
    (keep : ∀ b o, b ≠ X.env.locals → b ∉ X.fs → b ∉ ch → s.heap.get? b = some o → H b = none → h'.get? b = some o)
    (slot : ∀ b o, b ≠ X.env.locals → b ∈ X.fs → b ∉ ch → s.heap.get? b = some o → H b = none → ∃ sl, h'.get? b = some { o with slots := sl }) (free : ∀ b o, b ∉ ch → s.heap.get? b = some o → H b = none → H' b = none)
    (there : ∀ b o, b ∉ ch → s.heap.get? b = some o → ∃ o', h'.get? b = some o')
    (tups : ∀ b xs, H b = some (.tup xs) → H' b = some (.tup xs)) (frzs : ∀ b o u, H b = some (.frz o u) → H' b = some (.frz o u)) (tbls : ∀ b ps, H b = some (.tbl ps) → ∃ more, H' b = some (.tbl (ps ++ more)))
    (ns : ∀ m, s.heap.Ns X.env.locals m → h'.Ns X.env.locals m) (hok : HOk X.prog X.w H' h') (hg : AllBare g') :
    Inv X pins σ H' { s with heap := h', gens := g', drawn := d', toks := t' } := by
  have neL : ∀ b o, X.s_0.heap.get? b = some o → b ≠ X.env.locals := fun b o e => Nat.ne_of_lt (Nat.lt_of_lt_of_le (Heap.lt_size e) I.ok.above)
  have neC : ∀ b o, X.s_0.heap.get? b = some o → b ∉ X.ex → b ∉ ch := fun b o e hx hb => by
    rcases (hch b hb).1 with z | z
    · exact hx z
    · exact absurd (Nat.lt_of_lt_of_le (Heap.lt_size e) z) (Nat.lt_irrefl _)
  have cellK : ∀ x c, X.env.cells.lookup x = some c → ∀ v, s.heap.IsCell c v → h'.IsCell c v := fun x c e v ⟨o, ho, hd⟩ => by
    have nch : c ∉ ch := fun z => (hch c z).2.2.1 x c e rfl
    by_cases hc : c ∈ X.fs
    · obtain ⟨sl, q⟩ := slot c o (I.cne x c e) hc nch ho (I.freeC x c e)
      exact ⟨_, q, hd⟩
    · exact ⟨o, keep c o (I.cne x c e) hc nch ho (I.freeC x c e), hd⟩
  refine ⟨I.ok, I.os, hg, ⟨fun b o e n hb hx => ?_, fun b o e n hb hx => ?_, fun b o e n hx => ?_, fun b o e hx => ?_, fun b xs e => tups b xs (I.base.tups b xs e), fun b o xs e => frzs b o xs (I.base.frzs b o xs e), fun b ps e => ?_⟩, ?_, fun x c e => ?_, ?_, fun x c e => ?_, fun p hp => ?_, hok, I.len⟩
  · exact keep b o (neL b o e) hb (neC b o e hx) (I.base.keep b o e n hb hx) (I.base.free b o e n hx)
  · obtain ⟨sl, e1⟩ := I.base.slot b o e n hb hx
    obtain ⟨sl', e2⟩ := slot b _ (neL b o e) hb (neC b o e hx) e1 (I.base.free b o e n hx)
    exact ⟨sl', e2⟩
  · obtain ⟨o', e1⟩ := I.base.there b o e hx
    exact free b o' (neC b o e hx) e1 (I.base.free b o e n hx)
  · obtain ⟨o', e1⟩ := I.base.there b o e hx
    exact there b o' (neC b o e hx) e1
  · obtain ⟨m1, e1⟩ := I.base.tbls b ps e
    obtain ⟨m2, e2⟩ := tbls b _ e1
    exact ⟨m1 ++ m2, by rw [e2, Array.append_assoc]⟩
  · obtain ⟨m, hn, hl⟩ := I.loc
    refine ⟨m, ns m hn, fun i x v e1 e2 e3 => ?_⟩
    obtain ⟨u, r, l⟩ := hl i x v e1 e2 e3
    refine ⟨u, r, ?_⟩
    rcases l with l | ⟨k, c, e, z⟩
    · exact .inl l
    · exact .inr ⟨k, c, e, cellK x c e _ z⟩
  · obtain ⟨v, z⟩ := I.cell x c e
    exact ⟨v, cellK x c e v z⟩
  · obtain ⟨m, ⟨o, _, _, ho, _⟩, _⟩ := I.loc
    exact free _ o (fun z => (hch _ z).2.1 rfl) ho I.free
  · obtain ⟨v, o, ho, hd⟩ := I.cell x c e
    exact free c o (fun z => (hch c z).2.2.1 x c e rfl) ho (I.freeC x c e)
  · obtain ⟨e, n, ne, nf, d⟩ := I.pin p hp
    have nch : p.1 ∉ ch := fun z => (hch p.1 z).2.2.2 p hp rfl
    exact ⟨keep p.1 p.2 ne nf nch e n, free p.1 p.2 nch e n, ne, nf, d⟩
theorem Inv.un {t' : Nat} (I : Inv X pins σ H s) (u : Un X.fs [] H H' s.heap h') (hok : HOk X.prog X.w H' h') : Inv X pins σ H' { s with heap := h', toks := t' } := by
  obtain ⟨m, ⟨o, es, ep, ho, r⟩, _⟩ := id I.loc
  obtain ⟨sl, hL⟩ := u.any ho I.free (by simp)
  exact I.step (g' := s.gens) (d' := s.drawn) (ch := []) (fun _ z => nomatch z) (fun b o _ hb _ e n => u.keep b o e n hb (by simp)) (fun b o _ hb _ e n => u.slot b o e n hb (by simp)) (fun b o _ e n => u.free b o e n (by simp)) (fun b o _ e => u.there b o e (by simp)) u.tups u.frzs u.tbls (fun m' hm => by
    obtain ⟨o', es', ep', ho', r'⟩ := hm
    rw [ho] at ho'; cases ho'
    exact ⟨_, es', ep', hL, r'⟩) hok I.bare
theorem Inv.call {g' : Array GenState} {t' : Nat} {d' : Drawn} {ch : List Addr} (I : Inv X pins σ H s) (u : Un (frs X.stack) ch H H' s.heap h') (hok : HOk X.prog X.w H' h') (hg : AllBare g')
    (hch : ∀ b ∈ ch, (b ∈ X.ex ∨ X.s_0.heap.objs.size ≤ b) ∧ b ≠ X.env.locals ∧ (∀ x c, X.env.cells.lookup x = some c → c ≠ b) ∧ ∀ p ∈ X.pn ++ pins, p.1 ≠ b) :
    Inv X pins σ H' { s with heap := h', gens := g', drawn := d', toks := t' } := by
  obtain ⟨m, ⟨o, es, ep, ho, r⟩, _⟩ := id I.loc
  obtain ⟨sl, hL⟩ := u.any ho I.free fun z => (hch _ z).2.1 rfl
  exact I.step (ch := ch) hch (fun b o hL hb hc e n => u.keep b o e n (fun z => (List.mem_cons.mp (I.stkSub b z)).elim hL hb) hc) (fun b o _ _ hc e n => u.any e n hc) (fun b o hc e n => u.free b o e n hc) (fun b o hc e => u.there b o e hc) u.tups u.frzs u.tbls (fun m' hm => by
    obtain ⟨o', es', ep', ho', r'⟩ := hm
    rw [ho] at ho'; cases ho'
    exact ⟨_, es', ep', hL, r'⟩) hok hg
theorem Inv.turned {t' : Nat} {it : Addr} (I : Inv X pins σ H s) (k : ∀ b o, b ≠ it → s.heap.get? b = some o → h'.get? b = some o) (hn : H it = none) (hL : it ≠ X.env.locals)
    (h1 : it ∈ X.ex ∨ X.s_0.heap.objs.size ≤ it) (h2 : ∀ x c, X.env.cells.lookup x = some c → c ≠ it) (h3 : ∀ p ∈ X.pn ++ pins, p.1 ≠ it) : Inv X pins σ H { s with heap := h', toks := t' } := by
  have nit : ∀ b u, H b = some u → b ≠ it := fun b u e z => by rw [z, hn] at e; cases e
  refine I.step (g' := s.gens) (d' := s.drawn) (ch := [it]) (fun b hb => ?_) (fun b o _ _ hc e _ => k b o (fun z => hc (by simp [z])) e) (fun b o _ _ hc e _ => ⟨o.slots, k b o (fun z => hc (by simp [z])) e⟩) (fun _ _ _ _ n => n)
    (fun b o hc e => ⟨o, k b o (fun z => hc (by simp [z])) e⟩) (fun _ _ e => e) (fun _ _ _ e => e) (fun b ps e => ⟨#[], by rw [e]; simp⟩) (fun m hm => ?_) (fun b u e => ?_) I.bare
  · have e : b = it := by simpa using hb
    subst e
    exact ⟨h1, hL, h2, h3⟩
  · obtain ⟨o, es, ep, ho, r⟩ := hm
    exact ⟨o, es, ep, k _ o (Ne.symm hL) ho, r⟩
  · refine (I.hok b u e).stay (fun c v hc q => k c v ?_ q) (fun _ q => q) fun _ _ q => q
    rcases hc with z | z
    · rw [z]; exact nit b u e
    · exact nit c _ z
theorem Inv.tok (I : Inv X pins σ H s) (t : Nat) : Inv X pins σ H { s with toks := t } := I.un (h' := s.heap) (t' := t) Un.refl I.hok
theorem Inv.kept {t' : Nat} (I : Inv X pins σ H s) (k : ∀ b u, s.heap.get? b = some u → h'.get? b = some u) : Inv X pins σ H { s with heap := h', toks := t' } := I.un (Un.kept k) (I.hok.kept k)
theorem Inv.laid {a : Addr} {o : HO} {t' : Nat} (I : Inv X pins σ H s) (k : ∀ b u, s.heap.get? b = some u → h'.get? b = some u) (hp : s.heap.objs.size ≤ a) (new : ObjOk X.prog X.w (upd H a o) h' a o) :
    Inv X pins σ (upd H a o) { s with heap := h', toks := t' } := I.un (Un.laid k hp (I.hok.fresh hp)) (I.hok.laid k hp new)
theorem Inv.write {x e : Addr} {o : HO} {t' : Nat} (I : Inv X pins σ H s) (mu : Mut (H x)) (he : e = x ∨ H e = some (.own x)) (k : ∀ b u, b ≠ e → s.heap.get? b = some u → h'.get? b = some u) (heo : ∃ u, h'.get? e = some u)
    (new : ObjOk X.prog X.w (upd H x o) h' x o) : Inv X pins σ (upd H x o) { s with heap := h', toks := t' } := I.un (Un.write mu he k heo) (I.hok.write mu he k heo new)
theorem Inv.weak {σ' : List (Option V)} (I : Inv X pins σ H s) (hl : σ'.length = σ.length) (w : ∀ (i : Nat) v, σ'[i]? = some (some v) → σ[i]? = some (some v)) : Inv X pins σ' H s :=
  ⟨I.ok, I.os, I.bare, I.base, let ⟨m, hn, hl'⟩ := I.loc; ⟨m, hn, fun i x v e1 e2 e3 => hl' i x v e1 (w i v e2) e3⟩, I.cell, I.free, I.freeC, I.pin, I.hok, hl.trans I.len⟩
theorem Inv.pins_of {pins' : List (Addr × Obj)} (I : Inv X pins σ H s) (h : ∀ p ∈ pins', s.heap.get? p.1 = some p.2 ∧ H p.1 = none ∧ p.1 ≠ X.env.locals ∧ p.1 ∉ X.fs ∧ ∀ v, p.2.data ≠ .cell v) : Inv X pins' σ H s :=
  ⟨I.ok, I.os, I.bare, I.base, I.loc, I.cell, I.free, I.freeC, fun p hp => (List.mem_append.mp hp).elim (fun z => I.pin p (List.mem_append_left _ z)) (h p), I.hok, I.len⟩
theorem nodup_ix {N : List Str} (hN : N.Nodup) {i j : Nat} {x : Str} (a : N[i]? = some x) (b : N[j]? = some x) : i = j := by
  obtain ⟨h1, e1⟩ := List.getElem?_eq_some_iff.mp a
  obtain ⟨h2, e2⟩ := List.getElem?_eq_some_iff.mp b
  exact (List.getElem_inj hN).mp (e1.trans e2.symm)
theorem store_ok2 {M : Model} {A : Around} {E : Value → Shared → Prop} {i : Nat} {x : Str} {v : V} {u : Value} {Q : Unit → Shared → Prop} (I : Inv X pins σ H s) (hN : X.N.Nodup) (hi : X.N[i]? = some x) (hx : Loc X.env.scope x) (r : RelV v u)
    (h : ∀ s', Inv X pins (σ.set i (some v)) H s' → (∃ a, Heap.SameBut a s.heap s'.heap ∧ (a = X.env.locals ∨ X.env.cells.lookup x = some a)) → Q () s') (hf : X.fn x = true ∨ X.env.scope.names.lookup x = some .local := by first | exact .inl rfl | exact .inr rfl | assumption) : wpAny M A (storeName X.env x u) Q E s := by
  obtain ⟨m, hn, hl⟩ := id I.loc
  have hcls : (X.env.scope.kind == .class || (X.env.scope.kind == .module && X.env.locals != X.env.globals)) = false := by rw [I.ok.kind]; rfl
  have hiσ : i < σ.length := by rw [I.len]; exact (List.getElem?_eq_some_iff.mp hi).1
  have cne := I.cne
  have tracked : ∀ {a : Addr} {h' : Heap}, (∃ o, s.heap.get? a = some o ∧ H a = none) → Heap.SameBut a s.heap h' → HOk X.prog X.w H h' := fun {a h'} ha hs b ob e => by
    obtain ⟨_, _, hfree⟩ := ha
    refine (I.hok b ob e).stay (fun c w' hc q => (hs.2 c ?_).trans q) (fun _ q => q) fun _ _ q => q
    rintro rfl
    rcases hc with rfl | hc
    · rw [hfree] at e; cases e
    · rw [hfree] at hc; cases hc
  rcases hx with hk | hk
  · refine wpAny_storeName_local hk hn (fun h' hn' hs => ?_) hcls
    obtain ⟨oL, _, _, hoL, _⟩ := id hn
    refine h _ ⟨I.ok, I.os, I.bare, ⟨fun b o e n hb hx => ?_, fun b o e n hb hx => ?_, I.base.free, fun b o e hx => ?_, I.base.tups, I.base.frzs, I.base.tbls⟩, ⟨_, hn', fun j y v' e1 e2 e3 => ?_⟩, fun y c e => ?_, I.free, I.freeC, fun p hp => ?_, tracked ⟨oL, hoL, I.free⟩ hs, by simpa using I.len⟩ ⟨_, hs, .inl rfl⟩
    · exact (hs.2 b (Nat.ne_of_lt (Nat.lt_of_lt_of_le (Heap.lt_size e) I.ok.above))).trans (I.base.keep b o e n hb hx)
    · obtain ⟨sl, e1⟩ := I.base.slot b o e n hb hx
      exact ⟨sl, (hs.2 b (Nat.ne_of_lt (Nat.lt_of_lt_of_le (Heap.lt_size e) I.ok.above))).trans e1⟩
    · obtain ⟨o', e1⟩ := I.base.there b o e hx
      exact ⟨o', (hs.2 b (Nat.ne_of_lt (Nat.lt_of_lt_of_le (Heap.lt_size e) I.ok.above))).trans e1⟩
    · by_cases hj : j = i
      · subst hj
        rw [hi] at e1; cases e1
        rw [List.getElem?_set_self hiσ] at e2
        cases e2
        exact ⟨u, r, .inl ⟨hk, by simp⟩⟩
      · rw [List.getElem?_set_ne (Ne.symm hj)] at e2
        obtain ⟨u', r', q⟩ := hl j y v' e1 e2 e3
        refine ⟨u', r', ?_⟩
        rcases q with ⟨k, e⟩ | ⟨k, c, e, z⟩
        · refine .inl ⟨k, ?_⟩
          have : y ≠ x := fun e => hj (nodup_ix hN e1 (e ▸ hi))
          simp [this, e]
        · exact .inr ⟨k, c, e, z.sameBut hs (cne y c e)⟩
    · obtain ⟨w', z⟩ := I.cell y c e
      exact ⟨w', z.sameBut hs (cne y c e)⟩
    · obtain ⟨e, n, ne, nf, d⟩ := I.pin p hp
      exact ⟨(hs.2 p.1 ne).trans e, n, ne, nf, d⟩
  · have hfn : X.fn x = true := by
      rcases hf with z | z
      · exact z
      · rw [z] at hk; cases hk
    obtain ⟨c, hc⟩ := I.ok.has x (.inl hk)
    obtain ⟨w', z⟩ := I.cell x c hc
    refine wpAny_storeName_cell I.ok.kind hk hc z (fun h' hc' hs => ?_)
    obtain ⟨oc, hoc, hocd⟩ := id z
    refine h { s with heap := h' } ⟨I.ok, I.os, I.bare, ⟨fun b o e n hb hx => ?_, fun b o e n hb hx => ?_, I.base.free, fun b o e hx => ?_, I.base.tups, I.base.frzs, I.base.tbls⟩, ⟨m, hn.sameBut hs (Ne.symm (cne x c hc)), fun j y v' e1 e2 e3 => ?_⟩, fun y c' e => ?_, I.free, I.freeC, fun p hp => ?_, tracked ⟨oc, hoc, I.freeC x c hc⟩ hs, by simpa using I.len⟩ ⟨c, hs, .inr hc⟩
    · exact (hs.2 b (Nat.ne_of_lt (Nat.lt_of_lt_of_le (Heap.lt_size e) (I.ok.cab x c hfn hc)))).trans (I.base.keep b o e n hb hx)
    · obtain ⟨sl, e1⟩ := I.base.slot b o e n hb hx
      exact ⟨sl, (hs.2 b (Nat.ne_of_lt (Nat.lt_of_lt_of_le (Heap.lt_size e) (I.ok.cab x c hfn hc)))).trans e1⟩
    · obtain ⟨o', e1⟩ := I.base.there b o e hx
      exact ⟨o', (hs.2 b (Nat.ne_of_lt (Nat.lt_of_lt_of_le (Heap.lt_size e) (I.ok.cab x c hfn hc)))).trans e1⟩
    · by_cases hj : j = i
      · subst hj
        rw [hi] at e1; cases e1
        rw [List.getElem?_set_self hiσ] at e2
        cases e2
        exact ⟨u, r, .inr ⟨.inl hk, c, hc, hc'⟩⟩
      · rw [List.getElem?_set_ne (Ne.symm hj)] at e2
        obtain ⟨u', r', q⟩ := hl j y v' e1 e2 e3
        refine ⟨u', r', ?_⟩
        rcases q with q | ⟨k, c', e, z'⟩
        · exact .inl q
        · refine .inr ⟨k, c', e, z'.sameBut hs ?_⟩
          rintro rfl
          exact hj (nodup_ix hN e1 (I.ok.inj _ _ _ e hc ▸ hi))
    · by_cases hcc : c' = c
      · subst hcc; exact ⟨_, hc'⟩
      · obtain ⟨w2, z2⟩ := I.cell y c' e
        exact ⟨w2, z2.sameBut hs hcc⟩
    · obtain ⟨e, n, ne, nf, d⟩ := I.pin p hp
      refine ⟨(hs.2 p.1 ?_).trans e, n, ne, nf, d⟩
      intro q
      rw [q, hoc] at e
      have q' : oc = p.2 := Option.some.inj e
      exact d w' (by rw [← q']; exact hocd)
theorem store_ok {M : Model} {A : Around} {E : Value → Shared → Prop} {i : Nat} {x : Str} {v : V} {u : Value} {Q : Unit → Shared → Prop} (I : Inv X pins σ H s) (hN : X.N.Nodup) (hi : X.N[i]? = some x) (hx : Loc X.env.scope x) (r : RelV v u)
    (h : ∀ s', Inv X pins (σ.set i (some v)) H s' → Q () s') (hf : X.fn x = true ∨ X.env.scope.names.lookup x = some .local := by first | exact .inl rfl | exact .inr rfl | assumption) : wpAny M A (storeName X.env x u) Q E s :=
  store_ok2 I hN hi hx r (fun s' I' _ => h s' I') hf
theorem Inv.call' {s' : Shared} {ch : List Addr} (I : Inv X pins σ H s) (ho : s'.os = s.os) (u : Un (frs X.stack) ch H H' s.heap s'.heap) (hok : HOk X.prog X.w H' s'.heap) (hg : AllBare s'.gens)
    (hch : ∀ b ∈ ch, (b ∈ X.ex ∨ X.s_0.heap.objs.size ≤ b) ∧ b ≠ X.env.locals ∧ (∀ x c, X.env.cells.lookup x = some c → c ≠ b) ∧ ∀ p ∈ X.pn ++ pins, p.1 ≠ b) : Inv X pins σ H' s' := by
  obtain ⟨h', g', d', t', o'⟩ := s'
  have e : o' = s.os := ho
  subst e
  exact I.call (g' := g') (t' := t') (d' := d') u hok hg hch
end
abbrev XK := Value → Option Addr → Hp → Prop
abbrev St := List (Option V)
abbrev VK := V → Hp → Prop
abbrev TE := St → Hp → VK → Prop
abbrev TT := St → Hp → (Bool → Hp → Prop) → Prop
abbrev TA := St → Hp → (List V → Hp → Prop) → Prop
structure Ends where
  nx : St → Hp → Prop
  rt : VK
  bk : St → Hp → Prop := fun _ _ => False
  ct : St → Hp → Prop := fun _ _ => False
abbrev TS := Ends → St → Hp → Prop
def EP (X : Cx) (pins : List (Addr × Obj)) (σ : St) (Q : VK) (u : Value) (s' : Shared) : Prop := ∃ v H', Inv X pins σ H' s' ∧ RelV v u ∧ Q v H'
def TP (X : Cx) (pins : List (Addr × Obj)) (σ : St) (Q : Bool → Hp → Prop) (b : Bool) (s' : Shared) : Prop := ∃ H', Inv X pins σ H' s' ∧ Q b H'
def AP (X : Cx) (pins : List (Addr × Obj)) (σ : St) (Q : List V → Hp → Prop) (us : List Value) (s' : Shared) : Prop := ∃ vs H', Inv X pins σ H' s' ∧ Vals vs us ∧ Q vs H'
def SP (X : Cx) (pins : List (Addr × Obj)) (D : Ends) (f : Flow) (s' : Shared) : Prop :=
  match f with
  | .next => ∃ σ' H', Inv X pins σ' H' s' ∧ D.nx σ' H'
  | .brk => ∃ σ' H', Inv X pins σ' H' s' ∧ D.bk σ' H'
  | .cont => ∃ σ' H', Inv X pins σ' H' s' ∧ D.ct σ' H'
  | .ret u => ∃ v σ' H', Inv X pins σ' H' s' ∧ RelV v u ∧ D.rt v H'
def PE (X : Cx) (e : Expr) (t : TE) : Prop :=
  ∀ (pins : List (Addr × Obj)) (s : Shared) (σ : St) (H : Hp) (Q : VK), Inv X pins σ H s → t σ H Q → wpAny (model X.prog X.w) X.A (eval e X.env) (EP X pins σ Q) X.xe s
def PT (X : Cx) (e : Expr) (t : TT) : Prop :=
  ∀ (pins : List (Addr × Obj)) (s : Shared) (σ : St) (H : Hp) (Q : Bool → Hp → Prop), Inv X pins σ H s → t σ H Q → wpAny (model X.prog X.w) X.A (isTrue e X.env (eval e X.env)) (TP X pins σ Q) X.xe s
def PW (X : Cx) (e : Expr) (t : TT) : Prop :=
  ∀ (whole : Sem Value) (pins : List (Addr × Obj)) (s : Shared) (σ : St) (H : Hp) (Q : Bool → Hp → Prop), Inv X pins σ H s → t σ H Q → wpAny (model X.prog X.w) X.A (isTrue e X.env whole) (TP X pins σ Q) X.xe s
theorem PW.pt {X : Cx} {e : Expr} {t : TT} (h : PW X e t) : PT X e t := h _
def PA (X : Cx) (es : List Expr) (t : TA) : Prop :=
  ∀ (pos : Pos) (pins : List (Addr × Obj)) (s : Shared) (σ : St) (H : Hp) (Q : List V → Hp → Prop), Inv X pins σ H s → t σ H Q → wpAny (model X.prog X.w) X.A (spliced (backTo pos (starEach es X.env))) (AP X pins σ Q) X.xe s
def PS (X : Cx) (st : Stmt) (t : TS) : Prop :=
  ∀ (pins : List (Addr × Obj)) (s : Shared) (σ : St) (H : Hp) (D : Ends), Inv X pins σ H s → t D σ H → wpAny (model X.prog X.w) X.A (exec st X.env) (SP X pins D) X.xe s
def PSs (X : Cx) (st : List Stmt) (t : TS) : Prop :=
  ∀ (pins : List (Addr × Obj)) (s : Shared) (σ : St) (H : Hp) (D : Ends), Inv X pins σ H s → t D σ H → wpAny (model X.prog X.w) X.A (execs st X.env) (SP X pins D) X.xe s
theorem thn {α : Type} {t : Sem α} {Q Q' : α → Shared → Prop} {M : Model} {A : Around} {E : Value → Shared → Prop} {s : Shared} (h : wpAny M A t Q E s) (hQ : ∀ a s, Q a s → Q' a s) : wpAny M A t Q' E s := wpAny_mono h hQ fun _ _ x => x
end L2
namespace L2
open PySem PySem.Spec PyProof.Rows
section
variable {X : Cx}
def tVar (i : Nat) : TE := fun σ H Q => ∃ v, σ[i]? = some (some v) ∧ Q v H
def tC (v : V) : TE := fun _ H Q => Q v H
theorem pe_var {i : Nat} {x : Str} {pos : Pos} (hN : X.N[i]? = some x) (hv : Vis X.env.scope x) (hd : (x == ("__debug__" : Str)) = false := by decide) (hcd : (x == ("__classdict__" : Str)) = false := by decide) : PE X (.Name x pos) (tVar i) := by
  intro pins s σ H Q I h
  obtain ⟨v, e, h⟩ := h
  obtain ⟨m, hn, hl⟩ := I.loc
  obtain ⟨u, r, l⟩ := hl i x v hN e hv
  have fin : EP X pins σ Q u s := ⟨v, H, I, r, h⟩
  rcases l with ⟨hk, hm⟩ | ⟨hk, c, hc, hcell⟩
  · exact wpAny_Name (wpAny_loadName_local I.ok.kind hk hn hm fin) hd
  · rcases hk with hk | hk
    · exact wpAny_Name (wpAny_loadName_cell I.ok.kind hk hc hcell fin) hd
    · exact wpAny_Name (wpAny_loadName_free I.ok.kind hk hc hcell fin hcd) hd
theorem pe_int {i j pos} : PE X (.Constant (.int i) j pos) (tC (.int i)) := fun _ _ _ H _ I h => wpAny_Constant_int ⟨.int i, H, I.tok _, ⟨_, rfl⟩, h⟩
theorem pe_bl {b j pos} : PE X (.Constant (.bool b) j pos) (tC (.bl b)) := fun _ _ _ H _ I h => Constant_bool ⟨.bl b, H, I, rfl, h⟩
theorem pe_non {j pos} : PE X (.Constant .none j pos) (tC .non) := fun _ _ _ H _ I h => Constant_none ⟨.non, H, I, rfl, h⟩
def Gl (X : Cx) (x : Str) : Prop := X.env.kindOf x = some .globalImplicit
theorem ld_glob {E : Value → Shared → Prop} {pins : List (Addr × Obj)} {s : Shared} {σ : St} {H : Hp} {x : Str} {u : Value} {pos : Pos} {Q : Value → Shared → Prop} (I : Inv X pins σ H s) (hg : Gl X x) (hm : X.mg x = some u) (h : Q u s)
    (hd : (x == ("__debug__" : Str)) = false := by decide) : wpAny (model X.prog X.w) X.A (eval (.Name x pos) X.env) Q E s :=
  Calls.Name_function_global I.ok.kind hg (Calls.loadGlobal_global (by rw [I.ok.glob]; exact I.mod.glob.keeps I.bk) hm h) hd
theorem ld_blt {E : Value → Shared → Prop} {pins : List (Addr × Obj)} {s : Shared} {σ : St} {H : Hp} {x : Str} {u : Value} {pos : Pos} {Q : Value → Shared → Prop} (I : Inv X pins σ H s) (hg : Gl X x) (hm : X.mg x = none) (hv : bootBuiltins x = some u) (h : Q u s)
    (hn : x ≠ "__name__" := by decide) (hd : (x == ("__debug__" : Str)) = false := by decide) : wpAny (model X.prog X.w) X.A (eval (.Name x pos) X.env) Q E s := by
  obtain ⟨mb, h1, h2⟩ := I.mod.blt
  exact Calls.Name_function_global I.ok.kind hg (Calls.loadGlobal_builtin (by rw [I.ok.glob]; exact I.mod.glob.keeps I.bk) hm (by rw [I.ok.blt]; exact h1.keeps I.bk) ((h2 x hn).trans hv) h) hd
theorem pe_glob {x : Str} {v : V} {u : Value} {pos : Pos} (hg : Gl X x) (hm : X.mg x = some u) (r : RelV v u) (hd : (x == ("__debug__" : Str)) = false := by decide) : PE X (.Name x pos) (tC v) :=
  fun _ _ _ H _ I h => ld_glob I hg hm ⟨v, H, I, r, h⟩ hd
variable {a b : Expr} {ta tb : TE} {pos : Pos}
def PC (X : Cx) (op : CmpOp) (a b : Expr) (t : TE) : Prop :=
  ∀ (pins : List (Addr × Obj)) (s : Shared) (σ : St) (H : Hp) (Q : VK), Inv X pins σ H s → t σ H Q →
    wpAny (model X.prog X.w) X.A (eval a X.env) (fun v s₁ => wpAny (model X.prog X.w) X.A (eval b X.env) (fun u s₂ => wpAny (model X.prog X.w) X.A (compareOp op v u) (EP X pins σ Q) X.xe s₂) X.xe s₁) X.xe s
theorem nobehind (b : Expr) {op : CmpOp} (h : op ≠ .In) (h2 : op ≠ .NotIn) : behindInMarks op b = false := by
  have e1 : (op == CmpOp.In) = false := by cases op <;> first | rfl | exact absurd rfl h
  have e2 : (op == CmpOp.NotIn) = false := by cases op <;> first | rfl | exact absurd rfl h2
  cases b <;> simp [behindInMarks, e1, e2]
def tIsN (ta : TE) : TE := fun σ H Q => ta σ H fun x H1 => Q (.bl (decide (x = .non))) H1
def tNotN (ta : TE) : TE := fun σ H Q => ta σ H fun x H1 => Q (.bl (!decide (x = .non))) H1
theorem RelV.none_iff {x : V} {v : Value} (r : RelV x v) : (v == Value.none) = decide (x = .non) := by
  cases x with
  | non => cases r; rfl
  | bl _ => cases r; rfl
  | int _ => obtain ⟨t, rfl⟩ := r; rfl
  | str _ => obtain ⟨t, rfl⟩ := r; rfl
  | byt _ => obtain ⟨t, rfl⟩ := r; rfl
  | flt _ => obtain ⟨t, rfl⟩ := r; rfl
  | ref _ => cases r; rfl
  | ty _ => cases r; rfl
theorem pc_isN {j pos'} (ha : PE X a ta) : PC X .Is a (.Constant .none j pos') (tIsN ta) := by
  intro pins s σ H Q I h
  refine thn (ha pins s σ H _ I h) fun v s1 ⟨x, H1, I1, r1, q1⟩ => ?_
  exact Constant_none (is_none_gen ⟨.bl _, H1, I1, by rw [r1.none_iff]; rfl, q1⟩)
theorem pc_notN {j pos'} (ha : PE X a ta) : PC X .IsNot a (.Constant .none j pos') (tNotN ta) := by
  intro pins s σ H Q I h
  refine thn (ha pins s σ H _ I h) fun v s1 ⟨x, H1, I1, r1, q1⟩ => ?_
  exact Constant_none (isnot_none_gen ⟨.bl _, H1, I1, by rw [r1.none_iff]; rfl, q1⟩)
def tB (t : TE) : TT := fun σ H Q => t σ H fun x H1 => ∃ c, x = .bl c ∧ Q c H1
theorem pt_cmp {op : CmpOp} {t : TE} (h : PC X op a b t) (h1 : behindInMarks op b = false := by first | exact nobehind _ (by decide) (by decide) | rfl) : PT X (.Compare a [op] [b] pos) (tB t) := by
  intro pins s σ H Q I hw
  refine wpAny_isTrue_Compare1 (thn (h pins s σ H _ I hw) fun v s1 h1 => thn h1 fun u s2 h2 => thn h2 fun c s3 ⟨x, H1, I1, r1, q1⟩ => ?_) h1
  obtain ⟨d, rfl, q⟩ := q1
  cases r1
  exact wpAny_truthy_bool ⟨H1, I1, q⟩
theorem pt_val {e : Expr} {t : TE} (h : PE X e t) (he : ∀ whole, isTrue e X.env whole = (do let v ← whole; standAt e.pos; holding [v] (truthy v)) := by intro _; rfl) : PT X e (tB t) := by
  intro pins s σ H Q I hw
  refine isTrue_plain (thn (h pins s σ H _ I hw) fun v s1 ⟨x, H1, I1, r1, q1⟩ => ?_) (he _)
  obtain ⟨d, rfl, q⟩ := q1
  cases r1
  exact wpAny_truthy_bool ⟨H1, I1, q⟩
variable {tA tB' : TT} {rest : List Expr}
def tAnd (t u : TT) : TT := fun σ H Q => t σ H fun c H1 => if c = true then u σ H1 Q else Q false H1
def tOr (t u : TT) : TT := fun σ H Q => t σ H fun c H1 => if c = true then Q true H1 else u σ H1 Q
def tNot (t : TT) : TT := fun σ H Q => t σ H fun c H1 => Q (!c) H1
theorem pw_and1 (ha : PT X a tA) : PW X (.BoolOp .And [a] pos) tA := by
  intro wh pins s σ H Q I h
  refine isTrue_and (thn (ha pins s σ H Q I h) fun c s1 e => ?_)
  cases c with
  | true => exact isTrue_and_nil e
  | false => exact e
theorem pw_or1 (ha : PT X a tA) : PW X (.BoolOp .Or [a] pos) tA := by
  intro wh pins s σ H Q I h
  refine isTrue_or (thn (ha pins s σ H Q I h) fun c s1 e => ?_)
  cases c with
  | false => exact isTrue_or_nil e
  | true => exact e
theorem pw_and (ha : PT X a tA) (hb : PW X (.BoolOp .And (b :: rest) pos) tB') : PW X (.BoolOp .And (a :: b :: rest) pos) (tAnd tA tB') := by
  intro wh pins s σ H Q I h
  refine isTrue_and (thn (ha pins s σ H _ I h) fun c s1 ⟨H1, I1, q1⟩ => ?_)
  cases c with
  | true => exact hb wh pins s1 σ H1 Q I1 q1
  | false => exact ⟨H1, I1, q1⟩
theorem pw_or (ha : PT X a tA) (hb : PW X (.BoolOp .Or (b :: rest) pos) tB') : PW X (.BoolOp .Or (a :: b :: rest) pos) (tOr tA tB') := by
  intro wh pins s σ H Q I h
  refine isTrue_or (thn (ha pins s σ H _ I h) fun c s1 ⟨H1, I1, q1⟩ => ?_)
  cases c with
  | true => exact ⟨H1, I1, q1⟩
  | false => exact hb wh pins s1 σ H1 Q I1 q1
theorem pt_not (ha : PT X a tA) : PT X (.UnaryOp .Not a pos) (tNot tA) := by
  intro pins s σ H Q I h
  exact isTrue_not (ha pins s σ H (fun c H1 => Q (!c) H1) I h)
def tAndV (ta tb : TE) : TE := fun σ H Q => ta σ H fun x H1 => ∃ c, x = .bl c ∧ if c = true then tb σ H1 Q else Q (.bl false) H1
def tOrV (ta tb : TE) : TE := fun σ H Q => ta σ H fun x H1 => ∃ c, x = .bl c ∧ if c = true then Q (.bl true) H1 else tb σ H1 Q
theorem pe_one {op} {t : TE} (h : PE X a t) : PE X (.BoolOp op [a] pos) t := fun pins s σ H Q I hw => BoolOp_one (h pins s σ H Q I hw)
theorem pe_and (ha : PE X a ta) (hb : PE X (.BoolOp .And (b :: rest) pos) tb) : PE X (.BoolOp .And (a :: b :: rest) pos) (tAndV ta tb) := by
  intro pins s σ H Q I h
  refine BoolOp_and (thn (ha pins s σ H _ I h) fun v s1 ⟨x, H1, I1, r1, q1⟩ => ?_)
  obtain ⟨c, rfl, q1⟩ := q1
  cases r1
  refine wpAny_truthy_bool ?_
  cases c with
  | true => exact hb pins s1 σ H1 Q I1 q1
  | false => exact ⟨.bl false, H1, I1, rfl, q1⟩
theorem pe_or (ha : PE X a ta) (hb : PE X (.BoolOp .Or (b :: rest) pos) tb) : PE X (.BoolOp .Or (a :: b :: rest) pos) (tOrV ta tb) := by
  intro pins s σ H Q I h
  refine BoolOp_or (thn (ha pins s σ H _ I h) fun v s1 ⟨x, H1, I1, r1, q1⟩ => ?_)
  obtain ⟨c, rfl, q1⟩ := q1
  cases r1
  refine wpAny_truthy_bool ?_
  cases c with
  | false => exact hb pins s1 σ H1 Q I1 q1
  | true => exact ⟨.bl true, H1, I1, rfl, q1⟩
def tIf (t : TT) (ta tb : TE) : TE := fun σ H Q => t σ H fun c H1 => if c = true then ta σ H1 Q else tb σ H1 Q
theorem pe_ifExp {c : Expr} (hc : PT X c tA) (ha : PE X a ta) (hb : PE X b tb) : PE X (.IfExp c a b pos) (tIf tA ta tb) := by
  intro pins s σ H Q I h
  refine wpAny_IfExp (thn (hc pins s σ H _ I h) fun d s1 ⟨H1, I1, q1⟩ => ?_)
  cases d with
  | true => exact ha pins s1 σ H1 Q I1 q1
  | false => exact hb pins s1 σ H1 Q I1 q1
end
end L2
namespace L2
open PySem PySem.Spec PyProof.Rows
def SqL (K : PySem.W.Frag) (H : Hp) (a : Addr) (xs : List V) : Prop :=
  Rd H a (.lst xs) ∨
    ∃ (o : Obj) (its : Array Value) (n : Nat), K.lookup a = some o ∧ o.cls = .type "list" ∧ o.dict = none ∧ o.data = .seq its n ∧ its.size ≤ sizeLine ∧ Vals xs its.toList
def SqT (K : PySem.W.Frag) (H : Hp) (a : Addr) (xs : List V) : Prop :=
  Rd H a (.tup xs) ∨
    ∃ (o : Obj) (its : Array Value) (n : Nat), K.lookup a = some o ∧ o.cls = .type "tuple" ∧ o.data = .seq its n ∧ its.size ≤ sizeLine ∧ Vals xs its.toList
def absV : Value → Option V
  | .none => some .non
  | .bool b => some (.bl b)
  | .int i _ => some (.int i)
  | .str x _ => some (.str x)
  | .bytes b _ => some (.byt b)
  | .float b _ => some (.flt b)
  | .ref a => some (.ref a)
  | .type n => some (.ty n)
  | _ => none
theorem RelV.abs {x : V} {u : Value} (r : RelV x u) : absV u = some x := by
  cases x with
  | non => cases r; rfl
  | bl _ => cases r; rfl
  | int _ => obtain ⟨t, rfl⟩ := r; rfl
  | str _ => obtain ⟨t, rfl⟩ := r; rfl
  | byt _ => obtain ⟨t, rfl⟩ := r; rfl
  | flt _ => obtain ⟨t, rfl⟩ := r; rfl
  | ref _ => cases r; rfl
  | ty _ => cases r; rfl
theorem RelV.inj {x y : V} {u : Value} (r : RelV x u) (q : RelV y u) : x = y := Option.some.inj (r.abs.symm.trans q.abs)
theorem Vals.inj : ∀ {xs ys : List V} {us : List Value}, Vals xs us → Vals ys us → xs = ys
  | _, _, _, .nil, .nil => rfl
  | _, _, _, .cons r t, .cons r' t' => by rw [r.inj r', Vals.inj t t']
section
variable {X : Cx} {pins : List (Addr × Obj)} {σ : St} {H : Hp} {s : Shared} {a : Addr} {xs ys : List V}
theorem SqL.of {K : PySem.W.Frag} (h : H a = some (.lst xs)) : SqL K H a xs := .inl (.inl h)
theorem SqT.of {K : PySem.W.Frag} (h : H a = some (.tup xs)) : SqT K H a xs := .inl (.inl h)
theorem Inv.list (I : Inv X pins σ H s) (h : SqL X.K H a xs) : ∃ its : List Value, Vals xs its ∧ PlainL s.heap a its.toArray ∧ xs.length ≤ sizeLine := by
  rcases h with h | ⟨o, its, n, hk, hc, hd, hs, hz, r⟩
  · obtain ⟨z, its, n, r, e⟩ := h.ok I.hok
    exact ⟨its, r, ⟨_, n, e, rfl, rfl, rfl⟩, z⟩
  · refine ⟨its.toList, r, ⟨o, n, I.kIn a o hk, hc, hd, by simpa using hs⟩, ?_⟩
    have e := r.length
    simp only [Array.length_toList] at e
    omega
theorem Inv.tuple (I : Inv X pins σ H s) (h : SqT X.K H a xs) : ∃ its : List Value, Vals xs its ∧ IsTup s.heap a its.toArray ∧ xs.length ≤ sizeLine := by
  rcases h with h | ⟨o, its, n, hk, hc, hs, hz, r⟩
  · obtain ⟨z, its, r, p⟩ := h.ok I.hok
    exact ⟨its, r, p, z⟩
  · refine ⟨its.toList, r, ⟨o, I.kIn a o hk, hc, n, by simpa using hs⟩, ?_⟩
    have e := r.length
    simp only [Array.length_toList] at e
    omega
theorem Inv.list_inj (I : Inv X pins σ H s) (h : SqL X.K H a xs) (h' : SqL X.K H a ys) : xs = ys := by
  obtain ⟨its, r, ⟨o, n, e, _, _, d⟩, _⟩ := I.list h
  obtain ⟨its', r', ⟨o', n', e', _, _, d'⟩, _⟩ := I.list h'
  rw [e] at e'; cases e'
  rw [d] at d'
  injection d' with d1 _
  have : its = its' := by simpa using congrArg Array.toList d1
  subst this
  exact r.inj r'
end
abbrev Cx.wish (X : Cx) (E : Value → Shared → Prop) : Cx := { X with xe := E }
abbrev Cx.nox (X : Cx) : Cx := X.wish fun _ _ => False
theorem Cx.Ok.wish {X : Cx} (ok : X.Ok) (E : Value → Shared → Prop) : (X.wish E).Ok :=
  ⟨ok.mod, ok.kind, ok.glob, ok.blt, ok.above, ok.inj, ok.has, ok.cab, ok.hd, ok.frames, ok.stk, ok.exf, ok.bs, ok.bsz, ok.noex, ok.exfs, ok.funs, ok.frf⟩
theorem Cx.Ok.unwish {X : Cx} {E : Value → Shared → Prop} (ok : (X.wish E).Ok) : X.Ok :=
  ⟨ok.mod, ok.kind, ok.glob, ok.blt, ok.above, ok.inj, ok.has, ok.cab, ok.hd, ok.frames, ok.stk, ok.exf, ok.bs, ok.bsz, ok.noex, ok.exfs, ok.funs, ok.frf⟩
section
variable {X : Cx} {pins : List (Addr × Obj)} {σ : St} {H : Hp} {s : Shared} {E : Value → Shared → Prop}
theorem Inv.wish (I : Inv X pins σ H s) (E : Value → Shared → Prop) : Inv (X.wish E) pins σ H s := ⟨I.ok.wish E, I.os, I.bare, I.base, I.loc, I.cell, I.free, I.freeC, I.pin, I.hok, I.len⟩
theorem Inv.unwish (I : Inv (X.wish E) pins σ H s) : Inv X pins σ H s := ⟨I.ok.unwish, I.os, I.bare, I.base, I.loc, I.cell, I.free, I.freeC, I.pin, I.hok, I.len⟩
theorem SP.unwish {D : Ends} {f : Flow} {s' : Shared} (h : SP (X.wish E) pins D f s') : SP X pins D f s' := by
  cases f with
  | next => obtain ⟨σ', H', I, q⟩ := h; exact ⟨σ', H', I.unwish, q⟩
  | brk => obtain ⟨σ', H', I, q⟩ := h; exact ⟨σ', H', I.unwish, q⟩
  | cont => obtain ⟨σ', H', I, q⟩ := h; exact ⟨σ', H', I.unwish, q⟩
  | ret u => obtain ⟨v, σ', H', I, r, q⟩ := h; exact ⟨v, σ', H', I.unwish, r, q⟩
theorem PSs.nox {st : List Stmt} {t : TS} (h : PSs X.nox st t) : PSs X st t := fun pins s σ H D I hw =>
  wpAny_mono (h pins s σ H D (I.wish _) hw) (fun _ _ q => q.unwish) fun _ _ z => False.elim z
end
section
variable {X : Cx} {st : Stmt} {rest : List Stmt} {t u : TS} {e : Expr} {te : TE} {pos : Pos}
def tNext : TS := fun D σ H => D.nx σ H
def tSeq (t u : TS) : TS := fun D σ H => t { D with nx := u D } σ H
theorem pss_nil : PSs X [] tNext := fun _ _ σ H _ I h => wpAny_execs_nil ⟨σ, H, I, h⟩
theorem pss_cons (h1 : PS X st t) (h2 : PSs X rest u) : PSs X (st :: rest) (tSeq t u) := by
  intro pins s σ H D I h
  refine wpAny_execs_cons (thn (h1 pins s σ H { D with nx := u D } I h) fun f s1 q => ?_)
  cases f with
  | next =>
    obtain ⟨σ', H', I', q⟩ := q
    exact h2 pins s1 σ' H' D I' q
  | ret v => exact q
  | brk => exact q
  | cont => exact q
theorem pss_one (h1 : PS X st t) : PSs X [st] t := by
  intro pins s σ H D I h
  refine wpAny_execs_cons (thn (h1 pins s σ H D I h) fun f s1 q => ?_)
  cases f with
  | next => exact wpAny_execs_nil q
  | ret v => exact q
  | brk => exact q
  | cont => exact q
theorem Inv.quiet {pins : List (Addr × Obj)} {σ : St} {H : Hp} {s : Shared} (I : Inv X pins σ H s) : interactive X.env = false := by simp [interactive, I.ok.kind]
def tDrop (te : TE) : TS := fun D σ H => te σ H fun _ H1 => D.nx σ H1
theorem ps_expr (he : PE X e te) (hs : swapsWith e none pos.line X.env = pure false := by rfl) : PS X (.Expr e pos) (tDrop te) := by
  intro pins s σ H D I h
  exact wpAny_Expr_any (thn (he pins s σ H _ I h) fun v s1 ⟨x, H1, I1, r1, q1⟩ => ⟨σ, H1, I1, q1⟩) I.quiet hs
def tRet (te : TE) : TS := fun D σ H => te σ H D.rt
theorem ps_ret (he : PE X e te) : PS X (.Return (some e) pos) (tRet te) := by
  intro pins s σ H D I h
  exact wpAny_Return_some (thn (he pins s σ H _ I h) fun v s1 ⟨x, H1, I1, r1, q1⟩ => ⟨x, σ, H1, I1, r1, q1⟩)
def tIfS (c : TT) (t u : TS) : TS := fun D σ H => c σ H fun b H1 => if b = true then t D σ H1 else u D σ H1
theorem ps_if {c : Expr} {a b : List Stmt} {tc : TT} (hc : PT X c tc) (ha : PSs X a t) (hb : PSs X b u) : PS X (.If c a b pos) (tIfS tc t u) := by
  intro pins s σ H D I h
  refine wpAny_If (thn (hc pins s σ H _ I h) fun d s1 ⟨H1, I1, q1⟩ => ?_)
  cases d with
  | true => exact ha pins s1 σ H1 D I1 q1
  | false => exact hb pins s1 σ H1 D I1 q1
def tNever : TS := fun _ _ _ => False
theorem pss_never {sts : List Stmt} : PSs X sts tNever := fun _ _ _ _ _ _ h => h.elim
end
abbrev TG := V → St → Hp → (St → Hp → Prop) → Prop
def PG (X : Cx) (target : Expr) (t : TG) : Prop :=
  ∀ (pins : List (Addr × Obj)) (s : Shared) (σ : St) (H : Hp) (v : V) (u : Value) (Q : St → Hp → Prop), Inv X pins σ H s → RelV v u → t v σ H Q →
    wpAny (model X.prog X.w) X.A (assign target X.env u) (fun _ s' => ∃ σ' H', Inv X pins σ' H' s' ∧ Q σ' H') X.xe s
abbrev TIp := V → V → Hp → VK → Prop
def PIp (X : Cx) (op : Operator) (t : TIp) : Prop :=
  ∀ (pins : List (Addr × Obj)) (s : Shared) (σ : St) (H : Hp) (x y : V) (v u : Value) (Q : VK), Inv X pins σ H s → RelV x v → RelV y u → t x y H Q →
    wpAny (model X.prog X.w) X.A (inplaceOp op v u) (EP X pins σ Q) X.xe s
section
variable {X : Cx} {pos : Pos}
def gName (i : Nat) : TG := fun v σ H Q => Q (σ.set i (some v)) H
theorem pg_name {i : Nat} {x : Str} (hN : X.N.Nodup) (hi : X.N[i]? = some x) (hx : Loc X.env.scope x) (hf : X.fn x = true ∨ X.env.scope.names.lookup x = some .local := by first | exact .inl rfl | exact .inr rfl | assumption) : PG X (.Name x pos) (gName i) := by
  intro pins s σ H v u Q I r h
  exact wpAny_assign_Name (store_ok I hN hi hx r (fun s' I' => ⟨_, H, I', h⟩) hf)
def tAsg (te : TE) (g : TG) : TS := fun D σ H => te σ H fun x H1 => g x σ H1 D.nx
theorem ps_set {i : Nat} {x : Str} {e : Expr} {te : TE} {pos' : Pos} (hN : X.N.Nodup) (hi : X.N[i]? = some x) (hx : Loc X.env.scope x) (he : PE X e te) (hs : swapsWith e (some (.Name x pos')) pos.line X.env = pure false := by rfl) (hf : X.fn x = true ∨ X.env.scope.names.lookup x = some .local := by first | exact .inl rfl | exact .inr rfl | assumption) :
    PS X (.Assign [.Name x pos'] e pos) (tAsg te (gName i)) := by
  intro pins s σ H D I h
  refine wpAny_Assign_Name (thn (he pins s σ H _ I h) fun v s1 ⟨y, H1, I1, r1, q1⟩ => ?_) hs
  exact store_ok I1 hN hi hx r1 (fun s2 I2 => ⟨_, H1, I2, q1⟩) hf
def tAug (i : Nat) (te : TE) (ti : TIp) : TS := fun D σ H => ∃ x, σ[i]? = some (some x) ∧ te σ H fun y H1 => ti x y H1 fun z H2 => D.nx (σ.set i (some z)) H2
theorem ps_aug {i : Nat} {x : Str} {e : Expr} {te : TE} {op : Operator} {ti : TIp} {pos' : Pos} (hN : X.N.Nodup) (hi : X.N[i]? = some x) (hx : Loc X.env.scope x) (he : PE X e te) (ho : PIp X op ti) (hf : X.fn x = true ∨ X.env.scope.names.lookup x = some .local := by first | exact .inl rfl | exact .inr rfl | assumption) :
    PS X (.AugAssign (.Name x pos') op e pos) (tAug i te ti) := by
  intro pins s σ H D I h
  obtain ⟨v, e1, h⟩ := h
  obtain ⟨m, hn, hl⟩ := I.loc
  have vis : Vis X.env.scope x := by rcases hx with k | k; exact .inl k; exact .inr (.inl k)
  obtain ⟨u, r, l⟩ := hl i x v hi e1 vis
  refine wpAny_AugAssign_Name ?_
  have go : wpAny (model X.prog X.w) X.A (eval e X.env) (fun w s₂ => wpAny (model X.prog X.w) X.A (inplaceOp op u w) (fun r s₃ => wpAny (model X.prog X.w) X.A (storeName X.env x r) (fun _ => SP X pins D .next) X.xe s₃) X.xe s₂) X.xe s := by
    refine thn (he pins s σ H _ I h) fun w s1 ⟨y, H1, I1, r1, q1⟩ => ?_
    refine thn (ho pins s1 σ H1 v y u w _ I1 r r1 q1) fun z s2 ⟨zv, H2, I2, r2, q2⟩ => ?_
    exact store_ok I2 hN hi hx r2 (fun s3 I3 => ⟨_, H2, I3, q2⟩) hf
  rcases l with ⟨hk, hm⟩ | ⟨hk, c, hc, hcell⟩
  · exact wpAny_loadName_local I.ok.kind hk hn hm go
  · rcases hk with hk | hk
    · exact wpAny_loadName_cell I.ok.kind hk hc hcell go
    · rcases hx with k | k
      · have : X.env.scope.names.lookup x = some .free := hk
        rw [k] at this; cases this
      · have : X.env.scope.names.lookup x = some .free := hk
        rw [k] at this; cases this
def ipI (f : Int → Int → Int) : TIp := fun x y H Q => ∃ i j, x = .int i ∧ y = .int j ∧ Q (.int (f i j)) H
theorem ip_add : PIp X .Add (ipI fun i j => i + j) := by
  intro pins s σ H x y v u Q I r1 r2 h
  obtain ⟨i, j, e1, e2, q⟩ := h
  subst e1; subst e2
  obtain ⟨t, rfl⟩ := r1
  obtain ⟨t', rfl⟩ := r2
  exact iadd_int ⟨.int _, H, I.tok _, ⟨_, rfl⟩, q⟩
end
section
variable {X : Cx} {pos : Pos}
def tWhile (c : TT) (tb : TS) : TS := fun D σ H => ∃ W : Nat → St → Hp → Prop, (∃ m, W m σ H) ∧ ∀ m σ H, W m σ H →
  c σ H fun b H1 => if b = true then ∃ N : St → Hp → Prop, (∀ σ' H', N σ' H' → ∃ m', m' < m ∧ W m' σ' H') ∧ tb { D with nx := N, ct := N, bk := D.nx } σ H1 else D.nx σ H1
theorem ps_while {c : Expr} {body : List Stmt} {tc : TT} {tb : TS} (hp : PassesOwn (model X.prog X.w) X.A X.env X.xe) (hc : PT X c tc) (hb : PSs X body tb) : PS X (.While c body [] pos) (tWhile tc tb) := by
  intro pins s σ H D I h
  obtain ⟨W, ⟨m0, w0⟩, turn⟩ := h
  refine wpAny_While (codeAny_whileLoop (fun n s' => ∃ σ' H', Inv X pins σ' H' s' ∧ W n σ' H') ?_ m0 ⟨σ, H, I, w0⟩)
  rintro n s1 ⟨σ1, H1, I1, w1⟩
  refine wpAny_passesOwn hp (thn (hc pins s1 σ1 H1 _ I1 (turn n σ1 H1 w1)) fun b s2 ⟨H2, I2, q2⟩ => ?_)
  cases b with
  | true =>
    obtain ⟨N, hN, q2⟩ := q2
    rw [if_pos rfl]
    refine wpAny_passesOwn hp (thn (hb pins s2 σ1 H2 _ I2 q2) fun f s3 q3 => ?_)
    cases f with
    | next =>
      obtain ⟨σ3, H3, I3, n3⟩ := q3
      obtain ⟨m', hm, w3⟩ := hN σ3 H3 n3
      exact ⟨m', hm, σ3, H3, I3, w3⟩
    | cont =>
      obtain ⟨σ3, H3, I3, n3⟩ := q3
      obtain ⟨m', hm, w3⟩ := hN σ3 H3 n3
      exact ⟨m', hm, σ3, H3, I3, w3⟩
    | brk => exact q3
    | ret v => exact q3
  | false =>
    rw [if_neg Bool.false_ne_true]
    exact wpAny_execs_nil ⟨σ1, H2, I2, q2⟩
end
structure It where
  go : Nat → Hp → Prop
  yld : Nat → Hp → V → Hp → Prop
  stop : Nat → Hp → Prop
def FpOk (X : Cx) (pins : List (Addr × Obj)) (H : Hp) (b : Addr) : Prop :=
  H b = none ∧ b ≠ X.env.locals ∧ b ∉ X.fs ∧ (b ∈ X.ex ∨ X.s_0.heap.objs.size ≤ b) ∧ (∀ x c, X.env.cells.lookup x = some c → c ≠ b) ∧ ∀ p ∈ X.pn ++ pins, p.1 ≠ b
theorem Inv.fpOk {X : Cx} {pins : List (Addr × Obj)} {σ : St} {H H' : Hp} {s : Shared} {b : Addr} (I : Inv X pins σ H s) (hb : s.heap.objs.size ≤ b) (hn : H' b = none) : FpOk X pins H' b := by
  refine ⟨hn, Nat.ne_of_gt (Nat.lt_of_lt_of_le I.lt hb), I.nofs hb, .inr (Nat.le_trans I.sz hb), fun x c e z => ?_, fun p hp z => ?_⟩
  · obtain ⟨v, q⟩ := I.cell x c e
    exact absurd (Nat.lt_of_lt_of_le q.lt (by rw [z]; exact hb)) (Nat.lt_irrefl _)
  · exact absurd (Nat.lt_of_lt_of_le (Heap.lt_size (I.pin p hp).1) (by rw [z]; exact hb)) (Nat.lt_irrefl _)
structure Turn (P : Program) (w : World) (K : PySem.W.Frag) (tg : Expr) (J : It) (fp : List Addr) (it : Addr) (tn : Nat → Heap → Prop) : Prop where
  mem : it ∈ fp
  obj : ∀ i h, tn i h → ∀ b ∈ fp, ∃ o, h.get? b = some o ∧ ∀ v, o.data ≠ .cell v
  keep : ∀ i h h', tn i h → (∀ b ∈ fp, ∀ o, h.get? b = some o → h'.get? b = some o) → tn i h'
  item : ∀ (X : Cx), X.prog = P → X.w = w → X.K = K → X.calm = true → ∀ (i : Nat) (pins : List (Addr × Obj)) (s : Shared) (σ : St) (H : Hp) (E : Value → Shared → Prop), Inv X pins σ H s → (∀ b ∈ fp, FpOk X pins H b) → tn i s.heap → J.go i H →
    wpAny (model P w) X.A (pyNext (.ref it)) (fun r s1 => ∃ u, r = some u ∧
      wpAny (model P w) X.A (letOwnedTupleGo tg (.ref it) u) (fun _ s2 => ∃ x H', Inv X pins σ H' s2 ∧ RelV x u ∧ J.yld i H x H' ∧ tn (i + 1) s2.heap ∧ ∀ b ∈ fp, H' b = none) E s1) E s
  done : ∀ (X : Cx), X.prog = P → X.w = w → X.K = K → X.calm = true → ∀ (i : Nat) (pins : List (Addr × Obj)) (s : Shared) (σ : St) (H : Hp) (E : Value → Shared → Prop), Inv X pins σ H s → (∀ b ∈ fp, FpOk X pins H b) → tn i s.heap → J.stop i H →
    wpAny (model P w) X.A (pyNext (.ref it)) (fun r s1 => r = none ∧ Inv X pins σ H s1) E s
  self : ∀ (A : Around) (i : Nat) (s : Shared) (Q : Value → Shared → Prop) (E : Value → Shared → Prop), tn i s.heap → Q (.ref it) s → wpAny (model P w) A (pyIter (.ref it)) Q E s
abbrev TI := St → Hp → (It → Hp → Prop) → Prop
def PIE (X : Cx) (pins : List (Addr × Obj)) (σ : St) (tg : Expr) (R : It → Hp → Prop) (itv : Value) (s2 : Shared) : Prop :=
  ∃ (it : Addr) (fp : List Addr) (tn : Nat → Heap → Prop) (J : It) (H' : Hp), itv = .ref it ∧ Inv X pins σ H' s2 ∧ Turn X.prog X.w X.K tg J fp it tn ∧ tn 0 s2.heap ∧ (∀ b ∈ fp, FpOk X pins H' b) ∧ R J H'
def PI (X : Cx) (tg iter : Expr) (wi : TI) : Prop :=
  ∀ (pins : List (Addr × Obj)) (s : Shared) (σ : St) (H : Hp) (R : It → Hp → Prop), Inv X pins σ H s → wi σ H R →
    wpAny (model X.prog X.w) X.A (eval iter X.env) (fun v s1 => wpAny (model X.prog X.w) X.A (pyIter v) (PIE X pins σ tg R) X.xe s1) X.xe s
theorem go_of {M : Model} {A : Around} {E : Value → Shared → Prop} {s : Shared} {tg : Expr} {it : Addr} {u : Value} {o : Obj} {n : String} {vs : Array Value} {Q : Unit → Shared → Prop} (ho : s.heap.get? it = some o) (hc : o.cls = .type n) (hd : o.data = .fields vs)
    (hn : ["enumerate", "zip", "dict_itemiterator", "dict_reverseitemiterator", "odict_iterator", "itertools.zip_longest", "itertools.pairwise"].contains n = false) (hQ : Q () s) : wpAny M A (letOwnedTupleGo tg (.ref it) u) Q E s := by
  unfold letOwnedTupleGo
  cases tg <;> first
    | exact wpAny_pure hQ
    | (cases u <;> first
        | exact wpAny_pure hQ
        | (refine wpAny_bind (wpAny_load ho ?_)
           rw [hc, hd]
           show wpAny M A (if (["enumerate", "zip", "dict_itemiterator", "dict_reverseitemiterator", "odict_iterator", "itertools.zip_longest", "itertools.pairwise"].contains n && vs[0]? == some (rawInt _)) = true then _ else _) Q E s
           rw [if_neg (by intro h; rw [hn, Bool.false_and] at h; cases h)]
           exact wpAny_pure hQ))
def Itl (K : PySem.W.Frag) (a : Addr) : It :=
  ⟨fun i H => ∃ xs x, SqL K H a xs ∧ xs[i]? = some x, fun i H x H' => H' = H ∧ ∀ xs, SqL K H a xs → xs[i]? = some x, fun i H => ∃ xs, SqL K H a xs ∧ xs.length ≤ i⟩
def Itr (lo : Int) (n : Nat) : It := ⟨fun i _ => i < n, fun i H x H' => H' = H ∧ x = .int (lo + i), fun i _ => n ≤ i⟩
theorem turn_list {P : Program} {w : World} {K : PySem.W.Frag} {tg : Expr} (a it : Addr) : Turn P w K tg (Itl K a) [it] it (fun i h => h.IsListIter it a i) where
  mem := by simp
  obj := fun i h st b hb => by
    have e : b = it := by simpa using hb
    subst e
    obtain ⟨o, e, c, d⟩ := st
    exact ⟨o, e, fun v z => by rw [d] at z; cases z⟩
  keep := fun i h h' st k => st.at fun o e => k it (by simp) o e
  item := by
    intro X hP hw hK hc i pins s σ H E I hf st hg
    subst hP hw hK
    obtain ⟨xs, x, hq, hx⟩ := hg
    obtain ⟨its, rv, p, hz⟩ := I.list hq
    obtain ⟨u, hu, ru⟩ := rv.get hx
    obtain ⟨f0, f1, f2, f3, f4, f5⟩ := hf it (by simp)
    refine wpAny_pyNext_list_item st p.isList (x := u) (by simpa using hu) fun h' st' sb => ?_
    have I1 : Inv X pins σ H { s with heap := h' } := I.turned (t' := s.toks) (fun b o hb e => (sb.2 b hb).trans e) f0 f1 f3 f4 f5
    obtain ⟨o, e, c, d⟩ := id st'
    exact ⟨u, rfl, go_of (s := { s with heap := h' }) e c d (by decide) ⟨x, H, I1, ru, ⟨rfl, fun ys hy => by rw [I.list_inj hy hq]; exact hx⟩, st', fun b hb => (hf b hb).1⟩⟩
  done := by
    intro X hP hw hK hc i pins s σ H E I hf st hg
    subst hP hw hK
    obtain ⟨xs, hq, hx⟩ := hg
    obtain ⟨its, rv, p, hz⟩ := I.list hq
    obtain ⟨f0, f1, f2, f3, f4, f5⟩ := hf it (by simp)
    have hl := rv.length
    exact wpAny_pyNext_list_end (I.ok.hd hc) st p.isList (by simp; omega) fun h' eb => ⟨rfl, I.turned (t' := s.toks) (fun b o hb e => eb b o hb e) f0 f1 f3 f4 f5⟩
  self := fun _ _ _ _ _ st h => wpAny_pyIter_listiter st h
theorem turn_range {P : Program} {w : World} {K : PySem.W.Frag} {tg : Expr} (it : Addr) (lo : Int) (n : Nat) : Turn P w K tg (Itr lo n) [it] it (fun i h => IsRangeIter h it (lo + (i : Nat) * 1) ((n : Int) - (i : Nat)) 1) where
  mem := by simp
  obj := fun i h st b hb => by
    have e : b = it := by simpa using hb
    subst e
    exact ⟨_, st, fun v z => by
      have z' : Data.fields _ = Data.cell v := z
      cases z'⟩
  keep := fun i h h' st k => k it (by simp) _ st
  item := by
    intro X hP hw hK hc i pins s σ H E I hf st hg
    subst hP hw hK
    obtain ⟨f0, f1, f2, f3, f4, f5⟩ := hf it (by simp)
    have W := Walks.range (prog := X.prog) (w := X.w) (I.ok.hd hc) it lo 1 n
    refine W.item i s _ _ hg st fun v h' tk hv st' kk => ?_
    obtain ⟨t, rfl⟩ := hv
    have I1 : Inv X pins σ H { s with heap := h', toks := tk } := I.turned (fun b o hb e => kk b o (by simpa using hb) e) f0 f1 f3 f4 f5
    refine ⟨_, rfl, go_of (s := { s with heap := h', toks := tk }) (n := "range_iterator") st' rfl rfl (by decide) ⟨.int (lo + i), H, I1, ⟨t, ?_⟩, ⟨rfl, rfl⟩, st', fun b hb => (hf b hb).1⟩⟩
    rw [Int.mul_one]
  done := by
    intro X hP hw hK hc i pins s σ H E I hf st hg
    subst hP hw hK
    obtain ⟨f0, f1, f2, f3, f4, f5⟩ := hf it (by simp)
    exact wpAny_pyNext_range_end (I.ok.hd hc) st (by have : n ≤ i := hg; omega) fun h' eb => ⟨rfl, I.turned (t' := s.toks) (fun b o hb e => eb b o hb e) f0 f1 f3 f4 f5⟩
  self := fun _ _ _ _ _ st h => wpAny_pyIter_rangeiter st h
end L2
namespace L2
open PySem PySem.Spec PyProof.Rows
section
variable {X : Cx} {tg : Expr}
def iList (K : PySem.W.Frag) (tl : TE) : TI := fun σ H R => tl σ H fun x H1 => ∃ a, x = .ref a ∧ (∃ xs, SqL K H1 a xs) ∧ R (Itl K a) H1
theorem pi_list {l : Expr} {tl : TE} (hl : PE X l tl) : PI X tg l (iList X.K tl) := by
  intro pins s σ H R I h
  refine thn (hl pins s σ H _ I h) fun v s1 ⟨x, H1, I1, r1, q1⟩ => ?_
  obtain ⟨a, e, ⟨xs, hq⟩, q⟩ := q1
  subst e
  cases r1
  obtain ⟨its, rv, p, hz⟩ := I1.list hq
  refine wpAny_pyIter_list p.isList ?_
  refine ⟨s1.heap.objs.size, [s1.heap.objs.size], _, _, H1, rfl, I1.kept (t' := s1.toks) fun b o e => Heap.get?_push_of_some _ e, turn_list a _, ⟨_, Heap.get?_push_size _ rfl, rfl, rfl⟩, fun b hb => ?_, q⟩
  have e : b = s1.heap.objs.size := by simpa using hb
  subst e
  exact I1.fpOk (Nat.le_refl _) (I1.hok.fresh (Nat.le_refl _))
theorem range_it {pins : List (Addr × Obj)} {σ : St} {H : Hp} {s : Shared} {R : It → Hp → Prop} {E : Value → Shared → Prop} {lo hi : Int} {t u v : Tok} {tk : Nat} (I : Inv X pins σ H s) (h1 : -(2 ^ 62) ≤ lo) (h2 : lo < 2 ^ 62) (h3 : -(2 ^ 62) ≤ hi) (h4 : hi < 2 ^ 62)
    (q : R (Itr lo (hi - lo).toNat) H) : wpAny (model X.prog X.w) X.A (pyIter (.ref s.heap.objs.size)) (PIE X pins σ tg R) E { s with heap := s.heap.push { cls := .type "range", data := .fields #[.int lo t, .int hi u, .int 1 v] }, toks := tk } := by
  refine wpAny_pyIter_range (IsRange.new ..) (small_one h1 h2 h3 h4) ?_
  have I1 : Inv X pins σ H { s with heap := s.heap.push { cls := .type "range", data := .fields #[.int lo t, .int hi u, .int 1 v] }, toks := tk } := I.kept fun b o e => Heap.get?_push_of_some _ e
  refine ⟨(s.heap.push { cls := .type "range", data := .fields #[.int lo t, .int hi u, .int 1 v] }).objs.size, [(s.heap.push { cls := .type "range", data := .fields #[.int lo t, .int hi u, .int 1 v] }).objs.size], _, _, H, rfl,
    I1.kept (t' := tk) fun b o e => Heap.get?_push_of_some _ e, turn_range _ lo (hi - lo).toNat, ?_, fun b hb => ?_, q⟩
  · have e1 : lo + ((0 : Nat) : Int) * 1 = lo := by simp
    have e2 : (((hi - lo).toNat : Nat) : Int) - ((0 : Nat) : Int) = Builtin.Range.rangeSize lo hi 1 := by rw [rangeSize_one]; split <;> omega
    show IsRangeIter _ _ (lo + ((0 : Nat) : Int) * 1) ((((hi - lo).toNat : Nat) : Int) - ((0 : Nat) : Int)) 1
    rw [e1, e2]
    exact Heap.get?_push_size _ rfl
  · have e : b = (s.heap.push { cls := .type "range", data := .fields #[.int lo t, .int hi u, .int 1 v] }).objs.size := by simpa using hb
    subst e
    exact I1.fpOk (Nat.le_refl _) (I1.hok.fresh (Nat.le_refl _))
def iRng1 (ta : TA) : TI := fun σ H R => ta σ H fun vs H1 => ∃ j : Int, vs = [.int j] ∧ -(2 ^ 62) ≤ j ∧ j < 2 ^ 62 ∧ R (Itr 0 j.toNat) H1
theorem pi_range1 {a : Expr} {ta : TA} {p pos : Pos} (hg : Gl X "range") (hm : X.mg "range" = none) (ha : PA X [a] ta) (hs : starEach [a] X.env = [(false, eval a X.env)] := by rfl) : PI X tg (.Call (.Name "range" p) [a] [] pos) (iRng1 ta) := by
  intro pins s σ H R I h
  refine Call_ (ld_blt I hg hm boot_range (PyProof.Rows.callWith_type1 (thn (ha pos pins s σ H _ I h) fun us s1 ⟨vs, H1, I1, r1, q1⟩ => ?_) hs rfl))
  obtain ⟨j, e, q1, q2, q⟩ := q1
  subst e
  cases r1 with
  | cons r rr =>
    cases rr
    obtain ⟨t, rfl⟩ := r
    exact call_range_1 (range_it I1 (by omega) (by omega) q1 q2 (by simpa using q))
def tFor (wi : TI) (g : TG) (tb : TS) : TS := fun D σ H => wi σ H fun J H1 => ∃ W : Nat → Nat → St → Hp → Prop, (∃ m, W 0 m σ H1) ∧ ∀ i m σ H, W i m σ H →
  (J.stop i H ∧ D.nx σ H) ∨ (J.go i H ∧ ∃ N : St → Hp → Prop, (∀ σ' H', N σ' H' → ∃ m', m' < m ∧ W (i + 1) m' σ' H') ∧ ∀ x H', J.yld i H x H' → g x σ H' fun σ2 H2 => tb { D with nx := N, ct := N, bk := D.nx } σ2 H2)
def pinsAt (fp : List Addr) (h : Heap) : List (Addr × Obj) := fp.filterMap fun b => (h.get? b).map fun o => (b, o)
theorem mem_pinsAt {fp : List Addr} {h : Heap} {b : Addr} {o : Obj} (hb : b ∈ fp) (e : h.get? b = some o) : (b, o) ∈ pinsAt fp h := List.mem_filterMap.mpr ⟨b, hb, by rw [e]; rfl⟩
theorem of_pinsAt {fp : List Addr} {h : Heap} {p : Addr × Obj} (hp : p ∈ pinsAt fp h) : p.1 ∈ fp ∧ h.get? p.1 = some p.2 := by
  obtain ⟨b, hb, e⟩ := List.mem_filterMap.mp hp
  cases q : h.get? b with
  | none => rw [q] at e; cases e
  | some o =>
    rw [q] at e
    have e' : (b, o) = p := Option.some.inj e
    subst e'
    exact ⟨hb, q⟩
theorem Inv.pinned {pins : List (Addr × Obj)} {σ : St} {H : Hp} {s : Shared} {fp : List Addr} (I : Inv X pins σ H s) (hf : ∀ b ∈ fp, FpOk X pins H b) (ho : ∀ b ∈ fp, ∃ o, s.heap.get? b = some o ∧ ∀ v, o.data ≠ .cell v) : Inv X (pins ++ pinsAt fp s.heap) σ H s :=
  I.pins_of fun p hp => (List.mem_append.mp hp).elim (fun z => I.pin p (List.mem_append_right _ z)) fun z => by
    obtain ⟨hb, e⟩ := of_pinsAt z
    obtain ⟨f0, f1, f2, _⟩ := hf p.1 hb
    obtain ⟨o, e', d⟩ := ho p.1 hb
    rw [e] at e'; cases e'
    exact ⟨e, f0, f1, f2, d⟩
theorem Inv.unpinned {pins pl : List (Addr × Obj)} {σ : St} {H : Hp} {s : Shared} (I : Inv X (pins ++ pl) σ H s) : Inv X pins σ H s := I.pins_of fun p hp => I.pin p (List.mem_append_right _ (List.mem_append_left _ hp))
theorem ps_for {iter : Expr} {body : List Stmt} {wi : TI} {g : TG} {tb : TS} {pos : Pos} (hp : PassesOwn (model X.prog X.w) X.A X.env X.xe) (hc : X.calm = true) (hi : PI X tg iter wi) (hg : PG X tg g) (hb : PSs X body tb)
    (hs : ∀ x, foldedSetIterable iter X.env x = pure x := by intro _; rfl) : PS X (.For tg iter body [] pos) (tFor wi g tb) := by
  intro pins s σ H D I h
  refine wpAny_For (thn (hi pins s σ H _ I h) fun v s1 h1 => thn h1 fun itv s2 h2 => ?_) hs
  obtain ⟨it, fp, tn, J, H2, e, I2, T, st2, f2, W, ⟨m0, w0⟩, turn⟩ := h2
  subst e
  -- what stays true of the iterator's objects through the loop
  have stat : ∀ {H' : Hp}, (∀ b ∈ fp, H' b = none) → ∀ b ∈ fp, FpOk X pins H' b := fun hn b hb => ⟨hn b hb, (f2 b hb).2⟩
  refine codeAny_forLoop_any (fun n s' => ∃ i σ' H', Inv X pins σ' H' s' ∧ tn i s'.heap ∧ (∀ b ∈ fp, H' b = none) ∧ W i n σ' H') ?_ m0 ⟨0, σ, H2, I2, st2, fun b hb => (f2 b hb).1, w0⟩
  rintro n s3 ⟨i, σ3, H3, I3, st3, fr3, w3⟩
  rcases turn i n σ3 H3 w3 with ⟨stop, qn⟩ | ⟨go, N, hN, step⟩
  · refine wpAny_passesOwn hp (thn (T.done X rfl rfl rfl hc i pins s3 σ3 H3 X.xe I3 (stat fr3) st3 stop) fun r s4 ⟨hr, I4⟩ => ?_)
    subst hr
    exact wpAny_execs_nil ⟨σ3, H3, I4, qn⟩
  · refine wpAny_passesOwn hp (thn (T.item X rfl rfl rfl hc i pins s3 σ3 H3 X.xe I3 (stat fr3) st3 go) fun r s4 ⟨u, hr, h4⟩ => ?_)
    subst hr
    refine wpAny_passesOwn hp (thn h4 fun _ s5 ⟨x, H5, I5, r5, y5, st5, fr5⟩ => ?_)
    have I5' := I5.pinned (stat fr5) (T.obj _ _ st5)
    refine wpAny_passesOwn hp (thn (hg _ s5 σ3 H5 x u _ I5' r5 (step x H5 y5)) fun _ s6 ⟨σ6, H6, I6, q6⟩ => ?_)
    refine wpAny_passesOwn hp (thn (hb _ s6 σ6 H6 _ I6 q6) fun f s7 q7 => ?_)
    have again : ∀ {σ7 : St} {H7 : Hp}, Inv X (pins ++ pinsAt fp s5.heap) σ7 H7 s7 → N σ7 H7 → ∃ m, m < n ∧ ∃ i σ' H', Inv X pins σ' H' s7 ∧ tn i s7.heap ∧ (∀ b ∈ fp, H' b = none) ∧ W i m σ' H' := fun {σ7 H7} I7 n7 => by
      obtain ⟨m', hm, w7⟩ := hN σ7 H7 n7
      refine ⟨m', hm, i + 1, σ7, H7, I7.unpinned, T.keep _ _ _ st5 fun b hb o e => (I7.pin (b, o) (List.mem_append_right _ (List.mem_append_right _ (mem_pinsAt hb e)))).1, fun b hb => ?_, w7⟩
      obtain ⟨o, e, d⟩ := T.obj _ _ st5 b hb
      exact (I7.pin (b, o) (List.mem_append_right _ (List.mem_append_right _ (mem_pinsAt hb e)))).2.1
    cases f with
    | next => obtain ⟨σ7, H7, I7, n7⟩ := q7; exact again I7 n7
    | cont => obtain ⟨σ7, H7, I7, n7⟩ := q7; exact again I7 n7
    | brk => obtain ⟨σ7, H7, I7, q7⟩ := q7; exact ⟨σ7, H7, I7.unpinned, q7⟩
    | ret v => obtain ⟨x7, σ7, H7, I7, r7, q7⟩ := q7; exact ⟨x7, σ7, H7, I7.unpinned, r7, q7⟩
end
theorem for_list {K : PySem.W.Frag} {a : Addr} {xs : List V} {g : TG} {tb : TS} {D : Ends} {σ : St} {H : Hp} (Pv : Nat → St → Hp → Prop) (h0 : Pv 0 σ H) (hl : ∀ i σ H, i ≤ xs.length → Pv i σ H → SqL K H a xs)
    (hs : ∀ i x σ H, xs[i]? = some x → Pv i σ H → g x σ H fun σ2 H2 => tb { D with nx := Pv (i + 1), ct := Pv (i + 1), bk := D.nx } σ2 H2) (hd : ∀ σ H, Pv xs.length σ H → D.nx σ H) :
    ∃ W : Nat → Nat → St → Hp → Prop, (∃ m, W 0 m σ H) ∧ ∀ i m σ H, W i m σ H →
      ((Itl K a).stop i H ∧ D.nx σ H) ∨ ((Itl K a).go i H ∧ ∃ N : St → Hp → Prop, (∀ σ' H', N σ' H' → ∃ m', m' < m ∧ W (i + 1) m' σ' H') ∧ ∀ x H', (Itl K a).yld i H x H' → g x σ H' fun σ2 H2 => tb { D with nx := N, ct := N, bk := D.nx } σ2 H2) := by
  refine ⟨fun i m σ H => m = xs.length - i ∧ i ≤ xs.length ∧ Pv i σ H, ⟨xs.length, by simp, Nat.zero_le _, h0⟩, ?_⟩
  rintro i m σ H ⟨rfl, hi, p⟩
  have q := hl i σ H hi p
  by_cases hlt : i < xs.length
  · refine .inr ⟨⟨xs, xs[i], q, by simp [hlt]⟩, Pv (i + 1), fun σ' H' p' => ⟨xs.length - (i + 1), by omega, rfl, hlt, p'⟩, fun x H' y => ?_⟩
    obtain ⟨e, y⟩ := y
    subst e
    exact hs i x σ _ (y xs q) p
  · have e : i = xs.length := by omega
    subst e
    exact .inl ⟨⟨xs, q, Nat.le_refl _⟩, hd σ H p⟩
theorem for_range {lo : Int} {n : Nat} {g : TG} {tb : TS} {D : Ends} {σ : St} {H : Hp} (Pv : Nat → St → Hp → Prop) (h0 : Pv 0 σ H)
    (hs : ∀ i σ H, i < n → Pv i σ H → g (.int (lo + i)) σ H fun σ2 H2 => tb { D with nx := Pv (i + 1), ct := Pv (i + 1), bk := D.nx } σ2 H2) (hd : ∀ σ H, Pv n σ H → D.nx σ H) :
    ∃ W : Nat → Nat → St → Hp → Prop, (∃ m, W 0 m σ H) ∧ ∀ i m σ H, W i m σ H →
      ((Itr lo n).stop i H ∧ D.nx σ H) ∨ ((Itr lo n).go i H ∧ ∃ N : St → Hp → Prop, (∀ σ' H', N σ' H' → ∃ m', m' < m ∧ W (i + 1) m' σ' H') ∧ ∀ x H', (Itr lo n).yld i H x H' → g x σ H' fun σ2 H2 => tb { D with nx := N, ct := N, bk := D.nx } σ2 H2) := by
  refine ⟨fun i m σ H => m = n - i ∧ i ≤ n ∧ Pv i σ H, ⟨n, by simp, Nat.zero_le _, h0⟩, ?_⟩
  rintro i m σ H ⟨rfl, hi, p⟩
  by_cases hlt : i < n
  · refine .inr ⟨hlt, Pv (i + 1), fun σ' H' p' => ⟨n - (i + 1), by omega, rfl, hlt, p'⟩, fun x H' y => ?_⟩
    obtain ⟨e, y⟩ := y
    subst e y
    exact hs i σ _ hlt p
  · have e : i = n := by omega
    subst e
    exact .inl ⟨Nat.le_refl _, hd σ H p⟩
end L2
namespace L2
open PySem PySem.Spec PyProof.Rows
abbrev R2 := V → V → Hp → VK → Prop
def OpR (X : Cx) (f : Value → Value → Sem Value) (r : R2) : Prop :=
  ∀ (pins : List (Addr × Obj)) (s : Shared) (σ : St) (H : Hp) (x y : V) (v u : Value) (Q : VK), Inv X pins σ H s → RelV x v → RelV y u → r x y H Q →
    wpAny (model X.prog X.w) X.A (f v u) (EP X pins σ Q) X.xe s
def UnR (X : Cx) (f : Value → Sem Value) (r : V → Hp → VK → Prop) : Prop :=
  ∀ (pins : List (Addr × Obj)) (s : Shared) (σ : St) (H : Hp) (x : V) (v : Value) (Q : VK), Inv X pins σ H s → RelV x v → r x H Q →
    wpAny (model X.prog X.w) X.A (f v) (EP X pins σ Q) X.xe s
def CallR (X : Cx) (f : Value) (r : List V → Hp → VK → Prop) : Prop :=
  ∀ (pins : List (Addr × Obj)) (s : Shared) (σ : St) (H : Hp) (xs : List V) (us : List Value) (Q : VK), Inv X pins σ H s → Vals xs us → r xs H Q →
    wpAny (model X.prog X.w) X.A (call f us) (EP X pins σ Q) X.xe s
def tOp (r : R2) (ta tb : TE) : TE := fun σ H Q => ta σ H fun x H1 => tb σ H1 fun y H2 => r x y H2 Q
def tUn (r : V → Hp → VK → Prop) (ta : TE) : TE := fun σ H Q => ta σ H fun x H1 => r x H1 Q
def rI (C : Int → Int → Prop) (g : Int → Int → V) : R2 := fun x y H Q => ∃ i j, x = .int i ∧ y = .int j ∧ C i j ∧ Q (g i j) H
def rI0 (g : Int → Int → V) : R2 := fun x y H Q => ∃ i j, x = .int i ∧ y = .int j ∧ Q (g i j) H
def rU (g : Int → V) : V → Hp → VK → Prop := fun x H Q => ∃ i, x = .int i ∧ Q (g i) H
section
variable {X : Cx} {a b c : Expr} {ta tb tc : TE} {pos : Pos}
theorem binT (ha : PE X a ta) (hb : PE X b tb) {pins : List (Addr × Obj)} {s : Shared} {σ : St} {H : Hp} {R : V → V → Hp → Prop} (I : Inv X pins σ H s)
    (h : ta σ H fun x H1 => tb σ H1 fun y H2 => R x y H2) {Q : Value → Shared → Prop} {f : Value → Value → Sem Value}
    (hf : ∀ v u s2 x y H2, Inv X pins σ H2 s2 → RelV x v → RelV y u → R x y H2 → wpAny (model X.prog X.w) X.A (f v u) Q X.xe s2) :
    wpAny (model X.prog X.w) X.A (eval a X.env) (fun v s₁ => wpAny (model X.prog X.w) X.A (eval b X.env) (fun u s₂ => wpAny (model X.prog X.w) X.A (f v u) Q X.xe s₂) X.xe s₁) X.xe s := by
  refine thn (ha pins s σ H _ I h) fun v s1 ⟨x, H1, I1, r1, q1⟩ => ?_
  refine thn (hb pins s1 σ H1 _ I1 q1) fun u s2 ⟨y, H2, I2, r2, q2⟩ => ?_
  exact hf v u s2 x y H2 I2 r1 r2 q2
theorem pe_op {op : Operator} {r : R2} (ho : OpR X (binaryOp op) r) (ha : PE X a ta) (hb : PE X b tb) : PE X (.BinOp a op b pos) (tOp r ta tb) := by
  intro pins s σ H Q I h
  exact wpAny_BinOp (binT ha hb I h fun v u s2 x y H2 I2 rx ry q => ho pins s2 σ H2 x y v u Q I2 rx ry q)
theorem pe_un {op : UnaryOp} {r : V → Hp → VK → Prop} (ho : UnR X (unaryOp op) r) (ha : PE X a ta) : PE X (.UnaryOp op a pos) (tUn r ta) := by
  intro pins s σ H Q I h
  exact UnaryOp_ (thn (ha pins s σ H _ I h) fun v s1 ⟨x, H1, I1, r1, q1⟩ => ho pins s1 σ H1 x v Q I1 r1 q1)
theorem opI {f : Value → Value → Sem Value} {C : Int → Int → Prop} {g : Int → Int → Int}
    (rule : ∀ (i j : Int) (t u : Tok) (s : Shared) (Q : Value → Shared → Prop) (E : Value → Shared → Prop), C i j → Q (.int (g i j) s.toks) { s with toks := s.toks + 1 } → wpAny (model X.prog X.w) X.A (f (.int i t) (.int j u)) Q E s) :
    OpR X f (rI C fun i j => .int (g i j)) := by
  intro pins s σ H x y v u Q I rx ry h
  obtain ⟨i, j, rfl, rfl, hc, q⟩ := h
  obtain ⟨t, rfl⟩ := rx
  obtain ⟨t', rfl⟩ := ry
  exact rule i j t t' s _ _ hc ⟨.int (g i j), H, I.tok _, ⟨_, rfl⟩, q⟩
theorem opI0 {f : Value → Value → Sem Value} {g : Int → Int → Int}
    (rule : ∀ (i j : Int) (t u : Tok) (s : Shared) (Q : Value → Shared → Prop) (E : Value → Shared → Prop), Q (.int (g i j) s.toks) { s with toks := s.toks + 1 } → wpAny (model X.prog X.w) X.A (f (.int i t) (.int j u)) Q E s) :
    OpR X f (rI0 fun i j => .int (g i j)) := by
  intro pins s σ H x y v u Q I rx ry h
  obtain ⟨i, j, rfl, rfl, q⟩ := h
  obtain ⟨t, rfl⟩ := rx
  obtain ⟨t', rfl⟩ := ry
  exact rule i j t t' s _ _ ⟨.int (g i j), H, I.tok _, ⟨_, rfl⟩, q⟩
theorem opB0 {f : Value → Value → Sem Value} {g : Int → Int → Bool}
    (rule : ∀ (i j : Int) (t u : Tok) (s : Shared) (Q : Value → Shared → Prop) (E : Value → Shared → Prop), Q (.bool (g i j)) s → wpAny (model X.prog X.w) X.A (f (.int i t) (.int j u)) Q E s) :
    OpR X f (rI0 fun i j => .bl (g i j)) := by
  intro pins s σ H x y v u Q I rx ry h
  obtain ⟨i, j, rfl, rfl, q⟩ := h
  obtain ⟨t, rfl⟩ := rx
  obtain ⟨t', rfl⟩ := ry
  exact rule i j t t' s _ _ ⟨.bl (g i j), H, I, rfl, q⟩
def CDiv (i j : Int) : Prop := 0 < j ∧ j < 1073741824
def CPow (i j : Int) : Prop := 0 ≤ j ∧ j ≤ 1000000 ∧ i.natAbs < 2 ^ 64
def CMul (i j : Int) : Prop := (-(2 ^ 64) < i ∧ i < 2 ^ 64) ∨ (-(2 ^ 64) < j ∧ j < 2 ^ 64)
theorem CMul.ok {i j : Int} (h : CMul i j) : IntMulOk i j := by
  rcases h with ⟨h1, h2⟩ | ⟨h1, h2⟩
  · exact .of_left (intBits_le_64 h1 h2)
  · exact .of_right (intBits_le_64 h1 h2)
theorem two_pow_nn (k : Nat) : (0 : Int) ≤ 2 ^ k := by
  rw [two_pow_cast]
  exact Int.natCast_nonneg _
theorem op_add : OpR X (binaryOp .Add) (rI0 fun i j => .int (i + j)) := opI0 fun _ _ _ _ _ _ _ q => add_int q
theorem op_sub : OpR X (binaryOp .Sub) (rI0 fun i j => .int (i - j)) := opI0 fun _ _ _ _ _ _ _ q => sub_int q
theorem op_mul : OpR X (binaryOp .Mult) (rI CMul fun i j => .int (i * j)) := opI fun _ _ _ _ _ _ _ hc q => mul_int q hc.ok
theorem op_fdiv : OpR X (binaryOp .FloorDiv) (rI CDiv fun i j => .int (i / j)) := opI fun i j _ _ _ _ _ hc q => by
  have h1 : (0 : Int) < j := hc.1
  have h2 : j < 1073741824 := hc.2
  exact floordiv_int (by omega) (by rw [Int.fdiv_eq_ediv_of_nonneg i (by omega)]; exact q) (.inl (PyProof.noPylong_small (by omega)))
theorem op_mod : OpR X (binaryOp .Mod) (rI (fun _ j => 0 < j) fun i j => .int (i % j)) := opI fun i j _ _ _ _ _ hc q => by
  have h1 : (0 : Int) < j := hc
  exact mod_int' (by omega) (by rw [Int.fmod_eq_emod_of_nonneg i (by omega)]; exact q)
theorem op_shl : OpR X (binaryOp .LShift) (rI CPow fun i j => .int (i * 2 ^ j.toNat)) := opI fun _ _ _ _ _ _ _ hc q => lshift_int_small hc.1 hc.2.1 hc.2.2 q
theorem op_shr : OpR X (binaryOp .RShift) (rI (fun _ j => 0 ≤ j) fun i j => .int (i / 2 ^ j.toNat)) := opI fun i j _ _ _ _ _ hc q =>
  rshift_int hc (by rw [Int.fdiv_eq_ediv_of_nonneg i (two_pow_nn _)]; exact q)
theorem op_or : OpR X (binaryOp .BitOr) (rI0 fun i j => .int (Builtin.bitOr i j)) := opI0 fun _ _ _ _ _ _ _ q => or_int q
theorem unI {f : Value → Sem Value} {g : Int → Int}
    (rule : ∀ (i : Int) (t : Tok) (s : Shared) (Q : Value → Shared → Prop) (E : Value → Shared → Prop), Q (.int (g i) s.toks) { s with toks := s.toks + 1 } → wpAny (model X.prog X.w) X.A (f (.int i t)) Q E s) :
    UnR X f (rU fun i => .int (g i)) := by
  intro pins s σ H x v Q I rx h
  obtain ⟨i, rfl, q⟩ := h
  obtain ⟨t, rfl⟩ := rx
  exact rule i t s _ _ ⟨.int (g i), H, I.tok _, ⟨_, rfl⟩, q⟩
theorem un_neg : UnR X (unaryOp .USub) (rU fun i => .int (-i)) := unI fun _ _ _ _ _ q => neg_int q
end
def scal : V → V → Bool
  | .non, .non => true | .non, .int _ => true | .int _, .non => true | .non, .bl _ => true | .bl _, .non => true | .non, .str _ => true | .str _, .non => true
  | .int _, .int _ => true | .bl _, .bl _ => true | .str _, .str _ => true | .byt _, .byt _ => true
  | .int _, .str _ => true | .str _, .int _ => true | .bl _, .str _ => true | .str _, .bl _ => true
  | _, _ => false
def rEq : R2 := fun x y H Q => scal x y = true ∧ Q (.bl (decide (x = y))) H
def rNe : R2 := fun x y H Q => scal x y = true ∧ Q (.bl (!decide (x = y))) H
theorem dec_int {i j : Int} : decide (V.int i = V.int j) = (i == j) := by
  rw [Bool.eq_iff_iff]
  simp
theorem dec_bl {i j : Bool} : decide (V.bl i = V.bl j) = (i == j) := by
  rw [Bool.eq_iff_iff]
  simp
theorem dec_str {i j : Str} : decide (V.str i = V.str j) = (i == j) := by
  rw [Bool.eq_iff_iff]
  simp
theorem dec_byt {i j : Array UInt8} : decide (V.byt i = V.byt j) = (i.toList == j.toList) := by
  rw [Bool.eq_iff_iff]
  cases i
  cases j
  simp
section
variable {X : Cx} {a b c : Expr} {ta tb tc : TE} {pos : Pos}
theorem fin_bl {pins : List (Addr × Obj)} {σ : St} {H : Hp} {s : Shared} {Q : VK} {k k' : Bool} (I : Inv X pins σ H s) (q : Q (.bl k) H) (e : k = k') : EP X pins σ Q (.bool k') s := by
  subst e
  exact ⟨.bl k, H, I, rfl, q⟩
theorem op_eq : OpR X (compareOp .Eq) rEq := by
  intro pins s σ H x y v u Q I rx ry h
  obtain ⟨hs, q⟩ := h
  cases x with
  | non =>
    cases rx
    cases y with
    | non => cases ry; exact PySem.EqNone.eq_none_none (fin_bl I q (by simp))
    | bl j => cases ry; exact PySem.EqNone.eq_none_bool (fin_bl I q (by simp))
    | int j => obtain ⟨t', rfl⟩ := ry; exact PySem.EqNone.eq_none_int (fin_bl I q (by simp))
    | str j => obtain ⟨t', rfl⟩ := ry; exact PySem.EqNone.eq_none_str (fin_bl I q (by simp))
    | _ => exact absurd (show false = true from hs) Bool.false_ne_true
  | bl i =>
    cases rx
    cases y with
    | non => cases ry; exact PySem.EqNone.eq_bool_none (fin_bl I q (by simp))
    | bl j => cases ry; exact eq_bool (fin_bl I q dec_bl)
    | str j => obtain ⟨t', rfl⟩ := ry; exact PySem.EqMixed.eq_bool_str (fin_bl I q (by simp))
    | _ => exact absurd (show false = true from hs) Bool.false_ne_true
  | int i =>
    obtain ⟨t, rfl⟩ := rx
    cases y with
    | non => cases ry; exact PySem.EqNone.eq_int_none (fin_bl I q (by simp))
    | int j => obtain ⟨t', rfl⟩ := ry; exact eq_int (fin_bl I q dec_int)
    | str j => obtain ⟨t', rfl⟩ := ry; exact PySem.EqMixed.eq_int_str (fin_bl I q (by simp))
    | _ => exact absurd (show false = true from hs) Bool.false_ne_true
  | str i =>
    obtain ⟨t, rfl⟩ := rx
    cases y with
    | non => cases ry; exact PySem.EqNone.eq_str_none (fin_bl I q (by simp))
    | bl j => cases ry; exact PySem.EqMixed.eq_str_bool (fin_bl I q (by simp))
    | int j => obtain ⟨t', rfl⟩ := ry; exact PySem.EqMixed.eq_str_int (fin_bl I q (by simp))
    | str j => obtain ⟨t', rfl⟩ := ry; exact eq_str (fin_bl I q dec_str)
    | _ => exact absurd (show false = true from hs) Bool.false_ne_true
  | byt i =>
    obtain ⟨t, rfl⟩ := rx
    cases y with
    | byt j => obtain ⟨t', rfl⟩ := ry; exact PySem.W.eq_bytes (fin_bl I q dec_byt)
    | _ => exact absurd (show false = true from hs) Bool.false_ne_true
  | _ => cases y <;> exact absurd (show false = true from hs) Bool.false_ne_true
theorem op_ne : OpR X (compareOp .NotEq) rNe := by
  intro pins s σ H x y v u Q I rx ry h
  obtain ⟨hs, q⟩ := h
  cases x with
  | non =>
    cases rx
    cases y with
    | non => cases ry; exact PySem.EqNone.ne_none_none (fin_bl I q (by simp))
    | bl j => cases ry; exact PySem.EqNone.ne_none_bool (fin_bl I q (by simp))
    | int j => obtain ⟨t', rfl⟩ := ry; exact PySem.EqNone.ne_none_int (fin_bl I q (by simp))
    | str j => obtain ⟨t', rfl⟩ := ry; exact PySem.EqNone.ne_none_str (fin_bl I q (by simp))
    | _ => exact absurd (show false = true from hs) Bool.false_ne_true
  | bl i =>
    cases rx
    cases y with
    | non => cases ry; exact PySem.EqNone.ne_bool_none (fin_bl I q (by simp))
    | bl j => cases ry; exact ne_bool (fin_bl I q (congrArg not dec_bl))
    | str j => obtain ⟨t', rfl⟩ := ry; exact PySem.EqMixed.ne_bool_str (fin_bl I q (by simp))
    | _ => exact absurd (show false = true from hs) Bool.false_ne_true
  | int i =>
    obtain ⟨t, rfl⟩ := rx
    cases y with
    | non => cases ry; exact PySem.EqNone.ne_int_none (fin_bl I q (by simp))
    | int j => obtain ⟨t', rfl⟩ := ry; exact ne_int (fin_bl I q (congrArg not dec_int))
    | str j => obtain ⟨t', rfl⟩ := ry; exact PySem.EqMixed.ne_int_str (fin_bl I q (by simp))
    | _ => exact absurd (show false = true from hs) Bool.false_ne_true
  | str i =>
    obtain ⟨t, rfl⟩ := rx
    cases y with
    | non => cases ry; exact PySem.EqNone.ne_str_none (fin_bl I q (by simp))
    | bl j => cases ry; exact PySem.EqMixed.ne_str_bool (fin_bl I q (by simp))
    | int j => obtain ⟨t', rfl⟩ := ry; exact PySem.EqMixed.ne_str_int (fin_bl I q (by simp))
    | str j => obtain ⟨t', rfl⟩ := ry; exact ne_str (fin_bl I q (congrArg not dec_str))
    | _ => exact absurd (show false = true from hs) Bool.false_ne_true
  | byt i =>
    obtain ⟨t, rfl⟩ := rx
    cases y with
    | byt j => obtain ⟨t', rfl⟩ := ry; exact PySem.W.ne_bytes (fin_bl I q (congrArg not dec_byt))
    | _ => exact absurd (show false = true from hs) Bool.false_ne_true
  | _ => cases y <;> exact absurd (show false = true from hs) Bool.false_ne_true
theorem op_lt : OpR X (compareOp .Lt) (rI0 fun i j => .bl (decide (i < j))) := opB0 fun _ _ _ _ _ _ _ q => lt_int q
theorem op_le : OpR X (compareOp .LtE) (rI0 fun i j => .bl (decide (i ≤ j))) := opB0 fun _ _ _ _ _ _ _ q => le_int q
theorem op_gt : OpR X (compareOp .Gt) (rI0 fun i j => .bl (decide (j < i))) := opB0 fun _ _ _ _ _ _ _ q => gt_int q
theorem op_ge : OpR X (compareOp .GtE) (rI0 fun i j => .bl (decide (j ≤ i))) := opB0 fun _ _ _ _ _ _ _ q => ge_int q
theorem nomark (b : Expr) {op : CmpOp} (h : op ≠ .In := by decide) (h2 : op ≠ .NotIn := by decide) : behindInMarks op b = false := by
  have e1 : (op == CmpOp.In) = false := by cases op <;> first | rfl | exact absurd rfl h
  have e2 : (op == CmpOp.NotIn) = false := by cases op <;> first | rfl | exact absurd rfl h2
  cases b <;> simp [behindInMarks, e1, e2]
theorem pe_cmpR {op : CmpOp} {r : R2} (ho : OpR X (compareOp op) r) (ha : PE X a ta) (hb : PE X b tb) (hm : behindInMarks op b = false) : PE X (.Compare a [op] [b] pos) (tOp r ta tb) := by
  intro pins s σ H Q I h
  exact wpAny_Compare1 (binT ha hb I h fun v u s2 x y H2 I2 rx ry q => ho pins s2 σ H2 x y v u Q I2 rx ry q) hm
def tTest (t : TE) : TT := fun σ H Q => t σ H fun x H' => ∃ k, x = .bl k ∧ Q k H'
theorem pt_cmpR {op : CmpOp} {r : R2} (ho : OpR X (compareOp op) r) (ha : PE X a ta) (hb : PE X b tb) (hm : behindInMarks op b = false) : PT X (.Compare a [op] [b] pos) (tTest (tOp r ta tb)) := by
  intro pins s σ H Q I h
  refine wpAny_isTrue_Compare1 (thn (ha pins s σ H _ I h) fun v s1 ⟨x, H1, I1, r1, q1⟩ => thn (hb pins s1 σ H1 _ I1 q1) fun u s2 ⟨y, H2, I2, r2, q2⟩ =>
    thn (ho pins s2 σ H2 x y v u _ I2 r1 r2 q2) fun c s3 ⟨z, H3, I3, r3, k, e, q3⟩ => ?_) hm
  subst e
  cases r3
  exact wpAny_truthy_bool ⟨H3, I3, q3⟩
theorem line63 : (sizeLine : Nat) < 2 ^ 63 := by rw [sizeLine_eq]; decide
theorem vals1 {x : V} {us : List Value} (r : Vals [x] us) : ∃ u, us = [u] ∧ RelV x u := by
  cases r with
  | cons r1 r2 => cases r2; exact ⟨_, rfl, r1⟩
theorem vals2 {x y : V} {us : List Value} (r : Vals [x, y] us) : ∃ u w', us = [u, w'] ∧ RelV x u ∧ RelV y w' := by
  cases r with
  | cons r1 r2 =>
    cases r2 with
    | cons r3 r4 => cases r4; exact ⟨_, _, rfl, r1, r3⟩
theorem call_abs : CallR X (.builtin "abs") (fun xs H Q => ∃ i, xs = [.int i] ∧ Q (.int (if i < 0 then -i else i)) H) := by
  intro pins s σ H xs us Q I r h
  obtain ⟨i, rfl, q⟩ := h
  obtain ⟨u, rfl, t, rfl⟩ := vals1 r
  exact call_abs_int fun u tk => ⟨.int (if i < 0 then -i else i), H, I.tok _, ⟨_, rfl⟩, q⟩
theorem call_max2 (hc : X.calm = true) : CallR X (.builtin "max") (fun xs H Q => ∃ i j, xs = [.int i, .int j] ∧ Q (.int (if j > i then j else i)) H) := by
  intro pins s σ H xs us Q I r h
  obtain ⟨i, j, rfl, q⟩ := h
  obtain ⟨u, w', rfl, ⟨t, rfl⟩, ⟨t', rfl⟩⟩ := vals2 r
  refine max_two_ints (I.ok.hd hc) fun h' tk k => ⟨_, H, I.kept k, ?_, q⟩
  by_cases hj : j > i
  · rw [if_pos hj, if_pos hj]; exact ⟨_, rfl⟩
  · rw [if_neg hj, if_neg hj]; exact ⟨_, rfl⟩
end
end L2
namespace L2
open PySem PySem.Spec PyProof.Rows
structure ObjM (h : Heap) (x dx C : Addr) (mA : Str → Option Value) : Prop where
  obj : h.get? x = some (PySem.W.instObj C dx)
  ns : h.Ns1 dx mA
  ne : dx ≠ x
theorem lookIn_ns {h : Heap} {dx : Addr} {mA : Str → Option Value} (n : h.Ns1 dx mA) : ∃ od, h.get? dx = some od ∧ ∀ name, PySem.W.lookIn name od = some (mA name) := by
  obtain ⟨o, es, ep, ho, hd, hk, _, hm⟩ := n
  refine ⟨o, ho, fun name => ?_⟩
  have e := hm name
  unfold nsFind findBy at e
  rw [← Array.find?_toList] at e
  unfold PySem.W.lookIn
  rw [hd]
  dsimp only
  split
  · rename_i y q
    rw [q] at e
    exact congrArg some e
  · rename_i q
    rw [q] at e
    have a : es.toList.any (·.refKey) = false := by
      rw [List.any_eq_false]
      intro y hy
      obtain ⟨z, t, hkey⟩ := hk y (Array.mem_toList_iff.mp hy)
      simp [DictEntry.refKey, hkey]
    have a' : ¬ es.toList.any (·.refKey) = true := by rw [a]; exact Bool.false_ne_true
    rw [if_neg a']
    exact congrArg some e
theorem ObjM.look {h : Heap} {x dx C : Addr} {mA : Str → Option Value} (I : ObjM h x dx C mA) : ∃ od, PySem.W.InstAt h x (PySem.W.instObj C dx) C (some od) ∧ ∀ name, PySem.W.lookIn name od = some (mA name) :=
  let ⟨od, ho, hl⟩ := lookIn_ns I.ns
  ⟨od, ⟨I.obj, rfl, rfl, ho⟩, hl⟩
section
variable {prog : Program} {w : World} {A : Around} {E : Value → Shared → Prop} {s : Shared} {K : PySem.W.Frag} {x dx C f : Addr} {mA : Str → Option Value} {name : Str} {v : Value}
theorem get_map {expr : Bool} {Q : Value → Shared → Prop} (X : K.In s.heap) (I : ObjM s.heap x dx C mA) (hg : PySem.W.plainGet K C name = true) (hh : PySem.W.hasDictIn K C = true)
    (ha : PySem.W.findIn K (.ref C) name = some none) (hv : mA name = some v) (hv' : PySem.W.handedIn v = true) (h : Q v { s with toks := s.toks + 1 }) :
    wpAny (model prog w) A (getAttr (.ref x) name expr) Q E s := by
  obtain ⟨od, J, hl⟩ := I.look
  exact PySem.W.get_value X J (PySem.W.plainGet_of hg).1 (PySem.W.findObj_own hh ha rfl (by rw [hl, hv])) hv' h
theorem set_map {ns : List Str} {Q : Unit → Shared → Prop} (X : K.In s.heap) (I : ObjM s.heap x dx C mA)
    (hs : PySem.W.findIn K (.ref C) "__setattr__" = some (some (.builtin "object.__setattr__"))) (hp : PySem.W.plainOver K C = true) (ht : PySem.W.takerIn K C name = some none) (hh : PySem.W.hasDictIn K C = true)
    (hw : PySem.Within mA ns) (hsz : ns.length ≤ sizeLine)
    (h : ∀ h', ObjM h' x dx C (fun y => if y = name then some v else mA y) → Heap.SameBut dx s.heap h' → Q () { s with heap := h', toks := s.toks + 2 }) :
    wpAny (model prog w) A (setAttr (.ref x) name v) Q E s := by
  obtain ⟨od, J, hl⟩ := I.look
  refine PySem.W.set_plain X J hs (PySem.W.osa_open (s := { s with toks := s.toks + 1 }) (r := none) X J hp ht fun b => ?_)
  obtain ⟨cd, hc, hd'⟩ := PySem.W.any_some hh
  have hx : s.heap.get? x = some ⟨.ref C, some dx, .plain, #[]⟩ := I.obj
  refine wpAny_bind (wpAny_pure (wpAny_bind (wpAny_bind (wpAny_loadPart hx (wpAny_bind (PySem.W.Looks.here (s := { s with toks := s.toks + 1 }) (PySem.W.looks_clsIn X hc) ?_))))))
  rw [hd']
  refine wpAny_pure (a := some dx) (wpAny_bind (wpAny_pure (wpAny_bind ?_)))
  refine wpAny_nsSet1 (s := { s with toks := s.toks + 1 }) I.ns fun h' hn2 hs2 => ?_
  obtain ⟨oD, esD, epD, hoD, hdD, hcD⟩ := hn2.count (PySem.Within.cons name v hw)
  refine wpAny_bind (wpAny_lookBehind hoD (by rw [hdD]; exact pastItsLine_dict (Nat.le_trans hcD (by rw [List.length_cons]; omega))) ?_)
  exact wpAny_pure (h _ ⟨(hs2.2 _ (Ne.symm I.ne)).trans I.obj, hn2, I.ne⟩ hs2)
theorem make_map {R : Result → Shared → Prop} {vs : List Value} {kw : List (Str × Value)} (X : K.In s.heap) (hm : PySem.W.makesIn K C = true)
    (hi : PySem.W.findIn K (.ref C) "__init__" = some (some (.ref f))) (hf : PySem.W.typeIn K (.ref f) = some (.type "function"))
    (h : codeAny (model prog w) (A.under (.builtin "type.__call__" ⟨.ref C :: vs, kw⟩)) (.call (.ref f) ⟨.ref (s.heap.objs.size + 1) :: vs, kw⟩) (PySem.W.InitBack (s.heap.objs.size + 1) R)
      { s with heap := (s.heap.push PySem.W.emptyDict).push (PySem.W.instObj C s.heap.objs.size) }) :
    codeAny (model prog w) A (.call (.ref C) ⟨vs, kw⟩) R s := by
  obtain ⟨hh, g, d, t, os⟩ := s
  exact PySem.W.make_core (PySem.W.makes_of X hm) (PySem.W.looks_findIn X hi) (fun self => PySem.W.bind_fn X self hf) (.inl rfl) h
end
def putF (f : Str) (v : V) : List (Str × V) → List (Str × V)
  | [] => [(f, v)]
  | (g, x) :: r => if g = f then (g, v) :: r else (g, x) :: putF f v r
theorem lookup_putF (f g : Str) (v : V) : ∀ fs : List (Str × V), (putF f v fs).lookup g = if g = f then some v else fs.lookup g
  | [] => by
    show List.lookup g [(f, v)] = _
    by_cases h : g = f
    · have hb : (g == f) = true := beq_iff_eq.mpr h
      simp only [List.lookup, hb, if_pos h]
    · have hb : (g == f) = false := beq_eq_false_iff_ne.mpr h
      simp only [List.lookup, hb, if_neg h]
  | (k, x) :: r => by
    have ih := lookup_putF f g v r
    rw [show putF f v ((k, x) :: r) = (if k = f then (k, v) :: r else (k, x) :: putF f v r) from rfl]
    by_cases hk : k = f
    · rw [if_pos hk]
      by_cases h : g = k
      · have hb : (g == k) = true := beq_iff_eq.mpr h
        simp only [List.lookup, hb, if_pos (h.trans hk)]
      · have hb : (g == k) = false := beq_eq_false_iff_ne.mpr h
        simp only [List.lookup, hb, if_neg (fun e : g = f => h (e.trans hk.symm))]
    · rw [if_neg hk]
      by_cases h : g = k
      · have hb : (g == k) = true := beq_iff_eq.mpr h
        simp only [List.lookup, hb, if_neg (fun e : g = f => hk (h.symm.trans e))]
      · have hb : (g == k) = false := beq_eq_false_iff_ne.mpr h
        simp only [List.lookup, hb]
        exact ih
theorem keys_putF (f : Str) (v : V) : ∀ fs : List (Str × V), f ∈ (putF f v fs).map (·.1) ∧ ∀ g, g ∈ fs.map (·.1) → g ∈ (putF f v fs).map (·.1)
  | [] => ⟨by simp [putF], fun g h => by simp at h⟩
  | (k, x) :: r => by
    obtain ⟨i1, i2⟩ := keys_putF f v r
    rw [show putF f v ((k, x) :: r) = (if k = f then (k, v) :: r else (k, x) :: putF f v r) from rfl]
    by_cases hk : k = f
    · rw [if_pos hk]
      subst hk
      exact ⟨by simp, fun g h => by simpa using h⟩
    · rw [if_neg hk]
      refine ⟨?_, fun g h => ?_⟩
      · rw [List.map_cons]
        exact List.mem_cons_of_mem _ i1
      · rw [List.map_cons] at h ⊢
        rcases List.mem_cons.mp h with e | e
        · exact List.mem_cons.mpr (.inl e)
        · exact List.mem_cons_of_mem _ (i2 g e)
theorem length_putF (f : Str) (v : V) : ∀ fs : List (Str × V), (putF f v fs).length ≤ fs.length + 1
  | [] => by simp [putF]
  | (k, x) :: r => by
    have ih := length_putF f v r
    rw [show putF f v ((k, x) :: r) = (if k = f then (k, v) :: r else (k, x) :: putF f v r) from rfl]
    by_cases hk : k = f
    · rw [if_pos hk, List.length_cons, List.length_cons]; omega
    · rw [if_neg hk, List.length_cons, List.length_cons]; omega
theorem RelO.some_of {v : V} {o : Option Value} (r : RelO (some v) o) : ∃ u, o = some u ∧ RelV v u := by
  cases o with
  | none => exact (show False from r).elim
  | some u => exact ⟨u, rfl, r⟩
theorem handed_of {v : V} {u : Value} (r : RelV v u) : PySem.W.handedIn u = true := by
  cases v with
  | non => cases (show u = Value.none from r); rfl
  | bl b => cases (show u = Value.bool b from r); rfl
  | int i => obtain ⟨t, e⟩ := (show ∃ t, u = Value.int i t from r); cases e; rfl
  | str x => obtain ⟨t, e⟩ := (show ∃ t, u = Value.str x t from r); cases e; rfl
  | byt b => obtain ⟨t, e⟩ := (show ∃ t, u = Value.bytes b t from r); cases e; rfl
  | flt b => obtain ⟨t, e⟩ := (show ∃ t, u = Value.float b t from r); cases e; rfl
  | ref a => cases (show u = Value.ref a from r); rfl
  | ty n => cases (show u = Value.type n from r); rfl
section
variable {P : Program} {w : World} {H H' : Hp} {h h' : Heap} {a C dx : Addr} {fs fs' : List (Str × V)}
theorem ins_get (hok : HOk P w H h) (e : H a = some (.ins C dx fs)) : ∃ mA, ObjM h a dx C mA ∧ (∀ f, RelO (fs.lookup f) (mA f)) ∧ PySem.Within mA (fs.map (·.1)) ∧ fs.length ≤ 1000 ∧ H dx = some (.own a) := by
  obtain ⟨d, z, ne, ob, mA, n, r, q⟩ := (show ObjOk P w H h a (.ins C dx fs) from hok a _ e)
  exact ⟨mA, ⟨ob, n, ne⟩, r, q, z, d⟩
end
structure Cls (K : PySem.W.Frag) (C : Addr) : Prop where
  pg : PySem.W.plainGet K C Str.empty = true
  hd : PySem.W.hasDictIn K C = true
  po : PySem.W.plainOver K C = true
  sa : PySem.W.findIn K (.ref C) "__setattr__" = some (some (.builtin "object.__setattr__"))
theorem Cls.get {K : PySem.W.Frag} {C : Addr} (c : Cls K C) (f : Str) : PySem.W.plainGet K C f = true := c.pg
def NoAttr (K : PySem.W.Frag) (C : Addr) (f : Str) : Prop := PySem.W.findIn K (.ref C) f = some none
theorem NoAttr.taker {K : PySem.W.Frag} {C : Addr} {f : Str} (n : NoAttr K C f) : PySem.W.takerIn K C f = some none := by
  unfold PySem.W.takerIn
  rw [show PySem.W.findIn K (.ref C) f = some none from n]
  rfl
section
variable {X : Cx} {pins : List (Addr × Obj)} {σ : St} {H : Hp} {s : Shared} {a C dx : Addr} {fs : List (Str × V)} {f : Str} {v : V} {A : Around} {E : Value → Shared → Prop}
theorem getattr_ok {b : Bool} {Q : Value → Shared → Prop} (I : Inv X pins σ H s) (e : H a = some (.ins C dx fs)) (c : Cls X.K C) (n : NoAttr X.K C f) (l : fs.lookup f = some v)
    (h : ∀ u s', Inv X pins σ H s' → RelV v u → Q u s') : wpAny (model X.prog X.w) A (getAttr (.ref a) f b) Q E s := by
  obtain ⟨mA, O, r, _, _, _⟩ := ins_get I.hok e
  obtain ⟨u, hu, ru⟩ := RelO.some_of (v := v) (o := mA f) (by rw [← l]; exact r f)
  exact get_map I.kIn O (c.get f) c.hd n hu (handed_of ru) (h u _ (I.tok _) ru)
theorem setattr_ok {y : V} {u : Value} {Q : Unit → Shared → Prop} (I : Inv X pins σ H s) (e : H a = some (.ins C dx fs)) (c : Cls X.K C) (n : NoAttr X.K C f) (hl : fs.length < 1000) (ry : RelV y u)
    (h : ∀ s', Inv X pins σ (upd H a (.ins C dx (putF f y fs))) s' → Q () s') : wpAny (model X.prog X.w) A (setAttr (.ref a) f u) Q E s := by
  obtain ⟨mA, O, r, wi, _, ho⟩ := ins_get I.hok e
  have hz : (fs.map (·.1)).length ≤ sizeLine := by rw [List.length_map, sizeLine_eq]; omega
  refine set_map I.kIn O c.sa c.po n.taker c.hd wi hz fun h' O' sb => h _ ?_
  have hd : ∃ o, h'.get? dx = some o := let ⟨o, _, _, e', _⟩ := O'.ns; ⟨o, e'⟩
  refine I.write (x := a) (e := dx) (by rw [e]; exact True.intro) (.inr ho) (fun b q hb z => (sb.2 b hb).trans z) hd ?_
  refine ⟨by rw [upd_ne O.ne]; exact ho, ?_, O.ne, O'.obj, _, O'.ns, fun g => ?_, fun g hg => ?_⟩
  · have := length_putF f y fs; omega
  · show RelO ((putF f y fs).lookup g) (if g = f then some u else mA g)
    rw [lookup_putF]
    by_cases q : g = f
    · rw [if_pos q, if_pos q]; exact ry
    · rw [if_neg q, if_neg q]; exact r g
  · by_cases q : g = f
    · rw [q]; exact (keys_putF f y fs).1
    · refine (keys_putF f y fs).2 g (wi g fun z => hg ?_)
      show (if g = f then some u else mA g) = none
      rw [if_neg q]; exact z
theorem Inv.made (I : Inv X pins σ H s) : Inv X pins σ (upd (upd H s.heap.objs.size (.own (s.heap.objs.size + 1))) (s.heap.objs.size + 1) (.ins C s.heap.objs.size []))
    { s with heap := (s.heap.push PySem.W.emptyDict).push (PySem.W.instObj C s.heap.objs.size) } := by
  have e1 : (s.heap.push PySem.W.emptyDict).get? s.heap.objs.size = some PySem.W.emptyDict := Heap.get?_push_size s.heap rfl
  have e2 : ((s.heap.push PySem.W.emptyDict).push (PySem.W.instObj C s.heap.objs.size)).get? (s.heap.objs.size + 1) = some (PySem.W.instObj C s.heap.objs.size) := by
    have := Heap.get?_push_size (s.heap.push PySem.W.emptyDict) (o := PySem.W.instObj C s.heap.objs.size) rfl
    rwa [Heap.size_push] at this
  have e3 : (s.heap.push PySem.W.emptyDict).Ns s.heap.objs.size (fun _ => none) := ⟨PySem.W.emptyDict, #[], _, e1, rfl, (fun e he => absurd he (by simp)), fun _ => rfl⟩
  have I1 := I.laid (a := s.heap.objs.size) (o := .own (s.heap.objs.size + 1)) (h' := s.heap.push PySem.W.emptyDict) (t' := s.toks) (fun b u q => Heap.get?_push_of_some _ q) (Nat.le_refl _) ⟨_, e1⟩
  refine I1.laid (a := s.heap.objs.size + 1) (o := .ins C s.heap.objs.size []) (t' := s.toks) (fun b u q => Heap.get?_push_of_some _ q) (Nat.le_of_eq (Heap.size_push _ _)) ?_
  have ne : s.heap.objs.size ≠ s.heap.objs.size + 1 := Nat.ne_of_lt (Nat.lt_succ_self _)
  refine ⟨by rw [upd_ne ne, upd_same], Nat.zero_le _, ne, e2, fun _ => none, (Heap.Ns1.of_empty e3).at fun o q => Heap.get?_push_of_some _ q, fun _ => True.intro, fun y hy => absurd rfl hy⟩
theorem attr_of {prog : Program} {w : World} {env : Env} {e : Expr} {f : Str} {pos : Pos} {s : Shared} {Q : Value → Shared → Prop} (hb : attributeBase e f env (eval e env) = eval e env)
    (h : wpAny (model prog w) A (eval e env) (fun o s₁ => wpAny (model prog w) A (getAttr o f true) Q E s₁) E s) : wpAny (model prog w) A (eval (.Attribute e f pos) env) Q E s :=
  Attribute_any_ h (by rw [arm_eval_Attribute, hb])
end
def tFld (K : PySem.W.Frag) (ta : TE) (f : Str) : TE := fun σ H Q => ta σ H fun x H1 => ∃ a C dx fs v, x = .ref a ∧ H1 a = some (.ins C dx fs) ∧ Cls K C ∧ NoAttr K C f ∧ fs.lookup f = some v ∧ Q v H1
def sFld (K : PySem.W.Frag) (ta tv : TE) (f : Str) : TS := fun D σ H => tv σ H fun y H1 => ta σ H1 fun x H2 => ∃ a C dx fs, x = .ref a ∧ H2 a = some (.ins C dx fs) ∧ Cls K C ∧ NoAttr K C f ∧ fs.length < 1000 ∧
  D.nx σ (upd H2 a (.ins C dx (putF f y fs)))
section
variable {X : Cx} {o e value : Expr} {f : Str} {pos pos' tpos : Pos} {ta tv : TE}
theorem pe_fld (he : PE X e ta) (hb : attributeBase e f X.env (eval e X.env) = eval e X.env) : PE X (.Attribute e f pos) (tFld X.K ta f) := by
  intro pins s σ H Q I h
  refine attr_of hb (thn (he pins s σ H _ I h) fun u s1 ⟨x, H1, I1, rx, a, C, dx, fs, v, ex, ea, c, n, l, q⟩ => ?_)
  subst ex
  obtain rfl : u = Value.ref a := rx
  exact getattr_ok I1 ea c n l fun u' s2 I2 ru => ⟨v, H1, I2, ru, q⟩
theorem ps_fld (ha : PE X o ta) (hv : PE X value tv) (hs : swapsWith value (some (.Attribute o f pos')) pos.line X.env = pure false) : PS X (.Assign [.Attribute o f pos'] value pos) (sFld X.K ta tv f) := by
  intro pins s σ H D I h
  refine plainObj_wpAny_Assign_Attribute (thn (hv pins s σ H _ I h) fun u s1 ⟨y, H1, I1, ry, q⟩ => thn (ha pins s1 σ H1 _ I1 q) fun ov s2 ⟨x, H2, I2, rx, a, C, dx, fs, ex, ea, c, n, l, q2⟩ => ?_) hs
  subst ex
  obtain rfl : ov = Value.ref a := rx
  exact setattr_ok I2 ea c n l ry fun s3 I3 => ⟨σ, _, I3, q2⟩
end
section
variable {X : Cx} {pins : List (Addr × Obj)} {σ : St} {H : Hp} {s : Shared} {A : Around} {E : Value → Shared → Prop} {Q : Value → Shared → Prop} {c : Value} {b : Bool}
end
end L2
namespace L2
open PySem PySem.Spec PyProof.Rows
structure Room (k : Nat) (A : Around) : Prop where
  hd : A.handled = none
  dp : A.depth + 3 * k + 5 < recursionLimit
  un : A.units + 16 * k + 200 < cLine
theorem Room.mono {j k : Nat} {A : Around} (r : Room k A) (h : j ≤ k) : Room j A := ⟨r.hd, by have := r.dp; omega, by have := r.un; omega⟩
theorem Room.deeper {k : Nat} {A : Around} (r : Room (k + 1) A) (env : Env) : Room k (A.deeper env) :=
  ⟨r.hd, by have := r.dp; show A.depth + 1 + 3 * k + 5 < _; omega, by have := r.un; show A.units + 3 + 16 * k + 200 < _; omega⟩
theorem make_depth {A : Around} {C : Addr} {us : List Value} {kw : List (Str × Value)} : (A.under (.builtin "type.__call__" ⟨.ref C :: us, kw⟩)).depth = A.depth + 1 := by
  first | rfl | simp [Around.under, Code.weight, Code.isCreation, Code.isGuard, Code.isCaller, Code.frames, Code.isFrame, guardIds]
theorem make_units {A : Around} {C : Addr} {us : List Value} {kw : List (Str × Value)} : (A.under (.builtin "type.__call__" ⟨.ref C :: us, kw⟩)).units = A.units + 1 := by
  first | rfl | simp [Around.under, Code.cUnits, Code.frames, Code.isFrame]
theorem Room.make {k : Nat} {A : Around} (r : Room (k + 1) A) (C : Addr) (us : List Value) (kw : List (Str × Value)) : Room k (A.under (.builtin "type.__call__" ⟨.ref C :: us, kw⟩)) :=
  ⟨r.hd, by have := r.dp; rw [make_depth]; omega, by have := r.un; rw [make_units]; omega⟩
theorem Room.depth {k : Nat} {A : Around} (r : Room k A) : A.depth < recursionLimit := by have := r.dp; omega
theorem Room.units {k : Nat} {A : Around} (r : Room k A) : A.units + 64 < cLine := by have := r.un; omega
def tNil : TA := fun _ H Q => Q [] H
def tCons (ta : TE) (tr : TA) : TA := fun σ H Q => ta σ H fun x H1 => tr σ H1 fun xs H2 => Q (x :: xs) H2
section
variable {X : Cx} {e : Expr} {es : List Expr} {te : TE} {t : TA} {pos : Pos}
theorem pa_nil : PA X [] tNil := fun _ _ _ _ H Q I h => Calls.spliced_nil ⟨[], H, I, .nil, h⟩
theorem pa_cons (ha : PE X e te) (hr : PA X es t) (hs : starEach (e :: es) X.env = (false, eval e X.env) :: starEach es X.env := by rfl) : PA X (e :: es) (tCons te t) := by
  intro pos pins s σ H Q I h
  rw [hs]
  show wpAny _ _ (spliced ((false, eval e X.env) :: backTo pos (starEach es X.env))) _ _ s
  refine Calls.spliced_cons (thn (ha pins s σ H _ I h) fun u s1 ⟨x, H1, I1, r1, q1⟩ => ?_)
  exact thn (hr pos pins s1 σ H1 _ I1 q1) fun us s2 ⟨xs, H2, I2, r2, q2⟩ => ⟨x :: xs, H2, I2, .cons r1 r2, q2⟩
def tTup (t : TA) : TE := fun σ H Q => t σ H fun xs H1 => xs.length ≤ sizeLine ∧ ∀ p, H1 p = none → Q (.ref p) (upd H1 p (.tup xs))
def tLst (t : TA) : TE := fun σ H Q => t σ H fun xs H1 => xs.length ≤ sizeLine ∧ ∀ p, H1 p = none → Q (.ref p) (upd H1 p (.lst xs))
theorem pe_tup {x1} (h : PA X es t) : PE X (.Tuple es x1 pos) (tTup t) := by
  intro pins s σ H Q I hq
  refine wpAny_Tuple_spliced (thn (h pos pins s σ H _ I hq) fun us s1 ⟨xs, H1, I1, r, z, q⟩ => ⟨by rw [← r.length]; exact z, ?_⟩)
  have hf : H1 s1.heap.objs.size = none := I1.hok.fresh (Nat.le_refl _)
  refine ⟨.ref s1.heap.objs.size, upd H1 s1.heap.objs.size (.tup xs), I1.laid (t' := s1.toks) (fun b u e => Heap.get?_push_of_some _ e) (Nat.le_refl _) ?_, rfl, q _ hf⟩
  exact ⟨z, us, r, ⟨_, Heap.get?_push_size _ rfl, rfl, _, rfl⟩⟩
theorem pe_lst (h : PA X es t) : PE X (.List es pos) (tLst t) := by
  intro pins s σ H Q I hq
  refine wpAny_List_spliced (thn (h pos pins s σ H _ I hq) fun us s1 ⟨xs, H1, I1, r, z, q⟩ => ⟨by rw [← r.length]; exact z, ?_⟩)
  have hf : H1 s1.heap.objs.size = none := I1.hok.fresh (Nat.le_refl _)
  refine ⟨.ref s1.heap.objs.size, upd H1 s1.heap.objs.size (.lst xs), I1.laid (t' := s1.toks) (fun b u e => Heap.get?_push_of_some _ e) (Nat.le_refl _) ?_, rfl, q _ hf⟩
  exact ⟨z, us, 0, r, Heap.get?_push_size _ rfl⟩
end
abbrev Sp := List V → Hp → VK → XK → Prop
abbrev CXT := List Env → Hp → Shared → XK → Value → Shared → Prop
structure Env0 (P : Program) (w : World) (K : PySem.W.Frag) (mg : Str → Option Value) (base : Heap) (A : Around) (outer : List Env) (s : Shared) (H : Hp) : Prop where
  frames : A.frames = some outer
  mod : Mod K mg base
  bs : ∀ b o, base.get? b = some o → s.heap.get? b = some o ∧ H b = none
  bsz : base.objs.size ≤ s.heap.objs.size
  funs : s.heap.FunFrames base outer
  frf : ∀ b ∈ frs outer, H b = none
  hok : HOk P w H s.heap
  bare : AllBare s.gens
def CE (outer : List Env) (P : Program) (w : World) (H : Hp) (s : Shared) (Q : VK) (u : Value) (s' : Shared) : Prop :=
  ∃ v H', s'.os = s.os ∧ AllBare s'.gens ∧ Un (frs outer) [] H H' s.heap s'.heap ∧ HOk P w H' s'.heap ∧ RelV v u ∧ Q v H'
def CR (CX : CXT) (outer : List Env) (P : Program) (w : World) (H : Hp) (s : Shared) (Q : VK) (E : XK) (r : Result) (s' : Shared) : Prop :=
  match r with
  | .ok (.ret u) => CE outer P w H s Q u s'
  | .ok _ => False
  | .error e => CX outer H s E e s'
structure FnOk (P : Program) (w : World) (K : PySem.W.Frag) (mg : Str → Option Value) (base : Heap) (CX : CXT) (k : Nat) (f : Addr) (fd : FuncData) (ps : List Str) (sp : Sp) : Prop where
  len : ∀ vs H Q E, sp vs H Q E → vs.length = ps.length
  run : ∀ (A : Around) (outer : List Env) (s : Shared) (H : Hp) (args : Args) (us : List Value) (vs : List V) (Q : VK) (E : XK), Room k A → Env0 P w K mg base A outer s H → BindsTo s fd args (ps.zip us) → Vals vs us → sp vs H Q E →
    codeAny (model P w) A (.call (.ref f) args) (CR CX outer P w H s Q E) s
theorem FnOk.mono {P : Program} {w : World} {K : PySem.W.Frag} {mg : Str → Option Value} {base : Heap} {CX : CXT} {j k : Nat} {f : Addr} {fd : FuncData} {ps : List Str} {sp : Sp} (F : FnOk P w K mg base CX j f fd ps sp) (h : j ≤ k) :
    FnOk P w K mg base CX k f fd ps sp := ⟨F.len, fun A outer s H args us vs Q E hr => F.run A outer s H args us vs Q E (hr.mono h)⟩
theorem Env0.make {P : Program} {w : World} {K : PySem.W.Frag} {mg : Str → Option Value} {base : Heap} {A : Around} {outer : List Env} {s : Shared} {H : Hp} (e : Env0 P w K mg base A outer s H) (C : Addr) (us : List Value) (kw : List (Str × Value)) :
    Env0 P w K mg base (A.under (.builtin "type.__call__" ⟨.ref C :: us, kw⟩)) outer s H := ⟨by first | exact e.frames | (simpa [Around.under, Code.envs, Code.isFrame, pushEnvs] using e.frames), e.mod, e.bs, e.bsz, e.funs, e.frf, e.hok, e.bare⟩
section
variable {X : Cx} {pins : List (Addr × Obj)} {σ : St} {H : Hp} {s s' : Shared}
theorem Inv.env0 (I : Inv X pins σ H s) : Env0 X.prog X.w X.K X.mg X.base X.A X.stack s H :=
  ⟨I.ok.frames, I.ok.mod, I.bs, Nat.le_trans I.ok.bsz I.sz, I.stack, I.stkFree, I.hok, I.bare⟩
theorem Inv.after {Q : VK} {u : Value} (I : Inv X pins σ H s) (h : CE X.stack X.prog X.w H s Q u s') : EP X pins σ Q u s' := by
  obtain ⟨v, H', os, bare, un, hok, r, q⟩ := h
  obtain ⟨hh, g, d, t, os'⟩ := s'
  obtain rfl : os' = s.os := os
  exact ⟨v, H', I.call (h' := hh) (g' := g) (d' := d) (t' := t) (ch := []) un hok bare (fun b z => absurd z (by simp)), r, q⟩
end
def tCall (sp : Sp) (dvs : List V) (E : XK) (t : TA) : TE := fun σ H Q => t σ H fun vs H1 => sp (vs ++ dvs) H1 Q E
def tMake (C : Addr) (sp : Sp) (dvs : List V) (E : XK) (t : TA) : TE := fun σ H Q => t σ H fun vs H1 => ∀ x dx, H1 x = none → H1 dx = none → dx ≠ x →
  sp (.ref x :: (vs ++ dvs)) (upd (upd H1 dx (.own x)) x (.ins C dx [])) (fun v H2 => v = .non ∧ Q (.ref x) H2) E
def Binds (K : PySem.W.Frag) (fd : FuncData) (ps : List Str) (ds : List Value) : Prop :=
  ∀ (s : Shared) (us : List Value), K.In s.heap → (us ++ ds).length = ps.length → BindsTo s fd ⟨us, []⟩ (ps.zip (us ++ ds))
theorem Binds.all {K : PySem.W.Frag} {fd : FuncData} {ps : List Str} (h : ∀ us : List Value, us.length = ps.length → bindArgs fd ⟨us, []⟩ = pure (ps.zip us)) : Binds K fd ps [] := fun s us _ hl => by
  rw [List.append_nil] at hl ⊢
  exact .of_eq (h us hl)
def Passes (CX : CXT) (X : Cx) (E : XK) : Prop := ∀ (pins : List (Addr × Obj)) (σ : St) (H : Hp) (s : Shared) (e : Value) (s' : Shared), Inv X pins σ H s → CX X.stack H s E e s' → X.xe e s'
section
variable {X : Cx} {CX : CXT} {k : Nat} {f C : Addr} {fd : FuncData} {ps : List Str} {sp : Sp} {dvs : List V} {ds : List Value} {E : XK} {x m : Str} {p pos apos : Pos} {e o : Expr} {es : List Expr} {ta : TE} {t : TA}
theorem run_fn {pins : List (Addr × Obj)} {σ : St} {H : Hp} {s : Shared} {Q : VK} {us : List Value} {vs : List V} (F : FnOk X.prog X.w X.K X.mg X.base CX k f fd ps sp) (hr : Room k X.A) (hb : Binds X.K fd ps ds) (hd : Vals dvs ds) (hx : Passes CX X E)
    (I : Inv X pins σ H s) (r : Vals vs us) (h : sp (vs ++ dvs) H Q E) : wpAny (model X.prog X.w) X.A (call (.ref f) us) (EP X pins σ Q) X.xe s := by
  have r2 : Vals (vs ++ dvs) (us ++ ds) := r.append hd
  have hl : (us ++ ds).length = ps.length := by rw [← r2.length]; exact F.len _ _ _ _ h
  refine wpAny_call (codeAny_mono (F.run X.A X.stack s H ⟨us, []⟩ (us ++ ds) (vs ++ dvs) Q E hr I.env0 (hb s us I.kIn hl) r2 h) fun r s' hq => ?_)
  cases r with
  | error e => exact hx pins σ H s e s' I hq
  | ok fl =>
    cases fl with
    | ret u => exact I.after hq
    | next => exact False.elim hq
    | brk => exact False.elim hq
    | cont => exact False.elim hq
theorem pe_call (F : FnOk X.prog X.w X.K X.mg X.base CX k f fd ps sp) (hr : Room k X.A) (hg : Gl X x) (hm : X.mg x = some (.ref f)) (hk : PySem.W.keepIn X.K (.ref f) = true) (hb : Binds X.K fd ps ds) (hd : Vals dvs ds) (hx : Passes CX X E)
    (ha : PA X (e :: es) t) (hdb : (x == ("__debug__" : Str)) = false := by decide) (he : starEach (e :: es) X.env = (false, eval e X.env) :: starEach es X.env := by rfl) (hpl : (backTo pos (starEach es X.env)).any (·.1) = false := by rfl) :
    PE X (.Call (.Name x p) (e :: es) [] pos) (tCall sp dvs E t) := by
  intro pins s σ H Q I h
  refine wpAny_Call_Name_kw (ld_glob I hg hm ?_ hdb)
  refine PySem.W.callWith_K (h₀ := X.base) I.ok.mod.kin hk (thn (ha pos pins s σ H _ I h) fun us s1 ⟨vs, H1, I1, r, q⟩ => ⟨I1.kIn, ?_⟩) he hpl
  exact run_fn F hr hb hd hx I1 r q
structure Mk (K : PySem.W.Frag) (C f : Addr) : Prop where
  makes : PySem.W.makesIn K C = true
  init : PySem.W.findIn K (.ref C) "__init__" = some (some (.ref f))
  fn : PySem.W.isFn K (.ref f) = true
  kp : PySem.W.keepIn K (.ref C) = true
theorem run_make {pins : List (Addr × Obj)} {σ : St} {H : Hp} {s : Shared} {Q : VK} {us : List Value} {vs : List V} (M : Mk X.K C f) (F : FnOk X.prog X.w X.K X.mg X.base CX k f fd ps sp) (hr : Room (k + 1) X.A) (hb : Binds X.K fd ps ds) (hd : Vals dvs ds)
    (hx : Passes CX X E) (I : Inv X pins σ H s) (r : Vals vs us)
    (h : ∀ x dx, H x = none → H dx = none → dx ≠ x → sp (.ref x :: (vs ++ dvs)) (upd (upd H dx (.own x)) x (.ins C dx [])) (fun v H2 => v = .non ∧ Q (.ref x) H2) E) :
    wpAny (model X.prog X.w) X.A (call (.ref C) us) (EP X pins σ Q) X.xe s := by
  have hq := h (s.heap.objs.size + 1) s.heap.objs.size (I.hok.fresh (Nat.le_succ _)) (I.hok.fresh (Nat.le_refl _)) (Nat.ne_of_lt (Nat.lt_succ_self _))
  have I2 := Inv.made (C := C) I
  have r2 : Vals (V.ref (s.heap.objs.size + 1) :: (vs ++ dvs)) (Value.ref (s.heap.objs.size + 1) :: (us ++ ds)) := .cons rfl (r.append hd)
  have hl : (Value.ref (s.heap.objs.size + 1) :: us ++ ds).length = ps.length := by
    have e := r2.length
    rw [F.len _ _ _ _ hq] at e
    exact e.symm
  refine wpAny_call (make_map (f := f) I.kIn M.makes M.init (beq_iff_eq.mp M.fn) (codeAny_mono (F.run _ X.stack _ _ ⟨Value.ref (s.heap.objs.size + 1) :: us, []⟩ (Value.ref (s.heap.objs.size + 1) :: (us ++ ds)) _ _ E (hr.make C us [])
    (I2.env0.make C us []) (hb _ (Value.ref (s.heap.objs.size + 1) :: us) I2.kIn hl) r2 hq) fun r s' hq' => ?_))
  cases r with
  | error e => exact hx pins σ _ _ e s' I2 hq'
  | ok fl =>
    cases fl with
    | ret u =>
      obtain ⟨v, H', I3, rv, ev, q3⟩ := I2.after hq'
      subst ev
      exact ⟨rv, ⟨V.ref (s.heap.objs.size + 1), H', I3, rfl, q3⟩⟩
    | next => exact False.elim hq'
    | brk => exact False.elim hq'
    | cont => exact False.elim hq'
theorem pe_make (M : Mk X.K C f) (F : FnOk X.prog X.w X.K X.mg X.base CX k f fd ps sp) (hr : Room (k + 1) X.A) (hg : Gl X x) (hm : X.mg x = some (.ref C)) (hb : Binds X.K fd ps ds) (hd : Vals dvs ds) (hx : Passes CX X E)
    (ha : PA X (e :: es) t) (hdb : (x == ("__debug__" : Str)) = false := by decide) (he : starEach (e :: es) X.env = (false, eval e X.env) :: starEach es X.env := by rfl) (hpl : (backTo pos (starEach es X.env)).any (·.1) = false := by rfl) :
    PE X (.Call (.Name x p) (e :: es) [] pos) (tMake C sp dvs E t) := by
  intro pins s σ H Q I h
  refine wpAny_Call_Name_kw (ld_glob I hg hm ?_ hdb)
  refine PySem.W.callWith_K (h₀ := X.base) I.ok.mod.kin M.kp (thn (ha pos pins s σ H _ I h) fun us s1 ⟨vs, H1, I1, r, q⟩ => ⟨I1.kIn, ?_⟩) he hpl
  exact run_make M F hr hb hd hx I1 r q
end
section
variable {X : Cx} {CX : CXT} {k : Nat} {f C : Addr} {fd : FuncData} {ps ks : List Str} {sp : Sp} {E : XK} {x m : Str} {p pos apos kpos : Pos} {e o : Expr} {es : List Expr} {kws : List Keyword} {te ta : TE} {t tk : TA} {nm : Option Str}
variable {g : List Value → List Value → List Value} {gV : List V → List V → List V}
end
structure FnScope (N P : List Str) (sc : Scope) : Prop where
  kind : sc.kind = .function
  co : sc.isCoroutine = false
  gen : sc.isGenerator = false
  nd : N.Nodup
  pre : N.take P.length = P
  par : ∀ x ∈ P, sc.names.lookup x = some .local ∨ sc.names.lookup x = some .cell
  nofree : ∀ y ∈ sc.names, y.2 ≠ .free
theorem bindL_out {kindOf : Str → Option NameKind} {x : Str} : ∀ {binds : List (Str × Value)} {m : Str → Option Value}, (∀ v, (x, v) ∉ binds) → bindL kindOf binds m x = m x
  | [], _, _ => rfl
  | (n, v) :: r, m, h => by
    unfold bindL
    rw [bindL_out fun w hw => h w (List.mem_cons_of_mem _ hw)]
    split
    · have : x ≠ n := by rintro rfl; exact h v List.mem_cons_self
      simp [this]
    · rfl
theorem bindC_out {kindOf : Str → Option NameKind} {x : Str} : ∀ {binds : List (Str × Value)} {m : Str → Option Value}, (∀ v, (x, v) ∉ binds) → bindC kindOf binds m x = m x
  | [], _, _ => rfl
  | (n, v) :: r, m, h => by
    unfold bindC
    rw [bindC_out fun w hw => h w (List.mem_cons_of_mem _ hw)]
    split
    · rfl
    · have : x ≠ n := by rintro rfl; exact h v List.mem_cons_self
      simp [this]
theorem bindL_get {kindOf : Str → Option NameKind} {x : Str} {v : Value} : ∀ {P : List Str} {vs : List Value} {i : Nat} {m : Str → Option Value}, P.Nodup → P[i]? = some x → vs[i]? = some v → kindOf x = some .local →
    bindL kindOf (P.zip vs) m x = some v
  | [], _, _, _, _, h, _, _ => by simp at h
  | _ :: _, [], _, _, _, _, h, _ => by simp at h
  | p :: P, w :: vs, 0, m, nd, h1, h2, hk => by
    simp at h1 h2; subst h1; subst h2
    show bindL kindOf ((p, w) :: P.zip vs) m p = _
    unfold bindL
    rw [bindL_out fun v hv => (List.nodup_cons.mp nd).1 (List.of_mem_zip hv).1, if_pos hk]
    simp
  | p :: P, w :: vs, i + 1, m, nd, h1, h2, hk => by
    show bindL kindOf ((p, w) :: P.zip vs) m x = _
    unfold bindL
    exact bindL_get (i := i) (List.nodup_cons.mp nd).2 (by simpa using h1) (by simpa using h2) hk
theorem bindC_get {kindOf : Str → Option NameKind} {x : Str} {v : Value} : ∀ {P : List Str} {vs : List Value} {i : Nat} {m : Str → Option Value}, P.Nodup → P[i]? = some x → vs[i]? = some v → kindOf x ≠ some .local →
    bindC kindOf (P.zip vs) m x = some v
  | [], _, _, _, _, h, _, _ => by simp at h
  | _ :: _, [], _, _, _, _, h, _ => by simp at h
  | p :: P, w :: vs, 0, m, nd, h1, h2, hk => by
    simp at h1 h2; subst h1; subst h2
    show bindC kindOf ((p, w) :: P.zip vs) m p = _
    unfold bindC
    rw [bindC_out fun v hv => (List.nodup_cons.mp nd).1 (List.of_mem_zip hv).1, if_neg hk]
    simp
  | p :: P, w :: vs, i + 1, m, nd, h1, h2, hk => by
    show bindC kindOf ((p, w) :: P.zip vs) m x = _
    unfold bindC
    exact bindC_get (i := i) (List.nodup_cons.mp nd).2 (by simpa using h1) (by simpa using h2) hk
def start (N : List Str) (vs : List V) : St := vs.map some ++ List.replicate (N.length - vs.length) none
def cxOf (CX : CXT) (P : Program) (w : World) (K : PySem.W.Frag) (mg : Str → Option Value) (base : Heap) (N : List Str) (qual : Str) (scope : Scope) (f : Addr) (cd : Value) (A : Around) (outer : List Env) (s : Shared) (H : Hp) (E : XK) : Cx where
  prog := P
  w := w
  K := K
  mg := mg
  base := base
  A := A.deeper (envOfC qual scope s.heap.objs.size f cd)
  N := N
  s_0 := s
  H_0 := H
  env := envOfC qual scope s.heap.objs.size f cd
  outer := outer
  stack := envOfC qual scope s.heap.objs.size f cd :: outer
  ex := []
  calm := true
  fn := fun _ => true
  pn := []
  xe := fun e s' => wpAny (model P w) (A.deeper (envOfC qual scope s.heap.objs.size f cd)) (leaving (envOfC qual scope s.heap.objs.size f cd) e) (fun _ s'' => CX outer H s E e s'') (fun e' s'' => CX outer H s E e' s'') s'
theorem cell_has {sc : Scope} {n : Nat} {x : Str} (h : sc.names.lookup x = some .cell) : ∃ c, (cellsFrom n sc.names []).lookup x = some c := by
  have q := PySem.W.cellsFrom_some sc.names n [] (.inl h)
  exact Option.isSome_iff_exists.mp q
theorem inv_start {CX : CXT} {P : Program} {w : World} {K : PySem.W.Frag} {mg : Str → Option Value} {base : Heap} {N ps : List Str} {qual : Str} {scope : Scope} {f : Addr} {cd : Value} {A : Around} {outer : List Env} {s s1 : Shared} {H : Hp} {E : XK} {us : List Value} {vs : List V}
    (S : FnScope N ps scope) (hd : A.handled = none) (e0 : Env0 P w K mg base A outer s H) (hl : vs.length = ps.length) (r : Vals vs us)
    (x : InCallC s s.heap.objs.size (bindL (envOfC qual scope s.heap.objs.size f cd).kindOf (ps.zip us) fun _ => none) (cellsFrom (s.heap.objs.size + 1) scope.names []) (bindC (envOfC qual scope s.heap.objs.size f cd).kindOf (ps.zip us) fun _ => none) s1) :
    Inv (cxOf CX P w K mg base N qual scope f cd A outer s H E) [] (start N vs) H s1 := by
  have hpl : ps.length ≤ N.length := by have := congrArg List.length S.pre; rw [List.length_take] at this; omega
  obtain ⟨h1, tk, rfl, hk⟩ := x.done
  have noA : ∀ b : Addr, b ∉ (cxOf CX P w K mg base N qual scope f cd A outer s H E).ex := fun b z => absurd (show b ∈ ([] : List Addr) from z) (by simp)
  refine ⟨⟨e0.mod, S.kind, rfl, rfl, Nat.le_refl _, fun y z c h1 h2 => ?_, fun y hy => ?_, fun y c _ h => ?_, fun _ => hd, Around.frames_deeper e0.frames, .inr ⟨rfl, rfl⟩, fun b z => absurd z (noA b), e0.bs, e0.bsz, fun b _ _ => noA b, fun b z => absurd z (noA b), e0.funs, e0.frf⟩,
    rfl, e0.bare, Un.kept hk, ⟨_, x.toInCall.ns, fun i y v h1 h2 h3 => ?_⟩, fun y c h => ⟨_, x.cell y c h⟩, e0.hok.fresh (Nat.le_refl _), fun y c h => ?_, fun p hp => absurd (show p ∈ ([] : List (Addr × Obj)) from hp) (by simp), e0.hok.kept hk, ?_⟩
  · exact name_of_addr x.apart (PySem.mem_of_lookup h1) (PySem.mem_of_lookup h2)
  · have hy : scope.names.lookup y = some .cell ∨ scope.names.lookup y = some .free := hy
    rcases hy with hy | hy
    · exact cell_has hy
    · exact absurd rfl (S.nofree _ (PySem.mem_of_lookup hy))
  · exact Nat.le_of_lt (x.above y c (PySem.mem_of_lookup h))
  · have hi : i < vs.length := by
      unfold start at h2
      by_cases hi : i < vs.length
      · exact hi
      · rw [List.getElem?_append_right (by simpa using hi)] at h2
        rw [List.getElem?_replicate] at h2
        split at h2 <;> cases h2
    have ha : vs[i]? = some v := by
      unfold start at h2
      rw [List.getElem?_append_left (by simpa using hi), List.getElem?_map] at h2
      cases e : vs[i]? with
      | none => rw [e] at h2; cases h2
      | some a => rw [e] at h2; cases h2; rfl
    obtain ⟨u, hu, rv⟩ := r.get ha
    have hp : ps[i]? = some y := by
      rw [← S.pre, List.getElem?_take_of_lt (by omega)]; exact h1
    have ndP : ps.Nodup := by rw [← S.pre]; exact S.nd.sublist (List.take_sublist _ _)
    refine ⟨u, rv, ?_⟩
    rcases S.par y (List.mem_of_getElem? hp) with k | k
    · exact .inl ⟨k, bindL_get ndP hp hu k⟩
    · obtain ⟨c, e⟩ := cell_has (n := s.heap.objs.size + 1) k
      refine .inr ⟨.inl k, c, e, ?_⟩
      have q := x.cell y c e
      rw [bindC_get ndP hp hu (by show scope.names.lookup y ≠ _; rw [k]; decide)] at q
      exact q
  · exact e0.hok.fresh (Nat.le_of_lt (x.above y c (PySem.mem_of_lookup h)))
  · unfold start
    show _ = N.length
    rw [List.length_append, List.length_map, List.length_replicate]
    omega
theorem fn_of {CX : CXT} {P : Program} {w : World} {K : PySem.W.Frag} {mg : Str → Option Value} {base : Heap} {k : Nat} {f : Addr} {name qual : Str} {params : Arguments} {body : List Stmt} {scope : Scope} {dV kV doc pm cdv ct oc : Value} {an od : Option Addr}
    {osl : Array (Option Value)} {N ps : List Str} {sp : Sp} (lk : K.lookup f = some ⟨oc, od, .func (PySem.W.fnOf name qual params body scope dV kV doc pm an cdv ct), osl⟩) (hcd : PySem.W.codeIn K cdv qual = true) (S : FnScope N ps scope)
    (len : ∀ vs H Q E, sp vs H Q E → vs.length = ps.length)
    (hbody : ∀ (A : Around) (outer : List Env) (s : Shared) (H : Hp) (vs : List V) (Q : VK) (E : XK), Room k (A.deeper (envOfC qual scope s.heap.objs.size f cdv)) → sp vs H Q E →
      ∃ t, PSs (cxOf CX P w K mg base N qual scope f cdv A outer s H E) body t ∧ t { nx := fun _ H' => Q .non H', rt := Q } (start N vs) H) :
    FnOk P w K mg base CX (k + 1) f (PySem.W.fnOf name qual params body scope dV kV doc pm an cdv ct) ps sp := by
  refine ⟨len, fun A outer s H args us vs Q E hr e0 hb r hsp => ?_⟩
  have hl := len _ _ _ _ hsp
  have KX : K.In s.heap := e0.mod.kin.keeps fun b o e => (e0.bs b o e).1
  have lim : s.heap.NoLimit := e0.mod.nolimit.keeps fun b o e => (e0.bs b o e).1
  have hkind : ∀ y ∈ ps.zip us, scope.names.lookup y.1 = some .local ∨ (scope.names.lookup y.1 = some .cell ∧ ((cellsFrom (s.heap.objs.size + 1) scope.names []).lookup y.1).isSome = true) := fun ⟨n, v⟩ hy => by
    rcases S.par n (List.of_mem_zip hy).1 with q | q
    · exact .inl q
    · exact .inr ⟨q, PySem.W.cellsFrom_some _ _ _ (.inl q)⟩
  refine codeAny_call_function hr.depth (KX _ _ lk) rfl S.co S.gen rfl (PySem.W.codeRec_of KX hcd) (hb _ _ _ _ ?_)
  refine wpAny_newFunctionEnv_cells S.kind hkind fun env he s1 x => ?_
  subst he
  refine ⟨lim.keeps x.toInCall.keep, codeAny_func ?_⟩
  obtain ⟨t, ht, hq⟩ := hbody A outer s H vs Q E (hr.deeper _) hsp
  have I : Inv (cxOf CX P w K mg base N qual scope f cdv A outer s H E) [] (start N vs) H s1 := inv_start S hr.hd e0 hl r x
  refine wpAny_mono (ht [] s1 (start N vs) H _ I hq) (fun fl s' hs => ?_) fun e s' hs => hs
  have fin : ∀ {σ' : St} {H' : Hp} {v : V} {u : Value}, Inv (cxOf CX P w K mg base N qual scope f cdv A outer s H E) [] σ' H' s' → RelV v u → Q v H' → CE outer P w H s Q u s' :=
    fun {σ' H' v u} J rv q => ⟨v, H', J.os, J.bare, J.base, J.hok, rv, q⟩
  cases fl with
  | ret u =>
    obtain ⟨v, σ', H', J, rv, q⟩ := hs
    exact fin J rv q
  | next =>
    obtain ⟨σ', H', J, q⟩ := hs
    exact fin (v := V.non) (u := Value.none) J rfl q
  | brk =>
    obtain ⟨_, _, _, q⟩ := hs
    exact False.elim q
  | cont =>
    obtain ⟨_, _, _, q⟩ := hs
    exact False.elim q
end L2
namespace L2
open PySem PySem.Spec PyProof.Rows
section
variable {X : Cx} {x : Str} {p pos : Pos} {e : Expr} {es : List Expr} {t : TA} {id T : String} {r : List V → Hp → VK → Prop}
def tCB (r : List V → Hp → VK → Prop) (t : TA) : TE := fun σ H Q => t σ H fun vs H1 => r vs H1 Q
theorem pe_callB (hc : CallR X (.builtin id) r) (hg : Gl X x) (hm : X.mg x = none) (hv : bootBuiltins x = some (.builtin id)) (ha : PA X (e :: es) t) (hn : x ≠ "__name__" := by decide) (hdb : (x == ("__debug__" : Str)) = false := by decide)
    (he : starEach (e :: es) X.env = (false, eval e X.env) :: starEach es X.env := by rfl) (hpl : (backTo pos (starEach es X.env)).any (·.1) = false := by rfl) : PE X (.Call (.Name x p) (e :: es) [] pos) (tCB r t) := by
  intro pins s σ H Q I h
  refine wpAny_Call_Name_kw (ld_blt I hg hm hv ?_ hn hdb)
  exact PyProof.Rows.callWith_builtin1 (thn (ha pos pins s σ H _ I h) fun us s1 ⟨vs, H1, I1, r1, q1⟩ => hc pins s1 σ H1 vs us Q I1 r1 q1) he hpl
end
end L2
namespace HT
open PySem PyProof.Rows
section
open PySem.SeqAt
open PySem.AutoSeq1 (wpAny_loadPart')
open PySem.MeetsSeq PySem.MeetsSeq2 PySem.MeetsSeq3
end
section
variable {prog : Program} {w : World} {A : Around} {E : Value → Shared → Prop} {s : Shared}
def sIx (n d : Nat) : Option Int → Nat
  | none => d
  | some v => if v < 0 then (v + (n : Int)).toNat else min v.toNat n
theorem sIx_none (n d : Nat) : sIx n d none = d := rfl
theorem sIx_nat (n d k : Nat) : sIx n d (some (k : Int)) = min k n := by
  show (if (k : Int) < 0 then ((k : Int) + (n : Int)).toNat else min (k : Int).toNat n) = min k n
  rw [if_neg (by omega), Int.toNat_natCast]
end
end HT
namespace L2
open PySem PySem.Spec PyProof.Rows
abbrev TO := St → Hp → (Option Int → Hp → Prop) → Prop
def PO (X : Cx) (e : Option Expr) (t : TO) : Prop :=
  ∀ (pins : List (Addr × Obj)) (s : Shared) (σ : St) (H : Hp) (Q : Option Int → Hp → Prop), Inv X pins σ H s → t σ H Q →
    wpAny (model X.prog X.w) X.A (evalPart e X.env) (fun u s' => ∃ o H', Inv X pins σ H' s' ∧ IsPart u o ∧ Q o H') X.xe s
def tNoPart : TO := fun _ H Q => Q none H
def tPart (t : TE) : TO := fun σ H Q => t σ H fun x H1 => ∃ i, x = .int i ∧ Q (some i) H1
theorem intsAre_of {ns : List Int} : ∀ {us : List Value}, Vals (ns.map V.int) us → IntsAre us ns := by
  induction ns with
  | nil => intro us r; rw [List.map_nil] at r; cases r; exact .nil
  | cons n ns ih =>
    intro us r
    rw [List.map_cons] at r
    cases r with
    | cons r1 r2 =>
      obtain ⟨t, e⟩ := r1
      subst e
      exact .cons n t (ih r2)
section
variable {X : Cx} {e : Expr} {te : TE} {lo hi : Option Expr} {tl th : TO} {pos p2 : Pos}
theorem po_none : PO X none tNoPart := by
  intro pins s σ H Q I h
  rw [evalPart_none]
  exact wpAny_pure ⟨none, H, I, .none, h⟩
theorem po_some (h : PE X e te) : PO X (some e) (tPart te) := by
  intro pins s σ H Q I hw
  rw [evalPart_some]
  refine thn (h pins s σ H _ I hw) fun u s1 ⟨x, H1, I1, r1, q1⟩ => ?_
  obtain ⟨i, rfl, q⟩ := q1
  obtain ⟨t, rfl⟩ := r1
  exact ⟨some i, H1, I1, .int i t, q⟩
def SlR (X : Cx) (r : V → Option Int → Option Int → Hp → VK → Prop) : Prop :=
  ∀ (pins : List (Addr × Obj)) (s : Shared) (σ : St) (H : Hp) (x : V) (v vl vu : Value) (lo hi : Option Int) (sl : Addr) (Q : VK), Inv X pins σ H s → RelV x v → s.heap.IsSliceOf sl vl vu .none → IsPart vl lo → IsPart vu hi → r x lo hi H Q →
    ∃ T id, typeLookup (.type T) "__getitem__" = pure (some (.builtin id)) ∧ s.TypeIs v T ∧ wpAny (model X.prog X.w) X.A (getItem v (.ref sl)) (EP X pins σ Q) X.xe s
def tSl (r : V → Option Int → Option Int → Hp → VK → Prop) (te : TE) (tl th : TO) : TE := fun σ H Q => te σ H fun x H1 => tl σ H1 fun l H2 => th σ H2 fun u H3 => r x l u H3 Q
theorem pe_slice {r : V → Option Int → Option Int → Hp → VK → Prop} (hr : SlR X r) (he : PE X e te) (hl : PO X lo tl) (hu : PO X hi th) : PE X (.Subscript e (.Slice lo hi none p2) pos) (tSl r te tl th) := by
  intro pins s σ H Q I h
  refine Subscript_ (thn (he pins s σ H _ I h) fun v s1 ⟨x, H1, I1, r1, q1⟩ => ?_)
  refine wpAny_Slice (thn (hl pins s1 σ H1 _ I1 q1) fun vl s2 ⟨l, H2, I2, pl, q2⟩ => thn (hu pins s2 σ H2 _ I2 q2) fun vu s3 ⟨u, H3, I3, pu, q3⟩ => ?_)
  rw [evalPart_none]
  refine wpAny_pure ?_
  have I4 : Inv X pins σ H3 { s3 with heap := s3.heap.push { cls := .type "slice", data := .fields #[vl, vu, .none] } } := I3.kept (t' := s3.toks) fun b ob q => Heap.get?_push_of_some _ q
  obtain ⟨T, id, hT, ht, hg⟩ := hr pins { s3 with heap := s3.heap.push { cls := .type "slice", data := .fields #[vl, vu, .none] } } σ H3 x v vl vu l u s3.heap.objs.size Q I4 r1 (Heap.IsSliceOf.new ..) pl pu q3
  show wpAny (model X.prog X.w) X.A (subscriptTail e (.Slice lo hi none p2) v (.ref s3.heap.objs.size)) (EP X pins σ Q) X.xe { s3 with heap := s3.heap.push { cls := .type "slice", data := .fields #[vl, vu, .none] } }
  exact tail_any (ops := [.ref s3.heap.objs.size, v]) ht hT hg (by with_unfolding_all rfl)
def cutV (xs : List V) (lo hi : Option Int) : List V := (xs.drop (HT.sIx xs.length 0 lo)).take (HT.sIx xs.length xs.length hi - HT.sIx xs.length 0 lo)
theorem cutV_length (xs : List V) (lo hi : Option Int) : (cutV xs lo hi).length ≤ xs.length := by
  unfold cutV
  rw [List.length_take, List.length_drop]
  omega
end
end L2
namespace L2
open PySem PySem.Spec PyProof.Rows
def ixN (n : Nat) (i : Int) : Option Nat := if 0 ≤ i then (if i < n then some i.toNat else none) else if -(n : Int) ≤ i then some (i + n).toNat else none
def atI {α : Type} (xs : List α) (i : Int) : Option α := (ixN xs.length i).bind fun j => xs[j]?
theorem ixN_seq {n : Nat} {i : Int} {j : Nat} (h : ixN n i = some j) : seqIndex? i n = some j ∧ j < n ∧ -(n : Int) ≤ i ∧ i < n := by
  unfold ixN at h
  by_cases h0 : 0 ≤ i
  · rw [if_pos h0] at h
    by_cases h1 : i < n
    · rw [if_pos h1] at h
      have e : i.toNat = j := Option.some.inj h
      exact ⟨by rw [seqIndex_of h0 h1, e], by omega, by omega, h1⟩
    · rw [if_neg h1] at h; cases h
  · rw [if_neg h0] at h
    by_cases h1 : -(n : Int) ≤ i
    · rw [if_pos h1] at h
      have e : (i + n).toNat = j := Option.some.inj h
      exact ⟨by rw [seqIndex_neg (by omega) h1, e], by omega, h1, by omega⟩
    · rw [if_neg h1] at h; cases h
theorem atI_get {α : Type} {xs : List α} {i : Int} {v : α} (h : atI xs i = some v) : ∃ j, seqIndex? i xs.length = some j ∧ xs[j]? = some v ∧ j < xs.length ∧ -(xs.length : Int) ≤ i ∧ i < xs.length := by
  unfold atI at h
  cases e : ixN xs.length i with
  | none => rw [e] at h; cases h
  | some j =>
    rw [e] at h
    obtain ⟨h1, h2, h3, h4⟩ := ixN_seq e
    exact ⟨j, h1, h, h2, h3, h4⟩
theorem atI_nat {α : Type} {xs : List α} {j : Nat} {v : α} (h : xs[j]? = some v) : atI xs (j : Int) = some v := by
  have hj : j < xs.length := (List.getElem?_eq_some_iff.mp h).1
  have e : ixN xs.length (j : Int) = some j := by
    unfold ixN
    rw [if_pos (by omega), if_pos (by omega)]; simp
  unfold atI; rw [e]; exact h
theorem atI_last {α : Type} (xs : List α) (v : α) : atI (xs ++ [v]) (-1) = some v := by
  have hl : (xs ++ [v]).length = xs.length + 1 := by simp
  have e : ixN (xs ++ [v]).length (-1) = some xs.length := by
    unfold ixN
    rw [hl, if_neg (by decide), if_pos (by omega)]
    congr 1
    omega
  unfold atI
  rw [e]
  show (xs ++ [v])[xs.length]? = some v
  simp
def PlainIx (b : Expr) : Prop := ∀ o i, subscripted b false o i = operate [o, i] (getItem o i)
def IxR (X : Cx) (r : R2) : Prop :=
  ∀ (value slice : Expr) (pins : List (Addr × Obj)) (s : Shared) (σ : St) (H : Hp) (x y : V) (v u : Value) (Q : VK), Inv X pins σ H s → RelV x v → RelV y u → r x y H Q →
    subscripted slice false v u = operate [v, u] (getItem v u) → wpAny (model X.prog X.w) X.A (subscriptTail value slice v u) (EP X pins σ Q) X.xe s
def MtR (X : Cx) (id : String) (r : V → List V → Hp → VK → Prop) : Prop :=
  ∀ (pins : List (Addr × Obj)) (s : Shared) (σ : St) (H : Hp) (x : V) (xs : List V) (v : Value) (us : List Value) (Q : VK), Inv X pins σ H s → RelV x v → Vals xs us → r x xs H Q →
    wpAny (model X.prog X.w) X.A (call (.builtin id) (v :: us)) (EP X pins σ Q) X.xe s
section
variable {X : Cx} {a b : Expr} {ta tb : TE} {pos : Pos}
theorem pe_ix {r : R2} (hr : IxR X r) (ha : PE X a ta) (hb : PE X b tb) (hs : PlainIx b) : PE X (.Subscript a b pos) (tOp r ta tb) := by
  intro pins s σ H Q I h
  exact Subscript_ (binT ha hb I h fun v u s2 x y H2 I2 rx ry q => hr a b pins s2 σ H2 x y v u Q I2 rx ry q (hs _ _))
def rIxL (K : PySem.W.Frag) : R2 := fun x y H Q => ∃ p xs i v, x = .ref p ∧ y = .int i ∧ SqL K H p xs ∧ atI xs i = some v ∧ Q v H
def rIxT (K : PySem.W.Frag) : R2 := fun x y H Q => ∃ p xs i v, x = .ref p ∧ y = .int i ∧ SqT K H p xs ∧ atI xs i = some v ∧ Q v H
theorem ix_list : IxR X (rIxL X.K) := by
  intro value slice pins s σ H x y v u Q I rx ry h hs
  obtain ⟨p, xs, i, z, rfl, rfl, hq, he, q⟩ := h
  cases rx
  obtain ⟨t, rfl⟩ := ry
  obtain ⟨its, r, pl, hz⟩ := I.list hq
  obtain ⟨j, h1, h2, h3, h4, h5⟩ := atI_get he
  obtain ⟨w, ew, rw'⟩ := r.get h2
  have hl := r.length
  have hn := line63
  have fin : EP X pins σ Q w s := ⟨z, H, I, rw', q⟩
  by_cases h0 : 0 ≤ i
  · have hj : i.toNat = j := by
      rw [seqIndex_of h0 h5] at h1
      exact Option.some.inj h1
    exact item_listR pl.isList h0 (by omega) (by rw [hj]; simpa using ew) fin hs
  · have hj : (i + (its.toArray.size : Int)).toNat = j := by
      rw [seqIndex_neg (by omega) h4] at h1
      rw [List.size_toArray, ← hl]
      exact Option.some.inj h1
    exact subscriptTail_builtinR (x := w) pl.isList.typeIs slot_list_getitem.lookup
      (wpAny_getItem_list_neg (Q := fun r s' => r = w ∧ EP X pins σ Q r s') pl.isList (by omega) (by rw [List.size_toArray] <;> omega) (by omega) (by rw [hj]; simpa using ew) ⟨rfl, fin⟩) hs
theorem ix_tup : IxR X (rIxT X.K) := by
  intro value slice pins s σ H x y v u Q I rx ry h hs
  obtain ⟨p, xs, i, z, rfl, rfl, hq, he, q⟩ := h
  cases rx
  obtain ⟨t, rfl⟩ := ry
  obtain ⟨its, r, pl, hz⟩ := I.tuple hq
  obtain ⟨j, h1, h2, h3, h4, h5⟩ := atI_get he
  obtain ⟨w, ew, rw'⟩ := r.get h2
  have hl := r.length
  have hn := line63
  have fin : EP X pins σ Q w s := ⟨z, H, I, rw', q⟩
  exact subscriptTail_builtinR (x := w) pl.typeIs slot_tuple_getitem.lookup
    (getItem_tuple (j := j) (Q := fun r s' => r = w ∧ EP X pins σ Q r s') pl (by omega) (by omega) (by rw [List.size_toArray, ← hl]; exact h1) (by simpa using ew) ⟨rfl, fin⟩) hs
theorem slice_bounds (lo hi : Option Int) (n : Nat) : (sliceBounds lo hi none n).1 = ((HT.sIx n 0 lo : Nat) : Int) ∧ (sliceBounds lo hi none n).2.1 = ((HT.sIx n n hi : Nat) : Int) ∧ (sliceBounds lo hi none n).2.2 = 1 := by
  refine ⟨?_, ?_, rfl⟩
  · cases lo with
    | none => simp [sliceBounds, HT.sIx]
    | some i =>
      simp only [sliceBounds, HT.sIx, Option.getD_none, show (1 : Int) > 0 by decide, if_true]
      by_cases h : i < 0
      · simp only [h, if_true] <;> omega
      · simp only [h, if_false] <;> omega
  · cases hi with
    | none => simp [sliceBounds, HT.sIx]
    | some i =>
      simp only [sliceBounds, HT.sIx, Option.getD_none, show (1 : Int) > 0 by decide, if_true]
      by_cases h : i < 0
      · simp only [h, if_true] <;> omega
      · simp only [h, if_false] <;> omega
theorem slicePick_cut (its : List Value) (lo hi : Option Int) : slicePick its.toArray lo hi none = ((its.drop (HT.sIx its.length 0 lo)).take (HT.sIx its.length its.length hi - HT.sIx its.length 0 lo)).toArray := by
  obtain ⟨h1, h2, h3⟩ := slice_bounds lo hi its.toArray.size
  unfold slicePick
  rw [h1, h2, h3]
  simp only [sliceRange_one, pick_run, List.size_toArray] <;> rfl
def rSlL (K : PySem.W.Frag) : V → Option Int → Option Int → Hp → VK → Prop := fun x lo hi H Q => ∃ a xs, x = .ref a ∧ SqL K H a xs ∧ ∀ p, H p = none → Q (.ref p) (upd H p (.lst (cutV xs lo hi)))
theorem sl_list : SlR X (rSlL X.K) := by
  intro pins s σ H x v vl vu lo hi sl Q I rx hs pl pu h
  obtain ⟨a, xs, rfl, hx, q⟩ := h
  cases rx
  obtain ⟨its, r, ht, hz⟩ := I.list hx
  have hlen := r.length
  refine ⟨"list", _, slot_list_getitem.lookup, ht.isList.typeIs, ?_⟩
  refine wpAny_getItem_list_slice ht.isList hs pl pu .none (by simp) ?_ (by rw [List.size_toArray] <;> omega)
  rw [slicePick_cut, ← hlen]
  refine ⟨.ref s.heap.objs.size, _, I.laid (t' := s.toks) (o := .lst (cutV xs lo hi)) (fun b ob q => Heap.get?_push_of_some _ q) (Nat.le_refl _) ?_, rfl, q _ (I.hok.fresh (Nat.le_refl _))⟩
  exact ⟨Nat.le_trans (cutV_length xs lo hi) hz, _, 0, (r.drop (HT.sIx xs.length 0 lo)).take (HT.sIx xs.length xs.length hi - HT.sIx xs.length 0 lo), Heap.get?_push_size _ rfl⟩
theorem call_len_seq : CallR X (.builtin "len") (fun xs H Q => ∃ p ys, xs = [.ref p] ∧ (SqL X.K H p ys ∨ SqT X.K H p ys) ∧ Q (.int ys.length) H) := by
  intro pins s σ H xs us Q I r h
  obtain ⟨p, ys, rfl, hq, q⟩ := h
  obtain ⟨u, rfl, rx⟩ := vals1 r
  cases rx
  have hn := line63
  rcases hq with hq | hq
  · obtain ⟨its, r', pl, hz⟩ := I.list hq
    have hlen := r'.length
    exact Calls.call_len_list pl.isList (by simp only [List.size_toArray] <;> omega) ⟨.int ys.length, H, I.tok _, ⟨s.toks + 1, by rw [List.size_toArray, hlen]⟩, q⟩
  · obtain ⟨its, r', pl, hz⟩ := I.tuple hq
    have hlen := r'.length
    exact len_tuple pl (by simp only [List.size_toArray] <;> omega) ⟨.int ys.length, H, I.tok _, ⟨s.toks + 1, by rw [List.size_toArray, hlen]⟩, q⟩
def tyV (K : PySem.W.Frag) (T : String) (x : V) (H : Hp) : Prop := match x with
  | .str _ => T = "str"
  | .int _ => T = "int"
  | .ref p => (T = "list" ∧ ∃ xs, SqL K H p xs) ∨ (T = "tuple" ∧ ∃ o, K.lookup p = some o ∧ o.cls = .type "tuple" ∧ o.dict = none) ∨
      (T = "dict" ∧ ((∃ kvs, H p = some (.dK kvs)) ∨ ∃ kvs, H p = some (.dT kvs))) ∨ (T = "set" ∧ ∃ S n, H p = some (.set S n))
  | _ => False
theorem tyV_is {pins : List (Addr × Obj)} {σ : St} {H : Hp} {s : Shared} {T : String} {x : V} {v : Value} (I : Inv X pins σ H s) (r : RelV x v) (ty : tyV X.K T x H) :
    s.TypeIs v T ∧ ∀ a, v = .ref a → ∃ ob, s.heap.get? a = some ob ∧ ob.dict = none := by
  cases x with
  | str z =>
    obtain ⟨t, rfl⟩ := r
    cases (show T = "str" from ty)
    exact ⟨typeIs_str s z t, fun _ e => nomatch e⟩
  | int i =>
    obtain ⟨t, rfl⟩ := r
    cases (show T = "int" from ty)
    exact ⟨typeIs_int s i t, fun _ e => nomatch e⟩
  | ref p =>
    cases r
    rcases ty with ⟨rfl, xs, hq⟩ | ⟨rfl, o, hk, hc, hd⟩ | ⟨rfl, hk⟩ | ⟨rfl, S, n, hk⟩
    · obtain ⟨its, _, pl, _⟩ := I.list hq
      refine ⟨pl.isList.typeIs, fun a e => ?_⟩
      cases e
      obtain ⟨o, n, e, c, hd, _⟩ := pl
      exact ⟨o, e, hd⟩
    · refine ⟨⟨o, I.kIn p o hk, hc⟩, fun a e => ?_⟩
      cases e
      exact ⟨o, I.kIn _ o hk, hd⟩
    · have z : ∃ o, s.heap.get? p = some o ∧ o.ExactDict := by
        rcases hk with ⟨kvs, hk⟩ | ⟨kvs, hk⟩
        · obtain ⟨_, _, _, _, o, _, _, e, ex, _⟩ := I.hok p _ hk
          exact ⟨o, e, ex⟩
        · obtain ⟨_, _, _, _, o, _, _, e, ex, _⟩ := I.hok p _ hk
          exact ⟨o, e, ex⟩
      obtain ⟨o, e, ex⟩ := z
      refine ⟨⟨o, e, ex.1⟩, fun a e2 => ?_⟩
      cases e2
      exact ⟨o, e, ex.2.1⟩
    · obtain ⟨o, _, _, _, e, ex, _⟩ := I.hok p _ hk
      refine ⟨⟨o, e, ex.1⟩, fun a e2 => ?_⟩
      cases e2
      exact ⟨o, e, ex.2.1⟩
  | _ => exact False.elim ty
def tBM0 (K : PySem.W.Frag) (T : String) (r : V → List V → Hp → VK → Prop) (to : TE) : TE := fun σ H Q => to σ H fun x H1 => tyV K T x H1 ∧ r x [] H1 Q
def tBM (K : PySem.W.Frag) (T : String) (r : V → List V → Hp → VK → Prop) (to : TE) (t : TA) : TE := fun σ H Q => to σ H fun x H1 => tyV K T x H1 ∧ t σ H1 fun xs H2 => r x xs H2 Q
variable {o e : Expr} {es : List Expr} {to : TE} {t : TA} {name : Str} {apos cpos : Pos} {T id : String} {r : V → List V → Hp → VK → Prop}
theorem pe_bm0 (pa : PlainAttrs T) (slot : Slot T name id) (hty : typeOf (.builtin id) = pure (.type "method_descriptor")) (hm : MtR X id r) (ho : PE X o to)
    (hbase : attributeBase o name X.env (eval o X.env) = eval o X.env := by rfl) (hline : (apos.endLine == cpos.line) = true := by rfl) : PE X (.Call (.Attribute o name apos) [] [] cpos) (tBM0 X.K T r to) := by
  intro pins s σ H Q I h
  refine wpAny_Call_method0_late hbase hline (thn (ho pins s σ H _ I h) fun v s1 ⟨x, H1, I1, r1, ty, q1⟩ => ?_)
  obtain ⟨h1, h2⟩ := tyV_is I1 r1 ty
  exact ⟨T, id, pa, slot, hty, h1, h2, Calls.callWith_builtin rfl (PySem.evalArgs_none (hm pins s1 σ H1 x [] v [] Q I1 r1 .nil q1))⟩
theorem pe_bm (pa : PlainAttrs T) (slot : Slot T name id) (hty : typeOf (.builtin id) = pure (.type "method_descriptor")) (hm : MtR X id r) (ho : PE X o to) (ha : PA X (e :: es) t)
    (hbase : attributeBase o name X.env (eval o X.env) = eval o X.env := by rfl)
    (hfew : ((backTo cpos (starEach (e :: es) X.env)).all (fun x => !x.1) && (backToKw cpos (keywordEach [] X.env)).all (fun x => x.1.isSome)
      && decide ((e :: es).length + ([] : List Keyword).length + (if ([] : List Keyword).isEmpty then 0 else 1) < 30)) = true := by rfl)
    (hline : (apos.endLine == cpos.line) = true := by rfl) (hs : starEach (e :: es) X.env = (false, eval e X.env) :: starEach es X.env := by rfl) (hplain : (backTo cpos (starEach es X.env)).any (·.1) = false := by rfl) :
    PE X (.Call (.Attribute o name apos) (e :: es) [] cpos) (tBM X.K T r to t) := by
  intro pins s σ H Q I h
  refine wpAny_Call_method_late hbase hfew hline rfl (thn (ho pins s σ H _ I h) fun v s1 ⟨x, H1, I1, r1, ty, q1⟩ => ?_)
  obtain ⟨h1, h2⟩ := tyV_is I1 r1 ty
  refine ⟨T, id, pa, slot, hty, h1, h2, ?_⟩
  have hA := ha cpos pins s1 σ H1 _ I1 q1
  rw [hs] at hA ⊢
  refine Calls.callWith_builtin (by show (false || (backTo cpos (starEach es X.env)).any (·.1)) = false; rw [hplain] <;> rfl) (Calls.evalArgs_plain ?_)
  exact thn hA fun us s2 ⟨vs, H2, I2, r2, q2⟩ => hm pins s2 σ H2 x vs v us Q I2 r1 r2 q2
end
end L2
namespace L2
open PySem PySem.Spec PyProof.Rows
def MtM (X : Cx) (id : String) (r : V → List V → Hp → VK → Prop) : Prop :=
  ∀ (pins : List (Addr × Obj)) (s : Shared) (σ : St) (H : Hp) (x : V) (xs : List V) (v : Value) (us : List Value) (Q : VK), Inv X pins σ H s → RelV x v → Vals xs us → r x xs H Q →
    wpAny (model X.prog X.w) X.A (call (.builtin id) (v :: us)) (EP X pins σ Q) X.xe s
theorem Vals.one : ∀ {x : V} {us : List Value}, Vals [x] us → ∃ u, us = [u] ∧ RelV x u
  | _, _, .cons r .nil => ⟨_, rfl, r⟩
theorem Vals.rep {xs : List V} {us : List Value} (h : Vals xs us) : ∀ k : Nat, Vals (List.replicate k xs).flatten (List.replicate k us).flatten
  | 0 => .nil
  | k + 1 => by
    rw [List.replicate_succ, List.replicate_succ, List.flatten_cons, List.flatten_cons]
    exact Vals.append h (Vals.rep h k)
theorem foldl_rep (its : List Value) : ∀ (k : Nat) (acc : List Value),
    List.foldl (fun x1 x2 => x1 ++ x2) acc.toArray (List.replicate k its.toArray) = (acc ++ (List.replicate k its).flatten).toArray
  | 0, acc => by simp
  | k + 1, acc => by
    have e : acc.toArray ++ its.toArray = (acc ++ its).toArray := by simp
    have e2 : (acc ++ its) ++ (List.replicate k its).flatten = acc ++ (List.replicate (k + 1) its).flatten := by
      rw [List.replicate_succ, List.flatten_cons, List.append_assoc]
    rw [← e2, ← foldl_rep its k (acc ++ its), ← e, List.replicate_succ, List.foldl_cons]
section
variable {X : Cx} {pins : List (Addr × Obj)} {σ : St} {H : Hp} {s : Shared} {l b : Addr} {xs ys zs : List V}
theorem Inv.lset {its its' : List Value} {n : Nat} {f : Array Value → Array Value} {t' : Nat} (I : Inv X pins σ H s) (hH : H l = some (.lst xs))
    (e : s.heap.get? l = some { cls := .type "list", data := .seq its.toArray n }) (hf : f its.toArray = its'.toArray) (hv : Vals ys its') (hz : ys.length ≤ sizeLine) :
    Inv X pins σ (upd H l (.lst ys)) { s with heap := s.heap.update l (Obj.mapSeq f), toks := t' } := by
  have q := PySem.IsL.update e f
  rw [hf] at q
  refine I.write (x := l) (e := l) (by rw [hH]; exact trivial) (.inl rfl) (fun b' u hb hu => (Heap.get?_update_other s.heap (Obj.mapSeq f) (Ne.symm hb)).trans hu) ⟨_, q⟩ ?_
  exact ⟨hz, its', _, hv, q⟩
theorem Inv.lnew {its : List Value} {t' : Nat} (I : Inv X pins σ H s) (hv : Vals ys its) (hz : ys.length ≤ sizeLine) :
    Inv X pins σ (upd H s.heap.objs.size (.lst ys)) { s with heap := s.heap.push { cls := .type "list", data := .seq its.toArray }, toks := t' } :=
  I.laid (fun _ _ q => Heap.get?_push_of_some _ q) (Nat.le_refl _) ⟨hz, its, 0, hv, Heap.get?_push_size _ rfl⟩
theorem Inv.fresh (I : Inv X pins σ H s) : H s.heap.objs.size = none := I.hok.fresh (Nat.le_refl _)
theorem Inv.lstM (I : Inv X pins σ H s) (hH : H l = some (.lst xs)) : xs.length ≤ sizeLine ∧ ∃ (its : List Value) (n : Nat), Vals xs its ∧ xs.length = its.length ∧ s.heap.get? l = some { cls := .type "list", data := .seq its.toArray n } := by
  obtain ⟨z, its, n, r, e⟩ := I.hok l _ hH
  exact ⟨z, its, n, r, r.length, e⟩
theorem notLongL {n : Nat} (h : n ≤ sizeLine) : Builtin.List.listTooLong n = false := by
  unfold Builtin.List.listTooLong
  exact decide_eq_false (by omega)
end
section
variable {X : Cx}
def rAppend : V → List V → Hp → VK → Prop := fun x vs H Q => ∃ l xs y, x = .ref l ∧ vs = [y] ∧ H l = some (.lst xs) ∧ xs.length < sizeLine ∧ Q .non (upd H l (.lst (xs ++ [y])))
theorem mt_append : MtM X "list.append" rAppend := by
  intro pins s σ H x vs v us Q I rx rv h
  obtain ⟨l, xs, y, rfl, rfl, hH, hz, q⟩ := h
  cases rx
  obtain ⟨u, rfl, ru⟩ := rv.one
  obtain ⟨z, its, n, r, hl, e⟩ := I.lstM hH
  refine call_meets F.slot_list_append ⟨_, e, rfl⟩ F.entry_list_append (F.args_list_append_2 _ _) (PySem.list_append l its.toArray n u (by rw [List.size_toArray]; omega)) ⟨e, ?_⟩
  refine ⟨.non, _, I.lset (its' := its ++ [u]) hH e (by simp) (r.append (.cons ru .nil)) ?_, rfl, q⟩
  rw [List.length_append, List.length_singleton]
  omega
def rCat : R2 := fun x y H Q => ∃ l b xs zs, x = .ref l ∧ y = .ref b ∧ H l = some (.lst xs) ∧ H b = some (.lst zs) ∧ xs.length + zs.length ≤ sizeLine ∧ ∀ p, H p = none → Q (.ref p) (upd H p (.lst (xs ++ zs)))
theorem op_cat : OpR X (binaryOp .Add) rCat := by
  intro pins s σ H x y v u Q I rx ry h
  obtain ⟨l, b, xs, zs, rfl, rfl, hH, hB, hz, q⟩ := h
  cases rx
  cases ry
  obtain ⟨z, its, n, r, hl, e⟩ := I.lstM hH
  obtain ⟨z2, its2, n2, r2, hl2, e2⟩ := I.lstM hB
  refine PySem.P.add_list e e2 ?_ (by rw [List.size_toArray, List.size_toArray]; omega)
  have ea : its.toArray ++ its2.toArray = (its ++ its2).toArray := by simp
  rw [ea]
  exact ⟨.ref _, _, I.lnew (t' := s.toks) (r.append r2) (by rw [List.length_append]; omega), rfl, q _ I.fresh⟩
def rRep : R2 := fun x y H Q => ∃ l k xs, x = .ref l ∧ y = .int k ∧ H l = some (.lst xs) ∧ -(2 ^ 63) ≤ k ∧ k < 2 ^ 63 ∧ xs.length * k.toNat ≤ sizeLine ∧
  ∀ p, H p = none → Q (.ref p) (upd H p (.lst (List.replicate k.toNat xs).flatten))
theorem len_rep {α : Type} (xs : List α) (k : Nat) : (List.replicate k xs).flatten.length = k * xs.length := by
  induction k with
  | zero => simp
  | succ k ih => rw [List.replicate_succ, List.flatten_cons, List.length_append, ih, Nat.succ_mul, Nat.add_comm]
theorem op_rep : OpR X (binaryOp .Mult) rRep := by
  intro pins s σ H x y v u Q I rx ry h
  obtain ⟨l, k, xs, rfl, rfl, hH, h1, h2, hz, q⟩ := h
  cases rx
  obtain ⟨t, rfl⟩ := ry
  obtain ⟨z, its, n, r, hl, e⟩ := I.lstM hH
  have hlen : its.toArray.size * k.toNat ≤ sizeLine := by rw [List.size_toArray, ← hl]; exact hz
  have hcap : ¬ its.toArray.size * k.toNat > (2 ^ 63 - 1) / 8 := by
    have : (sizeLine : Nat) ≤ (2 ^ 63 - 1) / 8 := by decide
    omega
  have hfit : ¬ (!Builtin.List.listFitsIndex k) = true := by
    rw [fitsIndex_both h1 h2]
    exact Bool.false_ne_true
  have hlong : ¬ Builtin.List.listTooLong (its.toArray.size * k.toNat) = true := by
    rw [notLongL hlen]
    exact Bool.false_ne_true
  have hnew : List.foldl (fun x1 x2 => x1 ++ x2) #[] (List.replicate (if its.toArray.isEmpty = true then 0 else k.toNat) its.toArray) = (List.replicate k.toNat its).flatten.toArray := by
    have f0 : ∀ m : Nat, List.foldl (fun x1 x2 => x1 ++ x2) #[] (List.replicate m its.toArray) = (List.replicate m its).flatten.toArray := fun m => by
      have := foldl_rep its m []
      rw [List.nil_append] at this
      exact this
    rw [f0]
    cases its with
    | nil => simp
    | cons a r' => rw [if_neg (by simp)]
  refine wpAny_binaryOp_repeat_ref (T := "list") (U := "int") (by decide) ⟨_, e, rfl⟩ (fun s' => typeIs_int s' k t) noFill_list_mul F.fills_int_mul F.slot_int_rmul repeat_list F.slot_int_index.lookup
    (call_meets F.slot_int_rmul (typeIs_int s k t) F.entry_int_rmul (F.args_int_rmul_2 _ _) (int___rmul___int_list k t l its.toArray n)
      ⟨e, rfl, ⟨_, e, rfl⟩, call_meets F.slot_list_mul ⟨_, e, rfl⟩ F.entry_list_mul (F.args_list_mul_2 _ _) (AutoListH.list___mul___list_int_3 l its.toArray n k t hfit hcap hlong) ⟨e, ?_⟩⟩)
  rw [hnew]
  exact ⟨.ref _, _, I.lnew (t' := s.toks) (r.rep k.toNat) (by rw [len_rep, Nat.mul_comm]; exact hz), rfl, q _ I.fresh⟩
end
section
variable {prog : Program} {w : World} {A : Around} {E : Value → Shared → Prop} {s : Shared}
end
section
variable {X : Cx}
end
end L2
namespace L2
open PySem PySem.Spec PyProof.Rows
theorem vals_of_ints : ∀ {us : List Value} {ns : List Int}, IntsAre us ns → Vals (ns.map V.int) us
  | _, _, .nil => by rw [List.map_nil]; exact Paired.nil
  | _, _, .cons n t h => by rw [List.map_cons]; exact Paired.cons (show RelV (V.int n) (Value.int n t) from ⟨t, rfl⟩) (vals_of_ints h)
theorem Vals.ref1 {a : Addr} {us : List Value} (r : Vals [V.ref a] us) : us = [Value.ref a] := by
  cases r with
  | cons r t =>
    cases t
    cases r
    rfl
section
variable {prog : Program} {w : World} {A : Around} {E : Value → Shared → Prop} {s : Shared} {l : Addr} {its : List Value} {ns : List Int} {Q : Value → Shared → Prop}
end
section
variable {X : Cx}
theorem small64 {n : Nat} (h : n < 64) : n ≤ sizeLine := by rw [sizeLine_eq]; omega
end
section
variable {X : Cx}
end
section
variable {X : Cx}
end
theorem iter_any {prog : Program} {w : World} {A : Around} {E : Value → Shared → Prop} {s : Shared} {l : Addr} {items : Array Value} {Q : Value → Shared → Prop} (hl : s.heap.IsList l items)
    (h : ∀ s₂ : Shared, s₂ = { s with heap := s.heap.push { cls := .type "list_iterator", data := .fields #[.ref l, .int 0 0] } } →
      (s₂.heap.IsListIter s.heap.objs.size l 0 ∧ s₂.heap.IsList l items) → l ≠ s.heap.objs.size → Q (.ref s.heap.objs.size) s₂) : wpAny (model prog w) A (pyIter (.ref l)) Q E s := by
  have hlt : l < s.heap.objs.size := by obtain ⟨_, e, _⟩ := hl; exact Heap.lt_size e
  exact wpAny_pyIter_list hl (h _ rfl ⟨⟨_, Heap.get?_push_size _ rfl, rfl, rfl⟩, hl.push _⟩ (Nat.ne_of_lt hlt))
theorem any_range : ∀ bs : List Bool, (List.range bs.length).any (fun i => bs.getD i false) = bs.any id
  | [] => rfl
  | b :: bs => by
    rw [List.length_cons, List.range_succ_eq_map, List.any_cons, List.any_map, List.any_cons, ← any_range bs]
    all_goals rfl
section
variable {X : Cx}
end
mutual
inductive Dp (K : PySem.W.Frag) (H : Hp) : V → PyData → Prop
  | non : Dp K H .non .none
  | bl (b : Bool) : Dp K H (.bl b) (.bool b)
  | int (i : Int) : Dp K H (.int i) (.int i)
  | str (x : Str) : Dp K H (.str x) (.str x)
  | lst {a : Addr} {xs : List V} {ds : List PyData} : SqL K H a xs → DpAll K H xs ds → Dp K H (.ref a) (.list ds)
  | tup {a : Addr} {xs : List V} {ds : List PyData} : SqT K H a xs → DpAll K H xs ds → Dp K H (.ref a) (.tuple ds)
inductive DpAll (K : PySem.W.Frag) (H : Hp) : List V → List PyData → Prop
  | nil : DpAll K H [] []
  | cons {v : V} {vs : List V} {d : PyData} {ds : List PyData} : Dp K H v d → DpAll K H vs ds → DpAll K H (v :: vs) (d :: ds)
end
section
variable {X : Cx} {pins : List (Addr × Obj)} {σ : St} {H : Hp} {s : Shared}
mutual
theorem Dp.reads (I : Inv X pins σ H s) : ∀ (d : PyData) (v : V) (u : Value), Dp X.K H v d → RelV v u → ∃ as, Reads s.heap u d as
  | .none, _, _, h, r => by
    cases h
    cases r
    exact ⟨_, Reads.none⟩
  | .bool b, _, _, h, r => by
    cases h
    cases r
    exact ⟨_, Reads.bool b⟩
  | .int i, _, _, h, r => by
    cases h
    obtain ⟨t, rfl⟩ := r
    exact ⟨_, Reads.int i t⟩
  | .str x, _, _, h, r => by
    cases h
    obtain ⟨t, rfl⟩ := r
    exact ⟨_, Reads.str x t⟩
  | .list ds, _, _, h, r => by
    cases h with
    | lst hs ha =>
      cases r
      obtain ⟨its, rv, ⟨o, n, ho, hc, _, hd⟩, _⟩ := I.list hs
      obtain ⟨as, hr⟩ := Dp.readsAll I ds _ its ha rv
      exact ⟨_, Reads.list ho hc hd hr⟩
  | .tuple ds, _, _, h, r => by
    cases h with
    | tup hs ha =>
      cases r
      obtain ⟨its, rv, ⟨o, ho, hc, n, hd⟩, _⟩ := I.tuple hs
      obtain ⟨as, hr⟩ := Dp.readsAll I ds _ its ha rv
      exact ⟨_, Reads.tuple ho hc hd hr⟩
  | .dict _, _, _, h, _ => by cases h
theorem Dp.readsAll (I : Inv X pins σ H s) : ∀ (ds : List PyData) (vs : List V) (us : List Value), DpAll X.K H vs ds → Vals vs us → ∃ as, ReadsAll s.heap us ds as
  | [], _, _, h, r => by
    cases h
    cases r
    exact ⟨_, ReadsAll.nil⟩
  | d :: ds, _, _, h, r => by
    cases h with
    | cons h1 h2 =>
      cases r with
      | cons r1 r2 =>
        obtain ⟨as, q1⟩ := Dp.reads I d _ _ h1 r1
        obtain ⟨bs, q2⟩ := Dp.readsAll I ds _ _ h2 r2
        exact ⟨_, ReadsAll.cons q1 q2⟩
end
end
section
variable {X : Cx}
def rNeD (K : PySem.W.Frag) : R2 := fun x y H Q => ∃ d e, Dp K H x d ∧ Dp K H y e ∧ SeqAt.shaped d = true ∧ SeqAt.shaped e = true ∧ Q (.bl (!PyData.eqv d e)) H
theorem op_neD (hu : X.A.units + 64 < cLine) : OpR X (compareOp .NotEq) (rNeD X.K) := by
  intro pins s σ H x y v u Q I rx ry h
  obtain ⟨d, e, hd, he, sd, se, q⟩ := h
  obtain ⟨as, r1⟩ := Dp.reads I d x v hd rx
  obtain ⟨bs, r2⟩ := Dp.reads I e y u he ry
  exact SeqAt.compareNe_shaped r1 r2 sd se hu ⟨.bl _, H, I, rfl, q⟩
end
end L2
namespace L2
open PySem PySem.Spec PyProof.Rows
abbrev CellAt (h : Heap) (c : Addr) (v : Option Value) : Prop := h.IsCell c v
def relS (scope sc : Scope) : Scope :=
  { scope with names := scope.names.map fun (n, k) => if (k == .free && sc.kind == .function && sc.names.lookup n == some .cell) then (n, .cell) else (n, k) }
def cloFrom (cells : List (Str × Addr)) : List (Str × NameKind) → List (Str × Addr) → List (Str × Addr)
  | [], acc => acc
  | (n, k) :: r, acc => if k == .free then cloFrom cells r ((n, (cells.lookup n).getD 0) :: acc) else cloFrom cells r acc
theorem closure_loop (env : Env) (f : Str × NameKind → List (Str × Addr) → Sem (ForInStep (List (Str × Addr))))
    (hf : ∀ n k c, f (n, k) c = if k == .free then (do let a ← cellOf env n; pure (.yield ((n, a) :: c))) else pure (.yield c)) :
    ∀ (names : List (Str × NameKind)) (acc : List (Str × Addr)), (∀ y ∈ names, y.2 = .free → ∃ c, env.cells.lookup y.1 = some c) → forIn names acc f = pure (cloFrom env.cells names acc)
  | [], acc, _ => by rw [List.forIn_nil]; rfl
  | (n, k) :: r, acc, h => by
    rw [List.forIn_cons, hf]
    have ih := fun acc => closure_loop env f hf r acc fun y hy => h y (List.mem_cons_of_mem _ hy)
    unfold cloFrom
    by_cases hk : (k == NameKind.free) = true
    · rw [if_pos hk, if_pos hk]
      obtain ⟨c, hc⟩ := h (n, k) List.mem_cons_self (by simpa using hk)
      have e : cellOf env n = pure c := by unfold cellOf; rw [hc]
      rw [e]
      have e2 : (env.cells.lookup n).getD 0 = c := by rw [hc]; rfl
      rw [e2]
      exact ih _
    · rw [if_neg hk, if_neg hk]
      exact ih _
theorem closure_ok {scope : Scope} {env : Env} (h : ∀ y ∈ scope.names, y.2 = .free → ∃ c, env.cells.lookup y.1 = some c) : closureFor scope env = pure (cloFrom env.cells scope.names []) := by
  simp only [closureFor]
  rw [closure_loop env _ (fun n k c => rfl) scope.names [] h]
  rfl
theorem mem_lookup {α : Type} : ∀ {l : List (Str × α)} {n : Str} {c : α}, (n, c) ∈ l → ∃ c', l.lookup n = some c'
  | (k, v) :: r, n, c, h => by
    rw [List.lookup_cons]
    cases hb : n == k with
    | true => exact ⟨_, rfl⟩
    | false =>
      rcases List.mem_cons.mp h with e | h
      · cases e; simp at hb
      · exact mem_lookup h
theorem cloFrom_mem {cells : List (Str × Addr)} : ∀ {names : List (Str × NameKind)} {acc : List (Str × Addr)} {n : Str} {c : Addr}, (n, c) ∈ cloFrom cells names acc → (n, c) ∈ acc ∨ ((n, .free) ∈ names ∧ c = (cells.lookup n).getD 0)
  | [], _, _, _, h => .inl h
  | (m, k) :: r, acc, n, c, h => by
    unfold cloFrom at h
    split at h
    · rename_i hk
      have hk : k = .free := by simpa using hk
      rcases cloFrom_mem h with h | ⟨h1, h2⟩
      · rcases List.mem_cons.mp h with e | h
        · cases e; exact .inr ⟨hk ▸ List.mem_cons_self, rfl⟩
        · exact .inl h
      · exact .inr ⟨List.mem_cons_of_mem _ h1, h2⟩
    · rcases cloFrom_mem h with h | ⟨h1, h2⟩
      · exact .inl h
      · exact .inr ⟨List.mem_cons_of_mem _ h1, h2⟩
theorem cloFrom_acc {cells : List (Str × Addr)} : ∀ {names : List (Str × NameKind)} {acc : List (Str × Addr)} {p : Str × Addr}, p ∈ acc → p ∈ cloFrom cells names acc
  | [], _, _, h => h
  | (m, k) :: r, acc, p, h => by
    unfold cloFrom
    split
    · exact cloFrom_acc (List.mem_cons_of_mem _ h)
    · exact cloFrom_acc h
theorem cloFrom_has {cells : List (Str × Addr)} : ∀ {names : List (Str × NameKind)} {acc : List (Str × Addr)} {n : Str}, (n, .free) ∈ names → (n, (cells.lookup n).getD 0) ∈ cloFrom cells names acc
  | (m, k) :: r, acc, n, h => by
    unfold cloFrom
    rcases List.mem_cons.mp h with e | h
    · cases e
      exact cloFrom_acc List.mem_cons_self
    · split
      · exact cloFrom_has h
      · exact cloFrom_has h
theorem cells_mem : ∀ {names : List (Str × NameKind)} {h : Heap} {acc : List (Str × Addr)} {x : Str} {c : Addr}, (x, c) ∈ cellsFrom h.objs.size names acc →
    (x, c) ∈ acc ∨ ((x, .cell) ∈ names ∧ h.objs.size ≤ c ∧ CellAt (pushCells h names) c none)
  | [], _, _, _, _, h => .inl h
  | (n, k) :: r, h, acc, x, c, hm => by
    unfold cellsFrom at hm
    unfold pushCells
    split at hm
    · rename_i hk
      rw [if_pos hk]
      have hk : k = .cell := by simpa using hk
      rw [← Heap.size_push h { cls := .type "cell", data := .cell none }] at hm
      rcases cells_mem hm with hm | ⟨h1, h2, h3⟩
      · rcases List.mem_cons.mp hm with e | hm
        · cases e
          exact .inr ⟨hk ▸ List.mem_cons_self, Nat.le_refl _, _, pushCells_keeps r _ _ _ (Heap.get?_push_size _ rfl), rfl⟩
        · exact .inl hm
      · rw [Heap.size_push] at h2
        exact .inr ⟨List.mem_cons_of_mem _ h1, Nat.le_of_succ_le h2, h3⟩
    · rename_i hk
      rw [if_neg hk]
      rcases cells_mem hm with hm | ⟨h1, h2, h3⟩
      · exact .inl hm
      · exact .inr ⟨List.mem_cons_of_mem _ h1, h2, h3⟩
theorem cells_acc : ∀ {names : List (Str × NameKind)} {n : Nat} {acc : List (Str × Addr)} {p : Str × Addr}, p ∈ acc → p ∈ cellsFrom n names acc
  | [], _, _, _, h => h
  | (m, k) :: r, n, acc, p, h => by
    unfold cellsFrom
    split
    · exact cells_acc (List.mem_cons_of_mem _ h)
    · exact cells_acc h
theorem cells_has : ∀ {names : List (Str × NameKind)} {n : Nat} {acc : List (Str × Addr)} {x : Str}, (x, .cell) ∈ names → ∃ c, (x, c) ∈ cellsFrom n names acc
  | (m, k) :: r, n, acc, x, h => by
    unfold cellsFrom
    rcases List.mem_cons.mp h with e | h
    · cases e
      exact ⟨n, cells_acc List.mem_cons_self⟩
    · split
      · exact cells_has h
      · exact cells_has h
theorem cells_inj : ∀ {names : List (Str × NameKind)} {h : Heap} {acc : List (Str × Addr)} {x y : Str} {c : Addr}, (∀ p ∈ acc, p.2 < h.objs.size) → (∀ x y c, (x, c) ∈ acc → (y, c) ∈ acc → x = y) →
    (x, c) ∈ cellsFrom h.objs.size names acc → (y, c) ∈ cellsFrom h.objs.size names acc → x = y
  | [], _, _, _, _, _, _, hi, h1, h2 => hi _ _ _ h1 h2
  | (n, k) :: r, h, acc, x, y, c, hl, hi, h1, h2 => by
    unfold cellsFrom at h1 h2
    split at h1
    · rename_i hk
      rw [if_pos hk] at h2
      rw [← Heap.size_push h { cls := .type "cell", data := .cell none }] at h1 h2
      refine cells_inj (h := h.push _) (fun p hp => ?_) (fun x y c a b => ?_) h1 h2
      · rw [Heap.size_push]
        rcases List.mem_cons.mp hp with rfl | hp
        · exact Nat.lt_succ_self _
        · exact Nat.lt_succ_of_lt (hl p hp)
      · rcases List.mem_cons.mp a with e | a <;> rcases List.mem_cons.mp b with e' | b
        · cases e; cases e'; rfl
        · cases e; exact absurd (hl _ b) (Nat.lt_irrefl _)
        · cases e'; exact absurd (hl _ a) (Nat.lt_irrefl _)
        · exact hi _ _ _ a b
    · rename_i hk
      rw [if_neg hk] at h2
      exact cells_inj hl hi h1 h2
theorem newEnv_comp {M : Model} {A : Around} {E : Value → Shared → Prop} {s : Shared} {scope : Scope} {globals : Addr} {closure : List (Str × Addr)} {qual : Str} {func : Option Addr} {code : Value} {around : Env} {builtins : Addr} {Q : Env → Shared → Prop}
    (h : Q (newEnv scope s.heap.objs.size globals (cellsFrom (s.heap.objs.size + 1) scope.names closure) qual func code (some around) builtins)
      { s with heap := pushCells (s.heap.push { cls := .type "dict", data := .dict #[] }) scope.names }) :
    wpAny M A (newFunctionEnv scope globals closure [] qual func code (some around) builtins) Q E s := by
  simp only [newFunctionEnv, Option.isSome_some, if_true]
  refine wpAny_bind (wpAny_alloc ?_)
  refine wpAny_bind (wpAny_layCells _ (fun n k c => rfl) scope.names closure _ _ ?_)
  rw [show ({ s with heap := s.heap.push { cls := .type "dict", data := .dict #[] } } : Shared).heap.objs.size = s.heap.objs.size + 1 from Heap.size_push ..]
  rw [List.forIn_nil]
  exact wpAny_bind (wpAny_pure (wpAny_pure h))
theorem lookup_relS {sc : Scope} : ∀ {names : List (Str × NameKind)} {x : Str} {k : NameKind},
    (names.map fun (n, k) => if (k == NameKind.free && sc.kind == .function && sc.names.lookup n == some .cell) then (n, NameKind.cell) else (n, k)).lookup x = some k →
    ∃ k', names.lookup x = some k' ∧ (k = k' ∨ (k' = .free ∧ k = .cell))
  | [], _, _, h => by simp at h
  | (n, k₀) :: r, x, k, h => by
    have ih := @lookup_relS sc r x k
    have h' : List.lookup x ((if (k₀ == NameKind.free && sc.kind == .function && sc.names.lookup n == some .cell) = true then (n, NameKind.cell) else (n, k₀)) :: (r.map _)) = some k := h
    cases hx : x == n with
    | true =>
      simp only [List.lookup_cons, hx]
      by_cases hc : (k₀ == NameKind.free && sc.kind == .function && sc.names.lookup n == some .cell) = true
      · rw [if_pos hc] at h'
        simp only [List.lookup_cons, hx] at h'
        cases h'
        simp only [Bool.and_eq_true, beq_iff_eq] at hc
        exact ⟨k₀, rfl, .inr ⟨hc.1.1, rfl⟩⟩
      · rw [if_neg hc] at h'
        simp only [List.lookup_cons, hx] at h'
        cases h'
        exact ⟨_, rfl, .inl rfl⟩
    | false =>
      simp only [List.lookup_cons, hx]
      by_cases hc : (k₀ == NameKind.free && sc.kind == .function && sc.names.lookup n == some .cell) = true
      · rw [if_pos hc] at h'
        simp only [List.lookup_cons, hx] at h'
        exact ih h'
      · rw [if_neg hc] at h'
        simp only [List.lookup_cons, hx] at h'
        exact ih h'
structure BlkOk (N : List Str) (sc scope : Scope) (own : List (Str × Nat)) : Prop where
  kind : scope.kind = .function
  uniq : ∀ y ∈ scope.names, scope.names.lookup y.1 = some y.2
  ix : ∀ p ∈ own, N[p.2]? = some p.1
  free : ∀ y ∈ scope.names, y.2 = .free → sc.names.lookup y.1 = some .cell ∨ sc.names.lookup y.1 = some .free
  own : ∀ y ∈ scope.names, y.2 = .local ∨ y.2 = .cell → y.1 ∈ own.map (·.1) ∨ y.1 ∉ N
def wipe (σ : St) : List Nat → St
  | [] => σ
  | v :: vs => (wipe σ vs).set v none
theorem wipe_length (σ : St) : ∀ vs : List Nat, (wipe σ vs).length = σ.length
  | [] => rfl
  | v :: vs => by unfold wipe; rw [List.length_set, wipe_length σ vs]
theorem wipe_some {σ : St} {i : Nat} {x : V} : ∀ {vs : List Nat}, (wipe σ vs)[i]? = some (some x) → σ[i]? = some (some x) ∧ i ∉ vs
  | [], h => ⟨h, by simp⟩
  | v :: vs, h => by
    unfold wipe at h
    by_cases hi : v = i
    · subst hi
      by_cases hv : v < (wipe σ vs).length
      · rw [List.getElem?_set_self hv] at h; cases h
      · rw [List.getElem?_eq_none (by simpa using hv)] at h; cases h
    · rw [List.getElem?_set_ne hi] at h
      obtain ⟨h1, h2⟩ := wipe_some h
      exact ⟨h1, by simp only [List.mem_cons, not_or]; exact ⟨fun e => hi e.symm, h2⟩⟩
abbrev Cx.blk (X : Cx) (s : Shared) (H : Hp) (scope : Scope) (cenv : Env) (fp : List Addr) : Cx := { X with s_0 := s, H_0 := H, env := cenv, outer := X.stack, ex := fp, fn := fun x => scope.names.lookup x == some .cell, pn := [], xe := fun _ _ => False }
section
variable {X : Cx} {pins : List (Addr × Obj)} {σ : St} {H : Hp} {s : Shared}
theorem block_start {scope : Scope} {own : List (Str × Nat)} {fp : List Addr} (I : Inv X pins σ H s) (ok : BlkOk X.N X.env.scope scope own) (hN : X.N.Nodup) (hfp : ∀ b ∈ fp, FpOk X pins H b ∧ b < s.heap.objs.size) :
    Inv (X.blk s H scope (compEnvC scope (cellsFrom (s.heap.objs.size + 1) scope.names (cloFrom X.env.cells scope.names [])) s.heap.objs.size X.env) fp) [] (wipe σ (own.map (·.2))) H { s with heap := pushCells (s.heap.push { cls := .type "dict", data := .dict #[] }) scope.names } := by
  have hfree : ∀ y ∈ scope.names, y.2 = .free → ∃ c, X.env.cells.lookup y.1 = some c := fun y hy e => by
    rcases ok.free y hy e with k | k
    · exact I.ok.has _ (.inl k)
    · exact I.ok.has _ (.inr k)
  generalize hcenv : compEnvC scope (cellsFrom (s.heap.objs.size + 1) scope.names (cloFrom X.env.cells scope.names [])) s.heap.objs.size X.env = cenv
  have kp : ∀ b o, s.heap.get? b = some o → (pushCells (s.heap.push { cls := .type "dict", data := .dict #[] }) scope.names).get? b = some o := fun b o e => pushCells_keeps _ _ _ _ (Heap.get?_push_of_some _ e)
  have hL : cenv.locals = s.heap.objs.size := by rw [← hcenv]; rfl
  have hcl : cenv.cells = cellsFrom (s.heap.objs.size + 1) scope.names (cloFrom X.env.cells scope.names []) := by rw [← hcenv]; rfl
  have hsc : cenv.scope = relS scope X.env.scope := by rw [← hcenv]; rfl
  rw [← Heap.size_push s.heap { cls := .type "dict", data := .dict #[] }] at hcl
  have cm : ∀ {y c}, (y, c) ∈ cloFrom X.env.cells scope.names [] → X.env.cells.lookup y = some c ∧ c < s.heap.objs.size := fun {y c} hm => by
    rcases cloFrom_mem hm with hm | ⟨h1, rfl⟩
    · cases hm
    · obtain ⟨c, hc⟩ := hfree _ h1 rfl
      rw [hc]
      obtain ⟨w, z⟩ := I.cell _ _ hc
      exact ⟨rfl, z.lt⟩
  have mem : ∀ {y c}, cenv.cells.lookup y = some c → (X.env.cells.lookup y = some c ∧ c < s.heap.objs.size) ∨ (s.heap.objs.size + 1 ≤ c ∧ CellAt (pushCells (s.heap.push { cls := .type "dict", data := .dict #[] }) scope.names) c none) := fun {y c} e => by
    rw [hcl] at e
    rcases cells_mem (PySem.mem_of_lookup e) with hm | ⟨_, h2, h3⟩
    · exact .inl (cm hm)
    · rw [Heap.size_push] at h2; exact .inr ⟨h2, h3⟩
  have look : ∀ {y}, scope.names.lookup y = some .free → ∃ c, cenv.cells.lookup y = some c ∧ X.env.cells.lookup y = some c := fun {y} hl => by
    have hy : (y, NameKind.free) ∈ scope.names := PySem.mem_of_lookup hl
    obtain ⟨c', e'⟩ := mem_lookup (cells_acc (names := scope.names) (n := (s.heap.push { cls := .type "dict", data := .dict #[] }).objs.size) (cloFrom_has (cells := X.env.cells) (acc := []) hy))
    rw [← hcl] at e'
    refine ⟨c', e', ?_⟩
    rw [hcl] at e'
    rcases cells_mem (PySem.mem_of_lookup e') with hm | ⟨h1, _, _⟩
    · exact (cm hm).1
    · have := ok.uniq _ h1
      rw [hl] at this; cases this
  have okB : (X.blk s H scope cenv fp).Ok := by
    refine ⟨I.ok.mod, by show cenv.scope.kind = _; rw [hsc]; exact ok.kind, by show cenv.globals = _; rw [← hcenv]; exact I.ok.glob, by show cenv.builtins = _; rw [← hcenv]; exact I.ok.blt, by show s.heap.objs.size ≤ cenv.locals; rw [hL]; exact Nat.le_refl _,
      fun y z c e1 e2 => ?_, fun y hy => ?_, fun y c z e => ?_, I.ok.hd, I.ok.frames, .inl rfl, fun b hb => ⟨?_, fun y c e z => ?_⟩, I.bs, Nat.le_trans I.ok.bsz I.sz, fun b o e hb => ?_, fun b hb z => ?_, I.stack, I.stkFree⟩
    · have e1 : cenv.cells.lookup y = some c := e1
      have e2 : cenv.cells.lookup z = some c := e2
      rw [hcl] at e1 e2
      refine cells_inj (fun p hp => ?_) (fun y z c a b => I.ok.inj y z c (cm a).1 (cm b).1) (PySem.mem_of_lookup e1) (PySem.mem_of_lookup e2)
      rw [Heap.size_push]
      exact Nat.lt_succ_of_lt (cm (y := p.1) (c := p.2) hp).2
    · show ∃ c, cenv.cells.lookup y = some c
      have key : ∀ k, cenv.kindOf y = some k → (k = .cell ∨ k = .free) → ∃ c, cenv.cells.lookup y = some c := fun k hk hk' => by
        unfold Env.kindOf at hk
        rw [hsc] at hk
        obtain ⟨k', e, r⟩ := lookup_relS hk
        have : k' = .cell ∨ k' = .free := by
          rcases r with rfl | ⟨rfl, _⟩
          · exact hk'
          · exact .inr rfl
        rcases this with rfl | rfl
        · obtain ⟨c, hm⟩ := cells_has (n := (s.heap.push { cls := .type "dict", data := .dict #[] }).objs.size) (acc := cloFrom X.env.cells scope.names []) (PySem.mem_of_lookup e)
          obtain ⟨c', e'⟩ := mem_lookup hm
          exact ⟨c', by rw [hcl]; exact e'⟩
        · obtain ⟨c, h1, _⟩ := look e
          exact ⟨c, h1⟩
      rcases hy with hy | hy
      · exact key _ hy (.inl rfl)
      · exact key _ hy (.inr rfl)
    · have z : (scope.names.lookup y == some NameKind.cell) = true := z
      have z : scope.names.lookup y = some .cell := by simpa using z
      have e : cenv.cells.lookup y = some c := e
      rw [hcl] at e
      rcases cells_mem (PySem.mem_of_lookup e) with hm | ⟨_, h2, _⟩
      · rcases cloFrom_mem hm with hm | ⟨h1, _⟩
        · cases hm
        · have q := ok.uniq _ h1
          rw [z] at q; cases q
      · rw [Heap.size_push] at h2
        exact Nat.le_of_succ_le h2
    · show b ≠ cenv.locals
      rw [hL]; exact Nat.ne_of_lt (hfp b hb).2
    · have e : cenv.cells.lookup y = some c := e
      rcases mem e with ⟨h1, _⟩ | ⟨h1, _⟩
      · exact (hfp b hb).1.2.2.2.2.1 y c h1 z
      · have h2 : s.heap.objs.size + 1 ≤ b := by rw [← z]; exact h1
        exact absurd (Nat.lt_of_lt_of_le (hfp b hb).2 (Nat.le_of_succ_le h2)) (Nat.lt_irrefl _)
    · rcases (hfp b hb).1.2.2.2.1 with z | z
      · exact I.ok.noex b o e z
      · exact absurd (Nat.lt_of_lt_of_le (Heap.lt_size e) (Nat.le_trans I.ok.bsz z)) (Nat.lt_irrefl _)
    · rcases List.mem_cons.mp (I.stkSub b z) with z | z
      · exact (hfp b hb).1.2.1 z
      · exact (hfp b hb).1.2.2.1 z
  refine ⟨okB, rfl, I.bare, Un.kept kp, ⟨fun _ => none, ?_, fun i y av e1 e2 e3 => ?_⟩, fun y c e => ?_, ?_, fun y c e => ?_, fun p hp => ?_, I.hok.kept kp, by rw [wipe_length]; exact I.len⟩
  · show Heap.Ns _ cenv.locals _
    rw [hL]
    exact Heap.Ns.keeps (Heap.Ns.new ..) fun b o e => pushCells_keeps _ _ _ _ e
  · obtain ⟨e2, hne⟩ := wipe_some e2
    have hfr : scope.names.lookup y = some .free ∧ (cenv.kindOf y = some .cell ∨ cenv.kindOf y = some .free) := by
      have key : ∀ k, cenv.scope.names.lookup y = some k → k = .local ∨ k = .cell ∨ k = .free → scope.names.lookup y = some .free ∧ (cenv.kindOf y = some .cell ∨ cenv.kindOf y = some .free) := fun k hk hk' => by
        have hk0 := hk
        rw [hsc] at hk
        obtain ⟨k', e, r⟩ := lookup_relS hk
        have no : ¬ (k' = .local ∨ k' = .cell) := fun hh => by
          rcases ok.own _ (PySem.mem_of_lookup e) hh with e' | e'
          · obtain ⟨p, hp, hpy⟩ := List.mem_map.mp e'
            have e3 := ok.ix p hp
            have : p.1 = y := hpy
            rw [this] at e3
            exact hne (List.mem_map.mpr ⟨p, hp, nodup_ix hN e3 e1⟩)
          · exact e' (List.mem_of_getElem? e1)
        rcases r with rfl | ⟨rfl, rfl⟩
        · rcases hk' with rfl | rfl | rfl
          · exact absurd (.inl rfl) no
          · exact absurd (.inr rfl) no
          · exact ⟨e, .inr hk0⟩
        · exact ⟨e, .inl hk0⟩
      have e3 : Vis cenv.scope y := e3
      rcases e3 with e3 | e3 | e3
      · exact key _ e3 (.inl rfl)
      · exact key _ e3 (.inr (.inl rfl))
      · exact key _ e3 (.inr (.inr rfl))
    obtain ⟨m, hn, hl⟩ := I.loc
    have hvis : Vis X.env.scope y := (ok.free _ (PySem.mem_of_lookup hfr.1) rfl).elim (fun k => .inr (.inl k)) (fun k => .inr (.inr k))
    obtain ⟨w, r, q⟩ := hl i y av e1 e2 hvis
    refine ⟨w, r, .inr ⟨hfr.2, ?_⟩⟩
    obtain ⟨c, h1, h2⟩ := look hfr.1
    rcases q with ⟨k, _⟩ | ⟨_, c', e', z⟩
    · have k : X.env.scope.names.lookup y = some .local := k
      rcases ok.free _ (PySem.mem_of_lookup hfr.1) rfl with k' | k' <;> rw [show X.env.scope.names.lookup y = _ from k'] at k <;> cases k
    · rw [h2] at e'; cases e'
      exact ⟨c, h1, z.keeps kp⟩
  · have e : cenv.cells.lookup y = some c := e
    rcases mem e with ⟨h1, _⟩ | ⟨_, z⟩
    · obtain ⟨w, z⟩ := I.cell y c h1
      exact ⟨w, z.keeps kp⟩
    · exact ⟨_, z⟩
  · show H cenv.locals = none
    rw [hL]; exact I.hok.fresh (Nat.le_refl _)
  · have e : cenv.cells.lookup y = some c := e
    rcases mem e with ⟨h1, _⟩ | ⟨h1, _⟩
    · exact I.freeC y c h1
    · exact I.hok.fresh (Nat.le_of_succ_le h1)
  · exact absurd (show p ∈ ([] : List (Addr × Obj)) ++ [] from hp) (by simp)
theorem app_ok {E : Value → Shared → Prop} {D : Addr} {xs : List V} {y : V} {v : Value} {Q : Value → Shared → Prop} (I : Inv X pins σ H s) (hD : H D = some (.lst xs)) (hz : xs.length < sizeLine) (r : RelV y v)
    (h : ∀ s', Inv X pins σ (upd H D (.lst (xs ++ [y]))) s' → Q .none s') : wpAny (model X.prog X.w) X.A (call (.builtin "list.append") [.ref D, v]) Q E s := by
  obtain ⟨hz', its, n, ri, e⟩ := I.hok D _ hD
  have hl := ri.length
  refine append_at (hsz := by rw [List.size_toArray]; omega) e fun h' sb ho' => ?_
  refine h { s with heap := h' } (I.write (t' := s.toks) (by rw [hD]; trivial) (.inl rfl) (fun b u hb q => (sb.2 b hb).trans q) ⟨_, ho'⟩ ⟨by rw [List.length_append]; exact hz, its ++ [v], n + 1, ri.append (.cons r .nil), ?_⟩)
  rw [ho']
  simp
def PTs (X : Cx) (ifs : List Expr) (t : TT) : Prop :=
  ∀ (pins : List (Addr × Obj)) (s : Shared) (σ : St) (H : Hp) (Q : Bool → Hp → Prop), Inv X pins σ H s → t σ H Q →
    wpAny (model X.prog X.w) X.A (forIn ifs true fun c r => if r = true then do let ok ← isTrue c X.env (eval c X.env); pure (ForInStep.yield ok) else pure (ForInStep.yield r)) (TP X pins σ Q) X.xe s
def tYes : TT := fun _ H Q => Q true H
theorem pts_nil : PTs X [] tYes := fun _ _ _ H _ I h => wpAny_tests_nil ⟨H, I, h⟩
end
theorem thnF {α : Type} {t : Sem α} {Q Q' : α → Shared → Prop} {M : Model} {A : Around} {E : Value → Shared → Prop} {s : Shared} (h : wpAny M A t Q (fun _ _ => False) s) (hQ : ∀ a s, Q a s → Q' a s) : wpAny M A t Q' E s := wpAny_mono h hQ fun _ _ z => False.elim z
theorem compLoop_any {prog : Program} {w : World} {A : Around} {R : Result → Shared → Prop} {s : Shared} {elt target iter : Expr} {ifs : List Expr} {scope : Scope} {pos : Pos} {it acc : Value} {env : Env} (I : Nat → Shared → Prop)
    (turn : ∀ n s, I n s → wpAny (model prog w) A (pyNext it) (fun r s₁ => match r with
      | none => R (.ok .next) s₁
      | some v => wpAny (model prog w) A (letOwnedTupleGo target it v) (fun _ s₁' => wpAny (model prog w) A (assign target env v) (fun _ s₂ =>
          wpAny (model prog w) A (forIn ifs true fun c r => if r = true then do let ok ← isTrue c env (eval c env); pure (ForInStep.yield ok) else pure (ForInStep.yield r)) (fun ok s₃ =>
            if ok = true then wpAny (model prog w) A (eval elt env) (fun x s₄ =>
              wpAny (model prog w) A (call (.builtin "list.append") [acc, x]) (fun _ s₅ => ∃ m, m < n ∧ I m s₅) (notedBy (model prog w) A env fun e s' => R (.error e) s') s₄) (notedBy (model prog w) A env fun e s' => R (.error e) s') s₃
            else ∃ m, m < n ∧ I m s₃) (notedBy (model prog w) A env fun e s' => R (.error e) s') s₂) (notedBy (model prog w) A env fun e s' => R (.error e) s') s₁') (notedBy (model prog w) A env fun e s' => R (.error e) s') s₁) (notedBy (model prog w) A env fun e s' => R (.error e) s') s)
    (n : Nat) (h : I n s) :
    codeAny (model prog w) A (.compLoop (.ListComp elt [⟨target, iter, ifs, 0⟩] scope pos) 0 it acc env) R s := by
  refine codeAny_loop rfl I (fun n s hI => ?_) n h
  show wpAny _ A ((compTurn (.ListComp elt [⟨target, iter, ifs, 0⟩] scope pos) 0 it acc env).onRaise (fun x => do noteFrame x env; theTreesLotGoes x)) _ _ s
  refine wpAny_noted ?_
  rw [compTurn_list]
  refine wpAny_bind (wpAny_standAt (wpAny_bind (wpAny_mono (turn n s hI) (fun r s₁ h₁ => ?_) fun _ _ h' => h')))
  cases r with
  | none => exact wpAny_pure h₁
  | some v =>
    refine wpAny_bind (wpAny_mono h₁ (fun _ s₁' h₁' => ?_) fun _ _ h' => h')
    refine wpAny_bind (wpAny_mono h₁' (fun _ s₂ h₂ => wpAny_bind (wpAny_mono h₂ (fun ok s₃ h₃ => ?_) fun _ _ h' => h')) fun _ _ h' => h')
    cases ok with
    | false => exact wpAny_pure ⟨rfl, h₃⟩
    | true =>
      exact wpAny_bind (wpAny_bind (wpAny_mono h₃ (fun x s₄ h₄ => wpAny_bind (wpAny_mono h₄ (fun _ s₅ h₅ => wpAny_pure (wpAny_pure ⟨rfl, h₅⟩)) fun _ _ h' => h')) fun _ _ h' => h'))
section
variable {X : Cx}
def tLc (wi : TI) (g : TG) (tt : TT) (te : TE) (vs : List Nat) : TE := fun σ H Q => wi σ H fun J H1 => ∀ D, H1 D = none → ∃ W : Nat → Nat → Hp → Prop, (∃ m, W 0 m (upd H1 D (.lst []))) ∧ ∀ i m H, W i m H →
  (J.stop i H ∧ Q (.ref D) H) ∨ (J.go i H ∧ ∃ Nx : Hp → Prop, (∀ H', Nx H' → ∃ m', m' < m ∧ W (i + 1) m' H') ∧ ∀ x H', J.yld i H x H' → g x (wipe σ vs) H' fun σ2 H2 => wipe σ2 vs = wipe σ vs ∧ tt σ2 H2 fun b H3 =>
    if b = true then te σ2 H3 fun y H4 => ∃ acc, H4 D = some (.lst acc) ∧ acc.length < sizeLine ∧ Nx (upd H4 D (.lst (acc ++ [y]))) else Nx H3)
theorem lc_core {pins : List (Addr × Obj)} {s : Shared} {σ : St} {H : Hp} {Q : VK} {elt tg iter : Expr} {ifs : List Expr} {scope : Scope} {own : List (Str × Nat)} {pos pos' : Pos} {wi : TI} {g : TG} {tt : TT} {te : TE} {use : Option (Value → Sem Unit)} {Qf : Value → Shared → Prop}
    (hc : X.calm = true) (hN : X.N.Nodup) (I : Inv X pins σ H s) (hi : PI X tg iter wi) (ok : BlkOk X.N X.env.scope scope own)
    (hg : ∀ (s : Shared) (H : Hp) (C : Addr) (cl : List (Str × Addr)) (fp : List Addr), PG (X.blk s H scope (compEnvC scope cl C X.env) fp) tg g) (ht : ∀ (s : Shared) (H : Hp) (C : Addr) (cl : List (Str × Addr)) (fp : List Addr), PTs (X.blk s H scope (compEnvC scope cl C X.env) fp) ifs tt)
    (he : ∀ (s : Shared) (H : Hp) (C : Addr) (cl : List (Str × Addr)) (fp : List Addr), PE (X.blk s H scope (compEnvC scope cl C X.env) fp) elt te) (hs : ∀ x, foldedSetIterable iter X.env x = pure x)
    (h : tLc wi g tt te (own.map (·.2)) σ H Q)
    (hRR : ∀ D C s' m H', Inv X pins σ H' s' → Q (.ref D) H' → s'.heap.Ns C m → FpOk X pins H' C → compPost (model X.prog X.w) X.A X.xe use Qf (.ref D) C (.ok .next) s') :
    wpAny (model X.prog X.w) X.A (comprehension (.ListComp elt [⟨tg, iter, ifs, 0⟩] scope pos) scope X.env pos' (newList []) false (eval iter X.env) use) Qf X.xe s := by
  have hfree : ∀ y ∈ scope.names, y.2 = .free → ∃ c, X.env.cells.lookup y.1 = some c := fun y hy e => by
    rcases ok.free y hy e with k | k
    · exact I.ok.has _ (.inl k)
    · exact I.ok.has _ (.inr k)
  refine wpAny_comprehension_free (use := use) rfl hs (closure_ok hfree) ok.kind (fun y hy e => by rw [ok.uniq y hy, e])
    (thn (hi pins s σ H _ I h) fun xv s1 hx => thn hx fun itv s2 h2 => ?_)
  obtain ⟨it, fp, tn, J, H2, e, I2, T, st2, f2, q⟩ := h2
  subst e
  refine wpAny_newObj_type (newEnv_comp ?_) (by show 0 ≤ sizeLine; decide)
  generalize hD : s2.heap.objs.size = D
  have hDn : H2 D = none := I2.hok.fresh (Nat.le_of_eq hD)
  obtain ⟨W, ⟨m0, w0⟩, turn⟩ := q D hDn
  -- the new list
  generalize hs3 : ({ s2 with heap := s2.heap.push { cls := .type "list", data := .seq ([] : List Value).toArray } } : Shared) = s3
  have I3 : Inv X pins σ (upd H2 D (.lst [])) s3 := by
    rw [← hs3]
    refine I2.laid (t' := s2.toks) (fun b o e => Heap.get?_push_of_some _ e) (Nat.le_of_eq hD) ⟨Nat.zero_le _, [], 0, .nil, ?_⟩
    rw [← hD]
    exact Heap.get?_push_size _ rfl
  have h3 : s3.heap = s2.heap.push { cls := .type "list", data := .seq ([] : List Value).toArray } := by rw [← hs3]
  have sz : ∀ b ∈ fp, b < s2.heap.objs.size := fun b hb => by
    obtain ⟨o, e, _⟩ := T.obj _ _ st2 b hb
    exact Heap.lt_size e
  have f3 : ∀ b ∈ fp, FpOk X pins (upd H2 D (.lst [])) b ∧ b < s3.heap.objs.size := fun b hb => by
    have hlt := sz b hb
    refine ⟨⟨?_, (f2 b hb).2⟩, by rw [h3, Heap.size_push]; exact Nat.lt_succ_of_lt hlt⟩
    rw [upd_ne (by rw [← hD]; exact Nat.ne_of_lt hlt)]
    exact (f2 b hb).1
  have st3 : tn 0 s3.heap := T.keep _ _ _ st2 fun b _ o e => by rw [h3]; exact Heap.get?_push_of_some _ e
  have I4 := block_start I3 ok hN f3
  have pg := hg s3 (upd H2 D (.lst [])) s3.heap.objs.size (cellsFrom (s3.heap.objs.size + 1) scope.names (cloFrom X.env.cells scope.names [])) fp
  have pt := ht s3 (upd H2 D (.lst [])) s3.heap.objs.size (cellsFrom (s3.heap.objs.size + 1) scope.names (cloFrom X.env.cells scope.names [])) fp
  have pe := he s3 (upd H2 D (.lst [])) s3.heap.objs.size (cellsFrom (s3.heap.objs.size + 1) scope.names (cloFrom X.env.cells scope.names [])) fp
  show codeAny _ _ (.compStart (.ListComp elt [⟨tg, iter, ifs, 0⟩] scope pos) 0 (.ref it) (.ref D) (compEnvC scope (cellsFrom (s3.heap.objs.size + 1) scope.names (cloFrom X.env.cells scope.names [])) s3.heap.objs.size X.env)) (compPost (model X.prog X.w) X.A X.xe use Qf (.ref D) s3.heap.objs.size) { s3 with heap := pushCells (s3.heap.push { cls := .type "dict", data := .dict #[] }) scope.names }
  have nfp : ∀ b ∈ fp, (upd H2 D (.lst [])) b = none := fun b hb => (f3 b hb).1.1
  generalize hce : compEnvC scope (cellsFrom (s3.heap.objs.size + 1) scope.names (cloFrom X.env.cells scope.names [])) s3.heap.objs.size X.env = ce at I4 pg pt pe ⊢
  have cL : ce.locals = s3.heap.objs.size := by subst hce; rfl
  generalize hH3 : upd H2 D (.lst []) = H3 at I3 I4 pg pt pe w0 nfp f3
  generalize hs4 : ({ s3 with heap := pushCells (s3.heap.push { cls := .type "dict", data := .dict #[] }) scope.names } : Shared) = s4 at I4 ⊢
  have st4 : tn 0 s4.heap := T.keep _ _ _ st3 fun b _ o e => by rw [← hs4]; exact pushCells_keeps _ _ _ _ (Heap.get?_push_of_some _ e)
  have stat : ∀ {σ' : St} {H' : Hp} {s' : Shared}, Inv (X.blk s3 H3 scope ce fp) [] σ' H' s' → (∀ b ∈ fp, H' b = none) → ∀ b ∈ fp, FpOk (X.blk s3 H3 scope ce fp) [] H' b := fun {σ' H' s'} I' hn b hb =>
    ⟨hn b hb, (I'.ok.exf b hb).1, I'.ok.exfs b hb, .inl hb, fun x c e => (I'.ok.exf b hb).2 x c e, fun p hp => absurd (show p ∈ ([] : List (Addr × Obj)) ++ [] from hp) (by simp)⟩
  have loop : codeAny (model X.prog X.w) X.A (.compLoop (.ListComp elt [⟨tg, iter, ifs, 0⟩] scope pos) 0 (.ref it) (.ref D) ce) (compPost (model X.prog X.w) X.A X.xe use Qf (.ref D) s3.heap.objs.size) s4 := by
    refine compLoop_any (fun n s' => ∃ i H', Inv (X.blk s3 H3 scope ce fp) [] (wipe σ (own.map (·.2))) H' s' ∧ tn i s'.heap ∧ (∀ b ∈ fp, H' b = none) ∧ W i n H') ?_ m0 ⟨0, H3, I4, st4, nfp, w0⟩
    rintro n s5 ⟨i, H5, I5, st5, n5, w5⟩
    rcases turn i n H5 w5 with ⟨stop, qq⟩ | ⟨go, Nx, hNx, step⟩
    · have td := T.done (X.blk s3 H3 scope ce fp) rfl rfl rfl hc i [] s5 _ H5 (fun _ _ => False) I5 (stat I5 n5) st5 stop
      refine thnF td fun r s6 ⟨hr, I6⟩ => ?_
      subst hr
      -- back in the def's context
      have I7 : Inv X pins σ H5 s6 := I3.call' (ch := fp) I6.os I6.base I6.hok I6.bare fun b hb => ⟨(f3 b hb).1.2.2.2.1, (f3 b hb).1.2.1, (f3 b hb).1.2.2.2.2.1, (f3 b hb).1.2.2.2.2.2⟩
      have nC : H5 s3.heap.objs.size = none := by
        have z : H5 ce.locals = none := I6.free
        rw [cL] at z
        exact z
      obtain ⟨m, hn, _⟩ := I6.loc
      have hn : s6.heap.Ns ce.locals m := hn
      rw [cL] at hn
      exact hRR D s3.heap.objs.size s6 m H5 I7 qq hn (I3.fpOk (Nat.le_refl _) nC)
    · have ti := T.item (X.blk s3 H3 scope ce fp) rfl rfl rfl hc i [] s5 _ H5 (fun _ _ => False) I5 (stat I5 n5) st5 go
      refine thnF ti fun r s6 ⟨u, hr, h6⟩ => ?_
      subst hr
      refine thnF h6 fun _ s7 ⟨x, H7, I7, r7, y7, st7, n7⟩ => ?_
      have I7' := I7.pinned (stat I7 n7) (T.obj _ _ st7)
      refine thnF (pg _ s7 _ H7 x u _ I7' r7 (step x H7 y7)) fun _ s8 ⟨σ8, H8, I8, hw8, q8⟩ => ?_
      refine thnF (pt _ s8 σ8 H8 _ I8 q8) fun b s9 ⟨H9, I9, q9⟩ => ?_
      -- the turn's end
      have fin : ∀ {s' : Shared} {H' : Hp}, Inv (X.blk s3 H3 scope ce fp) ([] ++ pinsAt fp s7.heap) σ8 H' s' → Nx H' → ∃ m, m < n ∧ ∃ i H', Inv (X.blk s3 H3 scope ce fp) [] (wipe σ (own.map (·.2))) H' s' ∧ tn i s'.heap ∧ (∀ b ∈ fp, H' b = none) ∧ W i m H' := fun {s' H'} I' nx => by
        obtain ⟨m', hm, w'⟩ := hNx H' nx
        have pin' : ∀ b ∈ fp, ∀ o, s7.heap.get? b = some o → s'.heap.get? b = some o ∧ H' b = none := fun b hb o e =>
          let z := I'.pin (b, o) (List.mem_append_right _ (List.mem_append_right _ (mem_pinsAt hb e)))
          ⟨z.1, z.2.1⟩
        have hl : (wipe σ (own.map (·.2))).length = σ8.length := by rw [← hw8, wipe_length]
        refine ⟨m', hm, i + 1, H', (I'.unpinned (pins := [])).weak hl (fun j v e => ?_), T.keep _ _ _ st7 fun b hb o e => (pin' b hb o e).1, fun b hb => ?_, w'⟩
        · rw [← hw8] at e
          exact (wipe_some e).1
        · obtain ⟨o, e, _⟩ := T.obj _ _ st7 b hb
          exact (pin' b hb o e).2
      cases b with
      | false =>
        simp only [Bool.false_eq_true, if_false] at q9 ⊢
        exact fin I9 q9
      | true =>
        simp only [if_true] at q9 ⊢
        refine thnF (pe _ s9 σ8 H9 _ I9 q9) fun z s10 ⟨yv, H10, I10, r10, acc, hD10, hz10, nx⟩ => ?_
        exact app_ok (X := X.blk s3 H3 scope ce fp) I10 hD10 hz10 r10 fun s11 I11 => fin I11 nx
  exact codeAny_compStart_list loop (T.self X.A 0 _ _ _ st4 loop)
theorem pe_lc {elt tg iter : Expr} {ifs : List Expr} {scope : Scope} {own : List (Str × Nat)} {pos : Pos} {wi : TI} {g : TG} {tt : TT} {te : TE} (hc : X.calm = true) (hN : X.N.Nodup) (hi : PI X tg iter wi) (ok : BlkOk X.N X.env.scope scope own)
    (hg : ∀ (s : Shared) (H : Hp) (C : Addr) (cl : List (Str × Addr)) (fp : List Addr), PG (X.blk s H scope (compEnvC scope cl C X.env) fp) tg g) (ht : ∀ (s : Shared) (H : Hp) (C : Addr) (cl : List (Str × Addr)) (fp : List Addr), PTs (X.blk s H scope (compEnvC scope cl C X.env) fp) ifs tt)
    (he : ∀ (s : Shared) (H : Hp) (C : Addr) (cl : List (Str × Addr)) (fp : List Addr), PE (X.blk s H scope (compEnvC scope cl C X.env) fp) elt te) (hs : ∀ x, foldedSetIterable iter X.env x = pure x := by intro _; rfl) :
    PE X (.ListComp elt [⟨tg, iter, ifs, 0⟩] scope pos) (tLc wi g tt te (own.map (·.2))) := by
  intro pins s σ H Q I h
  rw [eval_ListComp]
  refine lc_core hc hN I hi ok hg ht he hs h fun D C s' m H' I' q hn f => ⟨m, hn, fun h'' sb => ?_⟩
  obtain ⟨f0, f1, f2, f3, f4, f5⟩ := f
  exact ⟨.ref D, H', I'.turned (t' := s'.toks) (fun b o hb e => (sb.2 b hb).trans e) f0 f1 f3 f4 f5, rfl, q⟩
end
theorem lc_range {lo : Int} {n : Nat} {g : TG} {tt : TT} {te : TE} {vs : List Nat} {σ : St} {H1 : Hp} {D : Addr} {Qd : Hp → Prop} (Pv : Nat → Hp → Prop) (h0 : Pv 0 (upd H1 D (.lst [])))
    (hs : ∀ i H, i < n → Pv i H → g (.int (lo + i)) (wipe σ vs) H fun σ2 H2 => wipe σ2 vs = wipe σ vs ∧ tt σ2 H2 fun b H3 =>
      if b = true then te σ2 H3 fun y H4 => ∃ acc, H4 D = some (.lst acc) ∧ acc.length < sizeLine ∧ Pv (i + 1) (upd H4 D (.lst (acc ++ [y]))) else Pv (i + 1) H3) (hd : ∀ H, Pv n H → Qd H) :
    ∃ W : Nat → Nat → Hp → Prop, (∃ m, W 0 m (upd H1 D (.lst []))) ∧ ∀ i m H, W i m H →
      ((Itr lo n).stop i H ∧ Qd H) ∨ ((Itr lo n).go i H ∧ ∃ Nx : Hp → Prop, (∀ H', Nx H' → ∃ m', m' < m ∧ W (i + 1) m' H') ∧ ∀ x H', (Itr lo n).yld i H x H' → g x (wipe σ vs) H' fun σ2 H2 => wipe σ2 vs = wipe σ vs ∧ tt σ2 H2 fun b H3 =>
        if b = true then te σ2 H3 fun y H4 => ∃ acc, H4 D = some (.lst acc) ∧ acc.length < sizeLine ∧ Nx (upd H4 D (.lst (acc ++ [y]))) else Nx H3) := by
  refine ⟨fun i m H => m = n - i ∧ i ≤ n ∧ Pv i H, ⟨n, by simp, Nat.zero_le _, h0⟩, ?_⟩
  rintro i m H ⟨rfl, hi, p⟩
  by_cases hlt : i < n
  · refine .inr ⟨hlt, Pv (i + 1), fun H' p' => ⟨n - (i + 1), by omega, rfl, hlt, p'⟩, fun x H' y => ?_⟩
    obtain ⟨e, y⟩ := y
    subst e y
    exact hs i _ hlt p
  · have e : i = n := by omega
    subst e
    exact .inl ⟨Nat.le_refl _, hd H p⟩
theorem lc_list {K : PySem.W.Frag} {a : Addr} {xs : List V} {g : TG} {tt : TT} {te : TE} {vs : List Nat} {σ : St} {H1 : Hp} {D : Addr} {Qd : Hp → Prop} (Pv : Nat → Hp → Prop) (h0 : Pv 0 (upd H1 D (.lst []))) (hl : ∀ i H, i ≤ xs.length → Pv i H → SqL K H a xs)
    (hs : ∀ i x H, xs[i]? = some x → Pv i H → g x (wipe σ vs) H fun σ2 H2 => wipe σ2 vs = wipe σ vs ∧ tt σ2 H2 fun b H3 =>
      if b = true then te σ2 H3 fun y H4 => ∃ acc, H4 D = some (.lst acc) ∧ acc.length < sizeLine ∧ Pv (i + 1) (upd H4 D (.lst (acc ++ [y]))) else Pv (i + 1) H3) (hd : ∀ H, Pv xs.length H → Qd H) :
    ∃ W : Nat → Nat → Hp → Prop, (∃ m, W 0 m (upd H1 D (.lst []))) ∧ ∀ i m H, W i m H →
      ((Itl K a).stop i H ∧ Qd H) ∨ ((Itl K a).go i H ∧ ∃ Nx : Hp → Prop, (∀ H', Nx H' → ∃ m', m' < m ∧ W (i + 1) m' H') ∧ ∀ x H', (Itl K a).yld i H x H' → g x (wipe σ vs) H' fun σ2 H2 => wipe σ2 vs = wipe σ vs ∧ tt σ2 H2 fun b H3 =>
        if b = true then te σ2 H3 fun y H4 => ∃ acc, H4 D = some (.lst acc) ∧ acc.length < sizeLine ∧ Nx (upd H4 D (.lst (acc ++ [y]))) else Nx H3) := by
  refine ⟨fun i m H => m = xs.length - i ∧ i ≤ xs.length ∧ Pv i H, ⟨xs.length, by simp, Nat.zero_le _, h0⟩, ?_⟩
  rintro i m H ⟨rfl, hi, p⟩
  have q := hl i H hi p
  by_cases hlt : i < xs.length
  · refine .inr ⟨⟨xs, xs[i], q, by simp [hlt]⟩, Pv (i + 1), fun H' p' => ⟨xs.length - (i + 1), by omega, rfl, hlt, p'⟩, fun x H' y => ?_⟩
    obtain ⟨e, y⟩ := y
    subst e
    exact hs i x _ (y xs q) p
  · have e : i = xs.length := by omega
    subst e
    exact .inl ⟨⟨xs, q, Nat.le_refl _⟩, hd H p⟩
def blkC (N : List Str) (sc scope : Scope) (own : List (Str × Nat)) : Bool :=
  (match scope.kind with | .function => true | _ => false) && (scope.names.all fun y => decide (scope.names.lookup y.1 = some y.2)) && (own.all fun p => decide (N[p.2]? = some p.1)) &&
    (scope.names.all fun y => match y.2 with
      | .free => (match sc.names.lookup y.1 with | some .cell => true | some .free => true | _ => false)
      | .local => decide (y.1 ∈ own.map (·.1)) || decide (y.1 ∉ N)
      | .cell => decide (y.1 ∈ own.map (·.1)) || decide (y.1 ∉ N)
      | _ => true)
theorem blkOk_by {N : List Str} {sc scope : Scope} {own : List (Str × Nat)} (h : blkC N sc scope own = true) : BlkOk N sc scope own := by
  unfold blkC at h
  simp only [Bool.and_eq_true, List.all_eq_true, decide_eq_true_eq] at h
  obtain ⟨⟨⟨h1, h2⟩, h3⟩, h4⟩ := h
  refine ⟨?_, h2, h3, fun y hy e => ?_, fun y hy e => ?_⟩
  · split at h1
    · assumption
    · cases h1
  · have q := h4 y hy
    simp only [e] at q
    split at q <;> first | exact .inl (by assumption) | exact .inr (by assumption) | cases q
  · have q := h4 y hy
    rcases e with e | e <;> (simp only [e, Bool.or_eq_true, decide_eq_true_eq] at q; exact q)
end L2
namespace L2
open PySem PySem.Spec PyProof.Rows
section
variable {prog : Program} {w : World} {A : Around} {R : Result → Shared → Prop} {s : Shared} {elt t0 i0 t1 i1 : Expr} {ifs0 ifs1 : List Expr} {scope : Scope} {pos : Pos} {it acc : Value} {env : Env}
end
section
variable {X : Cx}
end
end L2
namespace L2
open PySem PySem.Spec PyProof.Rows
section
variable {κ : Type} [DecidableEq κ]
def valV (kvs : List (κ × V)) (k : κ) : Option V := (kvs.find? fun kv => decide (kv.1 = k)).map (·.2)
def putK (kvs : List (κ × V)) (k : κ) (v : V) : List (κ × V) :=
  if (kvs.any fun kv => decide (kv.1 = k)) = true then kvs.map (fun kv => if kv.1 = k then (kv.1, v) else kv) else kvs ++ [(k, v)]
theorem valV_pos {p : κ × V} {r : List (κ × V)} {k : κ} (e : p.1 = k) : valV (p :: r) k = some p.2 := by simp [valV, List.find?_cons, e]
theorem valV_neg {p : κ × V} {r : List (κ × V)} {k : κ} (e : ¬ p.1 = k) : valV (p :: r) k = valV r k := by simp [valV, List.find?_cons, e]
theorem valV_any (k : κ) : ∀ kvs : List (κ × V), (kvs.any fun kv => decide (kv.1 = k)) = (valV kvs k).isSome
  | [] => rfl
  | p :: r => by
    rw [List.any_cons]
    by_cases e : p.1 = k
    · simp only [valV_pos e, decide_eq_true e, Bool.true_or, Option.isSome_some]
    · rw [valV_neg e, decide_eq_false e, Bool.false_or]; exact valV_any k r
theorem valV_map (k j : κ) (y : V) : ∀ kvs : List (κ × V), valV (kvs.map fun kv => if kv.1 = k then (kv.1, y) else kv) j = (valV kvs j).map fun x => if j = k then y else x
  | [] => rfl
  | p :: r => by
    have ih := valV_map k j y r
    rw [List.map_cons]
    by_cases h : p.1 = k
    · rw [if_pos h]
      by_cases e : p.1 = j
      · rw [valV_pos (p := (p.1, y)) e, valV_pos e, Option.map_some, if_pos (e.symm.trans h)]
      · rw [valV_neg (p := (p.1, y)) e, valV_neg e, ih]
    · rw [if_neg h]
      by_cases e : p.1 = j
      · rw [valV_pos (p := p) e, valV_pos e, Option.map_some, if_neg (fun z => h (e.trans z))]
      · rw [valV_neg (p := p) e, valV_neg e, ih]
theorem valV_snoc (k j : κ) (y : V) : ∀ kvs : List (κ × V), valV kvs k = none → valV (kvs ++ [(k, y)]) j = if j = k then some y else valV kvs j
  | [], _ => by
    by_cases e : k = j
    · rw [if_pos e.symm]; exact valV_pos (p := (k, y)) e
    · rw [if_neg (fun z => e z.symm)]; exact valV_neg (p := (k, y)) e
  | p :: r, hn => by
    rw [List.cons_append]
    have hk : ¬ p.1 = k := fun z => by rw [valV_pos z] at hn; cases hn
    rw [valV_neg hk] at hn
    have ih := valV_snoc k j y r hn
    by_cases e : p.1 = j
    · rw [valV_pos e, valV_pos e, if_neg (fun z => hk (e.trans z))]
    · rw [valV_neg e, valV_neg e, ih]
theorem valV_put (kvs : List (κ × V)) (k j : κ) (y : V) : valV (putK kvs k y) j = if j = k then some y else valV kvs j := by
  unfold putK
  by_cases a : (kvs.any fun kv => decide (kv.1 = k)) = true
  · rw [if_pos a, valV_map]
    rw [valV_any] at a
    by_cases e : j = k
    · obtain ⟨x, hx⟩ := Option.isSome_iff_exists.mp a
      rw [if_pos e, e, hx, Option.map_some, if_pos rfl]
    · rw [if_neg e]
      cases valV kvs j with
      | none => rfl
      | some x => rw [Option.map_some, if_neg e]
  · rw [if_neg a]
    refine valV_snoc k j y kvs ?_
    rw [valV_any] at a
    cases q : valV kvs k with
    | none => rfl
    | some x => rw [q] at a; exact (a rfl).elim
theorem length_putK (kvs : List (κ × V)) (k : κ) (v : V) : (putK kvs k v).length ≤ kvs.length + 1 := by
  unfold putK
  split
  · rw [List.length_map]; omega
  · rw [List.length_append, List.length_cons, List.length_nil]; omega
theorem putK_new {kvs : List (κ × V)} {k : κ} (v : V) (h : valV kvs k = none) : putK kvs k v = kvs ++ [(k, v)] := by
  unfold putK
  rw [valV_any, h]
  exact if_neg (by decide)
theorem RelO.isSome_eq {o : Option V} {u : Option Value} (r : RelO o u) : o.isSome = u.isSome := by
  cases o with
  | none => cases u with
    | none => rfl
    | some _ => exact (show False from r).elim
  | some _ => cases u with
    | none => exact (show False from r).elim
    | some _ => rfl
theorem KV.val {kvs : List (κ × V)} {vs : List (κ × Value)} (r : KV kvs vs) (k : κ) : RelO (valV kvs k) (valueAt vs k) := by
  unfold KV at r
  induction r with
  | nil => exact True.intro
  | @cons p q ps qs h t ih =>
    obtain ⟨h1, h2⟩ := h
    by_cases e : p.1 = k
    · have e' : q.1 = k := h1.symm.trans e
      have b : valueAt (q :: qs) k = some q.2 := by simp [valueAt, List.find?_cons, e']
      rw [valV_pos e, b]; exact h2
    · have e' : ¬ q.1 = k := fun z => e (h1.trans z)
      have b : valueAt (q :: qs) k = valueAt qs k := by simp [valueAt, List.find?_cons, e']
      rw [valV_neg e, b]; exact ih
theorem KV.any {kvs : List (κ × V)} {vs : List (κ × Value)} (r : KV kvs vs) (k : κ) : (kvs.any fun kv => decide (kv.1 = k)) = vs.any fun kv => decide (kv.1 = k) := by
  unfold KV at r
  induction r with
  | nil => rfl
  | cons h t ih => rw [List.any_cons, List.any_cons, ih, h.1]
theorem KV.repl {kvs : List (κ × V)} {vs : List (κ × Value)} (r : KV kvs vs) (k : κ) {y : V} {u : Value} (ry : RelV y u) :
    KV (kvs.map fun kv => if kv.1 = k then (kv.1, y) else kv) (vs.map fun kv => if kv.1 = k then (kv.1, u) else kv) := by
  unfold KV at r ⊢
  induction r with
  | nil => exact .nil
  | @cons p q ps qs h t ih =>
    rw [List.map_cons, List.map_cons]
    refine .cons ?_ ih
    obtain ⟨h1, h2⟩ := h
    by_cases e : p.1 = k
    · rw [if_pos e, if_pos (h1.symm.trans e)]; exact ⟨h1, ry⟩
    · rw [if_neg e, if_neg (fun z => e (h1.trans z))]; exact ⟨h1, h2⟩
theorem KV.put {kvs : List (κ × V)} {vs : List (κ × Value)} (r : KV kvs vs) (k : κ) {y : V} {u : Value} (ry : RelV y u) : KV (putK kvs k y) (stored vs k u) := by
  unfold putK stored
  rw [r.any k]
  by_cases e : (vs.any fun kv => decide (kv.1 = k)) = true
  · rw [if_pos e, if_pos e]; exact r.repl k ry
  · rw [if_neg e, if_neg e]; exact Paired.snoc r ⟨rfl, ry⟩
theorem KV.length {kvs : List (κ × V)} {vs : List (κ × Value)} (r : KV kvs vs) : kvs.length = vs.length := Paired.length r
end
theorem kV_is {P : Program} {w : World} {k : Key} {u : Value} (r : RelV (kV k) u) : (mixKind P w).is k u = true := by
  cases k with
  | inl i => obtain ⟨t, e⟩ := (show ∃ t, u = Value.int i t from r); subst e; exact mixKind_int P w i t
  | inr x => obtain ⟨t, e⟩ := (show ∃ t, u = Value.str x t from r); subst e; exact mixKind_str P w x t
theorem items_are {P : Program} {w : World} : ∀ {ks : List Key} {us : List Value}, Vals (ks.map kV) us → ItemsAre (mixKind P w) ks us
  | [], _, r => by rw [List.map_nil] at r; cases r; exact .nil
  | k :: ks, _, r => by
    rw [List.map_cons] at r
    cases r with
    | cons h t => exact .cons (kV_is h) (items_are t)
abbrev KT (H : Hp) : List (List Key × V) → List (List Key × Addr × Value) → Prop := Paired fun p q => p.1 = q.1 ∧ H q.2.1 = some (.tup (p.1.map kV)) ∧ RelV p.2 q.2.2
theorem KT.val {H : Hp} {kvs : List (List Key × V)} {xs : List (List Key × Addr × Value)} (r : KT H kvs xs) (k : List Key) : RelO (valV kvs k) ((atKey xs k).map (·.2)) := by
  induction r with
  | nil => exact True.intro
  | @cons p q ps qs h t ih =>
    obtain ⟨h1, _, h2⟩ := h
    by_cases e : p.1 = k
    · have e' : q.1 = k := h1.symm.trans e
      have b : atKey (q :: qs) k = some q.2 := by simp [atKey, List.find?_cons, e']
      rw [valV_pos e, b]; exact h2
    · have e' : ¬ q.1 = k := fun z => e (h1.trans z)
      have b : atKey (q :: qs) k = atKey qs k := by simp [atKey, List.find?_cons, e']
      rw [valV_neg e, b]; exact ih
theorem KT.repl {H : Hp} {kvs : List (List Key × V)} {xs : List (List Key × Addr × Value)} (r : KT H kvs xs) (k : List Key) {y : V} {u : Value} (ry : RelV y u) :
    KT H (kvs.map fun kv => if kv.1 = k then (kv.1, y) else kv) (xs.map (putAt k u)) := by
  induction r with
  | nil => exact .nil
  | @cons p q ps qs h t ih =>
    rw [List.map_cons, List.map_cons]
    refine .cons ?_ ih
    obtain ⟨h1, h2, h3⟩ := h
    unfold putAt
    by_cases e : p.1 = k
    · rw [if_pos e, if_pos (h1.symm.trans e)]; exact ⟨h1, h2, ry⟩
    · rw [if_neg e, if_neg (fun z => e (h1.trans z))]; exact ⟨h1, h2, h3⟩
theorem KT.put {H : Hp} {kvs : List (List Key × V)} {xs : List (List Key × Addr × Value)} (r : KT H kvs xs) (k : List Key) {b : Addr} {y : V} {u : Value} (hb : H b = some (.tup (k.map kV))) (ry : RelV y u) :
    KT H (putK kvs k y) (storedH xs k b u) := by
  have e : (kvs.any fun kv => decide (kv.1 = k)) = (atKey xs k).isSome := by
    rw [valV_any, (r.val k).isSome_eq, Option.isSome_map]
  unfold putK storedH
  rw [e]
  by_cases q : (atKey xs k).isSome = true
  · rw [if_pos q, if_pos q]; exact r.repl k ry
  · rw [if_neg q, if_neg q]; exact Paired.snoc r ⟨rfl, hb, ry⟩
theorem KT.keeps {H H' : Hp} {kvs : List (List Key × V)} {xs : List (List Key × Addr × Value)} (r : KT H kvs xs) (ht : ∀ b ys, H b = some (.tup ys) → H' b = some (.tup ys)) : KT H' kvs xs :=
  Paired.mapP r fun _ _ z => ⟨z.1, ht _ _ z.2.1, z.2.2⟩
section
variable {P : Program} {w : World} {H : Hp} {h : Heap} {a : Addr}
theorem rd_of {u : HO} (ok : HOk P w H h) (e : Rd H a u) : ObjOk P w H h a u := e.ok ok
theorem dk_rd {kvs : List (Key × V)} (ok : HOk P w H h) (e : Rd H a (.dK kvs)) : kvs.length ≤ sizeLine ∧ (a == sysModules) = false ∧ ∃ vs, KV kvs vs ∧ h.DictOf (mixKind P w) a vs :=
  show ObjOk P w H h a (.dK kvs) from rd_of ok e
theorem dk_of {kvs : List (Key × V)} (ok : HOk P w H h) (e : H a = some (.dK kvs)) : kvs.length ≤ sizeLine ∧ (a == sysModules) = false ∧ ∃ vs, KV kvs vs ∧ h.DictOf (mixKind P w) a vs := dk_rd ok (.inl e)
theorem key_of {ks : List Key} (ok : HOk P w H h) (e : H a = some (.tup (ks.map kV))) : (tupleKind (mixKind P w)).is h ks a := by
  obtain ⟨_, its, r, o, h1, h2, n, h3⟩ := (show ObjOk P w H h a (.tup (ks.map kV)) from ok a _ e)
  exact ⟨o, its.toArray, n, h1, h2, h3, by simpa using items_are r⟩
theorem dt_rd {kvs : List (List Key × V)} (ok : HOk P w H h) (e : Rd H a (.dT kvs)) : kvs.length ≤ sizeLine ∧ (a == sysModules) = false ∧
    ∃ xs, KT H kvs xs ∧ h.DictOfH (tupleKind (mixKind P w)) a xs := by
  obtain ⟨z, y, xs, r, o, es, ep, h1, h2, h3, h4, h5⟩ := (show ObjOk P w H h a (.dT kvs) from rd_of ok e)
  refine ⟨z, y, xs, r, o, es, ep, h1, h2, h3, h4, fun x hx => ?_, h5⟩
  have all : ∀ {l : List (List Key × V)} {m : List (List Key × Addr × Value)}, KT H l m → ∀ x ∈ m, (tupleKind (mixKind P w)).is h x.1 x.2.1 := by
    intro l m q
    induction q with
    | nil => intro x hx; exact nomatch hx
    | @cons p q ps qs hq t ih =>
      intro x hx
      rcases List.mem_cons.mp hx with e | hx
      · subst e
        exact key_of ok (by rw [← hq.1]; exact hq.2.1)
      · exact ih x hx
  exact all r x hx
theorem dt_of {kvs : List (List Key × V)} (ok : HOk P w H h) (e : H a = some (.dT kvs)) : kvs.length ≤ sizeLine ∧ (a == sysModules) = false ∧
    ∃ xs, KT H kvs xs ∧ h.DictOfH (tupleKind (mixKind P w)) a xs := dt_rd ok (.inl e)
end
def DGet (H : Hp) (a : Addr) (y : V) (r : Option V) : Prop :=
  (∃ kvs k, Rd H a (.dK kvs) ∧ y = kV k ∧ r = valV kvs k) ∨ ∃ kvs k b, Rd H a (.dT kvs) ∧ y = .ref b ∧ H b = some (.tup (k.map kV)) ∧ r = valV kvs k
def DPut (H : Hp) (a : Addr) (y v : V) (H' : Hp) : Prop :=
  (∃ kvs k, H a = some (.dK kvs) ∧ y = kV k ∧ kvs.length < sizeLine ∧ H' = upd H a (.dK (putK kvs k v))) ∨
  ∃ kvs k b, H a = some (.dT kvs) ∧ y = .ref b ∧ H b = some (.tup (k.map kV)) ∧ kvs.length < sizeLine ∧ H' = upd H a (.dT (putK kvs k v))
theorem DGet.k {H : Hp} {a : Addr} {kvs : List (Key × V)} {k : Key} (e : H a = some (.dK kvs)) : DGet H a (kV k) (valV kvs k) := .inl ⟨kvs, k, .inl e, rfl, rfl⟩
theorem DPut.k {H : Hp} {a : Addr} {kvs : List (Key × V)} {k : Key} {v : V} (e : H a = some (.dK kvs)) (hl : kvs.length < sizeLine) : DPut H a (kV k) v (upd H a (.dK (putK kvs k v))) := .inl ⟨kvs, k, e, rfl, hl, rfl⟩
section
variable {X : Cx} {pins : List (Addr × Obj)} {σ : St} {H : Hp} {s : Shared} {a : Addr} {y v : V} {u r : Value} {o : Option V} {A : Around} {E : Value → Shared → Prop}
theorem Inv.big (I : Inv X pins σ H s) : sysModules < s.heap.objs.size := by
  have h : mainGlobals < s.heap.objs.size := (I.mod.glob.keeps I.bk).lt
  exact Nat.lt_trans (by decide) h
theorem d_getItem {Q : Value → Shared → Prop} (hu : A.units + 1 < cLine) (I : Inv X pins σ H s) (g : DGet H a y (some v)) (ry : RelV y u) (h : ∀ w' s', Inv X pins σ H s' → RelV v w' → Q w' s') :
    wpAny (model X.prog X.w) A (getItem (.ref a) u) Q E s := by
  rcases g with ⟨kvs, k, e, ey, l⟩ | ⟨kvs, k, b, e, ey, eb, l⟩
  · subst ey
    obtain ⟨z, hd, vs, rel, dd⟩ := dk_rd I.hok e
    obtain ⟨w', hw, rw'⟩ := RelO.some_of (v := v) (o := valueAt vs k) (by rw [l]; exact rel.val k)
    exact wpAny_getItem_of (kV_is ry) dd.mapOf hw (h w' _ (I.tok _) rw')
  · subst ey
    cases (show u = Value.ref b from ry)
    obtain ⟨z, hd, xs, rel, dd⟩ := dt_rd I.hok e
    obtain ⟨w', hw, rw'⟩ := RelO.some_of (v := v) (o := (atKey xs k).map (·.2)) (by rw [l]; exact rel.val k)
    obtain ⟨p, hp, hp2⟩ := Option.map_eq_some_iff.mp hw
    refine wpAny_getItem_heap (tupleKind_room_in1 hu) (key_of I.hok eb) dd hp ?_
    rw [hp2]
    exact h w' _ (I.tok _) rw'
theorem d_write {h' : Heap} {t' : Nat} {ob : HO} (I : Inv X pins σ H s) (mu : Mut (H a)) (hs : Heap.SameBut a s.heap h') (he : ∃ q, h'.get? a = some q) (new : ObjOk X.prog X.w (upd H a ob) h' a ob) :
    Inv X pins σ (upd H a ob) { s with heap := h', toks := t' } :=
  I.write (x := a) (e := a) mu (.inl rfl) (fun b q hb z => (hs.2 b hb).trans z) he new
theorem dk_new {P : Program} {w : World} {H' : Hp} {h' : Heap} {kvs : List (Key × V)} {vs : List (Key × Value)} (z : kvs.length ≤ sizeLine) (hd : (a == sysModules) = false) (rel : KV kvs vs) (dd : h'.DictOf (mixKind P w) a vs) :
    ObjOk P w H' h' a (.dK kvs) := ⟨z, hd, vs, rel, dd⟩
theorem d_setItem {H' : Hp} {Q : Unit → Shared → Prop} (hu : A.units + 1 < cLine) (I : Inv X pins σ H s) (g : DPut H a y v H') (ry : RelV y u) (rv : RelV v r) (h : ∀ s', Inv X pins σ H' s' → Q () s') :
    wpAny (model X.prog X.w) A (setItem (.ref a) u r) Q E s := by
  rcases g with ⟨kvs, k, e, ey, l, eH⟩ | ⟨kvs, k, b, e, ey, eb, l, eH⟩
  · subst ey eH
    obtain ⟨z, hd, vs, rel, dd⟩ := dk_of I.hok e
    have hz : vs.length ≤ sizeLine := by rw [← rel.length]; exact z
    have hl : (putK kvs k v).length ≤ sizeLine := by have := length_putK kvs k v; omega
    refine wpAny_setItem_pairs (hsz := hz) (kV_is ry) dd fun h' dd' hs => h _ ?_
    have he : ∃ q, h'.get? a = some q := let ⟨q, _, _, hq, _⟩ := dd'; ⟨q, hq⟩
    exact d_write I (by rw [e]; exact True.intro) hs he (dk_new hl hd (rel.put k rv) dd')
  · subst ey eH
    cases (show u = Value.ref b from ry)
    obtain ⟨z, hd, xs, rel, dd⟩ := dt_of I.hok e
    have hz : xs.length ≤ sizeLine := by rw [← Paired.length rel]; exact z
    have hl : (putK kvs k v).length ≤ sizeLine := by have := length_putK kvs k v; omega
    refine wpAny_setItem_heap (hsz := hz) (tupleKind_room_in1 hu) (key_of I.hok eb) dd fun h' dd' hs => h _ ?_
    obtain ⟨q, es, ep, hq, h2, h3, h4, _, h5⟩ := dd'
    refine d_write I (by rw [e]; exact True.intro) hs ⟨q, hq⟩ ⟨hl, hd, _, (rel.put k eb rv).keeps fun c ys ec => ?_, q, es, ep, hq, h2, h3, h4, h5⟩
    rw [upd_ne (ne_of ec e (fun z => nomatch z))]
    exact ec
end
section
variable {X : Cx} {pins : List (Addr × Obj)} {σ : St} {H : Hp} {s : Shared} {a : Addr} {kvs : List (Key × V)} {k : Key} {u : Value} {A : Around} {E : Value → Shared → Prop}
theorem d_len {Q : Value → Shared → Prop} (I : Inv X pins σ H s) (e : Rd H a (.dK kvs)) (h : ∀ t s', Inv X pins σ H s' → Q (.int kvs.length t) s') : wpAny (model X.prog X.w) A (call (.builtin "len") [.ref a]) Q E s := by
  obtain ⟨z, hd, vs, rel, dd⟩ := dk_rd I.hok e
  refine call_len_dict hd dd (by rw [← rel.length]; rw [sizeLine_eq] at z; omega) ?_
  rw [← rel.length]
  exact h _ _ (I.tok _)
end
def NoSl (i : Expr) : Prop := ∀ ov iv, subscripted i false ov iv = operate [ov, iv] (getItem ov iv)
theorem subD_of {prog : Program} {w : World} {A : Around} {E : Value → Shared → Prop} {s : Shared} {env : Env} {value slice : Expr} {pos : Pos} {T id : String} {Q : Value → Shared → Prop}
    (hl : typeLookup (.type T) "__getitem__" = pure (some (.builtin id))) (hs : NoSl slice)
    (h : wpAny (model prog w) A (eval value env) (fun o s₁ => wpAny (model prog w) A (eval slice env) (fun i s₂ => s₂.TypeIs o T ∧ wpAny (model prog w) A (getItem o i) Q E s₂) E s₁) E s) :
    wpAny (model prog w) A (eval (.Subscript value slice pos) env) Q E s := by
  refine Subscript_ (wpAny_mono h (fun o s₁ h₁ => wpAny_mono h₁ (fun i s₂ h₂ => ?_) fun _ _ x => x) fun _ _ x => x)
  obtain ⟨hT, h₂⟩ := h₂
  unfold subscriptTail
  refine wpAny_bind ?_
  rw [getitemInPython_of_ne hT.not_modules]
  refine wpAny_bind (wpAny_specialOf hT hl ?_)
  have fin : wpAny (model prog w) A (subscripted slice false o i) (fun r s₃ => wpAny (model prog w) A (letTemporaryGo value o r >>= fun _ => pure r) Q E s₃) E s₂ := by
    rw [hs o i]
    exact wpAny_operating (wpAny_mono h₂ (fun r s₃ h₃ => wpAny_bind (wpAny_letTemporaryGo (wpAny_pure h₃))) fun _ _ x => x)
  first
    | exact wpAny_pure (wpAny_bind fin)
    | exact wpAny_bind (wpAny_pure (wpAny_bind fin))
    | exact wpAny_bind fin
theorem dict_typeIs {X : Cx} {pins : List (Addr × Obj)} {σ : St} {H : Hp} {s : Shared} {a : Addr} {y : V} {o : Option V} (I : Inv X pins σ H s) (g : DGet H a y o) : s.TypeIs (.ref a) "dict" := by
  rcases g with ⟨kvs, k, e, _, _⟩ | ⟨kvs, k, b, e, _, _, _⟩
  · obtain ⟨_, _, vs, _, dd⟩ := dk_rd I.hok e
    exact dd.typeIs
  · obtain ⟨_, _, xs, _, dd⟩ := dt_rd I.hok e
    exact dd.typeIs
def tDGet (td ty : TE) : TE := fun σ H Q => td σ H fun x H1 => ty σ H1 fun y H2 => ∃ a v, x = .ref a ∧ DGet H2 a y (some v) ∧ Q v H2
def sDPut (td ty tv : TE) : TS := fun D σ H => tv σ H fun v H1 => td σ H1 fun x H2 => ty σ H2 fun y H3 => ∃ a H4, x = .ref a ∧ DPut H3 a y v H4 ∧ D.nx σ H4
section
variable {X : Cx} {o i e value : Expr} {pos pos' tpos : Pos} {td ty tv : TE}
theorem pe_dget (hu : X.A.units + 1 < cLine) (ho : PE X o td) (hi : PE X i ty) (hs : NoSl i) : PE X (.Subscript o i pos) (tDGet td ty) := by
  intro pins s σ H Q I h
  refine subD_of PySem.F.slot_dict_getitem.lookup hs (thn (ho pins s σ H _ I h) fun u s1 ⟨x, H1, I1, rx, q1⟩ => thn (hi pins s1 σ H1 _ I1 q1) fun iv s2 ⟨y, H2, I2, ry, a, v, ex, g, q2⟩ => ?_)
  subst ex
  obtain rfl : u = Value.ref a := rx
  exact ⟨dict_typeIs I2 g, d_getItem hu I2 g ry fun w' s3 I3 rw' => ⟨v, H2, I3, rw', q2⟩⟩
theorem ps_dput (hu : X.A.units + 1 < cLine) (ho : PE X o td) (hi : PE X i ty) (hv : PE X value tv) (hs : swapsWith value (some (.Subscript o i pos')) pos.line X.env = pure false) :
    PS X (.Assign [.Subscript o i pos'] value pos) (sDPut td ty tv) := by
  intro pins s σ H D I h
  refine wpAny_Assign_Subscript (thn (hv pins s σ H _ I h) fun r s1 ⟨v, H1, I1, rv, q1⟩ => thn (ho pins s1 σ H1 _ I1 q1) fun u s2 ⟨x, H2, I2, rx, q2⟩ => thn (hi pins s2 σ H2 _ I2 q2) fun iv s3 ⟨y, H3, I3, ry, a, H4, ex, g, q3⟩ => ?_) hs
  subst ex
  obtain rfl : u = Value.ref a := rx
  exact d_setItem hu I3 g ry rv fun s4 I4 => ⟨σ, H4, I4, q3⟩
end
theorem dk_empty {P : Program} {w : World} {H : Hp} (h : Heap) (hb : sysModules < h.objs.size) : ObjOk P w H (h.push { cls := .type "dict", data := .dict #[] }) h.objs.size (.dK []) :=
  ⟨Nat.zero_le _, beq_eq_false_iff_ne.mpr (Ne.symm (Nat.ne_of_lt hb)), [], .nil, Heap.DictOf.new h⟩
def tDNewK : TE := fun _ H Q => ∀ p, H p = none → Q (.ref p) (upd H p (.dK []))
section
variable {X : Cx} {pos : Pos}
theorem pe_dnewK : PE X (.Dict [] [] pos) tDNewK := fun pins s σ H Q I h =>
  wpAny_Dict_empty ⟨.ref s.heap.objs.size, _, I.laid (a := s.heap.objs.size) (o := .dK []) (t' := s.toks) (fun _ _ q => Heap.get?_push_of_some _ q) (Nat.le_refl _) (dk_empty s.heap I.big), rfl, h _ (I.hok.fresh (Nat.le_refl _))⟩
end
section
variable {X : Cx} {pins : List (Addr × Obj)} {σ : St} {H : Hp} {s : Shared} {a : Addr} {y d : V} {u r : Value} {o : Option V} {A : Around} {E : Value → Shared → Prop}
end
section
variable {X : Cx} {o e f : Expr} {apos cpos : Pos} {td ty tx : TE}
end
section
variable {X : Cx} {pins : List (Addr × Obj)} {σ : St} {H : Hp} {s : Shared} {a : Addr} {kvs : List (Key × V)} {A : Around} {E : Value → Shared → Prop}
end
section
variable {X : Cx} {pins : List (Addr × Obj)} {σ : St} {H : Hp} {s : Shared} {a : Addr} {y : V} {u : Value} {A : Around} {E : Value → Shared → Prop}
end
end L2
namespace L2
open PySem PySem.Spec PyProof.Rows
section
variable {prog : Program} {w : World} {A : Around} {E : Value → Shared → Prop}
end
section
variable {X : Cx}
end
end L2
namespace L2
open PySem PySem.Spec PyProof.Rows
section
variable {X : Cx} {pins : List (Addr × Obj)} {σ : St} {H : Hp} {s : Shared} {h' : Heap}
end
section
variable {X : Cx}
end
section
variable {X : Cx} {tg : Expr}
end
section
variable {X : Cx} {tg : Expr}
end
section
variable {prog : Program} {w : World} {A : Around} {E : Value → Shared → Prop} {s : Shared}
end
section
variable {X : Cx} {pins : List (Addr × Obj)} {σ : St} {H : Hp} {s : Shared} {d : Addr} {o : Obj}
end
section
variable {P : Program} {w : World} {K : PySem.W.Frag} {tg : Expr} {d : Addr} {o : Obj} {es : Array DictEntry} {ep : Nat}
end
section
variable {X : Cx} {tg e : Expr} {td : TE} {apos cpos : Pos}
end
end L2
section 
namespace Bits
open PySem PyProof.Rows
theorem nat_and_mul_pow (k : Nat) : ∀ a b : Nat, a < 2 ^ k → a &&& (b * 2 ^ k) = 0 := by
  induction k with
  | zero =>
    intro a b h
    have h0 : a = 0 := by
      rw [Nat.pow_zero] at h
      omega
    subst h0
    simp
  | succ k ih =>
    intro a b h
    have hm : (b * 2 ^ (k + 1)) = (b * 2 ^ k) * 2 := by rw [Nat.pow_succ, Nat.mul_assoc]
    have hlt : a / 2 < 2 ^ k := by
      rw [Nat.pow_succ] at h
      generalize 2 ^ k = m at h ⊢
      omega
    have i := ih (a / 2) b hlt
    rw [hm]
    generalize b * 2 ^ k = B at i ⊢
    have e : (a &&& (B * 2)) / 2 = a / 2 &&& (B * 2) / 2 := Nat.and_div_two
    have e2 : (B * 2) / 2 = B := by omega
    have o := @Nat.and_mod_two_eq_one a (B * 2)
    rw [e2, i] at e
    omega
theorem natCast_mul_pow (m k : Nat) : (m : Int) * 2 ^ k = ((m * 2 ^ k : Nat) : Int) := by
  rw [two_pow_cast]
  first
    | exact (Int.natCast_mul _ _).symm
    | simp
theorem bitOr_join {a b : Int} {k : Nat} (h0 : 0 ≤ a) (h1 : a < 2 ^ k) (hb : 0 ≤ b) : Builtin.bitOr a (b * 2 ^ k) = a + b * 2 ^ k := by
  obtain ⟨n, rfl⟩ := Int.eq_ofNat_of_zero_le h0
  obtain ⟨m, rfl⟩ := Int.eq_ofNat_of_zero_le hb
  have hn : n < 2 ^ k := by
    rw [two_pow_cast] at h1
    omega
  have e : Builtin.bitAnd (n : Int) ((m * 2 ^ k : Nat) : Int) = 0 := by
    rw [bitAnd_pp (by omega) (by omega), Int.toNat_natCast, Int.toNat_natCast, nat_and_mul_pow k n m hn] <;> rfl
  rw [natCast_mul_pow, bitOr_and, e]
  omega
theorem bitOr_join' {a b : Int} {k : Nat} (h0 : 0 ≤ a) (h1 : a < 2 ^ k) (hb : 0 ≤ b) : Builtin.bitOr (b * 2 ^ k) a = a + b * 2 ^ k := by
  rw [bitOr_comm]
  exact bitOr_join h0 h1 hb
theorem bitOr_pp {x y : Int} (hx : 0 ≤ x) (hy : 0 ≤ y) : Builtin.bitOr x y = ((x.toNat ||| y.toNat : Nat) : Int) := by
  have e := nat_or_add_and x.toNat y.toNat
  rw [bitOr_and, bitAnd_pp hx hy]
  omega
end Bits
end 
section 
namespace TL
open PySem PySem.Builtin PySem.Builtin.Str PySem.StrLaws
end TL
end 
namespace L2
open PySem PySem.Spec PyProof.Rows
section
variable {X : Cx} {pins : List (Addr × Obj)} {σ : St} {H : Hp} {s : Shared} {Q : VK}
end
section
variable {X : Cx}
end
section
variable {X : Cx} {o e : Expr} {to te : TE}
end
end L2
namespace L2
open PySem PySem.Spec PyProof.Rows
section
variable {X : Cx}
end
end L2
namespace Att
open PySem PySem.W PySem.Calls PyProof.Rows
section
variable {prog : Program} {w : World} {A : Around} {E : Value → Shared → Prop} {s : Shared} {K : Frag}
end
end Att
namespace L2
open PySem PySem.Spec PyProof.Rows
theorem vals_ints : ∀ {vs : List Value} {ns : List Int}, IntsAre vs ns → Vals (ns.map V.int) vs
  | _, _, .nil => .nil
  | _, _, .cons n t h => .cons ⟨t, rfl⟩ (vals_ints h)
end L2
namespace L2
open PySem PySem.Spec PyProof.Rows
abbrev KOf {K : PySem.W.Frag} {h : Heap} (_ : K.In h) : PySem.W.Frag := K
end L2
namespace L2
open PySem PySem.Spec PyProof.Rows
def inClass (s : Stmt) (j : Nat) : Stmt := match s with
  | .ClassDef _ _ _ body _ _ _ _ _ _ _ => body.getD j (.Pass ⟨0, 0, 0, 0⟩)
  | _ => .Pass ⟨0, 0, 0, 0⟩
def defArgs (s : Stmt) : Arguments := match s with
  | .FunctionDef _ a _ _ _ _ _ _ _ _ => a
  | _ => { posonlyargs := [], args := [], vararg := none, kwonlyargs := [], kw_defaults := [], kwarg := none, defaults := [] }
def defBody (s : Stmt) : List Stmt := match s with
  | .FunctionDef _ _ b _ _ _ _ _ _ _ => b
  | _ => []
def defScope (s : Stmt) : Scope := match s with
  | .FunctionDef _ _ _ _ _ _ sc _ _ _ => sc
  | _ => { kind := .function, names := [], isGenerator := false, isCoroutine := false }
abbrev CX0 : CXT := fun _ _ _ _ _ _ => False
abbrev E0 : XK := fun _ _ _ => False
theorem pass0 {X : Cx} : Passes CX0 X E0 := fun _ _ _ _ _ _ _ h => h.elim
structure Fun (K : PySem.W.Frag) (x qual : Str) (st : Stmt) (f : Addr) (fd : FuncData) : Prop where
  ex : ∃ (oc : Value) (od : Option Addr) (kV doc pm : Value) (an : Option Addr) (cdv ct : Value) (osl : Array (Option Value)),
    fd = PySem.W.fnOf x qual (defArgs st) (defBody st) (defScope st) .none kV doc pm an cdv ct ∧ K.lookup f = some ⟨oc, od, .func fd, osl⟩ ∧ PySem.W.codeIn K cdv qual = true
  kp : PySem.W.keepIn K (.ref f) = true
section
variable {P : Program} {w : World} {K : PySem.W.Frag} {mg : Str → Option Value} {base : Heap}
theorem Fun.ok {x qual : Str} {st : Stmt} {f : Addr} {fd : FuncData} {N ps : List Str} {k : Nat} {sp : Sp} (F : Fun K x qual st f fd) (S : FnScope N ps (defScope st)) (len : ∀ vs H Q E, sp vs H Q E → vs.length = ps.length)
    (hbody : ∀ (cdv : Value) (A : Around) (outer : List Env) (s : Shared) (H : Hp) (vs : List V) (Q : VK) (E : XK), Room k (A.deeper (envOfC qual (defScope st) s.heap.objs.size f cdv)) → sp vs H Q E →
      ∃ t, PSs (cxOf CX0 P w K mg base N qual (defScope st) f cdv A outer s H E).nox (defBody st) t ∧ t { nx := fun _ H' => Q .non H', rt := Q } (start N vs) H) : FnOk P w K mg base CX0 (k + 1) f fd ps sp := by
  obtain ⟨oc, od, kV, doc, pm, an, cdv, ct, osl, rfl, lk, hcd⟩ := F.ex
  refine fn_of lk hcd S len fun A outer s H vs Q E hr hsp => ?_
  obtain ⟨t, h, q⟩ := hbody cdv A outer s H vs Q E hr hsp
  exact ⟨t, h.nox, q⟩
theorem Fun.binds {x qual : Str} {st : Stmt} {f : Addr} {fd : FuncData} {ps : List Str} (F : Fun K x qual st f fd)
    (h : ∀ (kV doc pm : Value) (an : Option Addr) (cdv ct : Value) (us : List Value), us.length = ps.length → bindArgs (PySem.W.fnOf x qual (defArgs st) (defBody st) (defScope st) .none kV doc pm an cdv ct) ⟨us, []⟩ = pure (ps.zip us)) : Binds K fd ps [] := by
  obtain ⟨oc, od, kV, doc, pm, an, cdv, ct, osl, rfl, lk, hcd⟩ := F.ex
  exact .all (h kV doc pm an cdv ct)
theorem fun_mk {x qual : Str} {st : Stmt} {f : Addr} {oc : Value} {od an : Option Addr} {osl : Array (Option Value)} {kV doc pm cdv ct : Value} (l : K.lookup f = some ⟨oc, od, .func (PySem.W.fnOf x qual (defArgs st) (defBody st) (defScope st) .none kV doc pm an cdv ct), osl⟩)
    (c : PySem.W.codeIn K cdv qual = true) (k : PySem.W.keepIn K (.ref f) = true) : Fun K x qual st f (PySem.W.fnOf x qual (defArgs st) (defBody st) (defScope st) .none kV doc pm an cdv ct) := ⟨⟨oc, od, kV, doc, pm, an, cdv, ct, osl, rfl, l, c⟩, k⟩
end
theorem hu_of {A : Around} {k : Nat} (hr : Room k A) : A.units + 1 < cLine := Nat.lt_of_le_of_lt (Nat.add_le_add_left (by decide : 1 ≤ 64) _) hr.units
theorem small1000 {n : Nat} (h : n ≤ 1000) : n < sizeLine := Nat.lt_of_le_of_lt h (by decide)
section
variable {X : Cx}
theorem pv (i : Nat) {x : Str} {pos : Pos} (hN : X.N[i]? = some x := by rfl) (hv : Vis X.env.scope x := by first | exact Or.inl rfl | exact Or.inr (Or.inl rfl) | exact Or.inr (Or.inr rfl)) (hd : (x == ("__debug__" : Str)) = false := by decide)
    (hcd : (x == ("__classdict__" : Str)) = false := by decide) : PE X (.Name x pos) (tVar i) := pe_var hN hv hd hcd
theorem call_lenD : CallR X (.builtin "len") (fun xs H Q => ∃ a kvs, xs = [V.ref a] ∧ H a = some (.dK kvs) ∧ Q (.int kvs.length) H) := by
  intro pins s σ H xs us Q I r h
  obtain ⟨a, kvs, rfl, ha, q⟩ := h
  obtain ⟨u, rfl, ru⟩ := vals1 r
  cases ru
  exact d_len I (.inl ha) fun t s' I' => ⟨.int kvs.length, H, I', ⟨t, rfl⟩, q⟩
end
theorem iteF {A B : Prop} (h : B) : if false = true then A else B := by
  rw [if_neg Bool.false_ne_true]
  exact h
theorem iteT {A B : Prop} (h : A) : if true = true then A else B := by
  rw [if_pos rfl]
  exact h
theorem ite2 {c A B : Prop} [Decidable c] (h1 : c → A) (h2 : ¬ c → B) : if c then A else B := by
  by_cases h : c
  · rw [if_pos h]
    exact h1 h
  · rw [if_neg h]
    exact h2 h
def Same (H H' : Hp) : Prop := ∀ b o, H b = some o → H' b = some o
theorem Same.trans {H H1 H2 : Hp} (a : Same H H1) (b : Same H1 H2) : Same H H2 := fun c o h => b c o (a c o h)
theorem Same.free {H H' : Hp} (e : Same H H') {l : Addr} (h : H' l = Option.none) : H l = Option.none := by
  cases q : H l with
  | none => rfl
  | some o =>
    rw [e l o q] at h
    cases h
theorem Same.seq {K : PySem.W.Frag} {H H' : Hp} {a : Addr} {xs : List V} (e : Same H H') (h : SqL K H a xs) : SqL K H' a xs := by
  rcases h with (h | ⟨o, h⟩) | h
  · exact .inl (.inl (e _ _ h))
  · exact .inl (.inr ⟨o, e _ _ h⟩)
  · exact .inr h
section
variable {κ : Type} [DecidableEq κ]
end
theorem at_of {xs : List V} {z : Int} {j : Nat} {v : V} (e : z = (j : Int)) (h : xs[j]? = some v) : atI xs z = some v := by
  rw [e]
  exact atI_nat h
theorem Same.made {H H1 : Hp} {x dx C : Addr} (nx : H x = Option.none) (nd : H dx = Option.none) (k : ∀ b o, (upd (upd H dx (.own x)) x (.ins C dx [])) b = some o → b ≠ x → H1 b = some o) : Same H H1 := fun b o e =>
  k b o (by rw [upd_ne (ne_of_none e nx), upd_ne (ne_of_none e nd)]; exact e) (ne_of_none e nx)
end L2
section
set_option Elab.async false
set_option linter.all false
set_option maxRecDepth 100000
set_option maxHeartbeats 2000000
namespace L2
open PySem PySem.Spec PyProof.Rows
open PySem.W (WData Codec OpenSpec Well WellAll ReadsW ReadsAllW)
mutual
inductive Dw (K : PySem.W.Frag) (H : Hp) : V → WData → Prop
  | non : Dw K H .non .none
  | bl (b : Bool) : Dw K H (.bl b) (.bool b)
  | int (i : Int) : Dw K H (.int i) (.int i)
  | str (x : Str) : Dw K H (.str x) (.str x)
  | byt (b : Array UInt8) : Dw K H (.byt b) (.bytes b.toList)
  | lst {a : Addr} {xs : List V} {ds : List WData} : SqL K H a xs → DwAll K H xs ds → Dw K H (.ref a) (.list ds)
  | tup {a : Addr} {xs : List V} {ds : List WData} : SqT K H a xs → DwAll K H xs ds → Dw K H (.ref a) (.tuple ds)
inductive DwAll (K : PySem.W.Frag) (H : Hp) : List V → List WData → Prop
  | nil : DwAll K H [] []
  | cons {v : V} {vs : List V} {d : WData} {ds : List WData} : Dw K H v d → DwAll K H vs ds → DwAll K H (v :: vs) (d :: ds)
end
theorem dw_ints {K : PySem.W.Frag} {H : Hp} : ∀ ns : List Int, DwAll K H (ns.map V.int) (ns.map WData.int)
  | [] => .nil
  | n :: r => .cons (.int n) (dw_ints r)
theorem ints_dw {K : PySem.W.Frag} {H : Hp} : ∀ (ns : List Int) (xs : List V), DwAll K H xs (ns.map WData.int) → xs = ns.map V.int
  | [], xs, h => by
    cases h
    rfl
  | n :: r, xs, h => by
    cases h with
    | cons h1 h2 =>
      cases h1
      rw [ints_dw r _ h2] <;> rfl
section
variable {P : Program} {w : World} {K : PySem.W.Frag} {H : Hp} {h : Heap} {R : PySem.W.WRecords} {cl : Str → Option Addr}
theorem sqL_at {a : Addr} {xs : List V} (hok : HOk P w H h) (KX : K.In h) (q : SqL K H a xs) : ∃ (its : List Value) (o : Obj) (n : Nat), Vals xs its ∧ h.get? a = some o ∧ o.cls = .type "list" ∧ o.data = .seq its.toArray n := by
  rcases q with q | ⟨o, its, n, e, hc, _, hd, _, hv⟩
  · obtain ⟨_, its, n, hv, e⟩ := (show ObjOk P w H h a (.lst xs) from q.ok hok)
    exact ⟨its, _, n, hv, e, rfl, rfl⟩
  · exact ⟨its.toList, o, n, hv, KX _ _ e, hc, by simp [hd]⟩
theorem sqT_at {a : Addr} {xs : List V} (hok : HOk P w H h) (KX : K.In h) (q : SqT K H a xs) : ∃ (its : List Value) (o : Obj) (n : Nat), Vals xs its ∧ h.get? a = some o ∧ o.cls = .type "tuple" ∧ o.data = .seq its.toArray n := by
  rcases q with q | ⟨o, its, n, e, hc, hd, _, hv⟩
  · obtain ⟨_, its, hv, o, e, hc, n, hd⟩ := (show ObjOk P w H h a (.tup xs) from q.ok hok)
    exact ⟨its, o, n, hv, e, hc, hd⟩
  · exact ⟨its.toList, o, n, hv, KX _ _ e, hc, by simp [hd]⟩
mutual
theorem Dw.reads (hok : HOk P w H h) (KX : K.In h) : ∀ (d : WData) (v : V) (u : Value), Dw K H v d → RelV v u → ∃ as, ReadsW R cl h u d as
  | .none, _, _, x, r => by
    cases x
    cases r
    exact ⟨_, ReadsW.none⟩
  | .bool b, _, _, x, r => by
    cases x
    cases r
    exact ⟨_, ReadsW.bool b⟩
  | .int i, _, _, x, r => by
    cases x
    obtain ⟨t, rfl⟩ := r
    exact ⟨_, ReadsW.int i t⟩
  | .str s, _, _, x, r => by
    cases x
    obtain ⟨t, rfl⟩ := r
    exact ⟨_, ReadsW.str s t⟩
  | .bytes b, _, _, x, r => by
    cases x
    obtain ⟨t, rfl⟩ := r
    exact ⟨_, ReadsW.bytes _ t⟩
  | .list ds, _, _, x, r => by
    cases x with
    | lst hs ha =>
      cases r
      obtain ⟨its, o, n, rv, ho, hc, hd⟩ := sqL_at hok KX hs
      obtain ⟨as, hr⟩ := Dw.readsAll hok KX ds _ its ha rv
      exact ⟨_, ReadsW.list ho hc hd hr⟩
  | .tuple ds, _, _, x, r => by
    cases x with
    | tup hs ha =>
      cases r
      obtain ⟨its, o, n, rv, ho, hc, hd⟩ := sqT_at hok KX hs
      obtain ⟨as, hr⟩ := Dw.readsAll hok KX ds _ its ha rv
      exact ⟨_, ReadsW.tuple ho hc hd hr⟩
  | .float _, _, _, x, _ => by cases x
  | .dict _, _, _, x, _ => by cases x
  | .bytearray _, _, _, x, _ => by cases x
  | .set _, _, _, x, _ => by cases x
  | .frozenset _, _, _, x, _ => by cases x
  | .obj _ _, _, _, x, _ => by cases x
theorem Dw.readsAll (hok : HOk P w H h) (KX : K.In h) : ∀ (ds : List WData) (vs : List V) (us : List Value), DwAll K H vs ds → Vals vs us → ∃ as, ReadsAllW R cl h us ds as
  | [], _, _, x, r => by
    cases x
    cases r
    exact ⟨_, ReadsAllW.nil⟩
  | d :: ds, _, _, x, r => by
    cases x with
    | cons h1 h2 =>
      cases r with
      | cons r1 r2 =>
        obtain ⟨as, q1⟩ := Dw.reads hok KX d _ _ h1 r1
        obtain ⟨bs, q2⟩ := Dw.readsAll hok KX ds _ _ h2 r2
        exact ⟨_, ReadsAllW.cons q1 q2⟩
end
end
mutual
def plW : WData → Bool
  | .none => true
  | .bool _ => true
  | .int _ => true
  | .str _ => true
  | .bytes _ => true
  | .list xs => plWs xs
  | .tuple xs => plWs xs
  | _ => false
def plWs : List WData → Bool
  | [] => true
  | x :: r => plW x && plWs r
end
theorem plWs_map {α : Type} {f : α → WData} (h : ∀ a, plW (f a) = true) : ∀ l : List α, plWs (l.map f) = true
  | [] => rfl
  | x :: r => by
    show (plW (f x) && plWs (r.map f)) = true
    rw [h x, plWs_map h r] <;> rfl
theorem pl_enc : ∀ (c : Codec) (a : c.denote), plW (c.enc a) = true
  | .unit, _ => rfl
  | .bool, _ => rfl
  | .int _ _, _ => rfl
  | .nat _ _, _ => rfl
  | .u8, _ => rfl
  | .bytes _ _, _ => rfl
  | .text _ _ _ _, _ => rfl
  | .list _ _ c, a => plWs_map (fun x => pl_enc c x) a
  | .pair c d, a => by
    show (plW (c.enc a.1) && (plW (d.enc a.2) && true)) = true
    rw [pl_enc c a.1, pl_enc d a.2] <;> rfl
  | .triple c d e, a => by
    show (plW (c.enc a.1) && (plW (d.enc a.2.1) && (plW (e.enc a.2.2) && true))) = true
    rw [pl_enc c a.1, pl_enc d a.2.1, pl_enc e a.2.2] <;> rfl
  | .option c, none => rfl
  | .option c, some x => pl_enc c x
theorem pl_encAll : ∀ (cs : List Codec) (a : Codec.denoteAll cs), plWs (Codec.encAll cs a) = true
  | [], _ => rfl
  | c :: cs, a => by
    show (plW (c.enc a.1) && plWs (Codec.encAll cs a.2)) = true
    rw [pl_enc c a.1, pl_encAll cs a.2] <;> rfl
theorem weight_mem : ∀ {xs : List WData} {d : WData}, d ∈ xs → d.weight ≤ WData.weightAll xs
  | [], d, h => absurd h (by simp)
  | x :: r, d, h => by
    show d.weight ≤ x.weight + 1 + WData.weightAll r
    rcases List.mem_cons.mp h with e | m
    · rw [e]
      omega
    · have z := weight_mem m
      omega
def toV : Value → V
  | .none => .non
  | .bool b => .bl b
  | .int i _ => .int i
  | .str x _ => .str x
  | .bytes b _ => .byt b
  | .ref a => .ref a
  | _ => .non
def OkU (A : List Addr) : Value → Prop
  | .none => True
  | .bool _ => True
  | .int _ _ => True
  | .str _ _ => True
  | .bytes _ _ => True
  | .ref a => a ∈ A
  | _ => False
theorem OkU.mono {A B : List Addr} (h : ∀ a ∈ A, a ∈ B) : ∀ {u : Value}, OkU A u → OkU B u := fun {u} x => by
  cases u with
  | ref a => exact h a x
  | none => trivial
  | bool b => trivial
  | int i t => trivial
  | str s t => trivial
  | bytes b t => trivial
  | _ => exact False.elim x
theorem relV_toV {A : List Addr} {u : Value} (x : OkU A u) : RelV (toV u) u := by
  cases u with
  | ref a => rfl
  | none => rfl
  | bool b => rfl
  | int i t => exact ⟨t, rfl⟩
  | str s t => exact ⟨t, rfl⟩
  | bytes b t => exact ⟨t, rfl⟩
  | _ => exact False.elim x
theorem vals_toV {A : List Addr} : ∀ {vs : List Value}, (∀ u ∈ vs, OkU A u) → Vals (vs.map toV) vs
  | [], _ => .nil
  | u :: r, h => .cons (relV_toV (h u (List.mem_cons_self ..))) (vals_toV fun x hx => h x (List.mem_cons_of_mem _ hx))
def ArgOb (h : Heap) (A : List Addr) (a : Addr) : Prop := ∃ vs : List Value, vs.length ≤ sizeLine ∧ (∀ u ∈ vs, OkU A u) ∧
  (h.get? a = some { cls := .type "list", data := .seq vs.toArray } ∨ h.get? a = some { cls := .type "tuple", data := .seq vs.toArray })
theorem ArgOb.mono {h : Heap} {A B : List Addr} {a : Addr} (k : ∀ a ∈ A, a ∈ B) (x : ArgOb h A a) : ArgOb h B a := by
  obtain ⟨vs, h1, h2, h3⟩ := x
  exact ⟨vs, h1, fun u hu => (h2 u hu).mono k, h3⟩
theorem wellAll_len {P : Params} {h : Heap} : ∀ {vs : List Value} {ds : List WData}, WellAll P h vs ds → vs.length = ds.length
  | _, _, .nil => rfl
  | _, _, .cons _ b => by
    show _ + 1 = _ + 1
    rw [wellAll_len b]
theorem well_list {P : Params} {h : Heap} {v : Value} {ds : List WData} (x : Well P h v (.list ds)) : ∃ (a : Addr) (vs : List Value), v = .ref a ∧ h.get? a = some { cls := .type "list", data := .seq vs.toArray } ∧ WellAll P h vs ds := by
  cases x with
  | list ho hall => exact ⟨_, _, rfl, ho, hall⟩
theorem well_tuple {P : Params} {h : Heap} {v : Value} {ds : List WData} (x : Well P h v (.tuple ds)) : ∃ (a : Addr) (vs : List Value), v = .ref a ∧ h.get? a = some { cls := .type "tuple", data := .seq vs.toArray } ∧ WellAll P h vs ds := by
  cases x with
  | tuple ho hall => exact ⟨_, _, rfl, ho, hall⟩
theorem well_cons {P : Params} {h : Heap} {us : List Value} {d : WData} {ds : List WData} (x : WellAll P h us (d :: ds)) : ∃ (v : Value) (vs : List Value), us = v :: vs ∧ Well P h v d ∧ WellAll P h vs ds := by
  cases x with
  | cons a b => exact ⟨_, _, rfl, a, b⟩
theorem line_of {n : Nat} (h : n ≤ 1048576) : n ≤ sizeLine := Nat.le_trans h (by decide)
section
variable {P : Params} {h : Heap}
mutual
theorem area_one : ∀ (d : WData) (v : Value), Well P h v d → plW d = true → d.weight ≤ 1048576 → ∃ A : List Addr, OkU A v ∧ ∀ a ∈ A, ArgOb h A a
  | .none, _, x, _, _ => by
    cases x
    exact ⟨[], trivial, fun a m => absurd m (by simp)⟩
  | .bool b, _, x, _, _ => by
    cases x
    exact ⟨[], trivial, fun a m => absurd m (by simp)⟩
  | .int i, _, x, _, _ => by
    cases x
    exact ⟨[], trivial, fun a m => absurd m (by simp)⟩
  | .str s, _, x, _, _ => by
    cases x
    exact ⟨[], trivial, fun a m => absurd m (by simp)⟩
  | .bytes b, _, x, _, _ => by
    cases x
    exact ⟨[], trivial, fun a m => absurd m (by simp)⟩
  | .list ds, _, x, p, z => by
    obtain ⟨a, vs, rfl, ho, hall⟩ := well_list x
    have z2 : WData.weightAll ds ≤ 1048576 := z
    obtain ⟨A, h1, h2⟩ := area_all ds _ hall p fun d hd => Nat.le_trans (weight_mem hd) z2
    have k : ∀ b ∈ A, b ∈ a :: A := fun b hb => List.mem_cons_of_mem _ hb
    refine ⟨a :: A, List.mem_cons_self .., fun b hb => ?_⟩
    rcases List.mem_cons.mp hb with e | m
    · rw [e]
      exact ⟨vs, line_of (by rw [wellAll_len hall]; exact Nat.le_trans (PySem.W.length_le_weightAllW ds) z2), fun u hu => (h1 u hu).mono k, .inl ho⟩
    · exact (h2 b m).mono k
  | .tuple ds, _, x, p, z => by
    obtain ⟨a, vs, rfl, ho, hall⟩ := well_tuple x
    have z2 : WData.weightAll ds ≤ 1048576 := z
    obtain ⟨A, h1, h2⟩ := area_all ds _ hall p fun d hd => Nat.le_trans (weight_mem hd) z2
    have k : ∀ b ∈ A, b ∈ a :: A := fun b hb => List.mem_cons_of_mem _ hb
    refine ⟨a :: A, List.mem_cons_self .., fun b hb => ?_⟩
    rcases List.mem_cons.mp hb with e | m
    · rw [e]
      exact ⟨vs, line_of (by rw [wellAll_len hall]; exact Nat.le_trans (PySem.W.length_le_weightAllW ds) z2), fun u hu => (h1 u hu).mono k, .inr ho⟩
    · exact (h2 b m).mono k
  | .float _, _, _, p, _ => Bool.noConfusion (show false = true from p)
  | .dict _, _, _, p, _ => Bool.noConfusion (show false = true from p)
  | .bytearray _, _, _, p, _ => Bool.noConfusion (show false = true from p)
  | .set _, _, _, p, _ => Bool.noConfusion (show false = true from p)
  | .frozenset _, _, _, p, _ => Bool.noConfusion (show false = true from p)
  | .obj _ _, _, _, p, _ => Bool.noConfusion (show false = true from p)
theorem area_all : ∀ (ds : List WData) (vs : List Value), WellAll P h vs ds → plWs ds = true → (∀ d ∈ ds, d.weight ≤ 1048576) → ∃ A : List Addr, (∀ u ∈ vs, OkU A u) ∧ ∀ a ∈ A, ArgOb h A a
  | [], _, x, _, _ => by
    cases x
    exact ⟨[], fun u m => absurd m (by simp), fun a m => absurd m (by simp)⟩
  | d :: ds, _, x, p, z => by
    obtain ⟨v, vs, rfl, x1, x2⟩ := well_cons x
    have q : plW d = true ∧ plWs ds = true := Bool.and_eq_true_iff.mp p
    obtain ⟨A, a1, a2⟩ := area_one d v x1 q.1 (z d (List.mem_cons_self ..))
    obtain ⟨B, b1, b2⟩ := area_all ds vs x2 q.2 fun e he => z e (List.mem_cons_of_mem _ he)
    have kA : ∀ b ∈ A, b ∈ A ++ B := fun b hb => List.mem_append.mpr (.inl hb)
    have kB : ∀ b ∈ B, b ∈ A ++ B := fun b hb => List.mem_append.mpr (.inr hb)
    refine ⟨A ++ B, fun u hu => ?_, fun b hb => ?_⟩
    · rcases List.mem_cons.mp hu with e | m
      · rw [e]
        exact a1.mono kA
      · exact (b1 u m).mono kB
    · rcases List.mem_append.mp hb with m | m
      · exact (a2 b m).mono kA
      · exact (b2 b m).mono kB
end
end
def hoOf (o : Obj) : Option HO := match o.data with
  | .seq vs _ => if (o.cls == Value.type "list") = true then some (.frz o (.lst (vs.toList.map toV))) else some (.frz o (.tup (vs.toList.map toV)))
  | _ => none
def argH (K : PySem.W.Frag) (h : Heap) (A : List Addr) : Hp := fun b => if b ∈ A then (if (K.lookup b).isNone = true then (h.get? b).bind hoOf else none) else none
def OnlyF (H : Hp) : Prop := ∀ b, H b = none ∨ ∃ o u, H b = some (.frz o u)
theorem hoOf_lst (vs : List Value) : hoOf { cls := .type "list", data := .seq vs.toArray } = some (.frz { cls := .type "list", data := .seq vs.toArray } (.lst (vs.map toV))) := by
  show (if (Value.type "list" == Value.type "list") = true then some (HO.frz { cls := .type "list", data := .seq vs.toArray } (.lst (vs.toArray.toList.map toV))) else some (HO.frz { cls := .type "list", data := .seq vs.toArray } (.tup (vs.toArray.toList.map toV)))) = _
  rw [if_pos (beq_self_eq_true _)]
theorem hoOf_tup (vs : List Value) : hoOf { cls := .type "tuple", data := .seq vs.toArray } = some (.frz { cls := .type "tuple", data := .seq vs.toArray } (.tup (vs.map toV))) := by
  show (if (Value.type "tuple" == Value.type "list") = true then some (HO.frz { cls := .type "tuple", data := .seq vs.toArray } (.lst (vs.toArray.toList.map toV))) else some (HO.frz { cls := .type "tuple", data := .seq vs.toArray } (.tup (vs.toArray.toList.map toV)))) = _
  rw [if_neg (by decide)]
section
variable {P : Program} {w : World} {K : PySem.W.Frag} {h : Heap} {A : List Addr}
theorem argH_at {b : Addr} {o : Obj} (hb : b ∈ A) (hk : K.lookup b = none) (e : h.get? b = some o) : argH K h A b = hoOf o := by
  unfold argH
  rw [if_pos hb, hk, if_pos (show (none : Option Obj).isNone = true from rfl), e] <;> rfl
theorem of_argH {b : Addr} {u : HO} (q : argH K h A b = some u) : b ∈ A ∧ K.lookup b = none := by
  unfold argH at q
  by_cases hb : b ∈ A
  · rw [if_pos hb] at q
    cases hk : K.lookup b with
    | none => exact ⟨hb, rfl⟩
    | some o =>
      rw [hk, if_neg (by simp)] at q
      cases q
  · rw [if_neg hb] at q
    cases q
theorem argH_is (ar : ∀ a ∈ A, ArgOb h A a) {b : Addr} {u : HO} (q : argH K h A b = some u) : K.lookup b = none ∧ ∃ vs : List Value, vs.length ≤ sizeLine ∧ (∀ u ∈ vs, OkU A u) ∧
    ((h.get? b = some { cls := .type "list", data := .seq vs.toArray } ∧ u = .frz { cls := .type "list", data := .seq vs.toArray } (.lst (vs.map toV))) ∨
     (h.get? b = some { cls := .type "tuple", data := .seq vs.toArray } ∧ u = .frz { cls := .type "tuple", data := .seq vs.toArray } (.tup (vs.map toV)))) := by
  obtain ⟨hb, hk⟩ := of_argH q
  obtain ⟨vs, h1, h2, h3⟩ := ar b hb
  refine ⟨hk, vs, h1, h2, ?_⟩
  rcases h3 with e | e
  · rw [argH_at hb hk e, hoOf_lst] at q
    exact .inl ⟨e, (Option.some.inj q).symm⟩
  · rw [argH_at hb hk e, hoOf_tup] at q
    exact .inr ⟨e, (Option.some.inj q).symm⟩
theorem argH_only (ar : ∀ a ∈ A, ArgOb h A a) : OnlyF (argH K h A) := fun b => by
  cases q : argH K h A b with
  | none => exact .inl rfl
  | some u =>
    obtain ⟨_, vs, _, _, ⟨_, e⟩ | ⟨_, e⟩⟩ := argH_is ar q
    · exact .inr ⟨_, _, by rw [e]⟩
    · exact .inr ⟨_, _, by rw [e]⟩
theorem argH_ok (ar : ∀ a ∈ A, ArgOb h A a) : HOk P w (argH K h A) h := fun b u q => by
  obtain ⟨_, vs, h1, h2, ⟨e, rfl⟩ | ⟨e, rfl⟩⟩ := argH_is ar q
  · exact ⟨e, by rw [List.length_map]; exact h1, vs, _, vals_toV h2, e⟩
  · exact ⟨e, by rw [List.length_map]; exact h1, vs, vals_toV h2, _, e, rfl, _, rfl⟩
theorem seq_inj {c c' : Value} {vs us : List Value} (e : (some { cls := c, data := .seq vs.toArray } : Option Obj) = some { cls := c', data := .seq us.toArray }) : c = c' ∧ vs = us := by
  have e1 := Option.some.inj e
  have e2 : c = c' := congrArg Obj.cls e1
  have e3 : Data.seq vs.toArray = Data.seq us.toArray := congrArg Obj.data e1
  injection e3 with e4
  refine ⟨e2, ?_⟩
  have e5 := congrArg Array.toList e4
  simpa using e5
theorem argL (KX : K.In h) (ar : ∀ a ∈ A, ArgOb h A a) {a : Addr} {vs : List Value} (ha : a ∈ A) (e : h.get? a = some { cls := .type "list", data := .seq vs.toArray }) : (∀ u ∈ vs, OkU A u) ∧ SqL K (argH K h A) a (vs.map toV) := by
  obtain ⟨us, h1, h2, h3⟩ := ar a ha
  have hu : us = vs := by
    rcases h3 with q | q
    · rw [e] at q
      exact (seq_inj q).2.symm
    · rw [e] at q
      exact absurd (Value.type.inj (seq_inj q).1) (by decide)
  subst hu
  refine ⟨h2, ?_⟩
  cases hk : K.lookup a with
  | none => exact .inl (.inr ⟨_, by rw [argH_at ha hk e, hoOf_lst]⟩)
  | some o =>
    have e2 := KX a o hk
    rw [e] at e2
    obtain rfl := Option.some.inj e2
    exact .inr ⟨_, us.toArray, _, hk, rfl, rfl, rfl, by rw [List.size_toArray]; exact h1, by simpa using vals_toV h2⟩
theorem argT (KX : K.In h) (ar : ∀ a ∈ A, ArgOb h A a) {a : Addr} {vs : List Value} (ha : a ∈ A) (e : h.get? a = some { cls := .type "tuple", data := .seq vs.toArray }) : (∀ u ∈ vs, OkU A u) ∧ SqT K (argH K h A) a (vs.map toV) := by
  obtain ⟨us, h1, h2, h3⟩ := ar a ha
  have hu : us = vs := by
    rcases h3 with q | q
    · rw [e] at q
      exact absurd (Value.type.inj (seq_inj q).1) (by decide)
    · rw [e] at q
      exact (seq_inj q).2.symm
  subst hu
  refine ⟨h2, ?_⟩
  cases hk : K.lookup a with
  | none => exact .inl (.inr ⟨_, by rw [argH_at ha hk e, hoOf_tup]⟩)
  | some o =>
    have e2 := KX a o hk
    rw [e] at e2
    obtain rfl := Option.some.inj e2
    exact .inr ⟨_, us.toArray, _, hk, rfl, rfl, by rw [List.size_toArray]; exact h1, by simpa using vals_toV h2⟩
mutual
theorem dw_one {Pm : Params} (KX : K.In h) (ar : ∀ a ∈ A, ArgOb h A a) : ∀ (d : WData) (v : Value), Well Pm h v d → plW d = true → OkU A v → Dw K (argH K h A) (toV v) d
  | .none, _, x, _, _ => by
    cases x
    exact .non
  | .bool b, _, x, _, _ => by
    cases x
    exact .bl b
  | .int i, _, x, _, _ => by
    cases x
    exact .int i
  | .str s, _, x, _, _ => by
    cases x
    exact .str s
  | .bytes b, _, x, _, _ => by
    cases x
    have z := Dw.byt (K := K) (H := argH K h A) b.toArray
    exact z
  | .list ds, _, x, p, hu => by
    obtain ⟨a, vs, rfl, ho, hall⟩ := well_list x
    obtain ⟨h2, hs⟩ := argL KX ar hu ho
    exact .lst hs (dw_all KX ar ds _ hall p h2)
  | .tuple ds, _, x, p, hu => by
    obtain ⟨a, vs, rfl, ho, hall⟩ := well_tuple x
    obtain ⟨h2, hs⟩ := argT KX ar hu ho
    exact .tup hs (dw_all KX ar ds _ hall p h2)
  | .float _, _, _, p, _ => Bool.noConfusion (show false = true from p)
  | .dict _, _, _, p, _ => Bool.noConfusion (show false = true from p)
  | .bytearray _, _, _, p, _ => Bool.noConfusion (show false = true from p)
  | .set _, _, _, p, _ => Bool.noConfusion (show false = true from p)
  | .frozenset _, _, _, p, _ => Bool.noConfusion (show false = true from p)
  | .obj _ _, _, _, p, _ => Bool.noConfusion (show false = true from p)
theorem dw_all {Pm : Params} (KX : K.In h) (ar : ∀ a ∈ A, ArgOb h A a) : ∀ (ds : List WData) (vs : List Value), WellAll Pm h vs ds → plWs ds = true → (∀ u ∈ vs, OkU A u) → DwAll K (argH K h A) (vs.map toV) ds
  | [], _, x, _, _ => by
    cases x
    exact .nil
  | d :: ds, _, x, p, hu => by
    obtain ⟨v, vs, rfl, x1, x2⟩ := well_cons x
    have q : plW d = true ∧ plWs ds = true := Bool.and_eq_true_iff.mp p
    exact .cons (dw_one KX ar d v x1 q.1 (hu _ (List.mem_cons_self ..))) (dw_all KX ar ds vs x2 q.2 fun u m => hu u (List.mem_cons_of_mem _ m))
end
end
theorem spec_call {P : Program} {w : World} {K : PySem.W.Frag} {mg mb : Str → Option Value} {CX : CXT} {k : Nat} {fa : Addr} {fd : FuncData} {ps : List Str} {sp : Sp} {s₁ : Shared} {vals : List Value} {ds : List WData} {R : PySem.W.WRecords} {cl : Str → Option Addr} {d0 : WData}
    (KX : K.In s₁.heap) (hns : s₁.heap.Ns mainGlobals mg) (hb : s₁.heap.Ns builtinsNs mb) (hbb : ∀ x : Str, x ≠ "__name__" → mb x = bootBuiltins x) (hlim : s₁.heap.NoLimit) (hse : s₁.heap.NoSeer) (hdg : s₁.heap.NoDigits) (hg : s₁.gens = #[])
    (hwl : WellAll w.params s₁.heap vals ds) (hpl : plWs ds = true) (hwt : ∀ d ∈ ds, d.weight ≤ 1048576) (hr : Room k callerA)
    (F : ∀ base : Heap, K.In base → base.Ns mainGlobals mg → base.NoSeer → base.NoDigits → FnOk P w K mg base CX k fa fd ps sp) (hbind : ∀ (s : Shared) (us : List Value), us.length = ps.length → BindsTo s fd ⟨us, []⟩ (ps.zip us)) (hlen : ds.length = ps.length)
    (hsp : ∀ (H : Hp) (xs : List V), OnlyF H → DwAll K H xs ds → sp xs H (fun v H' => Dw K H' v d0) fun _ _ _ => False)
    (hCX : ∀ H e s', CX [] H s₁ (fun _ _ _ => False) e s' → False) :
    codeAny (model P w) callerA (.call (.ref fa) ⟨vals, []⟩) (fun r s' => ∃ u as, r = .ok (.ret u) ∧ ReadsW R cl s'.heap u d0 as ∧ OldK s₁.heap s'.heap ∧ s'.os = s₁.os ∧ AllBare s'.gens) s₁ := by
  obtain ⟨A, ho, ar⟩ := area_all ds vals hwl hpl hwt
  have hO : OnlyF (argH K s₁.heap A) := argH_only ar
  have hok : HOk P w (argH K s₁.heap A) s₁.heap := argH_ok ar
  have hS := dw_all KX ar ds vals hwl hpl ho
  have hV := vals_toV ho
  have hK : ∀ b u, argH K s₁.heap A b = some u → K.lookup b = none := fun b u q => (argH_is ar q).1
  have noA : ∀ {b : Addr} {o : Obj} {es : Array DictEntry} {ep : Nat}, s₁.heap.get? b = some o → o.data = .dict es ep → argH K s₁.heap A b = none := fun {b o es ep} e d => by
    cases q : argH K s₁.heap A b with
    | none => rfl
    | some u =>
      obtain ⟨_, vs, _, _, ⟨e2, _⟩ | ⟨e2, _⟩⟩ := argH_is ar q
      · rw [e2] at e
        cases e
        have d' : Data.seq vs.toArray _ = Data.dict es ep := d
        cases d'
      · rw [e2] at e
        cases e
        have d' : Data.seq vs.toArray _ = Data.dict es ep := d
        cases d'
  have noM : ∀ {b : Addr} {o : Obj}, s₁.heap.get? b = some o → o.cls = .type "module" → argH K s₁.heap A b = none := fun {b o} e d => by
    cases q : argH K s₁.heap A b with
    | none => rfl
    | some u =>
      obtain ⟨_, vs, _, _, ⟨e2, _⟩ | ⟨e2, _⟩⟩ := argH_is ar q
      · rw [e2] at e
        cases e
        exact absurd (Value.type.inj d) (by decide)
      · rw [e2] at e
        cases e
        exact absurd (Value.type.inj d) (by decide)
  generalize argH K s₁.heap A = H at hO hok hS hK noA noM
  have base_of : ∀ {b : Addr} {o : Obj}, s₁.heap.get? b = some o → H b = none → (hidT s₁.heap H).get? b = some o := fun e n => hidT_get e n
  have nsK : ∀ {b : Addr} {m : Str → Option Value}, s₁.heap.Ns b m → (hidT s₁.heap H).Ns b m := fun {b m} ⟨o, es, ep, e, d, r⟩ => ⟨o, es, ep, base_of e (noA e d), d, r⟩
  have nK : ∀ b o, K.lookup b = some o → H b = none := fun b o e => by
    cases q : H b with
    | none => rfl
    | some u =>
      rw [hK b u q] at e
      cases e
  have hKb : K.In (hidT s₁.heap H) := fun b o e => base_of (KX b o e) (nK b o e)
  have hSe : (hidT s₁.heap H).NoSeer := ⟨(let ⟨mc, a, b⟩ := hse.statics; ⟨mc, nsK a, b⟩), (let ⟨mc, a, b⟩ := hse.mods; ⟨mc, nsK a, b⟩), (let ⟨mc, a, b⟩ := hse.imp; ⟨mc, nsK a, b⟩), (let ⟨m1, bm, ob, a, b, c, d, e⟩ := hse.main; ⟨m1, bm, ob, nsK a, b, base_of c (noM c d), d, e⟩)⟩
  have hDg : (hidT s₁.heap H).NoDigits := (let ⟨mc, a, b⟩ := hdg; ⟨mc, nsK a, b⟩)
  have hM : Mod K mg (hidT s₁.heap H) := ⟨hKb, nsK hns, ⟨mb, nsK hb, hbb⟩, let ⟨mc, h1, h2⟩ := hlim; ⟨mc, nsK h1, h2⟩⟩
  have e0 : Env0 P w K mg (hidT s₁.heap H) callerA [] s₁ H := ⟨rfl, hM, fun b o e => of_hidT e, Nat.le_of_eq (hidT_size _ _), trivial, fun b hb => absurd (show b ∈ ([] : List Addr) from hb) (by simp), hok, .of_eq hg⟩
  have hl : vals.length = ps.length := by rw [wellAll_len hwl]; exact hlen
  refine codeAny_mono ((F _ hKb (nsK hns) hSe hDg).run callerA [] s₁ H ⟨vals, []⟩ vals (vals.map toV) _ _ hr e0 (hbind s₁ vals hl) hV (hsp H _ hO hS)) fun r s' x => ?_
  cases r with
  | error e => exact (hCX H e s' x).elim
  | ok fl =>
    cases fl with
    | next => exact False.elim x
    | brk => exact False.elim x
    | cont => exact False.elim x
    | ret u =>
      obtain ⟨v, H', os, bare, un, hok', r', q⟩ := x
      have kept : ∀ b o, s₁.heap.get? b = some o → s'.heap.get? b = some o := fun b o e => by
        cases q2 : H b with
        | none => exact un.keep b o e q2 (by intro z; exact absurd (show b ∈ ([] : List Addr) from z) (by simp)) (by simp)
        | some u2 =>
          rcases hO b with z | ⟨ob, u3, z⟩
          · rw [q2] at z
            cases z
          · have z2 := un.frzs b ob _ z
            obtain ⟨e1, _⟩ := hok b _ z
            obtain ⟨e2, _⟩ := hok' b _ z2
            rw [e] at e1
            cases e1
            exact e2
      have KX' : K.In s'.heap := fun b o e => kept b o (KX b o e)
      obtain ⟨as, hrd⟩ := Dw.reads (R := R) (cl := cl) hok' KX' d0 v u q r'
      exact ⟨u, as, rfl, hrd, OldK.of_keep kept, os, bare⟩
theorem layable_weight {ds : List WData} (h : WData.layableAll ds = true) : ∀ d ∈ ds, d.weight ≤ 1048576 := fun d hd =>
  (PySem.W.layableW_iff.mp (List.all_eq_true.mp h d hd)).2.2
theorem encAll_len : ∀ (cs : List Codec) (a : Codec.denoteAll cs), (Codec.encAll cs a).length = cs.length
  | [], _ => rfl
  | c :: cs, a => by
    show (Codec.encAll cs a.2).length + 1 = cs.length + 1
    rw [encAll_len cs a.2]
theorem walk_spec {r : OpenSpec} {k : Nat} {q : Program} {loose : List Str} {XP : (Str → Option Value) → Heap → Prop} {YP : World → Heap → Prop} {d : DefRec} {K : Params → PySem.W.Frag} {CX : World → CXT} {ps : List Str} {sp : World → Sp}
    (hwell : r.wellSaid = true) (hq : importsNone q = true) (hdf : d.params.defaults = []) (hlen : r.args.length = ps.length) (hr : Room k callerA)
    (hY : ∀ (w : World) (h : Heap), YP w h → (K w.params).In h)
    (F : ∀ (w : World) (mg : Str → Option Value) (fa : Addr) (h : Heap), YP w h → (K w.params).In h → h.Ns mainGlobals mg → mg d.name = some (.ref fa) →
      ∃ fd : FuncData, (∀ (s : Shared) (us : List Value), us.length = ps.length → BindsTo s fd ⟨us, []⟩ (ps.zip us)) ∧
        ∀ base : Heap, (K w.params).In base → base.Ns mainGlobals mg → base.NoSeer → base.NoDigits → FnOk r.prog w (K w.params) mg base (CX w) k fa fd ps (sp w))
    (hsp : ∀ (w : World) (H : Hp) (xs : List V) (a : Codec.denoteAll r.args), OnlyF H → Codec.withinAll r.args a = true → Codec.app r.args r.asked a = true → DwAll (K w.params) H xs (Codec.encAll r.args a) →
      sp w xs H (fun v H' => Dw (K w.params) H' v (r.ret.enc (Codec.app r.args r.f a))) fun _ _ _ => False)
    (hCX : ∀ (w : World) (H : Hp) (s : Shared) (e : Value) (s' : Shared), CX w [] H s (fun _ _ _ => False) e s' → False) :
    PySem.W.WalkOS q loose XP YP r d [] (fun f vs => PySem.call f vs) := by
  intro w s_0 s₁ mg mb G Y fa o pm cd doc dV kV ho hd hcd hD hmg hg args vals as hpre hlay hrd hwl hlo
  obtain ⟨a, e1, e2⟩ := PySem.W.os_pre_some hpre
  obtain ⟨e3, hwi⟩ := Codec.encAll_of_decAll r.args args a e1
  subst e3
  have KX := hY w _ Y
  obtain ⟨fd, hb, hF⟩ := F w mg fa _ Y KX G.T.g hmg
  refine PySem.W.enter_call (codeAny_mono (spec_call (R := []) (cl := classAt s_0.heap) (d0 := r.ret.enc (Codec.app r.args r.f a)) KX G.T.g G.T.b G.T.builtins G.T.nolimit (G.T.seer hq) G.T.nodigits hg hwl (pl_encAll _ _) (layable_weight hlay) hr hF hb (by rw [encAll_len]; exact hlen)
    (fun H xs hO hS => hsp w H xs a hO hwi e2 hS) fun H e s' => hCX w H s₁ e s') fun r' s' hq => ?_)
  obtain ⟨u, as', rfl, h1, h2, h3, h4⟩ := hq
  exact ⟨.inl ⟨u, _, as', rfl, fun _ => rfl, h1, (OpenSpec.post_iff hwell hwi _ _).mpr rfl, fun z => Bool.noConfusion (show false = true from z)⟩, h2, h3, h4⟩
theorem walk_specK {r : OpenSpec} {k : Nat} {q : Program} {loose : List Str} {XP : (Str → Option Value) → Heap → Prop} {YP : World → Heap → Prop} {d : DefRec} {K : Params → PySem.W.Frag} {CX : CXT} {ps : List Str} {sp : PySem.W.Frag → Sp}
    (hwell : r.wellSaid = true) (hq : importsNone q = true) (hdf : d.params.defaults = []) (hlen : r.args.length = ps.length) (hr : Room k callerA)
    (hY : ∀ (w : World) (h : Heap), YP w h → (K w.params).In h)
    (F : ∀ (w : World) (mg : Str → Option Value) (fa : Addr) (h : Heap), YP w h → (K w.params).In h → h.Ns mainGlobals mg → mg d.name = some (.ref fa) →
      ∃ fd : FuncData, (∀ (s : Shared) (us : List Value), us.length = ps.length → BindsTo s fd ⟨us, []⟩ (ps.zip us)) ∧
        ∀ base : Heap, (K w.params).In base → base.Ns mainGlobals mg → base.NoSeer → base.NoDigits → FnOk r.prog w (K w.params) mg base CX k fa fd ps (sp (K w.params)))
    (hsp : ∀ (K : PySem.W.Frag) (H : Hp) (xs : List V) (a : Codec.denoteAll r.args), OnlyF H → Codec.withinAll r.args a = true → Codec.app r.args r.asked a = true → DwAll K H xs (Codec.encAll r.args a) →
      sp K xs H (fun v H' => Dw K H' v (r.ret.enc (Codec.app r.args r.f a))) fun _ _ _ => False)
    (hCX : ∀ (H : Hp) (s : Shared) (e : Value) (s' : Shared), CX [] H s (fun _ _ _ => False) e s' → False) :
    PySem.W.WalkOS q loose XP YP r d [] (fun f vs => PySem.call f vs) :=
  walk_spec (K := K) (CX := fun _ => CX) (sp := fun w => sp (K w.params)) hwell hq hdf hlen hr hY F (fun w H xs a h1 h2 h3 h4 => hsp (K w.params) H xs a h1 h2 h3 h4) fun _ H s e s' => hCX H s e s'
end L2
-- rests on (row put in by the clerk, for the bench that shows a file only what it spells): KE.SpHead KE.OsShapes
end
end
section
/-! Ordered fields in which a root is adjoined: plain Lean, no library. -/
set_option Elab.async false
namespace Rr
open Lean.Grind Std
/-- an ordered field -/
class OF (K : Type) extends Field K, LE K, LT K, LawfulOrderLT K, IsLinearOrder K, OrderedRing K
instance (priority := low) instNatOF {K : Type} [CommRing K] : NatCast K := Semiring.natCast
instance (priority := low) instIntOF {K : Type} [CommRing K] : IntCast K := Ring.intCast
section
variable {K : Type} [OF K]
theorem mul_nn {a b : K} (ha : 0 ≤ a) (hb : 0 ≤ b) : 0 ≤ a * b := OrderedRing.mul_nonneg ha hb
theorem mul_ps {a b : K} (ha : 0 < a) (hb : 0 < b) : 0 < a * b := OrderedRing.mul_pos ha hb
theorem sq_nn (a : K) : 0 ≤ a * a := by
  rcases (show 0 ≤ a ∨ a ≤ 0 by grind) with h | h
  · exact mul_nn h h
  · have := mul_nn (a := -a) (b := -a) (by grind) (by grind)
    grind
theorem mul_z {a b : K} (h : a * b = 0) : a = 0 ∨ b = 0 := by grind
theorem sq_z {a : K} (h : a * a = 0) : a = 0 := by grind
/-- x * x ≤ y * y, 0 ≤ y : x ≤ y -/
theorem le_of_sq {x y : K} (hy : 0 ≤ y) (h : x * x ≤ y * y) : x ≤ y := by
  rcases (show x ≤ y ∨ y < x by grind) with q | q
  · exact q
  · have h1 := mul_nn hy (show 0 ≤ x - y by grind)
    have h2 := mul_ps (show 0 < x - y by grind) (show 0 < x by grind)
    grind
theorem neg_le_of_sq {x y : K} (hy : 0 ≤ y) (h : x * x ≤ y * y) : 0 ≤ y + x := by
  have := le_of_sq (x := -x) hy (by grind)
  grind
theorem inv_pos {a : K} (h : 0 < a) : 0 < a⁻¹ := by
  have h0 : a * a⁻¹ = 1 := Field.mul_inv_cancel (by grind)
  have h1 : (0 : K) < 1 := OrderedRing.zero_lt_one
  rcases (show 0 < a⁻¹ ∨ a⁻¹ ≤ 0 by grind) with q | q
  · exact q
  · have := mul_nn (a := a) (b := -a⁻¹) (by grind) (by grind)
    grind
theorem inv_neg' {a : K} (h : a < 0) : a⁻¹ < 0 := by
  have h2 := inv_pos (a := -a) (by grind)
  have h0 : (-a) * (-a)⁻¹ = 1 := Field.mul_inv_cancel (by grind)
  have h3 : a * a⁻¹ = 1 := Field.mul_inv_cancel (by grind)
  have : (-a)⁻¹ = - a⁻¹ := by grind
  grind
end
/-! ### the pairs a + b root c -/
/-- a + b times the root of c -/
@[ext] structure Qd (K : Type) (c : K) where
  a : K
  b : K
section
variable {K : Type} [CommRing K] {c : K}
namespace Qd
instance : Add (Qd K c) := ⟨fun x y => ⟨x.a + y.a, x.b + y.b⟩⟩
instance : Mul (Qd K c) := ⟨fun x y => ⟨x.a * y.a + x.b * y.b * c, x.a * y.b + x.b * y.a⟩⟩
instance : Neg (Qd K c) := ⟨fun x => ⟨-x.a, -x.b⟩⟩
instance : Sub (Qd K c) := ⟨fun x y => ⟨x.a - y.a, x.b - y.b⟩⟩
instance : NatCast (Qd K c) := ⟨fun n => ⟨(n : K), 0⟩⟩
instance : IntCast (Qd K c) := ⟨fun n => ⟨(n : K), 0⟩⟩
instance (n : Nat) : OfNat (Qd K c) n := ⟨⟨OfNat.ofNat n, 0⟩⟩
instance : SMul Nat (Qd K c) := ⟨fun n x => (n : Qd K c) * x⟩
instance : SMul Int (Qd K c) := ⟨fun n x => (n : Qd K c) * x⟩
def npow (x : Qd K c) : Nat → Qd K c
  | 0 => 1
  | n + 1 => npow x n * x
instance : HPow (Qd K c) Nat (Qd K c) := ⟨npow⟩
theorem add_a (x y : Qd K c) : (x + y).a = x.a + y.a := rfl
theorem add_b (x y : Qd K c) : (x + y).b = x.b + y.b := rfl
theorem mul_a (x y : Qd K c) : (x * y).a = x.a * y.a + x.b * y.b * c := rfl
theorem mul_b (x y : Qd K c) : (x * y).b = x.a * y.b + x.b * y.a := rfl
theorem neg_a (x : Qd K c) : (-x).a = -x.a := rfl
theorem neg_b (x : Qd K c) : (-x).b = -x.b := rfl
theorem sub_a (x y : Qd K c) : (x - y).a = x.a - y.a := rfl
theorem sub_b (x y : Qd K c) : (x - y).b = x.b - y.b := rfl
theorem nat_a (n : Nat) : ((n : Qd K c)).a = (n : K) := rfl
theorem nat_b (n : Nat) : ((n : Qd K c)).b = 0 := rfl
theorem int_a (n : Int) : ((n : Qd K c)).a = (n : K) := rfl
theorem int_b (n : Int) : ((n : Qd K c)).b = 0 := rfl
theorem ofNat_a (n : Nat) : ((OfNat.ofNat n : Qd K c)).a = OfNat.ofNat n := rfl
theorem ofNat_b (n : Nat) : ((OfNat.ofNat n : Qd K c)).b = 0 := rfl
theorem zero_a : ((0 : Qd K c)).a = 0 := rfl
theorem zero_b : ((0 : Qd K c)).b = 0 := rfl
theorem one_a : ((1 : Qd K c)).a = 1 := rfl
theorem one_b : ((1 : Qd K c)).b = 0 := rfl
theorem pow_zero' (x : Qd K c) : x ^ 0 = 1 := rfl
theorem pow_succ' (x : Qd K c) (n : Nat) : x ^ (n + 1) = x ^ n * x := rfl
theorem smul_n (n : Nat) (x : Qd K c) : n • x = (n : Qd K c) * x := rfl
theorem smul_z (n : Int) (x : Qd K c) : n • x = (n : Qd K c) * x := rfl
instance : CommRing (Qd K c) where
  add_zero x := by ext <;> simp only [add_a, add_b, zero_a, zero_b] <;> grind
  add_comm x y := by ext <;> simp only [add_a, add_b] <;> grind
  add_assoc x y z := by ext <;> simp only [add_a, add_b] <;> grind
  mul_assoc x y z := by ext <;> simp only [mul_a, mul_b] <;> grind
  mul_one x := by ext <;> simp only [mul_a, mul_b, one_a, one_b] <;> grind
  one_mul x := by ext <;> simp only [mul_a, mul_b, one_a, one_b] <;> grind
  left_distrib x y z := by ext <;> simp only [mul_a, mul_b, add_a, add_b] <;> grind
  right_distrib x y z := by ext <;> simp only [mul_a, mul_b, add_a, add_b] <;> grind
  zero_mul x := by ext <;> simp only [mul_a, mul_b, zero_a, zero_b] <;> grind
  mul_zero x := by ext <;> simp only [mul_a, mul_b, zero_a, zero_b] <;> grind
  pow_zero := pow_zero'
  pow_succ := pow_succ'
  ofNat_succ n := by
    ext
    · simp only [ofNat_a, add_a, one_a]; exact Semiring.ofNat_succ (α := K) n
    · simp only [ofNat_b, add_b, one_b]; grind
  ofNat_eq_natCast n := by
    ext
    · simp only [ofNat_a, nat_a]; exact Semiring.ofNat_eq_natCast (α := K) n
    · simp only [ofNat_b, nat_b]
  nsmul_eq_natCast_mul n x := rfl
  neg_add_cancel x := by ext <;> simp only [add_a, add_b, neg_a, neg_b, zero_a, zero_b] <;> grind
  sub_eq_add_neg x y := by ext <;> simp only [add_a, add_b, neg_a, neg_b, sub_a, sub_b] <;> grind
  neg_zsmul i x := by
    ext <;> simp only [smul_z, mul_a, mul_b, int_a, int_b, neg_a, neg_b, Ring.intCast_neg] <;> grind
  zsmul_natCast_eq_nsmul n x := by
    ext <;> simp only [smul_z, smul_n, mul_a, mul_b, int_a, int_b, nat_a, nat_b, Ring.intCast_natCast]
  intCast_ofNat n := by
    ext
    · simp only [int_a, ofNat_a]; exact Ring.intCast_ofNat (α := K) n
    · rfl
  intCast_neg i := by
    ext
    · simp only [int_a, neg_a]; exact Ring.intCast_neg (α := K) i
    · simp only [int_b, neg_b]; grind
  mul_comm x y := by ext <;> simp only [mul_a, mul_b] <;> grind
def N (x : Qd K c) : K := x.a * x.a - x.b * x.b * c
theorem N_mul (x y : Qd K c) : N (x * y) = N x * N y := by unfold N; simp only [mul_a, mul_b]; grind
end Qd
end
section
variable {K : Type} [OF K] {c : K}
namespace Qd
/-- not below 0 -/
def nn (x : Qd K c) : Prop := (0 ≤ x.a ∧ 0 ≤ N x) ∨ (0 ≤ x.b ∧ N x ≤ 0)
end Qd
/-- c has no root -/
structure NoRoot (K : Type) [OF K] (c : K) : Prop where
  pos : 0 < c
  no : ∀ x : K, x * x ≠ c
namespace Qd
variable (h : NoRoot K c)
include h
theorem N_zero {x : Qd K c} (q : N x = 0) : x = 0 := by
  unfold N at q
  have hb : x.b = 0 := by
    rcases Classical.em (x.b = 0) with z | z
    · exact z
    · exfalso
      have e : x.b * x.b⁻¹ = 1 := Field.mul_inv_cancel z
      refine h.no (x.a * x.b⁻¹) ?_
      grind
  have ha : x.a = 0 := by apply sq_z; grind
  ext <;> simp only [zero_a, zero_b] <;> assumption
theorem nn_mul {x y : Qd K c} (hx : nn x) (hy : nn y) : nn (x * y) := by
  have hc := h.pos
  unfold nn at *
  rw [N_mul]
  simp only [mul_a, mul_b]
  have sa := sq_nn x.a
  have sb := sq_nn x.b
  have ta := sq_nn y.a
  have tb := sq_nn y.b
  have sbc := mul_nn sb (show 0 ≤ c by grind)
  have tbc := mul_nn tb (show 0 ≤ c by grind)
  rcases hx with ⟨h1, h2⟩ | ⟨h1, h2⟩ <;> rcases hy with ⟨h3, h4⟩ | ⟨h3, h4⟩
  · left
    refine ⟨?_, mul_nn h2 h4⟩
    unfold N at h2 h4
    refine neg_le_of_sq (mul_nn h1 h3) ?_
    have e1 := mul_nn h2 ta
    have e2 := mul_nn h4 sbc
    grind
  · right
    have e0 := mul_nn (a := N x) (b := - N y) h2 (by grind)
    refine ⟨?_, by grind⟩
    unfold N at h2 h4
    refine neg_le_of_sq (mul_nn h1 h3) ?_
    have e1 := mul_nn h2 tb
    have e2 := mul_nn (a := y.b * y.b * c - y.a * y.a) (by grind) sb
    grind
  · right
    have e0 := mul_nn (a := - N x) (b := N y) (by grind) h4
    refine ⟨?_, by grind⟩
    unfold N at h2 h4
    have := neg_le_of_sq (x := x.a * y.b) (mul_nn h1 h3) (by
      have e1 := mul_nn h4 sb
      have e2 := mul_nn (a := x.b * x.b * c - x.a * x.a) (by grind) tb
      grind)
    grind
  · left
    have e0 := mul_nn (a := - N x) (b := - N y) (by grind) (by grind)
    refine ⟨?_, by grind⟩
    unfold N at h2 h4
    have := neg_le_of_sq (x := x.a * y.a) (y := x.b * y.b * c) (mul_nn (mul_nn h1 h3) (by grind)) (by
      have e1 := mul_nn (a := x.b * x.b * c - x.a * x.a) (by grind) ta
      have e2 := mul_nn (a := y.b * y.b * c - y.a * y.a) (by grind) sbc
      grind)
    grind
theorem nn_total (x : Qd K c) : nn x ∨ nn (-x) := by
  unfold nn N
  simp only [neg_a, neg_b]
  grind
theorem nn_anti {x : Qd K c} (h1 : nn x) (h2 : nn (-x)) : x = 0 := by
  have hc := h.pos
  refine N_zero h ?_
  unfold nn N at *
  simp only [neg_a, neg_b] at h2
  have sa := sq_nn x.a
  have sb := mul_nn (sq_nn x.b) (show 0 ≤ c by grind)
  have t1 : x.a = 0 → x.a * x.a = 0 := by grind
  have t2 : x.b = 0 → x.b * x.b * c = 0 := by grind
  grind
theorem nn_one_add {x : Qd K c} (hx : nn x) : nn (1 + x) := by
  have hc := h.pos
  have o : (0 : K) < 1 := OrderedRing.zero_lt_one
  unfold nn N at *
  simp only [add_a, add_b, one_a, one_b] at *
  rcases hx with ⟨h1, h2⟩ | ⟨h1, h2⟩
  · left
    grind
  · rcases (show 0 ≤ 1 + x.a ∨ 1 + x.a < 0 by grind) with q | q
    · grind
    · right
      grind
def inv (x : Qd K c) : Qd K c := ⟨x.a * (N x)⁻¹, -(x.b * (N x)⁻¹)⟩
theorem mul_inv {x : Qd K c} (hx : x ≠ 0) : x * inv x = 1 := by
  have hn : N x ≠ 0 := fun q => hx (N_zero h q)
  have e : N x * (N x)⁻¹ = 1 := Field.mul_inv_cancel hn
  ext <;> simp only [mul_a, mul_b, inv, one_a, one_b]
  · generalize (N x)⁻¹ = i at e
    unfold N at e
    grind
  · grind
theorem nn_inv {x : Qd K c} (hx : x ≠ 0) (q : nn x) : nn (inv x) := by
  have hn : N x ≠ 0 := fun q => hx (N_zero h q)
  have e : N x * (N x)⁻¹ = 1 := Field.mul_inv_cancel hn
  have eN : N (inv x) = (N x)⁻¹ := by
    unfold inv
    generalize (N x)⁻¹ = i at e
    unfold N at *
    grind
  unfold nn at *
  rw [eN]
  rcases q with ⟨h1, h2⟩ | ⟨h1, h2⟩
  · left
    have p := inv_pos (a := N x) (by grind)
    refine ⟨?_, by grind⟩
    show 0 ≤ x.a * (N x)⁻¹
    exact mul_nn h1 (by grind)
  · right
    have p := inv_neg' (a := N x) (by grind)
    refine ⟨?_, by grind⟩
    show 0 ≤ -(x.b * (N x)⁻¹)
    have := mul_nn h1 (b := -(N x)⁻¹) (by grind)
    grind
theorem nn_add {x y : Qd K c} (hx : nn x) (hy : nn y) : nn (x + y) := by
  rcases Classical.em (x = 0) with z | z
  · rw [z]
    have : (0 : Qd K c) + y = y := by grind
    rw [this]; exact hy
  · have e := mul_inv h z
    have : x + y = x * (1 + inv x * y) := by grind
    rw [this]
    exact nn_mul h hx (nn_one_add h (nn_mul h (nn_inv h z hx) hy))
omit h in
theorem nn_zero : nn (0 : Qd K c) := by
  left
  unfold N
  simp only [zero_a, zero_b]
  grind
end Qd
end
section
variable {K : Type} [OF K] {c : K} (h : NoRoot K c)
open Qd
open Classical in
noncomputable def qInv (_ : NoRoot K c) (x : Qd K c) : Qd K c := if x = 0 then 0 else Qd.inv x
noncomputable def qzp (h : NoRoot K c) (x : Qd K c) : Int → Qd K c
  | .ofNat n => x ^ n
  | .negSucc n => qInv h (x ^ (n + 1))
theorem qInv_zero : qInv h 0 = 0 := by unfold qInv; rw [if_pos rfl]
theorem qInv_mul {x : Qd K c} (hx : x ≠ 0) : x * qInv h x = 1 := by unfold qInv; rw [if_neg hx]; exact mul_inv h hx
theorem q01 : (0 : Qd K c) ≠ 1 := by
  intro e
  have : (0 : Qd K c).a = (1 : Qd K c).a := by rw [e]
  simp only [zero_a, one_a] at this
  exact Field.zero_ne_one this
theorem qInv_qInv (x : Qd K c) : qInv h (qInv h x) = x := by
  rcases Classical.em (x = 0) with z | z
  · rw [z, qInv_zero, qInv_zero]
  · have e := qInv_mul h z
    have n : qInv h x ≠ 0 := by
      intro q; rw [q] at e
      exact q01 (K := K) (c := c) (by grind)
    have e2 := qInv_mul h n
    grind
theorem qInv_one : qInv h (1 : Qd K c) = 1 := by
  have e := qInv_mul h (x := (1 : Qd K c)) (fun q => q01 q.symm)
  grind
/-- the field of the pairs -/
@[reducible] noncomputable def qF : OF (Qd K c) where
  inv := qInv h
  div x y := x * qInv h y
  zpow := ⟨qzp h⟩
  div_eq_mul_inv x y := rfl
  zero_ne_one := q01
  inv_zero := qInv_zero h
  mul_inv_cancel hx := qInv_mul h hx
  zpow_zero x := rfl
  zpow_succ x n := rfl
  zpow_neg x n := by
    show qzp h x (-n) = qInv h (qzp h x n)
    match n with
    | .ofNat 0 => exact (qInv_one h).symm
    | .ofNat (n + 1) => rfl
    | .negSucc n =>
      show x ^ (n + 1) = qInv h (qInv h (x ^ (n + 1)))
      rw [qInv_qInv]
  le x y := nn (y - x)
  lt x y := nn (y - x) ∧ ¬ nn (x - y)
  lt_iff x y := Iff.rfl
  le_refl x := by
    show nn (x - x)
    have : x - x = 0 := by grind
    rw [this]; exact nn_zero
  le_trans x y z h1 h2 := by
    show nn (z - x)
    have e : z - x = (y - x) + (z - y) := by grind
    rw [e]
    exact nn_add h h1 h2
  le_antisymm x y h1 h2 := by
    have e : x - y = -(y - x) := by grind
    have h2' : nn (x - y) := h2
    rw [e] at h2'
    have := nn_anti h h1 h2'
    grind
  le_total x y := by
    show nn (y - x) ∨ nn (x - y)
    have e : x - y = -(y - x) := by grind
    rw [e]
    exact nn_total h _
  add_le_left_iff {x y} z := by
    show nn (y - x) ↔ nn ((y + z) - (x + z))
    have e : (y + z) - (x + z) = y - x := by grind
    rw [e]
  zero_lt_one := by
    have o : (0 : K) < 1 := OrderedRing.zero_lt_one
    constructor
    · left
      unfold N
      simp only [sub_a, sub_b, zero_a, zero_b, one_a, one_b]
      grind
    · unfold nn N
      simp only [sub_a, sub_b, zero_a, zero_b, one_a, one_b]
      grind
  mul_lt_mul_of_pos_left {x y z} h1 h2 := by
    obtain ⟨a1, a2⟩ := h1
    obtain ⟨b1, b2⟩ := h2
    have e : z * y - z * x = (z - 0) * (y - x) := by grind
    refine ⟨by rw [e]; exact nn_mul h b1 a1, fun q => ?_⟩
    have m := nn_mul h b1 a1
    rw [← e] at m
    have e2 : z * x - z * y = -(z * y - z * x) := by grind
    rw [e2] at q
    have w := nn_anti h m q
    have hz : z ≠ 0 := by
      intro q; apply b2; rw [q]
      have : (0 : Qd K c) - 0 = 0 := by grind
      rw [this]; exact nn_zero
    have i := qInv_mul h hz
    apply a2
    have : x - y = 0 := by grind
    rw [this]; exact nn_zero
  mul_lt_mul_of_pos_right {x y z} h1 h2 := by
    obtain ⟨a1, a2⟩ := h1
    obtain ⟨b1, b2⟩ := h2
    have e : y * z - x * z = (z - 0) * (y - x) := by grind
    refine ⟨by rw [e]; exact nn_mul h b1 a1, fun q => ?_⟩
    have m := nn_mul h b1 a1
    rw [← e] at m
    have e2 : x * z - y * z = -(y * z - x * z) := by grind
    rw [e2] at q
    have w := nn_anti h m q
    have hz : z ≠ 0 := by
      intro q; apply b2; rw [q]
      have : (0 : Qd K c) - 0 = 0 := by grind
      rw [this]; exact nn_zero
    have i := qInv_mul h hz
    apply a2
    have : x - y = 0 := by grind
    rw [this]; exact nn_zero
end
/-- a map of ordered fields -/
structure Emb (K L : Type) [OF K] [OF L] where
  f : K → L
  one : f 1 = 1
  add : ∀ x y, f (x + y) = f x + f y
  mul : ∀ x y, f (x * y) = f x * f y
  nn : ∀ x, 0 ≤ x → 0 ≤ f x
/-- a root may be adjoined -/
theorem ext_root (K : Type) [OF K] (c : K) (hc : 0 ≤ c) : ∃ (L : Type) (_ : OF L) (f : Emb K L) (r : L), 0 ≤ r ∧ r * r = f.f c := by
  rcases Classical.em (∃ x : K, x * x = c) with ⟨x, hx⟩ | no
  · rcases (show 0 ≤ x ∨ 0 ≤ -x by grind) with q | q
    · exact ⟨K, inferInstance, ⟨id, rfl, fun _ _ => rfl, fun _ _ => rfl, fun _ h => h⟩, x, q, hx⟩
    · exact ⟨K, inferInstance, ⟨id, rfl, fun _ _ => rfl, fun _ _ => rfl, fun _ h => h⟩, -x, q, by show -x * -x = c; grind⟩
  · have h : NoRoot K c := ⟨by
      rcases (show 0 < c ∨ c = 0 by grind) with q | q
      · exact q
      · exact absurd ⟨0, by rw [q]; grind⟩ no, fun x q => no ⟨x, q⟩⟩
    refine ⟨Qd K c, qF h, @Emb.mk K (Qd K c) _ (qF h) (fun a => ⟨a, 0⟩) rfl (fun x y => ?_) (fun x y => ?_) (fun x hx => ?_), ⟨0, 1⟩, ?_, ?_⟩
    · ext
      · rfl
      · show (0 : K) = 0 + 0
        grind
    · ext
      · show x * y = x * y + 0 * 0 * c
        grind
      · show (0 : K) = x * 0 + 0 * y
        grind
    · show Qd.nn ((⟨x, 0⟩ : Qd K c) - 0)
      left
      unfold Qd.N
      simp only [Qd.sub_a, Qd.sub_b, Qd.zero_a, Qd.zero_b]
      have := sq_nn x
      grind
    · show Qd.nn ((⟨0, 1⟩ : Qd K c) - 0)
      right
      unfold Qd.N
      simp only [Qd.sub_a, Qd.sub_b, Qd.zero_a, Qd.zero_b]
      have o : (0 : K) < 1 := OrderedRing.zero_lt_one
      have := h.pos
      grind
    · ext
      · show (0 : K) * 0 + 1 * 1 * c = c
        grind
      · show (0 : K) * 1 + 1 * 0 = 0
        grind
end Rr
end
section
set_option Elab.async false
namespace Rr
open Lean.Grind Std Lk
instance ofRatF : OF Rat := { (inferInstance : Field Rat), (inferInstance : LE Rat), (inferInstance : LT Rat), (inferInstance : LawfulOrderLT Rat), (inferInstance : IsLinearOrder Rat), (inferInstance : OrderedRing Rat) with }
section
variable {K : Type} [OF K]
theorem one_ps : (0 : K) < 1 := OrderedRing.zero_lt_one
theorem ic_add (m n : Int) : ((m + n : Int) : K) = (m : K) + (n : K) := Ring.intCast_add m n
theorem ic_mul (m n : Int) : ((m * n : Int) : K) = (m : K) * (n : K) := Ring.intCast_mul m n
theorem ic_neg (m : Int) : ((-m : Int) : K) = -(m : K) := Ring.intCast_neg m
theorem ic_zero : ((0 : Int) : K) = 0 := Ring.intCast_zero
theorem ic_one : ((1 : Int) : K) = 1 := Ring.intCast_one
theorem ic_sub (m n : Int) : ((m - n : Int) : K) = (m : K) - (n : K) := Ring.intCast_sub m n
theorem ic_nat (n : Nat) : (((n : Nat) : Int) : K) = (n : K) := Ring.intCast_natCast n
theorem nc_succ (n : Nat) : ((n + 1 : Nat) : K) = (n : K) + 1 := by
  rw [show ((n + 1 : Nat) : K) = (n : K) + ((1 : Nat) : K) from Semiring.natCast_add n 1]
  rw [show ((1 : Nat) : K) = 1 from Semiring.natCast_one]
theorem nc_nn : ∀ n : Nat, (0 : K) ≤ (n : K)
  | 0 => by rw [show ((0 : Nat) : K) = 0 from Semiring.natCast_zero]; grind
  | n + 1 => by
    have := nc_nn n
    have o := one_ps (K := K)
    rw [nc_succ]; grind
theorem ic_ps {m : Int} (h : 0 < m) : (0 : K) < (m : K) := by
  obtain ⟨n, rfl⟩ : ∃ n : Nat, m = ((n + 1 : Nat) : Int) := ⟨m.toNat - 1, by omega⟩
  rw [ic_nat, nc_succ]
  have := nc_nn (K := K) n
  have o := one_ps (K := K)
  grind
theorem ic_nn {m : Int} (h : 0 ≤ m) : (0 : K) ≤ (m : K) := by
  rcases (show m = 0 ∨ 0 < m by omega) with rfl | q
  · rw [ic_zero]; grind
  · have := ic_ps (K := K) q; grind
theorem ic_ng {m : Int} (h : m < 0) : (m : K) < 0 := by
  have := ic_ps (K := K) (m := -m) (by omega)
  rw [ic_neg] at this; grind
theorem ic_le {m n : Int} (h : m ≤ n) : (m : K) ≤ (n : K) := by
  have := ic_nn (K := K) (m := n - m) (by omega)
  rw [ic_sub] at this; grind
theorem ic_lt {m n : Int} (h : m < n) : (m : K) < (n : K) := by
  have := ic_ps (K := K) (m := n - m) (by omega)
  rw [ic_sub] at this; grind
theorem ic_lt_iff {m n : Int} : (m : K) < (n : K) ↔ m < n :=
  ⟨fun h => by
    rcases (show m < n ∨ n ≤ m by omega) with q | q
    · exact q
    · have := ic_le (K := K) q; grind, ic_lt⟩
theorem ic_le_iff {m n : Int} : (m : K) ≤ (n : K) ↔ m ≤ n :=
  ⟨fun h => by
    rcases (show m ≤ n ∨ n < m by omega) with q | q
    · exact q
    · have := ic_lt (K := K) q; grind, ic_le⟩
theorem ic_inj {m n : Int} (h : (m : K) = (n : K)) : m = n := by
  have h1 := (ic_le_iff (K := K)).mp (show (m : K) ≤ (n : K) by grind)
  have h2 := (ic_le_iff (K := K)).mp (show (n : K) ≤ (m : K) by grind)
  omega
theorem ic_nz {m : Int} (h : m ≠ 0) : (m : K) ≠ 0 := fun q => h (ic_inj (K := K) (by rw [q, ic_zero]))
/-- a fraction -/
def rc (q : Rat) : K := (q.num : K) * ((q.den : Int) : K)⁻¹
theorem rc_of {q : Rat} {m d : Int} (hd : d ≠ 0) (h : q = Rat.divInt m d) : (rc q : K) * (d : K) = (m : K) := by
  have e : q.num * d = m * q.den := by
    have := (Rat.divInt_eq_divInt_iff (n₁ := q.num) (n₂ := m) (d₁ := q.den) (d₂ := d) (by have := q.den_pos; omega) hd).mp (by rw [Rat.num_divInt_den]; exact h)
    exact this
  have n := ic_nz (K := K) (show (q.den : Int) ≠ 0 by have := q.den_pos; omega)
  have e2 : (q.num : K) * (d : K) = (m : K) * ((q.den : Int) : K) := by rw [← ic_mul, ← ic_mul, e]
  have i := Field.mul_inv_cancel n
  unfold rc
  grind
theorem rc_den (q : Rat) : (rc q : K) * ((q.den : Int) : K) = (q.num : K) :=
  rc_of (by have := q.den_pos; omega) (Rat.num_divInt_den q).symm
theorem den_nz (q : Rat) : ((q.den : Int) : K) ≠ 0 := ic_nz (by have := q.den_pos; omega)
theorem den_ps (q : Rat) : (0 : K) < ((q.den : Int) : K) := ic_ps (by have := q.den_pos; omega)
theorem rc_int (n : Int) : (rc ((n : Int) : Rat) : K) = (n : K) := by
  have := rc_den (K := K) (n : Rat)
  rw [show ((n : Rat).den : Int) = 1 from rfl, show (n : Rat).num = n from rfl, ic_one] at this; grind
theorem rc_zero : (rc 0 : K) = 0 := by
  have := rc_int (K := K) 0; rw [show ((0 : Int) : Rat) = 0 from rfl] at this; rw [this]; exact ic_zero
theorem rc_one : (rc 1 : K) = 1 := by
  have := rc_int (K := K) 1; rw [show ((1 : Int) : Rat) = 1 from rfl] at this; rw [this]; exact ic_one
theorem rc_add (p q : Rat) : (rc (p + q) : K) = rc p + rc q := by
  have hp := p.den_pos
  have hq := q.den_pos
  have e : p + q = Rat.divInt (p.num * q.den + q.num * p.den) (p.den * q.den) := by
    rw [← Rat.divInt_add_divInt _ _ (by omega) (by omega), Rat.num_divInt_den, Rat.num_divInt_den]
  have h := rc_of (K := K) (q := p + q) (Int.mul_ne_zero (show (p.den : Int) ≠ 0 by omega) (show (q.den : Int) ≠ 0 by omega)) e
  have h1 := rc_den (K := K) p
  have h2 := rc_den (K := K) q
  have n1 := den_nz (K := K) p
  have n2 := den_nz (K := K) q
  rw [ic_add, ic_mul, ic_mul, ic_mul] at h
  have i1 := Field.mul_inv_cancel n1
  have i2 := Field.mul_inv_cancel n2
  grind
theorem rc_mul (p q : Rat) : (rc (p * q) : K) = rc p * rc q := by
  have hp := p.den_pos
  have hq := q.den_pos
  have e : p * q = Rat.divInt (p.num * q.num) (p.den * q.den) := by
    rw [← Rat.divInt_mul_divInt, Rat.num_divInt_den, Rat.num_divInt_den]
  have h := rc_of (K := K) (q := p * q) (Int.mul_ne_zero (show (p.den : Int) ≠ 0 by omega) (show (q.den : Int) ≠ 0 by omega)) e
  have h1 := rc_den (K := K) p
  have h2 := rc_den (K := K) q
  have n1 := den_nz (K := K) p
  have n2 := den_nz (K := K) q
  rw [ic_mul, ic_mul] at h
  have i1 := Field.mul_inv_cancel n1
  have i2 := Field.mul_inv_cancel n2
  grind
theorem rc_neg (q : Rat) : (rc (-q) : K) = - rc q := by
  have h := rc_add (K := K) (-q) q
  rw [Rat.neg_add_cancel, rc_zero] at h
  grind
theorem rc_ps {q : Rat} (h : 0 < q) : (0 : K) < rc q := by
  have hn : 0 < q.num := by
    have h1 : 0 ≤ q.num := Rat.num_nonneg.mpr (by grind)
    have h2 : q.num ≠ 0 := fun z => by
      have : q = 0 := Rat.num_eq_zero.mp z
      grind
    omega
  have h1 := ic_ps (K := K) hn
  have h2 := inv_pos (den_ps (K := K) q)
  exact mul_ps h1 h2
theorem rc_ng {q : Rat} (h : q < 0) : (rc q : K) < 0 := by
  have := rc_ps (K := K) (q := -q) (by grind)
  rw [rc_neg] at this; grind
theorem rc_inv {q : Rat} (h : q ≠ 0) : (rc (1 / q) : K) * rc q = 1 := by
  rw [← rc_mul]
  rw [show 1 / q * q = 1 by grind]
  exact rc_one
open Classical in
/-- the sign of a number of the field -/
noncomputable def sg (x : K) : Int := if x < 0 then -1 else if 0 < x then 1 else 0
theorem sg_ps {x : K} (h : 0 < x) : sg x = 1 := by unfold sg; rw [if_neg (by grind), if_pos h]
theorem sg_ng {x : K} (h : x < 0) : sg x = -1 := by unfold sg; rw [if_pos h]
theorem sg_z {x : K} (h : x = 0) : sg x = 0 := by unfold sg; rw [if_neg (by grind), if_neg (by grind)]
theorem sg_zero : sg (0 : K) = 0 := sg_z rfl
theorem sg_three (x : K) : (x < 0 ∧ sg x = -1) ∨ (x = 0 ∧ sg x = 0) ∨ (0 < x ∧ sg x = 1) := by
  rcases (show x < 0 ∨ x = 0 ∨ 0 < x by grind) with h | h | h
  · exact .inl ⟨h, sg_ng h⟩
  · exact .inr (.inl ⟨h, sg_z h⟩)
  · exact .inr (.inr ⟨h, sg_ps h⟩)
theorem sg_zero_iff {x : K} : sg x = 0 ↔ x = 0 := by rcases sg_three x with h | h | h <;> grind
theorem sg_neg_iff {x : K} : sg x < 0 ↔ x < 0 := by rcases sg_three x with h | h | h <;> grind
theorem sg_pos_iff {x : K} : 0 < sg x ↔ 0 < x := by rcases sg_three x with h | h | h <;> grind
theorem sg_nn_iff {x : K} : 0 ≤ sg x ↔ 0 ≤ x := by rcases sg_three x with h | h | h <;> grind
theorem sg_scale {x y : K} (h : 0 < y) : sg (x * y) = sg x := by
  rcases sg_three x with ⟨h1, h2⟩ | ⟨h1, h2⟩ | ⟨h1, h2⟩
  · rw [h2, sg_ng]
    have := mul_ps (a := -x) (b := y) (by grind) h
    grind
  · rw [h2, sg_z]; rw [h1]; grind
  · rw [h2, sg_ps (mul_ps h1 h)]
/-- the sign of a + b r, by those of a, b and a a - b b c -/
theorem sg_root {a b r c : K} (hr : 0 ≤ r) (h : r * r = c) (hc : c ≠ 0) :
    sg (a + r * b) = if sg b = 0 then sg a else if sg a = 0 ∨ sg a = sg b then sg b else sg a * sg (a * a - b * b * c) := by
  have hr' : 0 < r := by
    rcases (show 0 < r ∨ r = 0 by grind) with q | q
    · exact q
    · exfalso; apply hc; rw [← h, q]; grind
  have key : ∀ x y : K, 0 < x → 0 < y → sg (x - y) = sg (x * x - y * y) := fun x y hx hy => by
    rw [show x * x - y * y = (x - y) * (x + y) by grind, sg_scale (by grind)]
  have rb : ∀ b : K, 0 < b → 0 < r * b := fun b hb => mul_ps hr' hb
  rcases sg_three b with ⟨h1, h2⟩ | ⟨h1, h2⟩ | ⟨h1, h2⟩
  · have q := rb (-b) (by grind)
    rcases sg_three a with ⟨h3, h4⟩ | ⟨h3, h4⟩ | ⟨h3, h4⟩
    · rw [h2, h4, if_neg (by decide), if_pos (by decide), sg_ng (by grind)]
    · rw [h2, h4, if_neg (by decide), if_pos (by decide), sg_ng (by grind)]
    · rw [h2, h4, if_neg (by decide), if_neg (by decide)]
      have := key a (r * -b) h3 q
      rw [show a + r * b = a - r * -b by grind, this]
      rw [show a * a - r * -b * (r * -b) = a * a - b * b * c by grind]
      omega
  · rw [h2, if_pos rfl]
    rw [show a + r * b = a by grind]
  · have q := rb b (by grind)
    rcases sg_three a with ⟨h3, h4⟩ | ⟨h3, h4⟩ | ⟨h3, h4⟩
    · rw [h2, h4, if_neg (by decide), if_neg (by decide)]
      have := key (r * b) (-a) q (by grind)
      rw [show a + r * b = r * b - -a by grind, this]
      rw [show r * b * (r * b) - -a * -a = -(a * a - b * b * c) by grind]
      rcases sg_three (a * a - b * b * c) with ⟨h5, h6⟩ | ⟨h5, h6⟩ | ⟨h5, h6⟩
      · rw [h6, sg_ps (by grind)]; rfl
      · rw [h6, sg_z (by grind)]; rfl
      · rw [h6, sg_ng (by grind)]; rfl
    · rw [h2, h4, if_neg (by decide), if_pos (by decide), sg_ps (by grind)]
    · rw [h2, h4, if_neg (by decide), if_pos (by decide), sg_ps (by grind)]
/-! ### the specification's numbers -/
/-- what a number of the tower is worth; the roots, the latest first -/
def val : List K → Num → K
  | [], x => rc (x.getD 0 0)
  | r :: ρ, x => val ρ (lo x) + r * val ρ (hi x)
theorem val_cons (r : K) (ρ : List K) (x : Num) : val (r :: ρ) x = val ρ (lo x) + r * val ρ (hi x) := rfl
def Fits (n : Nat) (x : Num) : Prop := x.length = 2 ^ n
theorem fits_lo {n : Nat} {x : Num} (h : Fits (n + 1) x) : Fits n (lo x) := by
  unfold Fits lo at *; rw [List.length_take, h]; omega
theorem fits_hi {n : Nat} {x : Num} (h : Fits (n + 1) x) : Fits n (hi x) := by
  unfold Fits hi at *; rw [List.length_drop, h]; omega
theorem lo_app {n : Nat} {x y : Num} (hx : Fits n x) (hy : Fits n y) : lo (x ++ y) = x := by
  unfold Fits lo at *; rw [List.length_append, hx, hy, List.take_append_of_le_length (by omega), List.take_of_length_le (by omega)]
theorem hi_app {n : Nat} {x y : Num} (hx : Fits n x) (hy : Fits n y) : hi (x ++ y) = y := by
  unfold Fits hi at *
  rw [List.length_append, hx, hy, List.drop_append, List.drop_eq_nil_of_le (by omega), show (2 ^ n + 2 ^ n) / 2 - x.length = 0 by omega]
  simp
theorem fits_app {n : Nat} {x y : Num} (hx : Fits n x) (hy : Fits n y) : Fits (n + 1) (x ++ y) := by
  unfold Fits at *; rw [List.length_append, hx, hy]; omega
theorem fits_plus {n : Nat} {x y : Num} (hx : Fits n x) (hy : Fits n y) : Fits n (plus x y) := by
  unfold Fits plus at *; rw [List.length_zipWith, hx, hy]; omega
theorem fits_times {n : Nat} {x : Num} (q : Rat) (hx : Fits n x) : Fits n (times q x) := by
  unfold Fits times at *; rw [List.length_map, hx]
theorem fits_minus {n : Nat} {x y : Num} (hx : Fits n x) (hy : Fits n y) : Fits n (minus x y) := fits_plus hx (fits_times _ hy)
theorem fits_zeros (n : Nat) : Fits n (zeros (2 ^ n)) := by unfold Fits zeros; rw [List.length_replicate]
theorem fits_ofRat (t : Tower) (q : Rat) : Fits t.length (ofRat t q) := by
  unfold Fits ofRat zeros; rw [List.length_cons, List.length_replicate]
  have : 0 < 2 ^ t.length := Nat.pow_pos (by decide)
  omega
theorem lo_plus {n : Nat} {x y : Num} (hx : Fits n x) (hy : Fits n y) : lo (plus x y) = plus (lo x) (lo y) := by
  have e := fits_plus hx hy
  unfold Fits lo plus at *
  rw [e, hx, hy, List.take_zipWith]
theorem hi_plus {n : Nat} {x y : Num} (hx : Fits n x) (hy : Fits n y) : hi (plus x y) = plus (hi x) (hi y) := by
  have e := fits_plus hx hy
  unfold Fits hi plus at *
  rw [e, hx, hy, List.drop_zipWith]
theorem lo_times (q : Rat) (x : Num) : lo (times q x) = times q (lo x) := by
  unfold lo times; rw [List.length_map, List.map_take]
theorem hi_times (q : Rat) (x : Num) : hi (times q x) = times q (hi x) := by
  unfold hi times; rw [List.length_map, List.map_drop]
theorem one_of {x : Num} (h : Fits 0 x) : ∃ a, x = [a] := by
  unfold Fits at h
  match x, h with
  | [a], _ => exact ⟨a, rfl⟩
theorem val_plus : ∀ {ρ : List K} {x y : Num}, Fits ρ.length x → Fits ρ.length y → val ρ (plus x y) = val ρ x + val ρ y
  | [], x, y, hx, hy => by
    obtain ⟨a, rfl⟩ := one_of hx
    obtain ⟨b, rfl⟩ := one_of hy
    show rc (a + b) = rc a + rc b
    exact rc_add a b
  | r :: ρ, x, y, hx, hy => by
    simp only [val_cons]
    rw [lo_plus hx hy, hi_plus hx hy, val_plus (fits_lo hx) (fits_lo hy), val_plus (fits_hi hx) (fits_hi hy)]
    grind
theorem val_times (q : Rat) : ∀ {ρ : List K} {x : Num}, Fits ρ.length x → val ρ (times q x) = rc q * val ρ x
  | [], x, hx => by
    obtain ⟨a, rfl⟩ := one_of hx
    show rc (q * a) = rc q * rc a
    exact rc_mul q a
  | r :: ρ, x, hx => by
    simp only [val_cons]
    rw [lo_times, hi_times, val_times q (fits_lo hx), val_times q (fits_hi hx)]
    grind
theorem val_minus {ρ : List K} {x y : Num} (hx : Fits ρ.length x) (hy : Fits ρ.length y) : val ρ (minus x y) = val ρ x - val ρ y := by
  unfold minus
  rw [val_plus hx (fits_times _ hy), val_times _ hy, rc_neg, rc_one]
  grind
theorem val_zeros : ∀ ρ : List K, val ρ (zeros (2 ^ ρ.length)) = 0
  | [] => by show rc 0 = 0; exact rc_zero
  | r :: ρ => by
    have e : zeros (2 ^ (r :: ρ).length) = zeros (2 ^ ρ.length) ++ zeros (2 ^ ρ.length) := by
      unfold zeros; rw [List.replicate_append_replicate, List.length_cons]; congr 1; omega
    rw [val_cons]
    rw [e, lo_app (fits_zeros _) (fits_zeros _), hi_app (fits_zeros _) (fits_zeros _), val_zeros ρ]
    grind
theorem val_lift {ρ : List K} {r : K} {x : Num} (hx : Fits ρ.length x) : val (r :: ρ) (lift x) = val ρ x := by
  unfold lift
  rw [val_cons]
  have z : zeros x.length = zeros (2 ^ ρ.length) := by rw [hx]
  rw [z, lo_app hx (fits_zeros _), hi_app hx (fits_zeros _), val_zeros]
  grind
theorem fits_lift {n : Nat} {x : Num} (hx : Fits n x) : Fits (n + 1) (lift x) := by
  unfold lift
  exact fits_app hx (by rw [hx]; exact fits_zeros n)
theorem val_ofRat : ∀ (ρ : List K) (t : Tower) (_ : ρ.length = t.length) (q : Rat), val ρ (ofRat t q) = rc q
  | [], [], _, q => rfl
  | r :: ρ, c :: t, h, q => by
    have hl : ρ.length = t.length := Nat.succ.inj h
    have e : ofRat (c :: t) q = lift (ofRat t q) := by
      unfold lift
      rw [show (ofRat t q).length = 2 ^ t.length from fits_ofRat t q]
      unfold ofRat zeros
      rw [List.cons_append, List.replicate_append_replicate, List.length_cons]
      have : 0 < 2 ^ t.length := Nat.pow_pos (by decide)
      congr 2; omega
    rw [e, val_lift (by rw [hl]; exact fits_ofRat t q), val_ofRat ρ t hl q]
theorem fits_newest (t : Tower) : Fits (t.length + 1) (newest t) := fits_app (fits_zeros _) (fits_ofRat t 1)
theorem val_newest {ρ : List K} {r : K} {t : Tower} (h : ρ.length = t.length) : val (r :: ρ) (newest t) = r := by
  unfold newest
  rw [val_cons]
  rw [lo_app (fits_zeros _) (fits_ofRat t 1), hi_app (fits_zeros _) (fits_ofRat t 1), val_ofRat ρ t h, rc_one, ← h, val_zeros]
  grind
/-- the roots are those of the tower's radicands -/
def Roots : List K → Tower → Prop
  | [], [] => True
  | r :: ρ, c :: t => 0 ≤ r ∧ r * r = val ρ c ∧ Fits t.length c ∧ Roots ρ t
  | _, _ => False
theorem Roots.len : ∀ {ρ : List K} {t : Tower}, Roots ρ t → ρ.length = t.length
  | [], [], _ => rfl
  | r :: ρ, c :: t, h => by rw [List.length_cons, List.length_cons, Roots.len h.2.2.2]
theorem fits_mul : ∀ {ρ : List K} {t : Tower} {x y : Num}, Roots ρ t → Fits t.length x → Fits t.length y → Fits t.length (mul t x y)
  | [], [], x, y, _, _, _ => by unfold mul Fits; rfl
  | r :: ρ, c :: t, x, y, h, hx, hy => by
    have R := h.2.2.2
    unfold mul
    exact fits_app (fits_plus (fits_mul R (fits_lo hx) (fits_lo hy)) (fits_mul R (fits_mul R (fits_hi hx) (fits_hi hy)) h.2.2.1))
      (fits_plus (fits_mul R (fits_lo hx) (fits_hi hy)) (fits_mul R (fits_hi hx) (fits_lo hy)))
theorem val_mul : ∀ {ρ : List K} {t : Tower} {x y : Num}, Roots ρ t → Fits t.length x → Fits t.length y → val ρ (mul t x y) = val ρ x * val ρ y
  | [], [], x, y, _, hx, hy => by
    obtain ⟨a, rfl⟩ := one_of hx
    obtain ⟨b, rfl⟩ := one_of hy
    show rc (a * b) = rc a * rc b
    exact rc_mul a b
  | r :: ρ, c :: t, x, y, h, hx, hy => by
    have R := h.2.2.2
    have L := R.len
    have f1 := fits_mul R (fits_lo hx) (fits_lo hy)
    have f2 := fits_mul R (fits_mul R (fits_hi hx) (fits_hi hy)) h.2.2.1
    have f3 := fits_mul R (fits_lo hx) (fits_hi hy)
    have f4 := fits_mul R (fits_hi hx) (fits_lo hy)
    unfold mul
    simp only [val_cons]
    rw [lo_app (fits_plus f1 f2) (fits_plus f3 f4), hi_app (fits_plus f1 f2) (fits_plus f3 f4)]
    rw [val_plus (by rw [L]; exact f1) (by rw [L]; exact f2), val_plus (by rw [L]; exact f3) (by rw [L]; exact f4)]
    rw [val_mul R (fits_lo hx) (fits_lo hy), val_mul R (fits_mul R (fits_hi hx) (fits_hi hy)) h.2.2.1, val_mul R (fits_hi hx) (fits_hi hy), val_mul R (fits_lo hx) (fits_hi hy), val_mul R (fits_hi hx) (fits_lo hy)]
    have e := h.2.1
    grind
theorem signOf_rc (q : Rat) : signOf q = sg (rc q : K) := by
  unfold signOf
  rcases (show q < 0 ∨ q = 0 ∨ 0 < q by grind) with h | h | h
  · rw [if_pos h, sg_ng (rc_ng h)]
  · rw [h, rc_zero, sg_zero]; rfl
  · rw [if_neg (by grind), if_pos h, sg_ps (rc_ps h)]
/-- the specification's sign is the number's -/
theorem sign_val : ∀ {ρ : List K} {t : Tower} {x : Num}, Roots ρ t → Fits t.length x → Lk.sign t x = sg (val ρ x)
  | [], [], x, _, hx => by
    obtain ⟨a, rfl⟩ := one_of hx
    exact signOf_rc a
  | r :: ρ, c :: t, x, h, hx => by
    have R := h.2.2.2
    have L := R.len
    have fl := fits_lo hx
    have fh := fits_hi hx
    unfold Lk.sign
    rw [val_cons]
    dsimp only
    rw [sign_val R fl, sign_val R fh, sign_val R h.2.2.1]
    have f1 := fits_mul R fl fl
    have f2 := fits_mul R (fits_mul R fh fh) h.2.2.1
    rw [sign_val R (fits_minus f1 f2), val_minus (by rw [L]; exact f1) (by rw [L]; exact f2), val_mul R fl fl, val_mul R (fits_mul R fh fh) h.2.2.1, val_mul R fh fh]
    generalize val ρ (lo x) = a
    generalize val ρ (hi x) = b
    have e := h.2.1
    have e0 := h.1
    generalize val ρ c = v at *
    rcases Classical.em (v = 0) with z | z
    · have : r = 0 := by apply sq_z; grind
      rw [if_pos (sg_z z), if_pos rfl, this]
      rw [show a + 0 * b = a by grind]
    · rw [if_neg (fun q => z (sg_zero_iff.mp q)), sg_root e0 e z]
theorem fits_inverse : ∀ {ρ : List K} {t : Tower} {x : Num}, Roots ρ t → Fits t.length x → Fits t.length (inverse t x)
  | [], [], x, _, hx => by unfold inverse Fits; rfl
  | r :: ρ, c :: t, x, h, hx => by
    have R := h.2.2.2
    have fl := fits_lo hx
    have fh := fits_hi hx
    have f1 := fits_mul R fl fl
    have f2 := fits_mul R (fits_mul R fh fh) h.2.2.1
    unfold inverse
    dsimp only
    split
    · refine fits_app (fits_inverse R (fits_times _ fl)) ?_
      rw [show x.length / 2 = 2 ^ t.length by rw [hx, List.length_cons]; omega]
      exact fits_zeros _
    · have fi := fits_inverse R (fits_minus f1 f2)
      exact fits_app (fits_mul R fl fi) (fits_times _ (fits_mul R fh fi))
/-- the specification's inverse -/
theorem val_inverse : ∀ {ρ : List K} {t : Tower} {x : Num}, Roots ρ t → Fits t.length x → val ρ x ≠ 0 → val ρ (inverse t x) * val ρ x = 1
  | [], [], x, _, hx, hn => by
    obtain ⟨a, rfl⟩ := one_of hx
    have ha : a ≠ 0 := by
      intro z; apply hn; rw [z]; exact rc_zero
    show rc (1 / a) * rc a = 1
    exact rc_inv ha
  | r :: ρ, c :: t, x, h, hx, hn => by
    have R := h.2.2.2
    have L := R.len
    have fl := fits_lo hx
    have fh := fits_hi hx
    have f1 := fits_mul R fl fl
    have f2 := fits_mul R (fits_mul R fh fh) h.2.2.1
    have vn : val ρ (minus (mul t (lo x) (lo x)) (mul t (mul t (hi x) (hi x)) c)) = val ρ (lo x) * val ρ (lo x) - val ρ (hi x) * val ρ (hi x) * val ρ c := by
      rw [val_minus (by rw [L]; exact f1) (by rw [L]; exact f2), val_mul R fl fl, val_mul R (fits_mul R fh fh) h.2.2.1, val_mul R fh fh]
    have e := h.2.1
    unfold inverse
    dsimp only
    rw [sign_val R (fits_minus f1 f2), vn]
    have hv : val (r :: ρ) x = val ρ (lo x) + r * val ρ (hi x) := rfl
    rw [hv] at hn ⊢
    split
    · rename_i z
      have z' := sg_zero_iff.mp z
      rw [show x.length / 2 = 2 ^ t.length by rw [hx, List.length_cons]; omega]
      have fi := fits_inverse R (fits_times 2 fl)
      have hv2 : val (r :: ρ) (inverse t (times 2 (lo x)) ++ zeros (2 ^ t.length)) = val ρ (inverse t (times 2 (lo x))) := by
        rw [val_cons]
        rw [lo_app fi (fits_zeros _), hi_app fi (fits_zeros _), ← L, val_zeros]
        grind
      have hd : (val ρ (lo x) - r * val ρ (hi x)) = 0 := by
        have : (val ρ (lo x) - r * val ρ (hi x)) * (val ρ (lo x) + r * val ρ (hi x)) = 0 := by grind
        rcases mul_z this with q | q
        · exact q
        · exact absurd q hn
      have vt := val_times (K := K) 2 (ρ := ρ) (x := lo x) (by rw [L]; exact fl)
      have r2 : (rc 2 : K) = 2 := by
        have := rc_int (K := K) 2
        rw [show ((2 : Int) : K) = 2 from Ring.intCast_ofNat 2] at this
        exact this
      rw [r2] at vt
      have ih := val_inverse R (fits_times 2 fl) (by rw [vt]; grind)
      rw [hv2]
      rw [vt] at ih
      grind
    · rename_i z
      have z' : val ρ (lo x) * val ρ (lo x) - val ρ (hi x) * val ρ (hi x) * val ρ c ≠ 0 := fun q => z (sg_zero_iff.mpr q)
      have fi := fits_inverse R (fits_minus f1 f2)
      have ih := val_inverse R (fits_minus f1 f2) (by rw [vn]; exact z')
      rw [vn] at ih
      have fa := fits_mul R fl fi
      have fb := fits_times (-1) (fits_mul R fh fi)
      have hv2 : val (r :: ρ) (mul t (lo x) (inverse t (minus (mul t (lo x) (lo x)) (mul t (mul t (hi x) (hi x)) c))) ++ times (-1) (mul t (hi x) (inverse t (minus (mul t (lo x) (lo x)) (mul t (mul t (hi x) (hi x)) c)))))
          = val ρ (lo x) * val ρ (inverse t (minus (mul t (lo x) (lo x)) (mul t (mul t (hi x) (hi x)) c))) - r * (val ρ (hi x) * val ρ (inverse t (minus (mul t (lo x) (lo x)) (mul t (mul t (hi x) (hi x)) c)))) := by
        rw [val_cons]
        rw [lo_app fa fb, hi_app fa fb, val_times (-1) (by rw [L]; exact fits_mul R fh fi), val_mul R fl fi, val_mul R fh fi, rc_neg, rc_one]
        grind
      rw [hv2]
      grind
end
/-! ### a field for a tower -/
section
variable {K L : Type} [OF K] [OF L] (f : Emb K L)
theorem Emb.zero : f.f 0 = 0 := by
  have := f.add 0 0
  rw [show (0 : K) + 0 = 0 by grind] at this
  grind
theorem Emb.neg (x : K) : f.f (-x) = - f.f x := by
  have := f.add (-x) x
  rw [show -x + x = 0 by grind, f.zero] at this
  grind
theorem Emb.nat : ∀ n : Nat, f.f (n : K) = (n : L)
  | 0 => by
    rw [show ((0 : Nat) : K) = 0 from Semiring.natCast_zero, show ((0 : Nat) : L) = 0 from Semiring.natCast_zero]
    exact f.zero
  | n + 1 => by rw [nc_succ, nc_succ, f.add, Emb.nat n, f.one]
theorem Emb.int (n : Int) : f.f (n : K) = (n : L) := by
  rcases (show 0 ≤ n ∨ 0 ≤ -n by omega) with h | h
  · obtain ⟨m, rfl⟩ := Int.eq_ofNat_of_zero_le h
    rw [ic_nat, ic_nat, f.nat]
  · obtain ⟨m, e⟩ := Int.eq_ofNat_of_zero_le h
    rw [show n = -(m : Int) by omega, ic_neg, ic_neg, ic_nat, ic_nat, f.neg, f.nat]
theorem Emb.rat (q : Rat) : f.f (rc q : K) = (rc q : L) := by
  have h1 := rc_den (K := K) q
  have h2 := rc_den (K := L) q
  have h3 : f.f (rc q : K) * ((q.den : Int) : L) = (q.num : L) := by
    rw [← f.int, ← f.mul, h1, f.int]
  have n := den_nz (K := L) q
  have i := Field.mul_inv_cancel n
  grind
theorem Emb.val : ∀ (ρ : List K) (x : Num), f.f (val ρ x) = Rr.val (ρ.map f.f) x
  | [], x => f.rat _
  | r :: ρ, x => by
    rw [List.map_cons]
    rw [val_cons, val_cons]
    rw [f.add, f.mul, Emb.val ρ, Emb.val ρ]
theorem Emb.roots : ∀ {ρ : List K} {t : Tower}, Roots ρ t → Roots (ρ.map f.f) t
  | [], [], _ => trivial
  | r :: ρ, c :: t, h => ⟨f.nn _ h.1, by rw [← f.mul, h.2.1, f.val], h.2.2.1, Emb.roots h.2.2.2⟩
end
end Rr
end
section
set_option Elab.async false
namespace Rr
open Lean.Grind Std
/-! ### the least number whose square is n at least -/
theorem sq_least (n : Nat) : ∃ m : Nat, (1 ≤ m ∧ n ≤ m * m) ∧ ∀ k, 1 ≤ k → n ≤ k * k → m ≤ k := by
  have h : ∃ m, 1 ≤ m ∧ n ≤ m * m := ⟨n + 1, by omega, by
    have := Nat.mul_le_mul_left (n + 1) (show 1 ≤ n + 1 by omega)
    omega⟩
  have key : ∀ b : Nat, (∃ m, m ≤ b ∧ 1 ≤ m ∧ n ≤ m * m) → ∃ m : Nat, (1 ≤ m ∧ n ≤ m * m) ∧ ∀ k, 1 ≤ k → n ≤ k * k → m ≤ k := by
    intro b
    induction b with
    | zero => rintro ⟨m, h1, h2, _⟩; omega
    | succ b ih =>
      rintro ⟨m, h1, h2, h3⟩
      rcases Classical.em (∃ m, m ≤ b ∧ 1 ≤ m ∧ n ≤ m * m) with q | q
      · exact ih q
      · refine ⟨m, ⟨h2, h3⟩, fun k hk hk2 => ?_⟩
        rcases (show m ≤ k ∨ k ≤ b by omega) with z | z
        · exact z
        · exact absurd ⟨k, z, hk, hk2⟩ q
  obtain ⟨m, h1, h2⟩ := h
  exact key m ⟨m, Nat.le_refl m, h1, h2⟩
noncomputable def csq (n : Nat) : Nat := Classical.choose (sq_least n)
theorem csq_one (n : Nat) : 1 ≤ csq n := (Classical.choose_spec (sq_least n)).1.1
theorem csq_sq (n : Nat) : n ≤ csq n * csq n := (Classical.choose_spec (sq_least n)).1.2
theorem csq_le {n k : Nat} (h1 : 1 ≤ k) (h : n ≤ k * k) : csq n ≤ k := (Classical.choose_spec (sq_least n)).2 k h1 h
/-- **A level**: a ring of whole coordinates, their size, their norm -/
structure Lv where
  A : Type
  ring : CommRing A
  j : Nat
  ofL : List Int → A
  co : A → List Int
  nm : A → Nat
  Nm : A → Int
  ad : A → A
  co_len : ∀ x, (co x).length = 2 ^ j
  ofL_co : ∀ x, ofL (co x) = x
  co_ofL : ∀ l, l.length = 2 ^ j → co (ofL l) = l
  co_add : ∀ x y, co (x + y) = List.zipWith (· + ·) (co x) (co y)
  co_int : ∀ (n : Int) x, co ((n : A) * x) = (co x).map (fun c => c * n)
  nm_add : ∀ x y, nm (x + y) ≤ nm x + nm y
  nm_mul : ∀ x y, nm (x * y) ≤ nm x * nm y
  nm_int : ∀ (n : Int) x, nm ((n : A) * x) = n.natAbs * nm x
  nm_one : nm 1 = 1
  nm_zero : nm 0 = 0
  nm_co : ∀ x, ∀ c ∈ co x, c.natAbs ≤ nm x
  ad_mul : ∀ x, x * ad x = ((Nm x : Int) : A)
  nm_ad : ∀ x, nm (ad x) ≤ nm x ^ (2 ^ j - 1)
  nm_Nm : ∀ x, (Nm x).natAbs ≤ nm x ^ (2 ^ j)
  Nm_mul : ∀ x y, Nm (x * y) = Nm x * Nm y
  Nm_int : ∀ n : Int, Nm ((n : Int) : A) = n ^ (2 ^ j)
instance instLvR (L : Lv) : CommRing L.A := L.ring
namespace Lv
section
variable {A : Type} [CommRing A]
theorem ca_mul (m n : Int) : ((m * n : Int) : A) = (m : A) * (n : A) := Ring.intCast_mul m n
theorem ca_neg (m : Int) : ((-m : Int) : A) = -(m : A) := Ring.intCast_neg m
theorem ca_zero : ((0 : Int) : A) = 0 := Ring.intCast_zero
theorem ca_one : ((1 : Int) : A) = 1 := Ring.intCast_one
end
/-- the whole numbers -/
def base : Lv where
  A := Int
  ring := inferInstance
  j := 0
  ofL l := l.getD 0 0
  co x := [x]
  nm x := x.natAbs
  Nm x := x
  ad _ := 1
  co_len _ := rfl
  ofL_co _ := rfl
  co_ofL l h := by
    match l, h with
    | [a], _ => rfl
  co_add _ _ := rfl
  co_int n x := by show [n * x] = [x * n]; rw [Int.mul_comm]
  nm_add x y := Int.natAbs_add_le x y
  nm_mul x y := by rw [Int.natAbs_mul]; exact Nat.le_refl _
  nm_int n x := Int.natAbs_mul n x
  nm_one := rfl
  nm_zero := rfl
  nm_co x c h := by
    have : c = x := by simpa using h
    rw [this]; exact Nat.le_refl _
  ad_mul x := by show x * 1 = x; omega
  nm_ad x := by show 1 ≤ _; exact Nat.le_of_eq rfl
  nm_Nm x := by show x.natAbs ≤ x.natAbs ^ 1; rw [Nat.pow_one]; exact Nat.le_refl _
  Nm_mul _ _ := rfl
  Nm_int n := by show n = n ^ 1; rw [Int.pow_succ, Int.pow_zero, Int.one_mul]
variable (L : Lv)
theorem neg_eq (x : L.A) : -x = (((-1 : Int)) : L.A) * x := by
  rw [ca_neg, ca_one]; grind
theorem nm_neg (x : L.A) : L.nm (-x) = L.nm x := by
  rw [L.neg_eq, L.nm_int]; show 1 * _ = _; rw [Nat.one_mul]
theorem nm_sub (x y : L.A) : L.nm (x - y) ≤ L.nm x + L.nm y := by
  have := L.nm_add x (-y)
  rw [L.nm_neg] at this
  rw [show x - y = x + -y by grind]; exact this
theorem nm_cst (n : Int) : L.nm ((n : Int) : L.A) = n.natAbs := by
  have := L.nm_int n 1
  rw [L.nm_one, Nat.mul_one] at this
  rw [show ((n : Int) : L.A) = (n : L.A) * 1 by grind]; exact this
theorem co_inj {x y : L.A} (h : L.co x = L.co y) : x = y := by rw [← L.ofL_co x, ← L.ofL_co y, h]
/-- no torsion -/
theorem tf {n : Int} (hn : n ≠ 0) {x y : L.A} (h : (n : L.A) * x = (n : L.A) * y) : x = y := by
  refine L.co_inj ?_
  have e : (L.co x).map (fun c => c * n) = (L.co y).map (fun c => c * n) := by rw [← L.co_int, ← L.co_int, h]
  have inj : ∀ a b : Int, a * n = b * n → a = b := fun a b q => Int.eq_of_mul_eq_mul_right hn q
  exact (List.map_inj_right inj).mp e
theorem Nm_cst_ne {n : Int} (h : n ≠ 0) : L.Nm ((n : Int) : L.A) ≠ 0 := by
  rw [L.Nm_int]
  exact Int.pow_ne_zero h
/-! ### one root more -/
/-- the radicand -/
def rad (r : List Int) : L.A := L.ofL r
noncomputable def rho (r : List Int) : Nat := csq (L.nm (L.rad r))
abbrev E (r : List Int) : Type := Qd L.A (L.rad r)
theorem cast_a (r : List Int) (n : Int) : ((n : Int) : L.E r).a = ((n : Int) : L.A) := rfl
theorem cast_b (r : List Int) (n : Int) : ((n : Int) : L.E r).b = 0 := rfl
def cj {r : List Int} (x : L.E r) : L.E r := ⟨x.a, -x.b⟩
def emb (r : List Int) (x : L.A) : L.E r := ⟨x, 0⟩
noncomputable def nmE {r : List Int} (x : L.E r) : Nat := L.nm x.a + L.rho r * L.nm x.b
theorem cj_mul {r : List Int} (x : L.E r) : x * L.cj x = L.emb r (Qd.N x) := by
  ext
  · rw [Qd.mul_a]; unfold cj emb Qd.N; grind
  · rw [Qd.mul_b]; unfold cj emb; grind
theorem emb_mul (r : List Int) (x y : L.A) : L.emb r (x * y) = L.emb r x * L.emb r y := by
  ext
  · rw [Qd.mul_a]; unfold emb; grind
  · rw [Qd.mul_b]; unfold emb; grind
theorem emb_add (r : List Int) (x y : L.A) : L.emb r (x + y) = L.emb r x + L.emb r y := by
  ext
  · rw [Qd.add_a]; rfl
  · rw [Qd.add_b]; unfold emb; grind
theorem emb_int (r : List Int) (n : Int) : L.emb r ((n : Int) : L.A) = ((n : Int) : L.E r) := rfl
theorem mul_cj {r : List Int} (x y : L.E r) : L.cj (x * y) = L.cj x * L.cj y := by
  ext
  · rw [Qd.mul_a]; show (x * y).a = _; rw [Qd.mul_a]; unfold cj; grind
  · rw [Qd.mul_b]; show -(x * y).b = _; rw [Qd.mul_b]; unfold cj; grind
theorem cj_int {r : List Int} (n : Int) : L.cj ((n : Int) : L.E r) = ((n : Int) : L.E r) := by
  ext
  · rfl
  · show -(0 : L.A) = 0; grind
theorem nmE_emb (r : List Int) (x : L.A) : L.nmE (L.emb r x) = L.nm x := by
  show L.nm x + L.rho r * L.nm (0 : L.A) = L.nm x
  rw [L.nm_zero]; omega
theorem nmE_cj {r : List Int} (x : L.E r) : L.nmE (L.cj x) = L.nmE x := by
  unfold nmE cj; rw [L.nm_neg]
theorem nmE_mul {r : List Int} (x y : L.E r) : L.nmE (x * y) ≤ L.nmE x * L.nmE y := by
  unfold nmE
  rw [Qd.mul_a, Qd.mul_b]
  have h1 := L.nm_add (x.a * y.a) (x.b * y.b * L.rad r)
  have h2 := L.nm_add (x.a * y.b) (x.b * y.a)
  have h3 := L.nm_mul x.a y.a
  have h4 := L.nm_mul (x.b * y.b) (L.rad r)
  have h5 := L.nm_mul x.b y.b
  have h6 := L.nm_mul x.a y.b
  have h7 := L.nm_mul x.b y.a
  have h8 := csq_sq (L.nm (L.rad r))
  rw [show csq (L.nm (L.rad r)) = L.rho r from rfl] at h8
  generalize L.rho r = p at *
  have h9 := Nat.mul_le_mul h5 h8
  have h10 := Nat.mul_le_mul_right (L.nm (L.rad r)) h5
  have h11 := Nat.mul_le_mul_left (L.nm x.b * L.nm y.b) h8
  have h12 := Nat.mul_le_mul_left p (Nat.le_trans h2 (Nat.add_le_add h6 h7))
  have e : (L.nm x.a + p * L.nm x.b) * (L.nm y.a + p * L.nm y.b) = L.nm x.a * L.nm y.a + L.nm x.b * L.nm y.b * (p * p) + p * (L.nm x.a * L.nm y.b + L.nm x.b * L.nm y.a) := by grind
  rw [e]
  omega
theorem nm_N {r : List Int} (x : L.E r) : L.nm (Qd.N x) ≤ L.nmE x * L.nmE x := by
  have h := L.nmE_mul x (L.cj x)
  rw [L.cj_mul, L.nmE_emb, L.nmE_cj] at h
  exact h
/-- a root more -/
noncomputable def ext (r : List Int) : Lv where
  A := L.E r
  ring := inferInstance
  j := L.j + 1
  ofL l := ⟨L.ofL (l.take (2 ^ L.j)), L.ofL (l.drop (2 ^ L.j))⟩
  co x := L.co x.a ++ L.co x.b
  nm := L.nmE
  Nm x := L.Nm (Qd.N x)
  ad x := L.cj x * L.emb r (L.ad (Qd.N x))
  co_len x := by rw [List.length_append, L.co_len, L.co_len]; omega
  ofL_co x := by
    ext
    · show L.ofL ((L.co x.a ++ L.co x.b).take (2 ^ L.j)) = x.a
      rw [List.take_append_of_le_length (by rw [L.co_len]; omega), List.take_of_length_le (by rw [L.co_len]; omega), L.ofL_co]
    · show L.ofL ((L.co x.a ++ L.co x.b).drop (2 ^ L.j)) = x.b
      rw [List.drop_append, List.drop_eq_nil_of_le (by rw [L.co_len]; omega), L.co_len, Nat.sub_self, List.drop_zero, List.nil_append, L.ofL_co]
  co_ofL l h := by
    show L.co (L.ofL (l.take (2 ^ L.j))) ++ L.co (L.ofL (l.drop (2 ^ L.j))) = l
    have h' : l.length = 2 ^ L.j + 2 ^ L.j := by rw [h]; omega
    rw [L.co_ofL _ (by rw [List.length_take, h']; omega), L.co_ofL _ (by rw [List.length_drop, h']; omega), List.take_append_drop]
  co_add x y := by
    show L.co (x.a + y.a) ++ L.co (x.b + y.b) = List.zipWith (· + ·) (L.co x.a ++ L.co x.b) (L.co y.a ++ L.co y.b)
    rw [List.zipWith_append (by rw [L.co_len, L.co_len]), L.co_add, L.co_add]
  co_int n x := by
    show L.co (((n : Int) : L.E r) * x).a ++ L.co (((n : Int) : L.E r) * x).b = (L.co x.a ++ L.co x.b).map _
    rw [Qd.mul_a, Qd.mul_b, L.cast_a, L.cast_b, List.map_append, ← L.co_int, ← L.co_int]
    congr 2 <;> grind
  nm_add x y := by
    show L.nm (x.a + y.a) + L.rho r * L.nm (x.b + y.b) ≤ (L.nm x.a + L.rho r * L.nm x.b) + (L.nm y.a + L.rho r * L.nm y.b)
    have h1 := L.nm_add x.a y.a
    have h2 := Nat.mul_le_mul_left (L.rho r) (L.nm_add x.b y.b)
    rw [Nat.mul_add] at h2
    omega
  nm_mul := L.nmE_mul
  nm_int n x := by
    show L.nm (((n : Int) : L.E r) * x).a + L.rho r * L.nm (((n : Int) : L.E r) * x).b = n.natAbs * (L.nm x.a + L.rho r * L.nm x.b)
    rw [Qd.mul_a, Qd.mul_b, L.cast_a, L.cast_b]
    rw [show ((n : Int) : L.A) * x.a + 0 * x.b * L.rad r = ((n : Int) : L.A) * x.a by grind, show ((n : Int) : L.A) * x.b + 0 * x.a = ((n : Int) : L.A) * x.b by grind, L.nm_int, L.nm_int]
    grind
  nm_one := by
    show L.nm (1 : L.A) + L.rho r * L.nm (0 : L.A) = 1
    rw [L.nm_one, L.nm_zero]; omega
  nm_zero := by
    show L.nm (0 : L.A) + L.rho r * L.nm (0 : L.A) = 0
    rw [L.nm_zero]; omega
  nm_co x c h := by
    show c.natAbs ≤ L.nm x.a + L.rho r * L.nm x.b
    rcases List.mem_append.mp h with q | q
    · have := L.nm_co _ _ q; omega
    · have h1 := L.nm_co _ _ q
      have h2 := Nat.mul_le_mul_right (L.nm x.b) (csq_one (L.nm (L.rad r)))
      rw [show csq (L.nm (L.rad r)) = L.rho r from rfl] at h2
      omega
  ad_mul x := by
    show x * (L.cj x * L.emb r (L.ad (Qd.N x))) = _
    rw [show x * (L.cj x * L.emb r (L.ad (Qd.N x))) = (x * L.cj x) * L.emb r (L.ad (Qd.N x)) by grind, L.cj_mul, ← L.emb_mul, L.ad_mul]
    rfl
  nm_ad x := by
    show L.nmE (L.cj x * L.emb r (L.ad (Qd.N x))) ≤ L.nmE x ^ (2 ^ (L.j + 1) - 1)
    have h1 := L.nmE_mul (L.cj x) (L.emb r (L.ad (Qd.N x)))
    rw [L.nmE_cj, L.nmE_emb] at h1
    have h2 := L.nm_ad (Qd.N x)
    have h3 := Nat.pow_le_pow_left (L.nm_N x) (2 ^ L.j - 1)
    have p : 0 < 2 ^ L.j := Nat.pow_pos (by decide)
    have e : L.nmE x ^ (2 ^ (L.j + 1) - 1) = L.nmE x * (L.nmE x * L.nmE x) ^ (2 ^ L.j - 1) := by
      rw [show 2 ^ (L.j + 1) - 1 = 1 + 2 * (2 ^ L.j - 1) by rw [Nat.pow_succ]; omega, Nat.pow_add, Nat.pow_one, Nat.pow_mul, Nat.pow_two]
    rw [e]
    exact Nat.le_trans h1 (Nat.mul_le_mul_left _ (Nat.le_trans h2 h3))
  nm_Nm x := by
    show (L.Nm (Qd.N x)).natAbs ≤ L.nmE x ^ (2 ^ (L.j + 1))
    have h2 := L.nm_Nm (Qd.N x)
    have h3 := Nat.pow_le_pow_left (L.nm_N x) (2 ^ L.j)
    have e : L.nmE x ^ (2 ^ (L.j + 1)) = (L.nmE x * L.nmE x) ^ (2 ^ L.j) := by
      rw [show 2 ^ (L.j + 1) = 2 * 2 ^ L.j by rw [Nat.pow_succ]; omega, Nat.pow_mul, Nat.pow_two]
    rw [e]
    exact Nat.le_trans h2 h3
  Nm_mul x y := by
    show L.Nm (Qd.N (x * y)) = L.Nm (Qd.N x) * L.Nm (Qd.N y)
    rw [Qd.N_mul, L.Nm_mul]
  Nm_int n := by
    show L.Nm (Qd.N ((n : Int) : L.E r)) = _
    have e : Qd.N ((n : Int) : L.E r) = ((n * n : Int) : L.A) := by
      unfold Qd.N; rw [L.cast_a, L.cast_b, ca_mul]; grind
    rw [e, L.Nm_int, show 2 ^ (L.j + 1) = 2 * 2 ^ L.j by rw [Nat.pow_succ]; omega, Int.pow_mul, show n ^ 2 = n * n by rw [Int.pow_succ, Int.pow_succ, Int.pow_zero, Int.one_mul]]
end Lv
/-- the level of the radicands, the latest first -/
noncomputable def lv : List (List Int) → Lv
  | [] => Lv.base
  | r :: τ => (lv τ).ext r
theorem lv_j : ∀ τ : List (List Int), (lv τ).j = τ.length
  | [] => rfl
  | r :: τ => by show (lv τ).j + 1 = _; rw [lv_j τ, List.length_cons]
end Rr
end
section
set_option Elab.async false
namespace Rr
open Lean.Grind Std
/-! ### what coordinates are worth -/
section
variable {K : Type} [OF K]
noncomputable def valp : (τ : List (List Int)) → List K → (lv τ).A → K
  | [], _, x => (((show Int from x) : Int) : K)
  | r :: τ, σ, x => valp τ σ.tail (show (lv τ).E r from x).a + σ.headD 0 * valp τ σ.tail (show (lv τ).E r from x).b
/-- the roots, the latest first: each above 0, its square the radicand -/
def PRoots : List K → List (List Int) → Prop
  | [], [] => True
  | s :: σ, r :: τ => 0 < s ∧ s * s = valp τ σ ((lv τ).ofL r) ∧ r.length = 2 ^ τ.length ∧ PRoots σ τ
  | _, _ => False
theorem valp_cons (s : K) (σ : List K) (r : List Int) (τ : List (List Int)) (x : (lv τ).E r) : valp (r :: τ) (s :: σ) x = valp τ σ x.a + s * valp τ σ x.b := rfl
theorem PRoots.cons {σ : List K} {r : List Int} {τ : List (List Int)} (h : PRoots σ (r :: τ)) : ∃ s σ', σ = s :: σ' ∧ 0 < s ∧ s * s = valp τ σ' ((lv τ).ofL r) ∧ r.length = 2 ^ τ.length ∧ PRoots σ' τ := by
  match σ, h with
  | s :: σ', h => exact ⟨s, σ', rfl, h⟩
theorem valp_add : ∀ (τ : List (List Int)) (σ : List K) (x y : (lv τ).A), valp τ σ (x + y) = valp τ σ x + valp τ σ y
  | [], σ, x, y => ic_add (K := K) x y
  | r :: τ, σ, x, y => by
    show valp τ σ.tail ((show (lv τ).E r from x).a + (show (lv τ).E r from y).a) + σ.headD 0 * valp τ σ.tail ((show (lv τ).E r from x).b + (show (lv τ).E r from y).b) = _
    rw [valp_add τ, valp_add τ]
    show _ = (valp τ σ.tail (show (lv τ).E r from x).a + σ.headD 0 * valp τ σ.tail (show (lv τ).E r from x).b) + (valp τ σ.tail (show (lv τ).E r from y).a + σ.headD 0 * valp τ σ.tail (show (lv τ).E r from y).b)
    grind
theorem valp_mul : ∀ {τ : List (List Int)} {σ : List K} (_ : PRoots σ τ) (x y : (lv τ).A), valp τ σ (x * y) = valp τ σ x * valp τ σ y
  | [], [], _, x, y => ic_mul (K := K) x y
  | r :: τ, s :: σ, h, x, y => by
    let x' : (lv τ).E r := x
    let y' : (lv τ).E r := y
    show valp (r :: τ) (s :: σ) (x' * y') = valp (r :: τ) (s :: σ) x' * valp (r :: τ) (s :: σ) y'
    have R := h.2.2.2
    have e := h.2.1
    rw [valp_cons, valp_cons, valp_cons, Qd.mul_a, Qd.mul_b, valp_add, valp_add, valp_mul R, valp_mul R, valp_mul R, valp_mul R, valp_mul R]
    rw [show valp τ σ ((lv τ).rad r) = s * s from e.symm]
    grind
theorem valp_int : ∀ (τ : List (List Int)) (σ : List K) (n : Int), valp τ σ ((n : Int) : (lv τ).A) = (n : K)
  | [], σ, n => rfl
  | r :: τ, σ, n => by
    show valp τ σ.tail ((n : Int) : (lv τ).A) + σ.headD 0 * valp τ σ.tail (0 : (lv τ).A) = _
    rw [valp_int τ]
    have : valp τ σ.tail ((0 : Int) : (lv τ).A) = ((0 : Int) : K) := valp_int τ σ.tail 0
    rw [Lv.ca_zero, ic_zero] at this
    rw [this]
    grind
theorem valp_zero (τ : List (List Int)) (σ : List K) : valp τ σ (0 : (lv τ).A) = 0 := by
  have := valp_int τ σ 0
  rw [Lv.ca_zero, ic_zero] at this
  exact this
theorem valp_one (τ : List (List Int)) (σ : List K) : valp τ σ (1 : (lv τ).A) = 1 := by
  have := valp_int τ σ 1
  rw [Lv.ca_one, ic_one] at this
  exact this
theorem valp_neg (τ : List (List Int)) (σ : List K) (x : (lv τ).A) : valp τ σ (-x) = - valp τ σ x := by
  have := valp_add τ σ (-x) x
  rw [show -x + x = 0 by grind, valp_zero] at this
  grind
theorem valp_sub (τ : List (List Int)) (σ : List K) (x y : (lv τ).A) : valp τ σ (x - y) = valp τ σ x - valp τ σ y := by
  rw [show x - y = x + -y by grind, valp_add, valp_neg]; grind
theorem valp_cst {τ : List (List Int)} {σ : List K} (h : PRoots σ τ) (n : Int) (x : (lv τ).A) : valp τ σ ((n : (lv τ).A) * x) = (n : K) * valp τ σ x := by
  rw [valp_mul h, valp_int]
theorem valp_emb (s : K) (σ : List K) (r : List Int) (τ : List (List Int)) (x : (lv τ).A) : valp (r :: τ) (s :: σ) ((lv τ).emb r x) = valp τ σ x := by
  rw [valp_cons]
  show valp τ σ x + s * valp τ σ 0 = _
  rw [valp_zero]; grind
/-- a regular number isn't 0 -/
theorem valp_reg {τ : List (List Int)} {σ : List K} (h : PRoots σ τ) {x : (lv τ).A} (q : (lv τ).Nm x ≠ 0) : valp τ σ x ≠ 0 := by
  intro z
  have e := (lv τ).ad_mul x
  have e2 : valp τ σ (x * (lv τ).ad x) = (((lv τ).Nm x : Int) : K) := by rw [e, valp_int]
  rw [valp_mul h, z] at e2
  exact ic_nz (K := K) q (by rw [← e2]; grind)
theorem PRoots.len : ∀ {σ : List K} {τ : List (List Int)}, PRoots σ τ → σ.length = τ.length
  | [], [], _ => rfl
  | s :: σ, r :: τ, h => by rw [List.length_cons, List.length_cons, PRoots.len h.2.2.2]
end
section
variable {K L : Type} [OF K] [OF L] (f : Emb K L)
theorem Emb.valp : ∀ (τ : List (List Int)) (σ : List K) (x : (lv τ).A), f.f (valp τ σ x) = Rr.valp τ (σ.map f.f) x
  | [], σ, x => f.int _
  | r :: τ, σ, x => by
    show f.f (Rr.valp τ σ.tail (show (lv τ).E r from x).a + σ.headD 0 * Rr.valp τ σ.tail (show (lv τ).E r from x).b) = Rr.valp τ (σ.map f.f).tail (show (lv τ).E r from x).a + (σ.map f.f).headD 0 * Rr.valp τ (σ.map f.f).tail (show (lv τ).E r from x).b
    rw [f.add, f.mul, Emb.valp τ, Emb.valp τ, List.map_tail]
    match σ with
    | [] =>
      show _ + f.f 0 * _ = _ + 0 * _
      rw [f.zero]
    | s :: σ => rfl
theorem Emb.ps {x : K} (h : 0 < x) : 0 < f.f x := by
  have h1 := f.nn x (by grind)
  have h2 : x * x⁻¹ = 1 := Field.mul_inv_cancel (by grind)
  have h3 : f.f x * f.f x⁻¹ = 1 := by rw [← f.mul, h2, f.one]
  have o := one_ps (K := L)
  rcases (show 0 < f.f x ∨ f.f x = 0 by grind) with q | q
  · exact q
  · rw [q] at h3; grind
theorem Emb.proots : ∀ {σ : List K} {τ : List (List Int)}, PRoots σ τ → PRoots (σ.map f.f) τ
  | [], [], _ => trivial
  | s :: σ, r :: τ, h => ⟨f.ps h.1, by rw [← f.mul, h.2.1, f.valp], h.2.2.1, Emb.proots h.2.2.2⟩
end
/-! ### the program's lists -/
def psum (u v : List Int) : List Int := List.zipWith (· + ·) u v
def pscale (u : List Int) (n : Int) : List Int := u.map (fun c => c * n)
def pprod : List (List Int) → List Int → List Int → List Int
  | [], u, v => [u.getD 0 0 * v.getD 0 0]
  | r :: τ, u, v =>
    psum (pprod τ (u.take (u.length / 2)) (v.take (u.length / 2))) (pprod τ (pprod τ (u.drop (u.length / 2)) (v.drop (u.length / 2))) r)
      ++ psum (pprod τ (u.take (u.length / 2)) (v.drop (u.length / 2))) (pprod τ (u.drop (u.length / 2)) (v.take (u.length / 2)))
theorem pprod_cons (r : List Int) (τ : List (List Int)) (u v : List Int) : pprod (r :: τ) u v =
    psum (pprod τ (u.take (u.length / 2)) (v.take (u.length / 2))) (pprod τ (pprod τ (u.drop (u.length / 2)) (v.drop (u.length / 2))) r)
      ++ psum (pprod τ (u.take (u.length / 2)) (v.drop (u.length / 2))) (pprod τ (u.drop (u.length / 2)) (v.take (u.length / 2))) := rfl
def pnorm (r : List Int) (τ : List (List Int)) (u : List Int) : List Int :=
  psum (pprod τ (u.take (u.length / 2)) (u.take (u.length / 2))) (pscale (pprod τ (pprod τ (u.drop (u.length / 2)) (u.drop (u.length / 2))) r) (-1))
def wsign (n : Int) : Int := if n < 0 then -1 else if 0 < n then 1 else 0
def psign : List (List Int) → List Int → Int
  | [], u => wsign (u.getD 0 0)
  | r :: τ, u =>
    let first := psign τ (u.take (u.length / 2))
    let second := psign τ (u.drop (u.length / 2))
    if second = 0 ∨ first = second then first else if first = 0 then second else first * psign τ (pnorm r τ u)
/-- a list of this level's length -/
def Pit (τ : List (List Int)) (u : List Int) : Prop := u.length = 2 ^ τ.length
/-- each radicand has its level's length -/
def Rts : List (List Int) → Prop
  | [] => True
  | r :: τ => Pit τ r ∧ Rts τ
section
variable {τ : List (List Int)} {r : List Int}
theorem Pit.lo {u : List Int} (h : Pit (r :: τ) u) : Pit τ (u.take (u.length / 2)) := by
  unfold Pit at *; rw [List.length_take, h, List.length_cons, Nat.pow_succ]; omega
theorem Pit.hi {u : List Int} (h : Pit (r :: τ) u) : Pit τ (u.drop (u.length / 2)) := by
  unfold Pit at *; rw [List.length_drop, h, List.length_cons, Nat.pow_succ]; omega
theorem Pit.half {u : List Int} (h : Pit (r :: τ) u) : u.length / 2 = 2 ^ τ.length := by
  unfold Pit at *; rw [h, List.length_cons]; omega
theorem Pit.app {u v : List Int} (h : Pit τ u) (h' : Pit τ v) : Pit (r :: τ) (u ++ v) := by
  unfold Pit at *; rw [List.length_append, h, h', List.length_cons]; omega
theorem Pit.sum {u v : List Int} (h : Pit τ u) (h' : Pit τ v) : Pit τ (psum u v) := by
  unfold Pit psum at *; rw [List.length_zipWith, h, h']; omega
theorem Pit.scale {u : List Int} (h : Pit τ u) (n : Int) : Pit τ (pscale u n) := by
  unfold Pit pscale at *; rw [List.length_map, h]
theorem Pit.len {u : List Int} (h : Pit τ u) : u.length = 2 ^ (lv τ).j := by rw [lv_j]; exact h
theorem Pit.co (x : (lv τ).A) : Pit τ ((lv τ).co x) := by unfold Pit; rw [(lv τ).co_len, lv_j]
theorem Pit.eq {u : List Int} (h : Pit τ u) : (lv τ).co ((lv τ).ofL u) = u := (lv τ).co_ofL u h.len
theorem ofL_inj {u v : List Int} (h : Pit τ u) (h' : Pit τ v) (e : (lv τ).ofL u = (lv τ).ofL v) : u = v := by
  rw [← h.eq, ← h'.eq, e]
theorem ofL_psum {u v : List Int} (h : Pit τ u) (h' : Pit τ v) : (lv τ).ofL (psum u v) = (lv τ).ofL u + (lv τ).ofL v := by
  have := (lv τ).co_add ((lv τ).ofL u) ((lv τ).ofL v)
  rw [h.eq, h'.eq] at this
  rw [← (lv τ).ofL_co ((lv τ).ofL u + (lv τ).ofL v), this]
  rfl
theorem ofL_scale {u : List Int} (h : Pit τ u) (n : Int) : (lv τ).ofL (pscale u n) = (n : (lv τ).A) * (lv τ).ofL u := by
  have := (lv τ).co_int n ((lv τ).ofL u)
  rw [h.eq] at this
  rw [← (lv τ).ofL_co ((n : (lv τ).A) * (lv τ).ofL u), this]
  rfl
theorem ofL_cons {u : List Int} (h : Pit (r :: τ) u) : (lv (r :: τ)).ofL u = (⟨(lv τ).ofL (u.take (u.length / 2)), (lv τ).ofL (u.drop (u.length / 2))⟩ : (lv τ).E r) := by
  rw [h.half]
  show (⟨(lv τ).ofL (u.take (2 ^ (lv τ).j)), (lv τ).ofL (u.drop (2 ^ (lv τ).j))⟩ : (lv τ).E r) = _
  rw [lv_j]
end
theorem pprod_len : ∀ {τ : List (List Int)} {u v : List Int}, Rts τ → Pit τ u → Pit τ v → Pit τ (pprod τ u v)
  | [], u, v, _, _, _ => rfl
  | r :: τ, u, v, hR, hu, hv => by
    unfold pprod
    have e : u.length / 2 = v.length / 2 := by rw [hu.half, hv.half]
    have R := hR.2
    have a := hu.lo
    have b := hu.hi
    have c := hv.lo
    have d := hv.hi
    rw [← e] at c d
    exact ((pprod_len R a c).sum (pprod_len R (pprod_len R b d) hR.1)).app ((pprod_len R a d).sum (pprod_len R b c))
theorem ofL_pprod : ∀ {τ : List (List Int)} {u v : List Int}, Rts τ → Pit τ u → Pit τ v → (lv τ).ofL (pprod τ u v) = (lv τ).ofL u * (lv τ).ofL v
  | [], u, v, _, _, _ => rfl
  | r :: τ, u, v, hR, hu, hv => by
    rw [ofL_cons (pprod_len hR hu hv), ofL_cons hu, ofL_cons hv]
    have e : v.length / 2 = u.length / 2 := by rw [hu.half, hv.half]
    have R := hR.2
    have a := hu.lo
    have b := hu.hi
    have c := hv.lo
    have d := hv.hi
    rw [e] at c d
    have p1 := (pprod_len R a c).sum (pprod_len R (pprod_len R b d) hR.1)
    have p2 := (pprod_len R a d).sum (pprod_len R b c)
    have hh := (pprod_len hR hu hv).half
    rw [hh]
    have t1 : (pprod (r :: τ) u v).take (2 ^ τ.length) = psum (pprod τ (u.take (u.length / 2)) (v.take (u.length / 2))) (pprod τ (pprod τ (u.drop (u.length / 2)) (v.drop (u.length / 2))) r) := by
      rw [pprod_cons]
      rw [List.take_append_of_le_length (by rw [p1]; omega), List.take_of_length_le (by rw [p1]; omega)]
    have t2 : (pprod (r :: τ) u v).drop (2 ^ τ.length) = psum (pprod τ (u.take (u.length / 2)) (v.drop (u.length / 2))) (pprod τ (u.drop (u.length / 2)) (v.take (u.length / 2))) := by
      rw [pprod_cons]
      rw [List.drop_append, List.drop_eq_nil_of_le (by rw [p1]; omega), p1, Nat.sub_self, List.drop_zero, List.nil_append]
    rw [t1, t2, e]
    refine Qd.ext ?_ ?_
    · refine Eq.trans ?_ (Qd.mul_a _ _).symm
      dsimp only
      rw [ofL_psum (pprod_len R a c) (pprod_len R (pprod_len R b d) hR.1), ofL_pprod R a c, ofL_pprod R (pprod_len R b d) hR.1, ofL_pprod R b d]
      rfl
    · refine Eq.trans ?_ (Qd.mul_b _ _).symm
      dsimp only
      rw [ofL_psum (pprod_len R a d) (pprod_len R b c), ofL_pprod R a d, ofL_pprod R b c]
theorem pnorm_len {τ : List (List Int)} {r : List Int} {u : List Int} (hR : Rts (r :: τ)) (hu : Pit (r :: τ) u) : Pit τ (pnorm r τ u) := by
  have R := hR.2
  exact (pprod_len R hu.lo hu.lo).sum ((pprod_len R (pprod_len R hu.hi hu.hi) hR.1).scale _)
theorem ofL_pnorm {τ : List (List Int)} {r : List Int} {u : List Int} (hR : Rts (r :: τ)) (hu : Pit (r :: τ) u) : (lv τ).ofL (pnorm r τ u) = Qd.N (show (lv τ).E r from (lv (r :: τ)).ofL u) := by
  have R := hR.2
  unfold pnorm
  rw [ofL_psum (pprod_len R hu.lo hu.lo) ((pprod_len R (pprod_len R hu.hi hu.hi) hR.1).scale _), ofL_scale (pprod_len R (pprod_len R hu.hi hu.hi) hR.1), ofL_pprod R hu.lo hu.lo, ofL_pprod R (pprod_len R hu.hi hu.hi) hR.1, ofL_pprod R hu.hi hu.hi, ofL_cons hu]
  unfold Qd.N
  rw [Lv.ca_neg, Lv.ca_one]
  show _ = _ - _ * (lv τ).ofL r
  grind
section
variable {K : Type} [OF K]
theorem wsign_sg (n : Int) : wsign n = sg ((n : Int) : K) := by
  unfold wsign
  rcases (show n < 0 ∨ n = 0 ∨ 0 < n by omega) with h | h | h
  · rw [if_pos h, sg_ng (ic_ng h)]
  · rw [h, ic_zero, sg_zero]; rfl
  · rw [if_neg (by omega), if_pos h, sg_ps (ic_ps h)]
theorem PRoots.rts : ∀ {σ : List K} {τ : List (List Int)}, PRoots σ τ → Rts τ
  | [], [], _ => trivial
  | s :: σ, r :: τ, h => ⟨h.2.2.1, PRoots.rts h.2.2.2⟩
/-- the program's sign is the number's -/
theorem psign_val : ∀ {τ : List (List Int)} {σ : List K} {u : List Int}, PRoots σ τ → Pit τ u → psign τ u = sg (valp τ σ ((lv τ).ofL u))
  | [], [], u, _, _ => wsign_sg _
  | r :: τ, s :: σ, u, h, hu => by
    have hR := PRoots.rts h
    have R := h.2.2.2
    unfold psign
    dsimp only
    rw [psign_val R hu.lo, psign_val R hu.hi, psign_val R (pnorm_len hR hu), ofL_pnorm hR hu, ofL_cons hu]
    rw [valp_cons]
    unfold Qd.N
    dsimp only
    generalize (lv τ).ofL (u.take (u.length / 2)) = a
    generalize (lv τ).ofL (u.drop (u.length / 2)) = b
    rw [valp_sub, valp_mul R, valp_mul R, valp_mul R]
    have e := h.2.1
    have s0 := h.1
    have nz : valp τ σ ((lv τ).rad r) ≠ 0 := by
      rw [show valp τ σ ((lv τ).rad r) = s * s from e.symm]
      have := mul_ps s0 s0
      grind
    have key := sg_root (a := valp τ σ a) (b := valp τ σ b) (r := s) (c := valp τ σ ((lv τ).rad r)) (by grind) e nz
    rw [key]
    generalize valp τ σ a = x
    generalize valp τ σ b = y
    generalize sg (x * x - y * y * valp τ σ ((lv τ).rad r)) = w
    rcases sg_three x with ⟨_, h1⟩ | ⟨_, h1⟩ | ⟨_, h1⟩ <;> rcases sg_three y with ⟨_, h2⟩ | ⟨_, h2⟩ | ⟨_, h2⟩ <;> simp [h1, h2]
end
end Rr
end
section
set_option Elab.async false
namespace Rr
open Lean.Grind Std
/-! ### greatest common divisors -/
def gfold (l : List Int) (u : Int) : Int := l.foldl (fun d c => ((Int.gcd c d : Nat) : Int)) u
theorem gfold_cons (c : Int) (l : List Int) (u : Int) : gfold (c :: l) u = gfold l ((Int.gcd c u : Nat) : Int) := rfl
theorem gfold_dvd_u : ∀ (l : List Int) (u : Int), gfold l u ∣ u
  | [], u => Int.dvd_refl u
  | c :: l, u => Int.dvd_trans (gfold_dvd_u l _) (Int.gcd_dvd_right c u)
theorem gfold_dvd_mem : ∀ (l : List Int) (u : Int) (c : Int), c ∈ l → gfold l u ∣ c
  | x :: l, u, c, h => by
    rw [gfold_cons]
    rcases List.mem_cons.mp h with rfl | q
    · exact Int.dvd_trans (gfold_dvd_u l _) (Int.gcd_dvd_left _ u)
    · exact gfold_dvd_mem l _ c q
theorem dvd_gfold : ∀ (l : List Int) (u n d : Int), d ∣ n * u → (∀ c ∈ l, d ∣ n * c) → d ∣ n * gfold l u
  | [], u, n, d, h, _ => h
  | x :: l, u, n, d, h, hl => by
    rw [gfold_cons]
    refine dvd_gfold l _ n d ?_ fun c hc => hl c (List.mem_cons_of_mem _ hc)
    have h1 := hl x (List.mem_cons_self ..)
    have h2 : d ∣ ((Int.gcd (n * x) (n * u) : Nat) : Int) := Int.dvd_coe_gcd h1 h
    rw [Int.gcd_mul_left] at h2
    have h3 : d ∣ (n.natAbs : Int) * ((Int.gcd x u : Nat) : Int) := by
      have e : ((n.natAbs * Int.gcd x u : Nat) : Int) = (n.natAbs : Int) * ((Int.gcd x u : Nat) : Int) := by simp
      rw [← e]; exact h2
    rcases Int.natAbs_eq n with e | e
    · rw [e]; exact h3
    · rw [e, Int.neg_mul]; exact (Int.dvd_neg).mpr h3
theorem gfold_pos : ∀ (l : List Int) (u : Int), 0 < u → 0 < gfold l u
  | [], u, h => h
  | c :: l, u, h => by
    rw [gfold_cons]
    refine gfold_pos l _ ?_
    have : Int.gcd c u ≠ 0 := by
      intro q
      have := (Int.gcd_eq_zero_iff.mp q).2
      omega
    omega
/-- lowest terms -/
theorem gfold_low (l : List Int) (u : Int) (hu : 0 < u) : gfold (l.map fun c => c / gfold l u) (u / gfold l u) = 1 := by
  have hg := gfold_pos l u hu
  have d1 := gfold_dvd_u l u
  have d2 := gfold_dvd_mem l u
  generalize hgd : gfold l u = g at *
  have hq : 0 < u / g := Int.ediv_pos_of_pos_of_dvd hu (by omega) d1
  have hg' := gfold_pos (l.map fun c => c / g) (u / g) hq
  have e1 := gfold_dvd_u (l.map fun c => c / g) (u / g)
  have e2 := gfold_dvd_mem (l.map fun c => c / g) (u / g)
  generalize gfold (l.map fun c => c / g) (u / g) = k at *
  have m1 : g * k ∣ u := by
    have := Int.mul_dvd_mul_left g e1
    rwa [Int.mul_ediv_cancel' d1] at this
  have m2 : ∀ c ∈ l, g * k ∣ c := fun c hc => by
    have := Int.mul_dvd_mul_left g (e2 (c / g) (List.mem_map.mpr ⟨c, hc, rfl⟩))
    rwa [Int.mul_ediv_cancel' (d2 c hc)] at this
  have m3 : g * k ∣ 1 * gfold l u := dvd_gfold l u 1 (g * k) (by rw [Int.one_mul]; exact m1) fun c hc => by rw [Int.one_mul]; exact m2 c hc
  rw [Int.one_mul, hgd] at m3
  have m4 := Int.le_of_dvd hg m3
  rcases (show k = 1 ∨ 2 ≤ k by omega) with q | q
  · exact q
  · have := Int.mul_le_mul_of_nonneg_left q (show 0 ≤ g by omega)
    omega
/-! ### numbers as the program holds them -/
structure PN where
  parts : List Int
  under : Int
/-- a list of a level at or below this one -/
def Sub : List (List Int) → List Int → Prop
  | [], l => l.length = 1
  | r :: τ, l => Pit (r :: τ) l ∨ Sub τ l
theorem Sub.le : ∀ {τ : List (List Int)} {l : List Int}, Sub τ l → l.length ≤ 2 ^ τ.length
  | [], l, h => Nat.le_of_eq h
  | r :: τ, l, h => by
    rcases h with q | q
    · exact Nat.le_of_eq q
    · have := Sub.le q
      rw [List.length_cons, Nat.pow_succ]; omega
theorem Sub.pos : ∀ {τ : List (List Int)} {l : List Int}, Sub τ l → 1 ≤ l.length
  | [], l, h => Nat.le_of_eq (Eq.symm h)
  | r :: τ, l, h => by
    rcases h with q | q
    · rw [q]; exact Nat.pow_pos (by decide)
    · exact Sub.pos q
theorem two_pos (n : Nat) : 0 < 2 ^ n := Nat.pow_pos (by decide)
theorem Sub.short {r : List Int} {τ : List (List Int)} {l : List Int} (h : Sub (r :: τ) l) (hl : l.length ≤ 2 ^ τ.length) : Sub τ l := by
  rcases h with q | q
  · exfalso
    unfold Pit at q
    rw [List.length_cons, Nat.pow_succ] at q
    have := two_pos τ.length
    omega
  · exact q
theorem Sub.full {r : List Int} {τ : List (List Int)} {l : List Int} (h : Sub (r :: τ) l) (hl : ¬ l.length ≤ 2 ^ τ.length) : Pit (r :: τ) l := by
  rcases h with q | q
  · exact q
  · exact absurd q.le hl
theorem Pit.sub : ∀ {τ : List (List Int)} {l : List Int}, Pit τ l → Sub τ l
  | [], _, h => h
  | _ :: _, _, h => .inl h
theorem Sub.of_len : ∀ {τ : List (List Int)} {u v : List Int}, Sub τ u → v.length = u.length → Sub τ v
  | [], u, v, h, e => by unfold Sub at *; rw [e]; exact h
  | r :: τ, u, v, h, e => by
    rcases h with q | q
    · exact .inl (by unfold Pit at *; rw [e]; exact q)
    · exact .inr (q.of_len e)
/-- of two lengths the greater is one -/
theorem Sub.max : ∀ {τ : List (List Int)} {u v : List Int}, Sub τ u → Sub τ v → u.length ≤ v.length ∨ v.length ≤ u.length := fun _ _ => by omega
/-- the level of a length -/
def low : List (List Int) → Nat → List (List Int)
  | [], _ => []
  | r :: τ, n => if n ≤ 2 ^ τ.length then low τ n else r :: τ
theorem low_short {r : List Int} {τ : List (List Int)} {n : Nat} (h : n ≤ 2 ^ τ.length) : low (r :: τ) n = low τ n := if_pos h
theorem low_full {r : List Int} {τ : List (List Int)} {n : Nat} (h : ¬ n ≤ 2 ^ τ.length) : low (r :: τ) n = r :: τ := if_neg h
theorem low_pit : ∀ {τ : List (List Int)} {l : List Int}, Sub τ l → Pit (low τ l.length) l
  | [], _, h => h
  | r :: τ, l, h => by
    by_cases q : l.length ≤ 2 ^ τ.length
    · rw [low_short q]; exact low_pit (h.short q)
    · rw [low_full q]; exact h.full q
theorem low_rts : ∀ {τ : List (List Int)} (n : Nat), Rts τ → Rts (low τ n)
  | [], _, h => h
  | r :: τ, n, h => by
    by_cases q : n ≤ 2 ^ τ.length
    · rw [low_short q]; exact low_rts n h.2
    · rw [low_full q]; exact h
/-- the number of the coordinates, at the level τ -/
noncomputable def el : (τ : List (List Int)) → List Int → (lv τ).A
  | [], l => (lv []).ofL l
  | r :: τ, l => if l.length ≤ 2 ^ τ.length then (lv τ).emb r (el τ l) else (lv (r :: τ)).ofL l
theorem el_short {r : List Int} {τ : List (List Int)} {l : List Int} (h : l.length ≤ 2 ^ τ.length) : el (r :: τ) l = (lv τ).emb r (el τ l) := if_pos h
theorem el_full {r : List Int} {τ : List (List Int)} {l : List Int} (h : ¬ l.length ≤ 2 ^ τ.length) : el (r :: τ) l = (lv (r :: τ)).ofL l := if_neg h
theorem el_pit : ∀ {τ : List (List Int)} {l : List Int}, Pit τ l → el τ l = (lv τ).ofL l
  | [], _, _ => rfl
  | r :: τ, l, h => el_full (by
      unfold Pit at h
      rw [List.length_cons, Nat.pow_succ] at h
      have := two_pos τ.length
      omega)
theorem el_psum : ∀ {τ : List (List Int)} {u v : List Int}, Sub τ u → v.length = u.length → el τ (psum u v) = el τ u + el τ v
  | [], u, v, h, e => ofL_psum (τ := []) h (by unfold Pit; rw [e]; exact h)
  | r :: τ, u, v, h, e => by
    have l : (psum u v).length = u.length := by unfold psum; rw [List.length_zipWith, e]; omega
    by_cases q : u.length ≤ 2 ^ τ.length
    · rw [el_short (l := u) q, el_short (l := v) (by omega), el_short (l := psum u v) (by omega), el_psum (h.short q) e, Lv.emb_add]
      rfl
    · have p := h.full q
      rw [el_full (l := u) q, el_full (l := v) (by omega), el_full (l := psum u v) (by omega)]
      exact ofL_psum p (by unfold Pit; rw [e]; exact p)
theorem el_scale : ∀ {τ : List (List Int)} {u : List Int} (n : Int), Sub τ u → el τ (pscale u n) = (n : (lv τ).A) * el τ u
  | [], u, n, h => ofL_scale (τ := []) h n
  | r :: τ, u, n, h => by
    have l : (pscale u n).length = u.length := by unfold pscale; rw [List.length_map]
    by_cases q : u.length ≤ 2 ^ τ.length
    · rw [el_short (l := u) q, el_short (l := pscale u n) (by omega), el_scale n (h.short q), Lv.emb_mul]
      rfl
    · rw [el_full (l := u) q, el_full (l := pscale u n) (by omega)]
      exact ofL_scale (h.full q) n
theorem el_prod : ∀ {τ : List (List Int)} {u v : List Int}, Rts τ → Sub τ u → v.length = u.length → el τ (pprod (low τ u.length) u v) = el τ u * el τ v
  | [], u, v, _, h, e => ofL_pprod (τ := []) trivial h (by unfold Pit; rw [e]; exact h)
  | r :: τ, u, v, R, h, e => by
    by_cases q : u.length ≤ 2 ^ τ.length
    · have hs := h.short q
      have hv : Pit (low τ u.length) v := by have := low_pit hs; unfold Pit at *; rw [e]; exact this
      have l : (pprod (low τ u.length) u v).length = u.length := by
        rw [pprod_len (low_rts _ R.2) (low_pit hs) hv]; exact (low_pit hs).symm
      rw [low_short q, el_short (l := u) q, el_short (l := v) (by omega), el_short (l := pprod (low τ u.length) u v) (by omega), el_prod R.2 hs e, Lv.emb_mul]
      rfl
    · have p := h.full q
      have p' : Pit (r :: τ) v := by unfold Pit; rw [e]; exact p
      rw [low_full q, el_full (l := u) q, el_full (l := v) (by omega), el_pit (pprod_len R p p')]
      exact ofL_pprod R p p'
def widen (l : List Int) (n : Nat) : List Int := l ++ List.replicate (n - l.length) 0
theorem ofL_zeros : ∀ (τ : List (List Int)) (n : Nat), (lv τ).ofL (List.replicate n 0) = 0
  | [], n => by
    show (List.replicate n (0 : Int)).getD 0 0 = 0
    cases n <;> rfl
  | r :: τ, n => by
    show (⟨(lv τ).ofL ((List.replicate n 0).take (2 ^ (lv τ).j)), (lv τ).ofL ((List.replicate n 0).drop (2 ^ (lv τ).j))⟩ : (lv τ).E r) = 0
    rw [List.take_replicate, List.drop_replicate, ofL_zeros τ, ofL_zeros τ]
    rfl
theorem ofL_emb {r : List Int} {τ : List (List Int)} {l : List Int} {n : Nat} (h : Pit τ l) : (lv (r :: τ)).ofL (l ++ List.replicate n 0) = (lv τ).emb r ((lv τ).ofL l) := by
  show (⟨(lv τ).ofL ((l ++ List.replicate n 0).take (2 ^ (lv τ).j)), (lv τ).ofL ((l ++ List.replicate n 0).drop (2 ^ (lv τ).j))⟩ : (lv τ).E r) = _
  have e := h.len
  rw [List.take_append_of_le_length (by omega), List.take_of_length_le (by omega), List.drop_append, List.drop_eq_nil_of_le (by omega), List.nil_append, List.drop_replicate, ofL_zeros]
  rfl
theorem el_widen_full : ∀ {τ : List (List Int)} {l : List Int}, Sub τ l → el τ (widen l (2 ^ τ.length)) = el τ l ∧ Pit τ (widen l (2 ^ τ.length))
  | [], l, h => by
    have e : widen l (2 ^ ([] : List (List Int)).length) = l := by
      unfold widen
      rw [show l.length = 1 from h]
      show l ++ [] = l
      simp
    rw [e]; exact ⟨rfl, h⟩
  | r :: τ, l, h => by
    by_cases q : l.length ≤ 2 ^ τ.length
    · have ih := el_widen_full (h.short q)
      have ew : widen l (2 ^ (r :: τ).length) = widen l (2 ^ τ.length) ++ List.replicate (2 ^ τ.length) 0 := by
        unfold widen
        rw [List.append_assoc, List.replicate_append_replicate, List.length_cons, Nat.pow_succ]
        congr 2; omega
      have p : Pit (r :: τ) (widen l (2 ^ (r :: τ).length)) := by
        rw [ew]; unfold Pit; rw [List.length_append, ih.2, List.length_replicate, List.length_cons, Nat.pow_succ]; omega
      refine ⟨?_, p⟩
      rw [el_pit p, ew, ofL_emb ih.2, el_short (l := l) q, ← el_pit ih.2, ih.1]
    · have p := h.full q
      have e : widen l (2 ^ (r :: τ).length) = l := by
        unfold widen; rw [show l.length = 2 ^ (r :: τ).length from p, Nat.sub_self]; simp
      rw [e]; exact ⟨rfl, p⟩
/-- widened to a greater length of a level -/
theorem el_widen : ∀ {τ : List (List Int)} {l m : List Int}, Sub τ l → Sub τ m → l.length ≤ m.length → el τ (widen l m.length) = el τ l ∧ (widen l m.length).length = m.length
  | [], l, m, h, h', e => by
    have ew : widen l m.length = l := by
      unfold widen; rw [show l.length = 1 from h, show m.length = 1 from h']; simp
    rw [ew]; exact ⟨rfl, by rw [show l.length = 1 from h, show m.length = 1 from h']⟩
  | r :: τ, l, m, h, h', e => by
    have el' : (widen l m.length).length = m.length := by unfold widen; rw [List.length_append, List.length_replicate]; omega
    refine ⟨?_, el'⟩
    by_cases q : m.length ≤ 2 ^ τ.length
    · have ih := el_widen (h.short (by omega)) (h'.short q) e
      rw [el_short (l := widen l m.length) (by omega), el_short (l := l) (by omega), ih.1]
    · have p := h'.full q
      have := el_widen_full h
      rw [show m.length = 2 ^ (r :: τ).length from p]
      exact this.1
/-- the coordinates of a number -/
theorem co_el {τ : List (List Int)} {l : List Int} (h : Sub τ l) : (lv τ).co (el τ l) = widen l (2 ^ τ.length) := by
  have := el_widen_full h
  rw [← this.1, el_pit this.2, this.2.eq]
/-! ### the program's reduced -/
def strip : Nat → List Int → List Int
  | 0, l => l
  | k + 1, l => if 1 < l.length ∧ ∀ c ∈ l.drop (l.length / 2), c = 0 then strip k (l.take (l.length / 2)) else l
/-- one part, or the upper half isn't all 0 -/
def Strp (l : List Int) : Prop := ¬ (1 < l.length ∧ ∀ c ∈ l.drop (l.length / 2), c = 0)
theorem strip_ok : ∀ {τ : List (List Int)} {l : List Int} (k : Nat), Sub τ l → l.length ≤ k → Sub τ (strip k l) ∧ el τ (strip k l) = el τ l ∧ Strp (strip k l) ∧ (strip k l).length ≤ l.length
  | [], l, k, h, hk => by
    have h1 : l.length = 1 := h
    have n : ¬ (1 < l.length ∧ ∀ c ∈ l.drop (l.length / 2), c = 0) := by omega
    cases k with
    | zero => omega
    | succ k =>
      unfold strip
      rw [if_neg n]
      exact ⟨h, rfl, n, Nat.le_refl _⟩
  | r :: τ, l, k, h, hk => by
    by_cases q : l.length ≤ 2 ^ τ.length
    · have ih := strip_ok k (h.short q) hk
      refine ⟨.inr ih.1, ?_, ih.2.2.1, ih.2.2.2⟩
      rw [el_short (l := strip k l) (by omega), el_short (l := l) q, ih.2.1]
    · have p := h.full q
      cases k with
      | zero => have := h.pos; omega
      | succ k =>
        unfold strip
        by_cases c : 1 < l.length ∧ ∀ c ∈ l.drop (l.length / 2), c = 0
        · rw [if_pos c]
          have ll := p.lo
          have hl2 : (l.take (l.length / 2)).length = 2 ^ τ.length := ll
          have ih := strip_ok (τ := τ) k ll.sub (by rw [List.length_take]; omega)
          refine ⟨.inr ih.1, ?_, ih.2.2.1, Nat.le_trans ih.2.2.2 (by rw [List.length_take]; omega)⟩
          rw [el_short (l := strip k (l.take (l.length / 2))) (by omega), ih.2.1, el_full (l := l) q, ofL_cons p, el_pit ll]
          have z : l.drop (l.length / 2) = List.replicate (l.drop (l.length / 2)).length 0 := List.eq_replicate_iff.mpr ⟨rfl, c.2⟩
          rw [z, ofL_zeros]
          rfl
        · rw [if_neg c]
          exact ⟨h, rfl, c, Nat.le_refl _⟩
def reduced (l : List Int) (u : Int) : PN :=
  ⟨(strip l.length l).map (fun c => c / gfold (strip l.length l) u), u / gfold (strip l.length l) u⟩
/-- a number in lowest terms -/
structure NumOk (τ : List (List Int)) (x : PN) : Prop where
  sub : Sub τ x.parts
  pos : 0 < x.under
  low : gfold x.parts x.under = 1
  strp : Strp x.parts
/-- x is z / u -/
def Is (τ : List (List Int)) (x : PN) (z : (lv τ).A) (u : Int) : Prop := el τ x.parts * (u : (lv τ).A) = z * (x.under : (lv τ).A)
theorem strp_map {l : List Int} {g : Int} (h : Strp l) (hd : ∀ c ∈ l, g ∣ c) : Strp (l.map fun c => c / g) := by
  intro q
  apply h
  rw [List.length_map] at q
  refine ⟨q.1, fun c hc => ?_⟩
  have h1 := q.2 (c / g) (by rw [← List.map_drop]; exact List.mem_map.mpr ⟨c, hc, rfl⟩)
  have h2 := Int.mul_ediv_cancel' (hd c (List.mem_of_mem_drop hc))
  rw [h1] at h2
  omega
theorem reduced_ok {τ : List (List Int)} {l : List Int} {u : Int} (h : Sub τ l) (hu : 0 < u) : NumOk τ (reduced l u) ∧ Is τ (reduced l u) (el τ l) u ∧
    (∃ g : Int, 0 < g ∧ el τ l = (g : (lv τ).A) * el τ (reduced l u).parts ∧ u = g * (reduced l u).under) := by
  obtain ⟨s1, s2, s3, s4⟩ := strip_ok l.length h (Nat.le_refl _)
  have hg := gfold_pos (strip l.length l) u hu
  have d1 := gfold_dvd_u (strip l.length l) u
  have d2 := gfold_dvd_mem (strip l.length l) u
  have lw := gfold_low (strip l.length l) u hu
  unfold reduced Is
  generalize strip l.length l = p at *
  generalize gfold p u = g at *
  have su : Sub τ (p.map fun c => c / g) := s1.of_len (by rw [List.length_map])
  have e1 : el τ l = (g : (lv τ).A) * el τ (p.map fun c => c / g) := by
    rw [← s2, ← el_scale g su]
    congr 1
    unfold pscale
    rw [List.map_map]
    conv => lhs; rw [← List.map_id p]
    apply List.map_congr_left
    intro c hc
    show c = c / g * g
    rw [Int.mul_comm, Int.mul_ediv_cancel' (d2 c hc)]
  have e2 : u = g * (u / g) := (Int.mul_ediv_cancel' d1).symm
  refine ⟨⟨su, Int.ediv_pos_of_pos_of_dvd hu (by omega) d1, lw, strp_map s3 d2⟩, ?_, g, hg, e1, e2⟩
  show el τ (p.map fun c => c / g) * (u : (lv τ).A) = el τ l * ((u / g : Int) : (lv τ).A)
  rw [e1]
  conv => lhs; rw [e2, Lv.ca_mul]
  grind
end Rr
end
section
set_option Elab.async false
namespace Rr
open Lean.Grind Std
/-! ### the program's operations -/
def mplus (x y : PN) : PN :=
  reduced (psum (pscale (widen x.parts (max x.parts.length y.parts.length)) y.under) (pscale (widen y.parts (max x.parts.length y.parts.length)) x.under)) (x.under * y.under)
def mneg (y : PN) : PN := ⟨pscale y.parts (-1), y.under⟩
def mminus (x y : PN) : PN := mplus x (mneg y)
def mtimes (τ : List (List Int)) (x y : PN) : PN :=
  reduced (pprod (low τ (max x.parts.length y.parts.length)) (widen x.parts (max x.parts.length y.parts.length)) (widen y.parts (max x.parts.length y.parts.length))) (x.under * y.under)
def minv : List (List Int) → PN → PN
  | [], x => reduced [if 0 < x.parts.getD 0 0 then x.under else -x.under] (x.parts.getD 0 0).natAbs
  | r :: τ, x =>
    if x.parts.length ≤ 2 ^ τ.length then minv τ x
    else if psign τ (pnorm r τ x.parts) = 0 then minv τ (reduced (pscale (x.parts.take (x.parts.length / 2)) 2) x.under)
    else mtimes (r :: τ) ⟨x.parts.take (x.parts.length / 2) ++ pscale (x.parts.drop (x.parts.length / 2)) (-1), 1⟩ (minv τ (reduced (pnorm r τ x.parts) x.under))
def mover (τ : List (List Int)) (x y : PN) : PN := mtimes τ x (minv τ y)
def mwhole (v : Int) : PN := ⟨[v], 1⟩
def mrad (τ : List (List Int)) (x : PN) : List Int := widen (pscale x.parts x.under) (2 ^ τ.length)
def mroot (τ : List (List Int)) (x : PN) : PN := ⟨List.replicate (2 ^ τ.length) 0 ++ (1 :: List.replicate (2 ^ τ.length - 1) 0), x.under⟩
/-- a list whose numbers may be taken -/
structure PreOk (τ : List (List Int)) (x : PN) : Prop where
  sub : Sub τ x.parts
  pos : 0 < x.under
theorem NumOk.pre {τ : List (List Int)} {x : PN} (h : NumOk τ x) : PreOk τ x := ⟨h.sub, h.pos⟩
theorem widen_both {τ : List (List Int)} {u v : List Int} (hu : Sub τ u) (hv : Sub τ v) :
    el τ (widen u (max u.length v.length)) = el τ u ∧ el τ (widen v (max u.length v.length)) = el τ v ∧
    (widen u (max u.length v.length)).length = max u.length v.length ∧ (widen v (max u.length v.length)).length = max u.length v.length ∧ Sub τ (widen u (max u.length v.length)) := by
  rcases (show u.length ≤ v.length ∨ v.length ≤ u.length by omega) with q | q
  · have e : max u.length v.length = v.length := by omega
    rw [e]
    have h1 := el_widen hu hv q
    have h2 := el_widen hv hv (Nat.le_refl _)
    exact ⟨h1.1, h2.1, h1.2, h2.2, hv.of_len h1.2⟩
  · have e : max u.length v.length = u.length := by omega
    rw [e]
    have h1 := el_widen hu hu (Nat.le_refl _)
    have h2 := el_widen hv hu q
    exact ⟨h1.1, h2.1, h1.2, h2.2, hu.of_len h1.2⟩
theorem mplus_ok {τ : List (List Int)} {x y : PN} (hx : PreOk τ x) (hy : PreOk τ y) :
    NumOk τ (mplus x y) ∧ Is τ (mplus x y) (el τ x.parts * (y.under : (lv τ).A) + el τ y.parts * (x.under : (lv τ).A)) (x.under * y.under) := by
  obtain ⟨e1, e2, l1, l2, s1⟩ := widen_both hx.sub hy.sub
  have s2 : Sub τ (widen y.parts (max x.parts.length y.parts.length)) := s1.of_len (by rw [l1, l2])
  have ls1 : (pscale (widen x.parts (max x.parts.length y.parts.length)) y.under).length = max x.parts.length y.parts.length := by unfold pscale; rw [List.length_map, l1]
  have ls2 : (pscale (widen y.parts (max x.parts.length y.parts.length)) x.under).length = max x.parts.length y.parts.length := by unfold pscale; rw [List.length_map, l2]
  have t1 : Sub τ (pscale (widen x.parts (max x.parts.length y.parts.length)) y.under) := s1.of_len (by rw [ls1, l1])
  have ts : Sub τ (psum (pscale (widen x.parts (max x.parts.length y.parts.length)) y.under) (pscale (widen y.parts (max x.parts.length y.parts.length)) x.under)) :=
    t1.of_len (by unfold psum; rw [List.length_zipWith, ls1, ls2]; omega)
  obtain ⟨h1, h2, _⟩ := reduced_ok ts (Int.mul_pos hx.pos hy.pos)
  refine ⟨h1, ?_⟩
  rw [el_psum t1 (by rw [ls1, ls2]), el_scale _ s1, el_scale _ s2, e1, e2] at h2
  unfold mplus
  rw [show el τ x.parts * (y.under : (lv τ).A) + el τ y.parts * (x.under : (lv τ).A) = (y.under : (lv τ).A) * el τ x.parts + (x.under : (lv τ).A) * el τ y.parts by grind]
  exact h2
theorem mneg_pre {τ : List (List Int)} {y : PN} (hy : PreOk τ y) : PreOk τ (mneg y) ∧ el τ (mneg y).parts = - el τ y.parts := by
  refine ⟨⟨hy.sub.of_len (by unfold mneg pscale; rw [List.length_map]), hy.pos⟩, ?_⟩
  unfold mneg
  rw [el_scale _ hy.sub, Lv.ca_neg, Lv.ca_one]
  grind
theorem mtimes_ok {τ : List (List Int)} {x y : PN} (R : Rts τ) (hx : PreOk τ x) (hy : PreOk τ y) :
    NumOk τ (mtimes τ x y) ∧ Is τ (mtimes τ x y) (el τ x.parts * el τ y.parts) (x.under * y.under) := by
  obtain ⟨e1, e2, l1, l2, s1⟩ := widen_both hx.sub hy.sub
  have q := el_prod (v := widen y.parts (max x.parts.length y.parts.length)) R s1 (by rw [l1, l2])
  rw [l1, e1, e2] at q
  have p := low_pit s1
  rw [l1] at p
  have p2 : Pit (low τ (max x.parts.length y.parts.length)) (widen y.parts (max x.parts.length y.parts.length)) := by unfold Pit at *; rw [l2]; exact l1.symm.trans p
  have len := pprod_len (low_rts _ R) p p2
  have ts : Sub τ (pprod (low τ (max x.parts.length y.parts.length)) (widen x.parts (max x.parts.length y.parts.length)) (widen y.parts (max x.parts.length y.parts.length))) :=
    s1.of_len (by rw [len]; exact p.symm)
  obtain ⟨h1, h2, _⟩ := reduced_ok ts (Int.mul_pos hx.pos hy.pos)
  rw [q] at h2
  exact ⟨h1, h2⟩
/-! ### the formal inverse: q / n -/
section
variable {K : Type} [OF K]
open Classical in
noncomputable def pinv : (τ : List (List Int)) → List K → (lv τ).A → (lv τ).A × Int
  | [], _, z => ((1 : Int), z)
  | r :: τ, σ, z =>
    if (show (lv τ).E r from z).b = 0 then ((lv τ).emb r (pinv τ σ.tail (show (lv τ).E r from z).a).1, (pinv τ σ.tail (show (lv τ).E r from z).a).2)
    else if valp τ σ.tail (Qd.N (show (lv τ).E r from z)) = 0 then ((lv τ).emb r (pinv τ σ.tail (((2 : Int) : (lv τ).A) * (show (lv τ).E r from z).a)).1, (pinv τ σ.tail (((2 : Int) : (lv τ).A) * (show (lv τ).E r from z).a)).2)
    else ((lv τ).cj (show (lv τ).E r from z) * (lv τ).emb r (pinv τ σ.tail (Qd.N (show (lv τ).E r from z))).1, (pinv τ σ.tail (Qd.N (show (lv τ).E r from z))).2)
theorem pinv_b {s : K} {σ : List K} {r : List Int} {τ : List (List Int)} {z : (lv τ).E r} (h : z.b = 0) : pinv (r :: τ) (s :: σ) z = ((lv τ).emb r (pinv τ σ z.a).1, (pinv τ σ z.a).2) := if_pos h
theorem pinv_t {s : K} {σ : List K} {r : List Int} {τ : List (List Int)} {z : (lv τ).E r} (h : ¬ z.b = 0) (h2 : valp τ σ (Qd.N z) = 0) :
    pinv (r :: τ) (s :: σ) z = ((lv τ).emb r (pinv τ σ (((2 : Int) : (lv τ).A) * z.a)).1, (pinv τ σ (((2 : Int) : (lv τ).A) * z.a)).2) := (if_neg h).trans (if_pos h2)
theorem pinv_n {s : K} {σ : List K} {r : List Int} {τ : List (List Int)} {z : (lv τ).E r} (h : ¬ z.b = 0) (h2 : ¬ valp τ σ (Qd.N z) = 0) :
    pinv (r :: τ) (s :: σ) z = ((lv τ).cj z * (lv τ).emb r (pinv τ σ (Qd.N z)).1, (pinv τ σ (Qd.N z)).2) := (if_neg h).trans (if_neg h2)
theorem valp_N {s : K} {σ : List K} {r : List Int} {τ : List (List Int)} (R : PRoots (s :: σ) (r :: τ)) (z : (lv τ).E r) :
    valp τ σ (Qd.N z) = (valp τ σ z.a - s * valp τ σ z.b) * (valp τ σ z.a + s * valp τ σ z.b) := by
  have R' := R.2.2.2
  unfold Qd.N
  rw [valp_sub, valp_mul R', valp_mul R', valp_mul R', show valp τ σ ((lv τ).rad r) = s * s from R.2.1.symm]
  grind
theorem valp_cj {s : K} {σ : List K} {r : List Int} {τ : List (List Int)} (z : (lv τ).E r) : valp (r :: τ) (s :: σ) ((lv τ).cj z) = valp τ σ z.a - s * valp τ σ z.b := by
  rw [valp_cons]
  show valp τ σ z.a + s * valp τ σ (-z.b) = _
  rw [valp_neg]; grind
/-- what it is worth -/
theorem pinv_val : ∀ {τ : List (List Int)} {σ : List K} (_ : PRoots σ τ) (z : (lv τ).A), valp τ σ z ≠ 0 →
    (pinv τ σ z).2 ≠ 0 ∧ valp τ σ (pinv τ σ z).1 * valp τ σ z = (((pinv τ σ z).2 : Int) : K)
  | [], [], _, z, hz => by
    refine ⟨?_, ?_⟩
    · intro q
      apply hz
      show ((show Int from z : Int) : K) = 0
      rw [show (show Int from z) = 0 from q, ic_zero]
    · show ((1 : Int) : K) * ((show Int from z : Int) : K) = ((show Int from z : Int) : K)
      rw [ic_one]; grind
  | r :: τ, s :: σ, R, z, hz => by
    have R' := R.2.2.2
    let z' : (lv τ).E r := z
    show (pinv (r :: τ) (s :: σ) z').2 ≠ 0 ∧ valp (r :: τ) (s :: σ) (pinv (r :: τ) (s :: σ) z').1 * valp (r :: τ) (s :: σ) z' = (((pinv (r :: τ) (s :: σ) z').2 : Int) : K)
    replace hz : valp (r :: τ) (s :: σ) z' ≠ 0 := hz
    generalize z' = z at *
    rcases Classical.em (z.b = 0) with hb | hb
    · rw [pinv_b hb]
      dsimp only
      rw [valp_cons, hb, valp_zero] at hz
      rw [valp_cons s σ r τ z, hb, valp_zero]
      have ih := pinv_val R' z.a (by intro q; apply hz; rw [q]; grind)
      refine ⟨ih.1, ?_⟩
      have := valp_emb s σ r τ (pinv τ σ z.a).1
      rw [this, ← ih.2]; grind
    · rcases Classical.em (valp τ σ (Qd.N z) = 0) with hn | hn
      · rw [pinv_t hb hn]
        dsimp only
        have e := valp_N R z
        rw [hn] at e
        rw [valp_cons] at hz
        have e2 : valp τ σ z.a - s * valp τ σ z.b = 0 := by
          rcases mul_z e.symm with q | q
          · exact q
          · exact absurd q hz
        have e3 : valp τ σ (((2 : Int) : (lv τ).A) * z.a) = valp τ σ z.a + s * valp τ σ z.b := by
          rw [valp_cst R', show ((2 : Int) : K) = 2 from Ring.intCast_ofNat 2]; grind
        have ih := pinv_val R' (((2 : Int) : (lv τ).A) * z.a) (by rw [e3]; exact hz)
        refine ⟨ih.1, ?_⟩
        have := valp_emb s σ r τ (pinv τ σ (((2 : Int) : (lv τ).A) * z.a)).1
        rw [valp_cons s σ r τ z, this, ← ih.2, e3]
      · rw [pinv_n hb hn]
        dsimp only
        have e := valp_N R z
        have ih := pinv_val R' (Qd.N z) hn
        refine ⟨ih.1, ?_⟩
        have h1 := valp_mul R ((lv τ).cj z) ((lv τ).emb r (pinv τ σ (Qd.N z)).1)
        have h2 := valp_emb s σ r τ (pinv τ σ (Qd.N z)).1
        have h3 := valp_cj (s := s) (σ := σ) z
        rw [h2, h3] at h1
        have h4 := ih.2
        rw [e] at h4
        rw [valp_cons s σ r τ z]
        refine Eq.trans (congrArg (· * _) h1) ?_
        rw [← h4]; grind
/-- of a regular number it is the inverse itself -/
theorem pinv_reg : ∀ {τ : List (List Int)} {σ : List K} (_ : PRoots σ τ) (z : (lv τ).A), (lv τ).Nm z ≠ 0 → z * (pinv τ σ z).1 = (((pinv τ σ z).2 : Int) : (lv τ).A)
  | [], [], _, z, _ => Int.mul_one z
  | r :: τ, s :: σ, R, z, hz => by
    have R' := R.2.2.2
    let z' : (lv τ).E r := z
    show z' * (show (lv τ).E r from (pinv (r :: τ) (s :: σ) z').1) = (((pinv (r :: τ) (s :: σ) z').2 : Int) : (lv τ).E r)
    replace hz : (lv τ).Nm (Qd.N z') ≠ 0 := hz
    generalize z' = z at *
    rcases Classical.em (z.b = 0) with hb | hb
    · rw [pinv_b hb]
      show z * (lv τ).emb r (pinv τ σ z.a).1 = _
      have e : Qd.N z = z.a * z.a := by unfold Qd.N; rw [hb]; grind
      rw [e, (lv τ).Nm_mul] at hz
      have ih := pinv_reg R' z.a (fun q => hz (by rw [q]; rfl))
      have ez : z = (lv τ).emb r z.a := Qd.ext rfl hb
      have ek : z * (lv τ).emb r (pinv τ σ z.a).1 = (lv τ).emb r (z.a * (pinv τ σ z.a).1) := by rw [Lv.emb_mul, ← ez]
      rw [ek, ih]
      rfl
    · have hn : ¬ valp τ σ (Qd.N z) = 0 := valp_reg R' hz
      rw [pinv_n hb hn]
      show z * ((lv τ).cj z * (lv τ).emb r (pinv τ σ (Qd.N z)).1) = _
      have ih := pinv_reg R' (Qd.N z) hz
      rw [show z * ((lv τ).cj z * (lv τ).emb r (pinv τ σ (Qd.N z)).1) = (z * (lv τ).cj z) * (lv τ).emb r (pinv τ σ (Qd.N z)).1 by grind, Lv.cj_mul, ← Lv.emb_mul, ih]
      rfl
/-- scaled by a whole number -/
theorem pinv_hom : ∀ {τ : List (List Int)} {σ : List K} (_ : PRoots σ τ) (z : (lv τ).A) (g : Int), g ≠ 0 →
    ((((pinv τ σ z).2 * g : Int)) : (lv τ).A) * (pinv τ σ ((g : (lv τ).A) * z)).1 = (((pinv τ σ ((g : (lv τ).A) * z)).2 : Int) : (lv τ).A) * (pinv τ σ z).1
  | [], [], _, z, g, _ => by
    show (show Int from z) * g * 1 = g * (show Int from z) * 1
    rw [Int.mul_comm (show Int from z) g]
  | r :: τ, s :: σ, R, z, g, hg => by
    have R' := R.2.2.2
    let z' : (lv τ).E r := z
    show ((((pinv (r :: τ) (s :: σ) z').2 * g : Int)) : (lv τ).E r) * (show (lv τ).E r from (pinv (r :: τ) (s :: σ) (((g : Int) : (lv τ).E r) * z')).1) = (((pinv (r :: τ) (s :: σ) (((g : Int) : (lv τ).E r) * z')).2 : Int) : (lv τ).E r) * (show (lv τ).E r from (pinv (r :: τ) (s :: σ) z').1)
    generalize z' = z at *
    have ga : (((g : Int) : (lv τ).E r) * z).a = (g : (lv τ).A) * z.a := by rw [Qd.mul_a, Lv.cast_a, Lv.cast_b]; grind
    have gb : (((g : Int) : (lv τ).E r) * z).b = (g : (lv τ).A) * z.b := by rw [Qd.mul_b, Lv.cast_a, Lv.cast_b]; grind
    have gN : Qd.N (((g : Int) : (lv τ).E r) * z) = ((g * g : Int) : (lv τ).A) * Qd.N z := by
      unfold Qd.N; rw [ga, gb, Lv.ca_mul]; grind
    have gc : (lv τ).cj (((g : Int) : (lv τ).E r) * z) = ((g : Int) : (lv τ).E r) * (lv τ).cj z := by rw [Lv.mul_cj, Lv.cj_int]
    rcases Classical.em (z.b = 0) with hb | hb
    · have hb2 : (((g : Int) : (lv τ).E r) * z).b = 0 := by rw [gb, hb]; grind
      rw [pinv_b hb, pinv_b hb2, ga]
      have ih := pinv_hom R' z.a g hg
      have := congrArg ((lv τ).emb r) ih
      rw [Lv.emb_mul, Lv.emb_mul, Lv.emb_int, Lv.emb_int] at this
      exact this
    · have hb2 : ¬ (((g : Int) : (lv τ).E r) * z).b = 0 := by
        rw [gb]; intro q
        apply hb
        refine (lv τ).tf hg ?_
        rw [q]; grind
      have vN : valp τ σ (Qd.N (((g : Int) : (lv τ).E r) * z)) = ((g * g : Int) : K) * valp τ σ (Qd.N z) := by rw [gN, valp_cst R']
      rcases Classical.em (valp τ σ (Qd.N z) = 0) with hn | hn
      · have hn2 : valp τ σ (Qd.N (((g : Int) : (lv τ).E r) * z)) = 0 := by rw [vN, hn]; grind
        rw [pinv_t hb hn, pinv_t hb2 hn2, ga]
        have ih := pinv_hom R' (((2 : Int) : (lv τ).A) * z.a) g hg
        rw [show ((g : Int) : (lv τ).A) * (((2 : Int) : (lv τ).A) * z.a) = ((2 : Int) : (lv τ).A) * (((g : Int) : (lv τ).A) * z.a) by grind] at ih
        have := congrArg ((lv τ).emb r) ih
        rw [Lv.emb_mul, Lv.emb_mul, Lv.emb_int, Lv.emb_int] at this
        exact this
      · have hn2 : ¬ valp τ σ (Qd.N (((g : Int) : (lv τ).E r) * z)) = 0 := by
          rw [vN]; intro q
          rcases mul_z q with q | q
          · exact ic_nz (K := K) (Int.mul_ne_zero hg hg) q
          · exact hn q
        rw [pinv_n hb hn, pinv_n hb2 hn2, gN, gc]
        have ih := pinv_hom R' (Qd.N z) (g * g) (Int.mul_ne_zero hg hg)
        have h2 := congrArg ((lv τ).emb r) ih
        rw [Lv.emb_mul, Lv.emb_mul, Lv.emb_int, Lv.emb_int] at h2
        dsimp only
        show (((((pinv τ σ (Qd.N z)).2 * g : Int)) : (lv τ).E r)) * ((((g : Int) : (lv τ).E r) * (lv τ).cj z) * (lv τ).emb r (pinv τ σ (((g * g : Int) : (lv τ).A) * Qd.N z)).1) = _ * ((lv τ).cj z * (lv τ).emb r (pinv τ σ (Qd.N z)).1)
        rw [Lv.ca_mul] at h2 ⊢
        rw [Lv.ca_mul g g] at h2
        generalize (lv τ).emb r (pinv τ σ (((g * g : Int) : (lv τ).A) * Qd.N z)).1 = X at *
        generalize (lv τ).emb r (pinv τ σ (Qd.N z)).1 = Y at *
        generalize (((pinv τ σ (((g * g : Int) : (lv τ).A) * Qd.N z)).2 : Int) : (lv τ).E r) = W at *
        generalize (((pinv τ σ (Qd.N z)).2 : Int) : (lv τ).E r) = V at *
        generalize ((g : Int) : (lv τ).E r) = G at *
        generalize (lv τ).cj z = C at *
        grind
end
end Rr
end
section
set_option Elab.async false
namespace Rr
open Lean.Grind Std
/-! ### lowest terms are the smallest -/
theorem low_le {τ : List (List Int)} {x : PN} {z : (lv τ).A} {u : Int} (hx : NumOk τ x) (h : Is τ x z u) (hu : u ≠ 0) : x.under.natAbs ≤ u.natAbs ∧ (lv τ).nm (el τ x.parts) ≤ (lv τ).nm z := by
  unfold Is at h
  have e : ((u : Int) : (lv τ).A) * el τ x.parts = (x.under : (lv τ).A) * z := by grind
  have ec := congrArg (lv τ).co e
  rw [(lv τ).co_int, (lv τ).co_int, co_el hx.sub] at ec
  have hd : x.under ∣ u * gfold x.parts x.under := by
    refine dvd_gfold x.parts x.under u x.under (Int.dvd_mul_left ..) fun c hc => ?_
    have m : c * u ∈ (widen x.parts (2 ^ τ.length)).map (fun c => c * u) := List.mem_map.mpr ⟨c, List.mem_append.mpr (.inl hc), rfl⟩
    rw [ec] at m
    obtain ⟨d, _, hd⟩ := List.mem_map.mp m
    exact ⟨d, by rw [Int.mul_comm u c, ← hd, Int.mul_comm]⟩
  rw [hx.low, Int.mul_one] at hd
  have h1 : x.under.natAbs ≤ u.natAbs := Nat.le_of_dvd (by omega) (Int.natAbs_dvd_natAbs.mpr hd)
  refine ⟨h1, ?_⟩
  have en := congrArg (lv τ).nm e
  rw [(lv τ).nm_int, (lv τ).nm_int] at en
  have h2 := Nat.mul_le_mul_right ((lv τ).nm z) h1
  rw [← en] at h2
  exact Nat.le_of_mul_le_mul_left h2 (by omega)
section
variable {K : Type} [OF K]
/-- how large the inverse may be -/
theorem pinv_size : ∀ {τ : List (List Int)} {σ : List K} (_ : PRoots σ τ) (z : (lv τ).A) (B : Nat), 1 ≤ B → (lv τ).nm z ≤ B →
    (lv τ).nm (pinv τ σ z).1 ≤ (2 * B) ^ (2 ^ τ.length - 1) ∧ (pinv τ σ z).2.natAbs ≤ (2 * B) ^ (2 ^ τ.length)
  | [], [], _, z, B, _, h => by
    refine ⟨?_, ?_⟩
    · show (1 : Nat) ≤ (2 * B) ^ 0
      exact Nat.le_refl _
    · have : (show Int from z).natAbs ≤ B := h
      show (show Int from z).natAbs ≤ (2 * B) ^ 1
      rw [Nat.pow_one]; omega
  | r :: τ, s :: σ, R, z, B, hB, h => by
    have R' := R.2.2.2
    let z' : (lv τ).E r := z
    show (lv τ).nmE (show (lv τ).E r from (pinv (r :: τ) (s :: σ) z').1) ≤ (2 * B) ^ (2 ^ (τ.length + 1) - 1) ∧ (pinv (r :: τ) (s :: σ) z').2.natAbs ≤ (2 * B) ^ (2 ^ (τ.length + 1))
    replace h : (lv τ).nmE z' ≤ B := h
    generalize z' = z at *
    have tp := two_pos τ.length
    have P1 : (2 * B) ^ (2 ^ (τ.length + 1)) = (2 * (2 * (B * B))) ^ (2 ^ τ.length) := by
      rw [Nat.pow_succ, Nat.mul_comm (2 ^ τ.length) 2, Nat.pow_mul, Nat.pow_two]
      congr 1; grind
    have P2 : (2 * B) ^ (2 ^ (τ.length + 1) - 1) = 2 * B * (2 * (2 * (B * B))) ^ (2 ^ τ.length - 1) := by
      rw [show 2 ^ (τ.length + 1) - 1 = 1 + 2 * (2 ^ τ.length - 1) by rw [Nat.pow_succ]; omega, Nat.pow_add, Nat.pow_one, Nat.pow_mul, Nat.pow_two]
      congr 2; grind
    have hBB : B ≤ B * B := Nat.le_mul_of_pos_left B hB
    have ha : (lv τ).nm z.a ≤ B := by
      have : (lv τ).nm z.a ≤ (lv τ).nmE z := by unfold Lv.nmE; omega
      omega
    have up : ∀ n : Nat, n ≤ (2 * (2 * (B * B))) ^ (2 ^ τ.length - 1) → n ≤ 2 * B * (2 * (2 * (B * B))) ^ (2 ^ τ.length - 1) := fun n q =>
      Nat.le_trans q (Nat.le_mul_of_pos_left _ (by omega))
    rcases Classical.em (z.b = 0) with hb | hb
    · rw [pinv_b hb]
      obtain ⟨i1, i2⟩ := pinv_size R' z.a (2 * (B * B)) (by omega) (by omega)
      refine ⟨?_, by rw [P1]; exact i2⟩
      rw [P2]
      show (lv τ).nmE ((lv τ).emb r (pinv τ σ z.a).1) ≤ _
      rw [Lv.nmE_emb]
      exact up _ i1
    · rcases Classical.em (valp τ σ (Qd.N z) = 0) with hn | hn
      · rw [pinv_t hb hn]
        obtain ⟨i1, i2⟩ := pinv_size R' (((2 : Int) : (lv τ).A) * z.a) (2 * (B * B)) (by omega) (by rw [(lv τ).nm_int]; show 2 * _ ≤ _; omega)
        refine ⟨?_, by rw [P1]; exact i2⟩
        rw [P2]
        show (lv τ).nmE ((lv τ).emb r (pinv τ σ (((2 : Int) : (lv τ).A) * z.a)).1) ≤ _
        rw [Lv.nmE_emb]
        exact up _ i1
      · rw [pinv_n hb hn]
        have hN := Nat.le_trans ((lv τ).nm_N z) (Nat.mul_le_mul h h)
        obtain ⟨i1, i2⟩ := pinv_size R' (Qd.N z) (2 * (B * B)) (by omega) (by omega)
        refine ⟨?_, by rw [P1]; exact i2⟩
        rw [P2]
        show (lv τ).nmE ((lv τ).cj z * (lv τ).emb r (pinv τ σ (Qd.N z)).1) ≤ _
        have h7 := (lv τ).nmE_mul ((lv τ).cj z) ((lv τ).emb r (pinv τ σ (Qd.N z)).1)
        rw [Lv.nmE_cj, Lv.nmE_emb] at h7
        exact Nat.le_trans h7 (Nat.mul_le_mul (by omega) i1)
theorem NumOk.up {τ : List (List Int)} {x : PN} (r : List Int) (h : NumOk τ x) : NumOk (r :: τ) x := ⟨.inr h.sub, h.pos, h.low, h.strp⟩
theorem el_up {τ : List (List Int)} {x : PN} (r : List Int) (h : Sub τ x.parts) : el (r :: τ) x.parts = (lv τ).emb r (el τ x.parts) := el_short h.le
/-- what the program's inverse gives -/
theorem minv_ok : ∀ {τ : List (List Int)} {σ : List K} {x : PN} (_ : PRoots σ τ), NumOk τ x → valp τ σ (el τ x.parts) ≠ 0 →
    NumOk τ (minv τ x) ∧ Is τ (minv τ x) ((x.under : (lv τ).A) * (pinv τ σ (el τ x.parts)).1) (pinv τ σ (el τ x.parts)).2
  | [], [], x, _, hx, hv => by
    have hc : x.parts.getD 0 0 ≠ 0 := by
      intro q
      apply hv
      show ((x.parts.getD 0 0 : Int) : K) = 0
      rw [q, ic_zero]
    have s1 : Sub [] [if 0 < x.parts.getD 0 0 then x.under else -x.under] := rfl
    obtain ⟨h1, h2, _⟩ := reduced_ok (u := ((x.parts.getD 0 0).natAbs : Int)) s1 (by omega)
    refine ⟨h1, ?_⟩
    unfold Is at *
    show (reduced [if 0 < x.parts.getD 0 0 then x.under else -x.under] (x.parts.getD 0 0).natAbs).parts.getD 0 0 * x.parts.getD 0 0 = x.under * 1 * (reduced [if 0 < x.parts.getD 0 0 then x.under else -x.under] (x.parts.getD 0 0).natAbs).under
    have h2' : (reduced [if 0 < x.parts.getD 0 0 then x.under else -x.under] (x.parts.getD 0 0).natAbs).parts.getD 0 0 * ((x.parts.getD 0 0).natAbs : Int) = (if 0 < x.parts.getD 0 0 then x.under else -x.under) * (reduced [if 0 < x.parts.getD 0 0 then x.under else -x.under] (x.parts.getD 0 0).natAbs).under := h2
    generalize (reduced [if 0 < x.parts.getD 0 0 then x.under else -x.under] (x.parts.getD 0 0).natAbs).parts.getD 0 0 = p at *
    generalize (reduced [if 0 < x.parts.getD 0 0 then x.under else -x.under] (x.parts.getD 0 0).natAbs).under = w at *
    generalize x.parts.getD 0 0 = c at *
    rcases (show 0 < c ∨ c < 0 by omega) with q | q
    · rw [if_pos q, show ((c.natAbs : Nat) : Int) = c by omega] at h2'
      rw [h2']; grind
    · rw [if_neg (by omega), show ((c.natAbs : Nat) : Int) = -c by omega] at h2'
      grind
  | r :: τ, s :: σ, x, R, hx, hv => by
    have R' := R.2.2.2
    have hR := PRoots.rts R
    by_cases q : x.parts.length ≤ 2 ^ τ.length
    · have em : minv (r :: τ) x = minv τ x := if_pos q
      have hx' : NumOk τ x := ⟨hx.sub.short q, hx.pos, hx.low, hx.strp⟩
      have ez := el_up r hx'.sub
      have hv' : valp τ σ (el τ x.parts) ≠ 0 := by rw [ez] at hv; rw [valp_emb] at hv; exact hv
      obtain ⟨h1, h2⟩ := minv_ok R' hx' hv'
      rw [em]
      refine ⟨h1.up r, ?_⟩
      have hp : pinv (r :: τ) (s :: σ) (el (r :: τ) x.parts) = ((lv τ).emb r (pinv τ σ (el τ x.parts)).1, (pinv τ σ (el τ x.parts)).2) := by
        rw [ez]; exact pinv_b rfl
      unfold Is at *
      rw [hp, el_up r h1.sub]
      have h3 := congrArg ((lv τ).emb r) h2
      rw [Lv.emb_mul, Lv.emb_mul, Lv.emb_mul, Lv.emb_int, Lv.emb_int, Lv.emb_int] at h3
      exact h3
    · have p := hx.sub.full q
      have ez : el (r :: τ) x.parts = (lv (r :: τ)).ofL x.parts := el_full q
      let z : (lv τ).E r := (lv (r :: τ)).ofL x.parts
      have ezc : z = (⟨(lv τ).ofL (x.parts.take (x.parts.length / 2)), (lv τ).ofL (x.parts.drop (x.parts.length / 2))⟩ : (lv τ).E r) := ofL_cons p
      have hza : z.a = (lv τ).ofL (x.parts.take (x.parts.length / 2)) := by rw [ezc]
      have hzb : z.b = (lv τ).ofL (x.parts.drop (x.parts.length / 2)) := by rw [ezc]
      have hb : ¬ z.b = 0 := by
        intro e
        apply hx.strp
        refine ⟨?_, fun c hc => ?_⟩
        · have := two_pos τ.length; omega
        · have e1 : (lv τ).co z.b = x.parts.drop (x.parts.length / 2) := by rw [hzb]; exact p.hi.eq
          rw [e] at e1
          have e2 := ofL_zeros τ (2 ^ τ.length)
          have e3 : (lv τ).co (0 : (lv τ).A) = List.replicate (2 ^ τ.length) 0 := by
            rw [← e2]
            exact (show Pit τ (List.replicate (2 ^ τ.length) 0) from List.length_replicate).eq
          rw [e3] at e1
          rw [← e1] at hc
          exact (List.mem_replicate.mp hc).2
      have hN : (lv τ).ofL (pnorm r τ x.parts) = Qd.N z := ofL_pnorm hR p
      have hs : psign τ (pnorm r τ x.parts) = sg (valp τ σ (Qd.N z)) := by rw [psign_val R' (pnorm_len hR p), hN]
      have hvz : valp (r :: τ) (s :: σ) z ≠ 0 := by rw [ez] at hv; exact hv
      -- the lower inverse, of a list whose number is y
      have key : ∀ (l : List Int), Pit τ l → valp τ σ ((lv τ).ofL l) ≠ 0 → NumOk τ (minv τ (reduced l x.under)) ∧
          Is τ (minv τ (reduced l x.under)) ((x.under : (lv τ).A) * (pinv τ σ ((lv τ).ofL l)).1) (pinv τ σ ((lv τ).ofL l)).2 := by
        intro l hl hvl
        obtain ⟨y1, y2, g, hg, eg, ug⟩ := reduced_ok (u := x.under) hl.sub hx.pos
        rw [el_pit hl] at eg
        have hvy : valp τ σ (el τ (reduced l x.under).parts) ≠ 0 := by
          intro z0; apply hvl
          rw [eg, valp_cst R', z0]; grind
        obtain ⟨h1, h2⟩ := minv_ok R' y1 hvy
        refine ⟨h1, ?_⟩
        have hom := pinv_hom R' (el τ (reduced l x.under).parts) g (by omega)
        have hn := (pinv_val R' _ hvy).1
        rw [← eg] at hom
        unfold Is at *
        refine (lv τ).tf hn ?_
        rw [Lv.ca_mul] at hom
        have eu : ((x.under : Int) : (lv τ).A) = (g : (lv τ).A) * ((reduced l x.under).under : (lv τ).A) := by
          conv => lhs; rw [ug]
          rw [Lv.ca_mul]
        rw [eu]
        generalize ((pinv τ σ (el τ (reduced l x.under).parts)).2 : (lv τ).A) = n' at *
        generalize (pinv τ σ (el τ (reduced l x.under).parts)).1 = q' at *
        generalize ((pinv τ σ ((lv τ).ofL l)).2 : (lv τ).A) = n at *
        generalize (pinv τ σ ((lv τ).ofL l)).1 = q at *
        generalize el τ (minv τ (reduced l x.under)).parts = m at *
        generalize ((minv τ (reduced l x.under)).under : (lv τ).A) = w at *
        generalize ((reduced l x.under).under : (lv τ).A) = uy at *
        generalize ((g : Int) : (lv τ).A) = G at *
        clear eg ug y1 y2 hl hvl hvy eu ez
        grind
      by_cases c : psign τ (pnorm r τ x.parts) = 0
      · have hn : valp τ σ (Qd.N z) = 0 := by rw [hs] at c; exact sg_zero_iff.mp c
        have em : minv (r :: τ) x = minv τ (reduced (pscale (x.parts.take (x.parts.length / 2)) 2) x.under) := (if_neg q).trans (if_pos c)
        have ea : (lv τ).ofL (pscale (x.parts.take (x.parts.length / 2)) 2) = ((2 : Int) : (lv τ).A) * z.a := by rw [ofL_scale p.lo, hza]
        have hv2 : valp τ σ ((lv τ).ofL (pscale (x.parts.take (x.parts.length / 2)) 2)) ≠ 0 := by
          rw [ea]
          have e' := valp_N R z
          rw [hn] at e'
          rw [valp_cons] at hvz
          have e2 : valp τ σ z.a - s * valp τ σ z.b = 0 := by
            rcases mul_z e'.symm with q | q
            · exact q
            · exact absurd q hvz
          rw [valp_cst R', show ((2 : Int) : K) = 2 from Ring.intCast_ofNat 2]
          intro q; apply hvz; grind
        obtain ⟨h1, h2⟩ := key _ (p.lo.scale 2) hv2
        rw [em]
        refine ⟨h1.up r, ?_⟩
        have hp : pinv (r :: τ) (s :: σ) (el (r :: τ) x.parts) = ((lv τ).emb r (pinv τ σ (((2 : Int) : (lv τ).A) * z.a)).1, (pinv τ σ (((2 : Int) : (lv τ).A) * z.a)).2) := by
          rw [ez]; exact pinv_t hb hn
        rw [ea] at h2
        unfold Is at *
        rw [hp, el_up r h1.sub]
        have h3 := congrArg ((lv τ).emb r) h2
        rw [Lv.emb_mul, Lv.emb_mul, Lv.emb_mul, Lv.emb_int, Lv.emb_int, Lv.emb_int] at h3
        exact h3
      · have hn : ¬ valp τ σ (Qd.N z) = 0 := fun e => c (by rw [hs, e, sg_zero])
        have em : minv (r :: τ) x = mtimes (r :: τ) ⟨x.parts.take (x.parts.length / 2) ++ pscale (x.parts.drop (x.parts.length / 2)) (-1), 1⟩ (minv τ (reduced (pnorm r τ x.parts) x.under)) := (if_neg q).trans (if_neg c)
        obtain ⟨h1, h2⟩ := key _ (pnorm_len hR p) (by rw [hN]; exact hn)
        rw [hN] at h2
        have po : Pit (r :: τ) (x.parts.take (x.parts.length / 2) ++ pscale (x.parts.drop (x.parts.length / 2)) (-1)) := p.lo.app (p.hi.scale (-1))
        have eo : el (r :: τ) (x.parts.take (x.parts.length / 2) ++ pscale (x.parts.drop (x.parts.length / 2)) (-1)) = (lv τ).cj z := by
          rw [el_pit po, ofL_cons po, po.half]
          have l1 : (x.parts.take (x.parts.length / 2)).length = 2 ^ τ.length := p.lo
          rw [List.take_append_of_le_length (by omega), List.take_of_length_le (by omega), List.drop_append, List.drop_eq_nil_of_le (by omega), List.nil_append, l1, Nat.sub_self, List.drop_zero, ofL_scale p.hi, ← hza, ← hzb, Lv.ca_neg, Lv.ca_one]
          refine Qd.ext rfl ?_
          show -1 * z.b = -z.b
          grind
        obtain ⟨t1, t2⟩ := mtimes_ok (x := ⟨x.parts.take (x.parts.length / 2) ++ pscale (x.parts.drop (x.parts.length / 2)) (-1), 1⟩) (y := minv τ (reduced (pnorm r τ x.parts) x.under)) hR ⟨po.sub, by show (0 : Int) < 1; decide⟩ (h1.up r).pre
        rw [em]
        refine ⟨t1, ?_⟩
        have hp : pinv (r :: τ) (s :: σ) (el (r :: τ) x.parts) = ((lv τ).cj z * (lv τ).emb r (pinv τ σ (Qd.N z)).1, (pinv τ σ (Qd.N z)).2) := by
          rw [ez]; exact pinv_n hb hn
        dsimp only at t2
        rw [eo, el_up r h1.sub] at t2
        unfold Is at *
        rw [hp]
        have h3 := congrArg ((lv τ).emb r) h2
        rw [Lv.emb_mul, Lv.emb_mul, Lv.emb_mul, Lv.emb_int, Lv.emb_int, Lv.emb_int] at h3
        have hw : (minv τ (reduced (pnorm r τ x.parts) x.under)).under ≠ 0 := by have := h1.pos; omega
        refine (lv (r :: τ)).tf hw ?_
        rw [Lv.ca_mul, Lv.ca_one] at t2
        dsimp only
        generalize el (r :: τ) (mtimes (r :: τ) ⟨x.parts.take (x.parts.length / 2) ++ pscale (x.parts.drop (x.parts.length / 2)) (-1), 1⟩ (minv τ (reduced (pnorm r τ x.parts) x.under))).parts = m at *
        generalize ((mtimes (r :: τ) ⟨x.parts.take (x.parts.length / 2) ++ pscale (x.parts.drop (x.parts.length / 2)) (-1), 1⟩ (minv τ (reduced (pnorm r τ x.parts) x.under))).under : (lv (r :: τ)).A) = w at *
        let m' : (lv τ).E r := m
        let w' : (lv τ).E r := w
        show (((minv τ (reduced (pnorm r τ x.parts) x.under)).under : Int) : (lv τ).E r) * (m' * (((pinv τ σ (Qd.N z)).2 : Int) : (lv τ).E r)) = (((minv τ (reduced (pnorm r τ x.parts) x.under)).under : Int) : (lv τ).E r) * (((x.under : Int) : (lv τ).E r) * ((lv τ).cj z * (lv τ).emb r (pinv τ σ (Qd.N z)).1) * w')
        replace t2 : m' * (1 * (((minv τ (reduced (pnorm r τ x.parts) x.under)).under : Int) : (lv τ).E r)) = (lv τ).cj z * (lv τ).emb r (el τ (minv τ (reduced (pnorm r τ x.parts) x.under)).parts) * w' := t2
        generalize m' = M at *
        generalize w' = W at *
        generalize (lv τ).emb r (pinv τ σ (Qd.N z)).1 = Q at *
        generalize (((pinv τ σ (Qd.N z)).2 : Int) : (lv τ).E r) = n at *
        generalize (((minv τ (reduced (pnorm r τ x.parts) x.under)).under : Int) : (lv τ).E r) = ui at *
        generalize (lv τ).emb r (el τ (minv τ (reduced (pnorm r τ x.parts) x.under)).parts) = I at *
        generalize ((x.under : Int) : (lv τ).E r) = ux at *
        generalize (lv τ).cj z = C at *
        clear key h2 hp em eo ez hN hs hx hv
        grind
end
end Rr
end
section
set_option Elab.async false
namespace Rr
open Lean.Grind Std
/-! ### the numbers' sizes -/
/-- both within 2 ^ S -/
structure Cr (τ : List (List Int)) (S : Nat) (x : PN) : Prop where
  nm : (lv τ).nm (el τ x.parts) ≤ 2 ^ S
  un : x.under.natAbs ≤ 2 ^ S
theorem two_le {a b : Nat} (h : a ≤ b) : 2 ^ a ≤ 2 ^ b := Nat.pow_le_pow_right (by decide) h
theorem Cr.mono {τ : List (List Int)} {S T : Nat} {x : PN} (h : Cr τ S x) (q : S ≤ T) : Cr τ T x :=
  ⟨Nat.le_trans h.nm (two_le q), Nat.le_trans h.un (two_le q)⟩
theorem Cr.up {τ : List (List Int)} {S : Nat} {x : PN} (h : Cr τ S x) (r : List Int) (hs : Sub τ x.parts) : Cr (r :: τ) S x := by
  refine ⟨?_, h.un⟩
  rw [el_up r hs]
  show (lv τ).nmE ((lv τ).emb r (el τ x.parts)) ≤ _
  rw [Lv.nmE_emb]; exact h.nm
theorem nm_cmul {τ : List (List Int)} (z : (lv τ).A) (u : Int) : (lv τ).nm (z * (u : (lv τ).A)) = u.natAbs * (lv τ).nm z := by
  rw [show z * (u : (lv τ).A) = (u : (lv τ).A) * z by grind, (lv τ).nm_int]
theorem Cr.plus {τ : List (List Int)} {S T : Nat} {x y : PN} (hx : PreOk τ x) (hy : PreOk τ y) (cx : Cr τ S x) (cy : Cr τ T y) : Cr τ (S + T + 1) (mplus x y) := by
  obtain ⟨h1, h2⟩ := mplus_ok hx hy
  have px := hx.pos
  have py := hy.pos
  obtain ⟨l1, l2⟩ := low_le h1 h2 (Int.mul_ne_zero (by omega) (by omega))
  have m1 := Nat.mul_le_mul cy.un cx.nm
  have m2 := Nat.mul_le_mul cx.un cy.nm
  have m3 := Nat.mul_le_mul cx.un cy.un
  rw [← Nat.pow_add] at m1 m2 m3
  have e : 2 ^ (S + T + 1) = 2 ^ (S + T) + 2 ^ (S + T) := by rw [Nat.pow_succ]; omega
  rw [Nat.add_comm T S] at m1
  refine ⟨Nat.le_trans l2 ?_, Nat.le_trans l1 ?_⟩
  · have := (lv τ).nm_add (el τ x.parts * (y.under : (lv τ).A)) (el τ y.parts * (x.under : (lv τ).A))
    rw [nm_cmul, nm_cmul] at this
    omega
  · rw [Int.natAbs_mul]; omega
theorem Cr.neg {τ : List (List Int)} {S : Nat} {x : PN} (hx : PreOk τ x) (h : Cr τ S x) : Cr τ S (mneg x) := by
  refine ⟨?_, h.un⟩
  rw [(mneg_pre hx).2, (lv τ).nm_neg]; exact h.nm
theorem Cr.times {τ : List (List Int)} {S T : Nat} {x y : PN} (R : Rts τ) (hx : PreOk τ x) (hy : PreOk τ y) (cx : Cr τ S x) (cy : Cr τ T y) : Cr τ (S + T) (mtimes τ x y) := by
  obtain ⟨h1, h2⟩ := mtimes_ok R hx hy
  have px := hx.pos
  have py := hy.pos
  obtain ⟨l1, l2⟩ := low_le h1 h2 (Int.mul_ne_zero (by omega) (by omega))
  have m1 := Nat.mul_le_mul cx.nm cy.nm
  have m3 := Nat.mul_le_mul cx.un cy.un
  rw [← Nat.pow_add] at m1 m3
  refine ⟨Nat.le_trans l2 (Nat.le_trans ((lv τ).nm_mul _ _) m1), Nat.le_trans l1 ?_⟩
  rw [Int.natAbs_mul]; exact m3
section
variable {K : Type} [OF K]
theorem pow_four {n : Nat} (h : n ≤ 3) : 2 ^ n ≤ 8 := Nat.pow_le_pow_right (n := 2) (by decide) h
theorem Cr.inv {τ : List (List Int)} {σ : List K} {S : Nat} {x : PN} (R : PRoots σ τ) (hl : τ.length ≤ 3) (hx : NumOk τ x) (hv : valp τ σ (el τ x.parts) ≠ 0) (cx : Cr τ S x) : Cr τ (8 * (S + 1)) (minv τ x) := by
  obtain ⟨h1, h2⟩ := minv_ok R hx hv
  have hn := (pinv_val R _ hv).1
  obtain ⟨l1, l2⟩ := low_le h1 h2 hn
  have tp := two_pos S
  obtain ⟨s1, s2⟩ := pinv_size R (el τ x.parts) (2 ^ S) tp cx.nm
  have e : 2 * 2 ^ S = 2 ^ (S + 1) := by rw [Nat.pow_succ]; omega
  have p4 := pow_four hl
  have tj := two_pos τ.length
  rw [e, ← Nat.pow_mul] at s1 s2
  refine ⟨Nat.le_trans l2 ?_, Nat.le_trans l1 (Nat.le_trans s2 (two_le ?_))⟩
  · rw [(lv τ).nm_int]
    have m := Nat.mul_le_mul cx.un s1
    rw [← Nat.pow_add] at m
    refine Nat.le_trans m (two_le ?_)
    have : (S + 1) * (2 ^ τ.length - 1) ≤ (S + 1) * 7 := Nat.mul_le_mul_left _ (by omega)
    omega
  · have := Nat.mul_le_mul_left (S + 1) p4
    omega
end
/-! ### fractions of small numbers -/
def FR (τ : List (List Int)) (H : Nat) (z : (lv τ).A) (u : Int) : Prop :=
  ∃ N D : (lv τ).A, D * z = (u : (lv τ).A) * N ∧ (lv τ).nm N ≤ 2 ^ H ∧ (lv τ).nm D ≤ 2 ^ H ∧ (lv τ).Nm D ≠ 0
theorem FR.mono {τ : List (List Int)} {H G : Nat} {z : (lv τ).A} {u : Int} (h : FR τ H z u) (q : H ≤ G) : FR τ G z u := by
  obtain ⟨N, D, h1, h2, h3, h4⟩ := h
  exact ⟨N, D, h1, Nat.le_trans h2 (two_le q), Nat.le_trans h3 (two_le q), h4⟩
theorem FR.of_is {τ : List (List Int)} {H : Nat} {x : PN} {z : (lv τ).A} {u : Int} (hu : u ≠ 0) (h : Is τ x z u) (f : FR τ H z u) : FR τ H (el τ x.parts) x.under := by
  obtain ⟨N, D, h1, h2, h3, h4⟩ := f
  refine ⟨N, D, ?_, h2, h3, h4⟩
  unfold Is at h
  refine (lv τ).tf hu ?_
  grind
theorem FR.times {τ : List (List Int)} {H G : Nat} {z y : (lv τ).A} {u v : Int} (f : FR τ H z u) (g : FR τ G y v) : FR τ (H + G) (z * y) (u * v) := by
  obtain ⟨N, D, h1, h2, h3, h4⟩ := f
  obtain ⟨M, E, g1, g2, g3, g4⟩ := g
  refine ⟨N * M, D * E, ?_, ?_, ?_, ?_⟩
  · rw [Lv.ca_mul]; grind
  · rw [Nat.pow_add]; exact Nat.le_trans ((lv τ).nm_mul _ _) (Nat.mul_le_mul h2 g2)
  · rw [Nat.pow_add]; exact Nat.le_trans ((lv τ).nm_mul _ _) (Nat.mul_le_mul h3 g3)
  · rw [(lv τ).Nm_mul]; exact Int.mul_ne_zero h4 g4
theorem FR.up {τ : List (List Int)} {H : Nat} {z : (lv τ).A} {u : Int} (f : FR τ H z u) (r : List Int) : FR (r :: τ) H ((lv τ).emb r z) u := by
  obtain ⟨N, D, h1, h2, h3, h4⟩ := f
  refine ⟨(lv τ).emb r N, (lv τ).emb r D, ?_, ?_, ?_, ?_⟩
  · have := congrArg ((lv τ).emb r) h1
    rw [Lv.emb_mul, Lv.emb_mul, Lv.emb_int] at this
    exact this
  · show (lv τ).nmE ((lv τ).emb r N) ≤ _
    rw [Lv.nmE_emb]; exact h2
  · show (lv τ).nmE ((lv τ).emb r D) ≤ _
    rw [Lv.nmE_emb]; exact h3
  · show (lv τ).Nm (Qd.N ((lv τ).emb r D)) ≠ 0
    have : Qd.N ((lv τ).emb r D) = D * D := by
      show D * D - 0 * 0 * (lv τ).rad r = D * D
      grind
    rw [this, (lv τ).Nm_mul]
    exact Int.mul_ne_zero h4 h4
/-- of lowest terms -/
theorem FR.size {τ : List (List Int)} {H : Nat} {x : PN} (hx : NumOk τ x) (f : FR τ H (el τ x.parts) x.under) : Cr τ (2 ^ τ.length * H) x := by
  obtain ⟨N, D, h1, h2, h3, h4⟩ := f
  have px := hx.pos
  have e : Is τ x ((lv τ).ad D * N) ((lv τ).Nm D) := by
    unfold Is
    have := (lv τ).ad_mul D
    rw [← this]
    grind
  obtain ⟨l1, l2⟩ := low_le hx e h4
  have tj := two_pos τ.length
  have a1 := (lv τ).nm_ad D
  have a2 := (lv τ).nm_Nm D
  rw [lv_j] at a1 a2
  refine ⟨Nat.le_trans l2 ?_, Nat.le_trans l1 ?_⟩
  · have m1 := (lv τ).nm_mul ((lv τ).ad D) N
    have m2 := Nat.le_trans a1 (Nat.pow_le_pow_left h3 (2 ^ τ.length - 1))
    have m3 := Nat.mul_le_mul m2 h2
    rw [← Nat.pow_mul, ← Nat.pow_add] at m3
    refine Nat.le_trans m1 (Nat.le_trans m3 (two_le ?_))
    have e2 : H * (2 ^ τ.length - 1) + H = 2 ^ τ.length * H := by
      have : 2 ^ τ.length = (2 ^ τ.length - 1) + 1 := by omega
      conv => rhs; rw [this, Nat.add_mul, Nat.one_mul, Nat.mul_comm]
    omega
  · refine Nat.le_trans a2 (Nat.le_trans (Nat.pow_le_pow_left h3 _) ?_)
    rw [← Nat.pow_mul, Nat.mul_comm]
    exact Nat.le_refl _
/-- 0, or regular -/
def Rz (τ : List (List Int)) (z : (lv τ).A) : Prop := z = 0 ∨ (lv τ).Nm z ≠ 0
theorem Rz.of_is {τ : List (List Int)} {x : PN} {z : (lv τ).A} {u : Int} (hx : 0 < x.under) (hu : u ≠ 0) (h : Is τ x z u) (q : Rz τ z) : Rz τ (el τ x.parts) := by
  unfold Is at h
  rcases q with q | q
  · left
    refine (lv τ).tf hu ?_
    rw [q] at h; grind
  · right
    intro z0
    have := congrArg (lv τ).Nm h
    rw [(lv τ).Nm_mul, (lv τ).Nm_mul, z0, Int.zero_mul] at this
    exact Int.mul_ne_zero q ((lv τ).Nm_cst_ne (n := x.under) (by omega)) this.symm
theorem Rz.times {τ : List (List Int)} {x y : (lv τ).A} (hx : Rz τ x) (hy : Rz τ y) : Rz τ (x * y) := by
  rcases hx with q | q
  · left; rw [q]; grind
  · rcases hy with p | p
    · left; rw [p]; grind
    · right; rw [(lv τ).Nm_mul]; exact Int.mul_ne_zero q p
theorem Rz.up {τ : List (List Int)} {x : (lv τ).A} (h : Rz τ x) (r : List Int) : Rz (r :: τ) ((lv τ).emb r x) := by
  rcases h with q | q
  · left; rw [q]; rfl
  · right
    show (lv τ).Nm (Qd.N ((lv τ).emb r x)) ≠ 0
    have : Qd.N ((lv τ).emb r x) = x * x := by
      show x * x - 0 * 0 * (lv τ).rad r = x * x
      grind
    rw [this, (lv τ).Nm_mul]
    exact Int.mul_ne_zero q q
section
variable {K : Type} [OF K]
theorem pure_inv {τ : List (List Int)} {σ : List K} {H : Nat} {x : PN} (R : PRoots σ τ) (hx : NumOk τ x) (hv : valp τ σ (el τ x.parts) ≠ 0) (z : Rz τ (el τ x.parts)) (f : FR τ H (el τ x.parts) x.under) :
    Rz τ (el τ (minv τ x).parts) ∧ FR τ H (el τ (minv τ x).parts) (minv τ x).under := by
  have hr : (lv τ).Nm (el τ x.parts) ≠ 0 := by
    rcases z with q | q
    · exact absurd (by rw [q, valp_zero]) hv
    · exact q
  obtain ⟨h1, h2⟩ := minv_ok R hx hv
  have hn := (pinv_val R _ hv).1
  have hp := pinv_reg R (el τ x.parts) hr
  have px := hx.pos
  generalize (pinv τ σ (el τ x.parts)).1 = q at *
  generalize (pinv τ σ (el τ x.parts)).2 = n at *
  have hq : (lv τ).Nm ((x.under : (lv τ).A) * q) ≠ 0 := by
    rw [(lv τ).Nm_mul]
    refine Int.mul_ne_zero ((lv τ).Nm_cst_ne (n := x.under) (by omega)) fun z0 => ?_
    have := congrArg (lv τ).Nm hp
    rw [(lv τ).Nm_mul, z0, Int.mul_zero] at this
    exact (lv τ).Nm_cst_ne hn this.symm
  refine ⟨Rz.of_is h1.pos hn h2 (.inr hq), FR.of_is hn h2 ?_⟩
  obtain ⟨N, D, e1, e2, e3, e4⟩ := f
  refine ⟨D, N, ?_, e3, e2, ?_⟩
  · grind
  · intro z0
    have := congrArg (lv τ).Nm e1
    rw [(lv τ).Nm_mul, (lv τ).Nm_mul, z0, Int.mul_zero] at this
    exact Int.mul_ne_zero e4 hr this
end
/-! ### the root -/
theorem mrad_pit {τ : List (List Int)} {x : PN} (hx : Sub τ x.parts) : Pit τ (mrad τ x) ∧ (lv τ).ofL (mrad τ x) = (x.under : (lv τ).A) * el τ x.parts := by
  have s : Sub τ (pscale x.parts x.under) := hx.of_len (by unfold pscale; rw [List.length_map])
  obtain ⟨h1, h2⟩ := el_widen_full s
  refine ⟨h2, ?_⟩
  rw [← el_scale _ hx, ← h1]
  exact (el_pit h2).symm
theorem mroot_el {τ : List (List Int)} {x : PN} (r : List Int) : Pit (r :: τ) (mroot τ x).parts ∧ el (r :: τ) (mroot τ x).parts = (⟨0, 1⟩ : (lv τ).E r) := by
  have tp := two_pos τ.length
  have p : Pit (r :: τ) (mroot τ x).parts := by
    unfold Pit mroot
    rw [List.length_append, List.length_replicate, List.length_cons, List.length_replicate, List.length_cons, Nat.pow_succ]; omega
  refine ⟨p, ?_⟩
  rw [el_pit p, ofL_cons p, p.half]
  unfold mroot
  dsimp only
  rw [List.take_append_of_le_length (by rw [List.length_replicate]; omega), List.take_of_length_le (by rw [List.length_replicate]; omega), List.drop_append, List.drop_eq_nil_of_le (by rw [List.length_replicate]; omega), List.nil_append, List.length_replicate, Nat.sub_self, List.drop_zero, ofL_zeros]
  refine Qd.ext rfl ?_
  show (lv τ).ofL (1 :: List.replicate (2 ^ τ.length - 1) 0) = 1
  have s : Sub τ [1] := by
    clear p
    induction τ with
    | nil => rfl
    | cons a t ih => exact .inr (ih (two_pos _))
  have e := el_widen_full s
  have e1 : widen [1] (2 ^ τ.length) = 1 :: List.replicate (2 ^ τ.length - 1) 0 := rfl
  rw [← e1, ← el_pit e.2, e.1]
  clear e e1 p tp
  induction τ with
  | nil => rfl
  | cons a t ih =>
    have st : Sub t [1] := s.short (two_pos _)
    rw [el_short (show ([1] : List Int).length ≤ 2 ^ t.length from two_pos _), ih st]
    rfl
theorem sub_one : ∀ (τ : List (List Int)) (v : Int), Sub τ [v]
  | [], _ => rfl
  | _ :: τ, v => .inr (sub_one τ v)
theorem el_one : ∀ (τ : List (List Int)) (v : Int), el τ [v] = ((v : Int) : (lv τ).A)
  | [], _ => rfl
  | r :: τ, v => by
    rw [el_short (show ([v] : List Int).length ≤ 2 ^ τ.length from two_pos _), el_one τ v]
    rfl
theorem whole_ok (τ : List (List Int)) (v : Int) : NumOk τ (mwhole v) := by
  refine ⟨sub_one τ v, by show (0 : Int) < 1; decide, ?_, ?_⟩
  · show gfold [v] 1 = 1
    rw [gfold_cons]
    show ((Int.gcd v 1 : Nat) : Int) = 1
    rw [Int.gcd_one]
    rfl
  · intro h
    exact absurd h.1 (by show ¬ 1 < 1; decide)
theorem gfold_one : ∀ (l : List Int) (u : Int), (1 : Int) ∈ l → 0 ≤ u → gfold l u = 1 := fun l u h hu => by
  have d := gfold_dvd_mem l u 1 h
  have hn : 0 ≤ gfold l u := by
    rcases (show 0 < u ∨ u = 0 by omega) with q | q
    · exact Int.le_of_lt (gfold_pos l u q)
    · clear d h
      subst q
      suffices ∀ (l : List Int) (u : Int), 0 ≤ u → 0 ≤ gfold l u from this l 0 (by decide)
      intro l
      induction l with
      | nil => intro u h; exact h
      | cons c l ih => intro u _; rw [gfold_cons]; exact ih _ (by omega)
  have := Int.eq_one_of_dvd_one hn d
  exact this
theorem root_ok {τ : List (List Int)} {x : PN} (hx : NumOk τ x) (r : List Int) : NumOk (r :: τ) (mroot τ x) := by
  have tp := two_pos τ.length
  refine ⟨(mroot_el r).1.sub, hx.pos, ?_, ?_⟩
  · refine gfold_one _ _ ?_ (Int.le_of_lt hx.pos)
    unfold mroot
    exact List.mem_append.mpr (.inr (List.mem_cons_self ..))
  · intro h
    have p := (mroot_el (x := x) (τ := τ) r).1
    have q := h.2 1 ?_
    · exact absurd q (by decide)
    · rw [p.half]
      unfold mroot
      dsimp only
      rw [List.drop_append, List.drop_eq_nil_of_le (by rw [List.length_replicate]; omega), List.nil_append, List.length_replicate, Nat.sub_self, List.drop_zero]
      exact List.mem_cons_self ..
theorem Cr.root {τ : List (List Int)} {S : Nat} {x : PN} (hx : NumOk τ x) (h : Cr τ S x) : (lv (mrad τ x :: τ)).nm (el (mrad τ x :: τ) (mroot τ x).parts) ≤ 2 ^ S ∧ Cr (mrad τ x :: τ) S (mroot τ x) := by
  have key : (lv (mrad τ x :: τ)).nm (el (mrad τ x :: τ) (mroot τ x).parts) ≤ 2 ^ S := by
    rw [(mroot_el (mrad τ x)).2]
    show (lv τ).nm (0 : (lv τ).A) + (lv τ).rho (mrad τ x) * (lv τ).nm (1 : (lv τ).A) ≤ _
    rw [(lv τ).nm_zero, (lv τ).nm_one, Nat.zero_add, Nat.mul_one]
    refine csq_le (two_pos S) ?_
    show (lv τ).nm ((lv τ).ofL (mrad τ x)) ≤ _
    rw [(mrad_pit hx.sub).2, (lv τ).nm_int]
    exact Nat.mul_le_mul h.un h.nm
  exact ⟨key, key, h.un⟩
end Rr
end
section
set_option Elab.async false
namespace Rr
open Lean.Grind Std
/-! ### sizes of lists -/
noncomputable def sz (τ : List (List Int)) (u : List Int) : Nat := (lv τ).nm ((lv τ).ofL u)
theorem sz_cons {r : List Int} {τ : List (List Int)} {u : List Int} (h : Pit (r :: τ) u) : sz (r :: τ) u = sz τ (u.take (u.length / 2)) + (lv τ).rho r * sz τ (u.drop (u.length / 2)) := by
  unfold sz
  rw [ofL_cons h]
  rfl
theorem sz_base (x : Int) : sz [] [x] = x.natAbs := rfl
theorem rho_one (r : List Int) (τ : List (List Int)) : 1 ≤ (lv τ).rho r := csq_one _
theorem rho_sq (r : List Int) (τ : List (List Int)) : sz τ r ≤ (lv τ).rho r * (lv τ).rho r := csq_sq _
theorem sz_prod {τ : List (List Int)} {u v : List Int} (R : Rts τ) (hu : Pit τ u) (hv : Pit τ v) : sz τ (pprod τ u v) ≤ sz τ u * sz τ v := by
  unfold sz
  rw [ofL_pprod R hu hv]
  exact (lv τ).nm_mul _ _
theorem sz_five {r : List Int} {τ : List (List Int)} {u v : List Int} (R : Rts (r :: τ)) (hu : Pit (r :: τ) u) (hv : Pit (r :: τ) v) {B : Nat} (h : sz (r :: τ) u * sz (r :: τ) v ≤ B) :
    sz τ (u.take (u.length / 2)) * sz τ (v.take (v.length / 2)) ≤ B ∧ sz τ (u.drop (u.length / 2)) * sz τ (v.drop (v.length / 2)) ≤ B ∧
    sz τ (u.take (u.length / 2)) * sz τ (v.drop (v.length / 2)) ≤ B ∧ sz τ (u.drop (u.length / 2)) * sz τ (v.take (v.length / 2)) ≤ B ∧
    sz τ (pprod τ (u.drop (u.length / 2)) (v.drop (v.length / 2))) * sz τ r ≤ B := by
  have h1 := sz_prod R.2 hu.hi hv.hi
  have h2 := rho_sq r τ
  have h3 := rho_one r τ
  rw [sz_cons hu, sz_cons hv] at h
  generalize sz τ (u.take (u.length / 2)) = a at *
  generalize sz τ (u.drop (u.length / 2)) = b at *
  generalize sz τ (v.take (v.length / 2)) = c at *
  generalize sz τ (v.drop (v.length / 2)) = d at *
  generalize (lv τ).rho r = p at *
  generalize sz τ r = q at *
  have e : (a + p * b) * (c + p * d) = a * c + p * (b * c) + p * (a * d) + (b * d) * (p * p) := by grind
  rw [e] at h
  have p2 : 1 ≤ p * p := Nat.mul_le_mul h3 h3
  have k1 := Nat.mul_le_mul_right (b * c) h3
  have k2 := Nat.mul_le_mul_right (a * d) h3
  have k3 := Nat.mul_le_mul_left (b * d) p2
  have k4 := Nat.mul_le_mul h1 h2
  refine ⟨?_, ?_, ?_, ?_, ?_⟩ <;> omega
theorem sz_norm {r : List Int} {τ : List (List Int)} {u : List Int} (R : Rts (r :: τ)) (hu : Pit (r :: τ) u) : sz τ (pnorm r τ u) ≤ sz (r :: τ) u * sz (r :: τ) u := by
  unfold sz
  rw [ofL_pnorm R hu]
  exact (lv τ).nm_N _
theorem sz_half {r : List Int} {τ : List (List Int)} {u : List Int} (hu : Pit (r :: τ) u) : sz τ (u.take (u.length / 2)) ≤ sz (r :: τ) u ∧ sz τ (u.drop (u.length / 2)) ≤ sz (r :: τ) u := by
  have h3 := rho_one r τ
  rw [sz_cons hu]
  have k1 := Nat.mul_le_mul_right (sz τ (u.drop (u.length / 2))) h3
  omega
theorem zeros_of {l : List Int} (h : ∀ c ∈ l, c = 0) : l = List.replicate l.length 0 := List.eq_replicate_iff.mpr ⟨rfl, h⟩
theorem pprod_zero {τ : List (List Int)} {u v : List Int} (R : Rts τ) (hu : Pit τ u) (hv : Pit τ v) (h : (∀ c ∈ u, c = 0) ∨ ∀ c ∈ v, c = 0) : pprod τ u v = List.replicate u.length 0 := by
  refine ofL_inj (pprod_len R hu hv) (by unfold Pit; rw [List.length_replicate]; exact hu) ?_
  rw [ofL_pprod R hu hv, ofL_zeros]
  rcases h with h | h
  · rw [zeros_of h, ofL_zeros]
    grind
  · rw [zeros_of h, ofL_zeros]
    grind
end Rr
end
section
set_option Elab.async false
namespace Rr
open Lean.Grind Std
theorem wsign_range (n : Int) : wsign n = -1 ∨ wsign n = 0 ∨ wsign n = 1 := by
  unfold wsign
  split
  · exact .inl rfl
  · split
    · exact .inr (.inr rfl)
    · exact .inr (.inl rfl)
theorem psign_range : ∀ (τ : List (List Int)) (u : List Int), psign τ u = -1 ∨ psign τ u = 0 ∨ psign τ u = 1
  | [], u => wsign_range _
  | r :: τ, u => by
    have h1 := psign_range τ (u.take (u.length / 2))
    have h2 := psign_range τ (u.drop (u.length / 2))
    have h3 := psign_range τ (pnorm r τ u)
    unfold psign
    dsimp only
    generalize psign τ (u.take (u.length / 2)) = a at *
    generalize psign τ (u.drop (u.length / 2)) = b at *
    generalize psign τ (pnorm r τ u) = c at *
    split
    · exact h1
    · split
      · exact h2
      · rcases h1 with rfl | rfl | rfl <;> rcases h3 with rfl | rfl | rfl <;> decide
theorem pow_mono_e {x a b : Nat} {B : Nat} (ha : 0 < a) (hab : a ≤ b) (h : x ^ b ≤ B) : x ^ a ≤ B := by
  rcases Nat.eq_zero_or_pos x with rfl | q
  · rw [Nat.zero_pow ha]; exact Nat.zero_le _
  · exact Nat.le_trans (Nat.pow_le_pow_right q hab) h
theorem pow_le_of {x y a : Nat} {B : Nat} (hxy : x ≤ y) (h : y ^ a ≤ B) : x ^ a ≤ B := Nat.le_trans (Nat.pow_le_pow_left hxy a) h
/-- what the sign of a list asks goes down to the halves and to the norm -/
theorem sz_sign {r : List Int} {τ : List (List Int)} {u : List Int} {B : Nat} (R : Rts (r :: τ)) (hu : Pit (r :: τ) u) (h : sz (r :: τ) u ^ 2 ^ (r :: τ).length ≤ B) :
    sz (r :: τ) u * sz (r :: τ) u ≤ B ∧ sz τ (u.take (u.length / 2)) ^ 2 ^ τ.length ≤ B ∧ sz τ (u.drop (u.length / 2)) ^ 2 ^ τ.length ≤ B ∧ sz τ (pnorm r τ u) ^ 2 ^ τ.length ≤ B := by
  have hp := two_pos τ.length
  have e : 2 ^ (r :: τ).length = 2 * 2 ^ τ.length := by rw [List.length_cons, Nat.pow_succ]; omega
  obtain ⟨h1, h2⟩ := sz_half hu
  have h3 := sz_norm R hu
  have q1 : sz (r :: τ) u ^ 2 ^ τ.length ≤ B := pow_mono_e hp (by omega) h
  refine ⟨?_, pow_le_of h1 q1, pow_le_of h2 q1, ?_⟩
  · rw [← Nat.pow_two]
    exact pow_mono_e (by decide) (by omega) h
  · refine pow_le_of h3 ?_
    rw [← Nat.pow_two, ← Nat.pow_mul, ← e]
    exact h
/-- the size of a list at its own level -/
theorem sz_low : ∀ {τ : List (List Int)} {l : List Int}, Sub τ l → sz (low τ l.length) l = (lv τ).nm (el τ l)
  | [], l, h => rfl
  | r :: τ, l, h => by
    by_cases q : l.length ≤ 2 ^ τ.length
    · rw [low_short q, el_short q, sz_low (h.short q)]
      exact ((lv τ).nmE_emb r (el τ l)).symm
    · rw [low_full q, el_full q]
      rfl
theorem psign_low {K : Type} [OF K] : ∀ {τ : List (List Int)} {σ : List K} {l : List Int}, PRoots σ τ → Sub τ l → psign (low τ l.length) l = sg (valp τ σ (el τ l))
  | [], σ, l, R, h => psign_val R h
  | r :: τ, σ, l, R, h => by
    by_cases q : l.length ≤ 2 ^ τ.length
    · obtain ⟨s, σ', rfl, _, _, _, R'⟩ := R.cons
      rw [low_short q, el_short q, valp_emb, psign_low R' (h.short q)]
    · rw [low_full q, psign_val R (h.full q), el_pit (h.full q)]
theorem low_length : ∀ (τ : List (List Int)) (n : Nat), (low τ n).length ≤ τ.length
  | [], _ => Nat.le_refl _
  | r :: τ, n => by
    by_cases q : n ≤ 2 ^ τ.length
    · rw [low_short q, List.length_cons]
      exact Nat.le_succ_of_le (low_length τ n)
    · rw [low_full q]
      exact Nat.le_refl _
/-- a part is within the number's size -/
theorem part_le {τ : List (List Int)} {l : List Int} (h : Sub τ l) : ∀ c ∈ l, c.natAbs ≤ (lv τ).nm (el τ l) := fun c hc => by
  refine (lv τ).nm_co _ c ?_
  rw [co_el h]
  unfold widen
  exact List.mem_append_left _ hc
end Rr
end
section
set_option Elab.async false
namespace Rr
open Lean.Grind Std
section
variable {K : Type} [OF K]
/-- a number at its own level -/
theorem down : ∀ {τ : List (List Int)} {σ : List K} {x : PN}, PRoots σ τ → NumOk τ x → ∃ σ' : List K, PRoots σ' (low τ x.parts.length) ∧ NumOk (low τ x.parts.length) x ∧ Pit (low τ x.parts.length) x.parts ∧
    valp (low τ x.parts.length) σ' (el (low τ x.parts.length) x.parts) = valp τ σ (el τ x.parts) ∧ (lv (low τ x.parts.length)).nm (el (low τ x.parts.length) x.parts) = (lv τ).nm (el τ x.parts) ∧ minv τ x = minv (low τ x.parts.length) x
  | [], σ, x, R, hx => ⟨σ, R, hx, hx.sub, rfl, rfl, rfl⟩
  | r :: τ, σ, x, R, hx => by
    by_cases q : x.parts.length ≤ 2 ^ τ.length
    · obtain ⟨s, σ1, rfl, _, _, _, R'⟩ := R.cons
      have hx' : NumOk τ x := ⟨hx.sub.short q, hx.pos, hx.low, hx.strp⟩
      obtain ⟨σ', h1, h2, h3, h4, h5, h6⟩ := down R' hx'
      rw [low_short q]
      refine ⟨σ', h1, h2, h3, ?_, ?_, ?_⟩
      · rw [h4, el_short q, valp_emb]
      · rw [h5, el_short q]
        exact ((lv τ).nmE_emb r _).symm
      · rw [← h6]
        exact if_pos q
    · rw [low_full q]
      exact ⟨σ, R, hx, hx.sub.full q, rfl, rfl, rfl⟩
theorem Cr.red {τ : List (List Int)} {l : List Int} {u : Int} {S : Nat} (h : Pit τ l) (hu : 0 < u) (h1 : sz τ l ≤ 2 ^ S) (h2 : u.natAbs ≤ 2 ^ S) : Cr τ S (reduced l u) := by
  obtain ⟨y1, y2, _⟩ := reduced_ok h.sub hu
  obtain ⟨l1, l2⟩ := low_le y1 y2 (by omega)
  rw [el_pit h] at l2
  exact ⟨Nat.le_trans l2 h1, Nat.le_trans l1 h2⟩
/-- what a turn of the inverse asks and gives -/
theorem inv_step {r : List Int} {τ : List (List Int)} {s : K} {σ : List K} {x : PN} {S : Nat} (R : PRoots (s :: σ) (r :: τ)) (hx : NumOk (r :: τ) x) (p : Pit (r :: τ) x.parts) (hv : valp (r :: τ) (s :: σ) (el (r :: τ) x.parts) ≠ 0) (cx : Cr (r :: τ) S x) (hS : 1 ≤ S) :
    (psign τ (pnorm r τ x.parts) = 0 → NumOk τ (reduced (pscale (x.parts.take (x.parts.length / 2)) 2) x.under) ∧ valp τ σ (el τ (reduced (pscale (x.parts.take (x.parts.length / 2)) 2) x.under).parts) ≠ 0 ∧
      Cr τ (2 * S) (reduced (pscale (x.parts.take (x.parts.length / 2)) 2) x.under) ∧ minv (r :: τ) x = minv τ (reduced (pscale (x.parts.take (x.parts.length / 2)) 2) x.under)) ∧
    (psign τ (pnorm r τ x.parts) ≠ 0 → NumOk τ (reduced (pnorm r τ x.parts) x.under) ∧ valp τ σ (el τ (reduced (pnorm r τ x.parts) x.under).parts) ≠ 0 ∧ Cr τ (2 * S) (reduced (pnorm r τ x.parts) x.under) ∧
      minv (r :: τ) x = mtimes (r :: τ) ⟨x.parts.take (x.parts.length / 2) ++ pscale (x.parts.drop (x.parts.length / 2)) (-1), 1⟩ (minv τ (reduced (pnorm r τ x.parts) x.under)) ∧
      PreOk (r :: τ) ⟨x.parts.take (x.parts.length / 2) ++ pscale (x.parts.drop (x.parts.length / 2)) (-1), 1⟩ ∧
      (lv (r :: τ)).nm (el (r :: τ) (x.parts.take (x.parts.length / 2) ++ pscale (x.parts.drop (x.parts.length / 2)) (-1))) ≤ 2 ^ S) := by
  have R' := R.2.2.2
  have hR := PRoots.rts R
  have q : ¬ x.parts.length ≤ 2 ^ τ.length := by
    have h1 : x.parts.length = 2 ^ (r :: τ).length := p
    rw [List.length_cons, Nat.pow_succ] at h1
    have := two_pos τ.length
    omega
  have ez : el (r :: τ) x.parts = (lv (r :: τ)).ofL x.parts := el_full q
  have csz : sz (r :: τ) x.parts ≤ 2 ^ S := by
    have := cx.nm
    rw [ez] at this
    exact this
  let z : (lv τ).E r := (lv (r :: τ)).ofL x.parts
  have ezc : z = (⟨(lv τ).ofL (x.parts.take (x.parts.length / 2)), (lv τ).ofL (x.parts.drop (x.parts.length / 2))⟩ : (lv τ).E r) := ofL_cons p
  have hza : z.a = (lv τ).ofL (x.parts.take (x.parts.length / 2)) := by rw [ezc]
  have hzb : z.b = (lv τ).ofL (x.parts.drop (x.parts.length / 2)) := by rw [ezc]
  have hN : (lv τ).ofL (pnorm r τ x.parts) = Qd.N z := ofL_pnorm hR p
  have hs : psign τ (pnorm r τ x.parts) = sg (valp τ σ (Qd.N z)) := by rw [psign_val R' (pnorm_len hR p), hN]
  have hvz : valp (r :: τ) (s :: σ) z ≠ 0 := by rw [ez] at hv; exact hv
  have nz : ∀ l : List Int, Pit τ l → valp τ σ ((lv τ).ofL l) ≠ 0 → valp τ σ (el τ (reduced l x.under).parts) ≠ 0 := fun l hl hvl z0 => by
    obtain ⟨y1, y2, g, hg, eg, ug⟩ := reduced_ok (u := x.under) hl.sub hx.pos
    rw [el_pit hl] at eg
    apply hvl
    rw [eg, valp_cst R', z0]
    grind
  have two2 : 2 ^ S * 2 ^ S = 2 ^ (2 * S) := by rw [← Nat.pow_add]; congr 1; omega
  have uS : x.under.natAbs ≤ 2 ^ (2 * S) := Nat.le_trans cx.un (two_le (by omega))
  refine ⟨fun c => ?_, fun c => ?_⟩
  · have hn : valp τ σ (Qd.N z) = 0 := by rw [hs] at c; exact sg_zero_iff.mp c
    have em : minv (r :: τ) x = minv τ (reduced (pscale (x.parts.take (x.parts.length / 2)) 2) x.under) := (if_neg q).trans (if_pos c)
    have ea : (lv τ).ofL (pscale (x.parts.take (x.parts.length / 2)) 2) = ((2 : Int) : (lv τ).A) * z.a := by rw [ofL_scale p.lo, hza]
    have hv2 : valp τ σ ((lv τ).ofL (pscale (x.parts.take (x.parts.length / 2)) 2)) ≠ 0 := by
      rw [ea]
      have e' := valp_N R z
      rw [hn] at e'
      rw [valp_cons] at hvz
      have e2 : valp τ σ z.a - s * valp τ σ z.b = 0 := by
        rcases mul_z e'.symm with q | q
        · exact q
        · exact absurd q hvz
      rw [valp_cst R', show ((2 : Int) : K) = 2 from Ring.intCast_ofNat 2]
      intro q; apply hvz; grind
    refine ⟨(reduced_ok (p.lo.scale 2).sub hx.pos).1, nz _ (p.lo.scale 2) hv2, Cr.red (p.lo.scale 2) hx.pos ?_ uS, em⟩
    have h1 : sz τ (pscale (x.parts.take (x.parts.length / 2)) 2) = 2 * sz τ (x.parts.take (x.parts.length / 2)) := by
      unfold sz
      rw [ofL_scale p.lo, (lv τ).nm_int]
      rfl
    have h2 := (sz_half p).1
    have h3 : 2 * 2 ^ S ≤ 2 ^ (2 * S) := by
      rw [show 2 * 2 ^ S = 2 ^ (S + 1) by rw [Nat.pow_succ]; omega]
      exact two_le (by omega)
    rw [h1]
    omega
  · have hn : ¬ valp τ σ (Qd.N z) = 0 := fun e => c (by rw [hs, e, sg_zero])
    have em : minv (r :: τ) x = mtimes (r :: τ) ⟨x.parts.take (x.parts.length / 2) ++ pscale (x.parts.drop (x.parts.length / 2)) (-1), 1⟩ (minv τ (reduced (pnorm r τ x.parts) x.under)) := (if_neg q).trans (if_neg c)
    have po : Pit (r :: τ) (x.parts.take (x.parts.length / 2) ++ pscale (x.parts.drop (x.parts.length / 2)) (-1)) := p.lo.app (p.hi.scale (-1))
    have eo : el (r :: τ) (x.parts.take (x.parts.length / 2) ++ pscale (x.parts.drop (x.parts.length / 2)) (-1)) = (lv τ).cj z := by
      rw [el_pit po, ofL_cons po, po.half]
      have l1 : (x.parts.take (x.parts.length / 2)).length = 2 ^ τ.length := p.lo
      rw [List.take_append_of_le_length (by omega), List.take_of_length_le (by omega), List.drop_append, List.drop_eq_nil_of_le (by omega), List.nil_append, l1, Nat.sub_self, List.drop_zero, ofL_scale p.hi, ← hza, ← hzb, Lv.ca_neg, Lv.ca_one]
      refine Qd.ext rfl ?_
      show -1 * z.b = -z.b
      grind
    refine ⟨(reduced_ok (pnorm_len hR p).sub hx.pos).1, nz _ (pnorm_len hR p) (by rw [hN]; exact hn), Cr.red (pnorm_len hR p) hx.pos ?_ uS, em, ⟨po.sub, by show (0 : Int) < 1; decide⟩, ?_⟩
    · rw [← two2]
      exact Nat.le_trans (sz_norm hR p) (Nat.mul_le_mul csz csz)
    · rw [eo]
      show (lv τ).nmE ((lv τ).cj z) ≤ _
      rw [Lv.nmE_cj]
      exact csz
end
end Rr
end
section
set_option Elab.async false
namespace Rr
open Lean.Grind Std
/-! ### sizes by leaves -/
def gk : Nat → Nat
  | 0 => 1
  | k + 1 => 2 ^ k * gk k
theorem gk_pos : ∀ k, 1 ≤ gk k
  | 0 => Nat.le_refl _
  | k + 1 => Nat.mul_le_mul (two_pos k) (gk_pos k)
theorem gk_up (k : Nat) : gk k ≤ gk (k + 1) := by
  have := Nat.mul_le_mul_right (gk k) (two_pos k)
  show gk k ≤ 2 ^ k * gk k
  omega
theorem gk_top {k : Nat} (h : k ≤ 3) : 2 ^ k * gk k ≤ 64 := by
  rcases (show k = 0 ∨ k = 1 ∨ k = 2 ∨ k = 3 by omega) with rfl | rfl | rfl | rfl <;> decide
def pp (l : Nat) : Nat := [0, 32, 296, 2408, 8192, 10240, 12288, 14336, 16384].getD l 0
def fm (l : Nat) : Nat := [0, 0, 65, 560, 4520, 36200, 289640, 2317160].getD l 0
/-- the inverse of a pure number -/
def qi (l : Nat) : Nat := [0, 264, 2376, 6144, 8192, 10240, 12288, 14336, 16384].getD l 0
set_option synthInstance.maxSize 4000 in
set_option synthInstance.maxHeartbeats 400000 in
theorem tab1 : ∀ a < 9, ∀ b < 9, 1 ≤ a → 1 ≤ b → a + b ≤ 7 → pp a + pp b + 1 ≤ fm (a + b) ∧ (2 ≤ a → fm a + pp b + 1 ≤ fm (a + b)) ∧ (2 ≤ b → pp a + fm b + 1 ≤ fm (a + b)) ∧ (2 ≤ a → 2 ≤ b → fm a + fm b + 1 ≤ fm (a + b)) := by decide +kernel
set_option synthInstance.maxSize 4000 in
set_option synthInstance.maxHeartbeats 400000 in
theorem tab2 : ∀ a < 9, ∀ b < 9, 1 ≤ a → 1 ≤ b → a + b ≤ 8 → pp a + pp b ≤ pp (a + b) ∧ pp a + qi b ≤ pp (a + b) := by decide +kernel
set_option synthInstance.maxSize 4000 in
set_option synthInstance.maxHeartbeats 400000 in
theorem tab3 : ∀ a < 9, ∀ b < 9, 1 ≤ a → 1 ≤ b → a + b ≤ 7 → (2 ≤ a → fm a + qi b ≤ fm (a + b)) ∧ (2 ≤ b → pp a + 8 * (fm b + 1) ≤ fm (a + b)) ∧ (2 ≤ a → 2 ≤ b → fm a + 8 * (fm b + 1) ≤ fm (a + b)) := by decide +kernel
theorem tab4 : ∀ a < 9, 1 ≤ a → (8 * (pp a + 1) ≤ qi a ∨ 2048 * a ≤ qi a) ∧ pp a ≤ 16384 ∧ qi a ≤ 16384 := by decide +kernel
theorem tab5 : ∀ a < 8, fm a ≤ 2317160 ∧ (a < 7 → fm a ≤ 289640) := by decide +kernel
/-- a number's size by its weight -/
def Szd (τ : List (List Int)) (W : Nat) (n : PN) : Prop := ∃ l, 1 ≤ l ∧ l ≤ 8 ∧
  ((32 * l ≤ W ∧ Rz τ (el τ n.parts) ∧ FR τ (gk τ.length * (32 * l)) (el τ n.parts) n.under ∧ Cr τ (pp l) n) ∨ (2 ≤ l ∧ l ≤ 7 ∧ 32 * l + 1 ≤ W ∧ Cr τ (fm l) n))
theorem FR.of_cr {τ : List (List Int)} {S : Nat} {x : PN} (hx : 0 < x.under) (c : Cr τ S x) : FR τ S (el τ x.parts) x.under :=
  ⟨el τ x.parts, (x.under : (lv τ).A), rfl, c.nm, by rw [(lv τ).nm_cst]; exact c.un, (lv τ).Nm_cst_ne (by omega)⟩
theorem Szd.cr {τ : List (List Int)} {W : Nat} {n : PN} (h : Szd τ W n) : Cr τ 2317160 n := by
  obtain ⟨l, h1, h2, ⟨_, _, _, c⟩ | ⟨h3, h4, _, c⟩⟩ := h
  · exact c.mono (Nat.le_trans (tab4 l (by omega) h1).2.1 (by decide))
  · exact c.mono (tab5 l (by omega)).1
theorem Szd.up {τ : List (List Int)} {W : Nat} {n : PN} (h : Szd τ W n) (r : List Int) (hs : Sub τ n.parts) : Szd (r :: τ) W n := by
  obtain ⟨l, h1, h2, ⟨h3, z, f, c⟩ | ⟨h3, h4, h5, c⟩⟩ := h
  · refine ⟨l, h1, h2, .inl ⟨h3, ?_, ?_, c.up r hs⟩⟩
    · rw [el_up r hs]; exact z.up r
    · rw [el_up r hs]
      exact (f.up r).mono (Nat.mul_le_mul_right _ (gk_up τ.length))
  · exact ⟨l, h1, h2, .inr ⟨h3, h4, h5, c.up r hs⟩⟩
theorem szd_whole (τ : List (List Int)) {v : Int} (hv : v.natAbs ≤ 2 ^ 31) {W : Nat} (hW : 32 ≤ W) : Szd τ W (mwhole v) := by
  have c : Cr τ 32 (mwhole v) := by
    refine ⟨?_, by show (1 : Int).natAbs ≤ _; decide⟩
    show (lv τ).nm (el τ [v]) ≤ _
    rw [el_one, (lv τ).nm_cst]
    exact Nat.le_trans hv (by decide)
  refine ⟨1, Nat.le_refl _, by decide, .inl ⟨hW, ?_, ?_, c⟩⟩
  · show Rz τ (el τ [v])
    rw [el_one]
    by_cases q : v = 0
    · left; rw [q, Lv.ca_zero]
    · right; exact (lv τ).Nm_cst_ne q
  · refine (FR.of_cr (x := mwhole v) (by show (0 : Int) < 1; decide) c).mono ?_
    have := gk_pos τ.length
    omega
/-- each number's size, one way or the other -/
theorem Szd.two {τ : List (List Int)} {W : Nat} {n : PN} (h : Szd τ W n) : ∃ l S, 1 ≤ l ∧ l ≤ 8 ∧ 32 * l ≤ W ∧ Cr τ S n ∧ (S = pp l ∨ (2 ≤ l ∧ l ≤ 7 ∧ 32 * l + 1 ≤ W ∧ S = fm l)) := by
  obtain ⟨l, h1, h2, ⟨h3, _, _, c⟩ | ⟨h3, h4, h5, c⟩⟩ := h
  · exact ⟨l, _, h1, h2, h3, c, .inl rfl⟩
  · exact ⟨l, _, h1, h2, by omega, c, .inr ⟨h3, h4, h5, rfl⟩⟩
theorem szd_plus {τ : List (List Int)} {V W U : Nat} {x y : PN} (hx : PreOk τ x) (hy : PreOk τ y) (sx : Szd τ V x) (sy : Szd τ W y) (hU : U = V + W + 1) (h : U ≤ 256) : Szd τ U (mplus x y) := by
  obtain ⟨a, S, a1, a2, a3, cx, ea⟩ := sx.two
  obtain ⟨b, T, b1, b2, b3, cy, eb⟩ := sy.two
  obtain ⟨t1, t2, t3, t4⟩ := tab1 a (by omega) b (by omega) a1 b1 (by omega)
  refine ⟨a + b, by omega, by omega, .inr ⟨by omega, by omega, by omega, (Cr.plus hx hy cx cy).mono ?_⟩⟩
  rcases ea with rfl | ⟨q1, _, _, rfl⟩ <;> rcases eb with rfl | ⟨q2, _, _, rfl⟩
  · exact t1
  · exact t3 q2
  · exact t2 q1
  · exact t4 q1 q2
theorem szd_neg {τ : List (List Int)} {W : Nat} {x : PN} (hx : PreOk τ x) (s : Szd τ W x) : Szd τ W (mneg x) := by
  obtain ⟨l, h1, h2, ⟨h3, z, f, c⟩ | ⟨h3, h4, h5, c⟩⟩ := s
  · refine ⟨l, h1, h2, .inl ⟨h3, ?_, ?_, c.neg hx⟩⟩
    · rw [(mneg_pre hx).2]
      rcases z with q | q
      · left; rw [q]; grind
      · right
        rw [(lv τ).neg_eq, (lv τ).Nm_mul]
        exact Int.mul_ne_zero ((lv τ).Nm_cst_ne (by decide)) q
    · rw [(mneg_pre hx).2]
      obtain ⟨N, D, e1, e2, e3, e4⟩ := f
      refine ⟨-N, D, ?_, by rw [(lv τ).nm_neg]; exact e2, e3, e4⟩
      show D * -(el τ x.parts) = (x.under : (lv τ).A) * -N
      grind
  · exact ⟨l, h1, h2, .inr ⟨h3, h4, h5, c.neg hx⟩⟩
/-- a product, the second's size given -/
theorem szd_mul {τ : List (List Int)} {V W U : Nat} {x y : PN} (R : Rts τ) (hx : PreOk τ x) (hy : PreOk τ y) (sx : Szd τ V x)
    (sy : ∃ b, 1 ≤ b ∧ b ≤ 8 ∧ ((32 * b ≤ W ∧ Rz τ (el τ y.parts) ∧ FR τ (gk τ.length * (32 * b)) (el τ y.parts) y.under ∧ (Cr τ (pp b) y ∨ Cr τ (qi b) y)) ∨ (2 ≤ b ∧ b ≤ 7 ∧ 32 * b + 1 ≤ W ∧ (Cr τ (fm b) y ∨ Cr τ (8 * (fm b + 1)) y))))
    (hU : U = V + W) (h : U ≤ 256) : Szd τ U (mtimes τ x y) := by
  obtain ⟨h1, h2⟩ := mtimes_ok R hx hy
  have px := hx.pos
  have py := hy.pos
  have hu : x.under * y.under ≠ 0 := Int.mul_ne_zero (by omega) (by omega)
  obtain ⟨a, a1, a2, ⟨a3, za, fa, ca⟩ | ⟨a3, a4, a5, ca⟩⟩ := sx
  · obtain ⟨b, b1, b2, ⟨b3, zb, fb, cb⟩ | ⟨b3, b4, b5, cb⟩⟩ := sy
    · obtain ⟨t1, t2⟩ := tab2 a (by omega) b (by omega) a1 b1 (by omega)
      refine ⟨a + b, by omega, by omega, .inl ⟨by omega, Rz.of_is h1.pos hu h2 (za.times zb), ?_, ?_⟩⟩
      · refine (FR.of_is hu h2 (fa.times fb)).mono ?_
        rw [show 32 * (a + b) = 32 * a + 32 * b by omega, Nat.mul_add]
        exact Nat.le_refl _
      · rcases cb with cb | cb
        · exact (Cr.times R hx hy ca cb).mono t1
        · exact (Cr.times R hx hy ca cb).mono t2
    · obtain ⟨t1, t2, t3, t4⟩ := tab1 a (by omega) b (by omega) a1 b1 (by omega)
      obtain ⟨u1, u2, u3⟩ := tab3 a (by omega) b (by omega) a1 b1 (by omega)
      refine ⟨a + b, by omega, by omega, .inr ⟨by omega, by omega, by omega, ?_⟩⟩
      rcases cb with cb | cb
      · exact (Cr.times R hx hy ca cb).mono (by have := t3 b3; omega)
      · exact (Cr.times R hx hy ca cb).mono (u2 b3)
  · obtain ⟨b, b1, b2, ⟨b3, zb, fb, cb⟩ | ⟨b3, b4, b5, cb⟩⟩ := sy
    · obtain ⟨t1, t2, t3, t4⟩ := tab1 a (by omega) b (by omega) a1 b1 (by omega)
      obtain ⟨u1, u2, u3⟩ := tab3 a (by omega) b (by omega) a1 b1 (by omega)
      refine ⟨a + b, by omega, by omega, .inr ⟨by omega, by omega, by omega, ?_⟩⟩
      rcases cb with cb | cb
      · exact (Cr.times R hx hy ca cb).mono (by have := t2 a3; omega)
      · exact (Cr.times R hx hy ca cb).mono (u1 a3)
    · obtain ⟨t1, t2, t3, t4⟩ := tab1 a (by omega) b (by omega) a1 b1 (by omega)
      obtain ⟨u1, u2, u3⟩ := tab3 a (by omega) b (by omega) a1 b1 (by omega)
      refine ⟨a + b, by omega, by omega, .inr ⟨by omega, by omega, by omega, ?_⟩⟩
      rcases cb with cb | cb
      · exact (Cr.times R hx hy ca cb).mono (by have := t4 a3 b3; omega)
      · exact (Cr.times R hx hy ca cb).mono (u3 a3 b3)
theorem szd_times {τ : List (List Int)} {V W U : Nat} {x y : PN} (R : Rts τ) (hx : PreOk τ x) (hy : PreOk τ y) (sx : Szd τ V x) (sy : Szd τ W y) (hU : U = V + W) (h : U ≤ 256) : Szd τ U (mtimes τ x y) := by
  refine szd_mul (W := W) R hx hy sx ?_ hU h
  obtain ⟨b, b1, b2, ⟨b3, zb, fb, cb⟩ | ⟨b3, b4, b5, cb⟩⟩ := sy
  · exact ⟨b, b1, b2, .inl ⟨b3, zb, fb, .inl cb⟩⟩
  · exact ⟨b, b1, b2, .inr ⟨b3, b4, b5, .inl cb⟩⟩
section
variable {K : Type} [OF K]
theorem szd_over {τ : List (List Int)} {σ : List K} {V W U : Nat} {x y : PN} (R : PRoots σ τ) (hl : τ.length ≤ 3) (hx : PreOk τ x) (hy : NumOk τ y) (hv : valp τ σ (el τ y.parts) ≠ 0) (sx : Szd τ V x) (sy : Szd τ W y) (hU : U = V + W) (h : U ≤ 256) :
    Szd τ U (mover τ x y) ∧ (∃ S, 1 ≤ S ∧ S ≤ 289640 ∧ Cr τ S y) ∧ Cr τ 2317160 (minv τ y) := by
  have m := (minv_ok R hy hv).1
  obtain ⟨a, S, a1, a2, a3, cx, ea⟩ := sx.two
  obtain ⟨b, b1, b2, ⟨b3, zb, fb, cb⟩ | ⟨b3, b4, b5, cb⟩⟩ := sy
  · obtain ⟨z, f⟩ := pure_inv R hy hv zb fb
    obtain ⟨t1, t2, t3⟩ := tab4 b (by omega) b1
    have c2 : Cr τ (qi b) (minv τ y) := by
      rcases t1 with q | q
      · exact (Cr.inv R hl hy hv cb).mono q
      · refine (FR.size m f).mono (Nat.le_trans ?_ q)
        have e1 := Nat.mul_le_mul_right (32 * b) (gk_top hl)
        rw [← Nat.mul_assoc]
        omega
    refine ⟨szd_mul (W := W) (PRoots.rts R) hx m.pre sx ⟨b, b1, b2, .inl ⟨b3, z, f, .inr c2⟩⟩ hU h, ⟨pp b + 1, by omega, by omega, cb.mono (by omega)⟩, c2.mono (by omega)⟩
  · have c2 := Cr.inv R hl hy hv cb
    have t := (tab5 b (by omega)).2 (by omega)
    refine ⟨szd_mul (W := W) (PRoots.rts R) hx m.pre sx ⟨b, b1, b2, .inr ⟨b3, b4, b5, .inr c2⟩⟩ hU h, ⟨289640, by decide, Nat.le_refl _, cb.mono t⟩, c2.mono (by omega)⟩
theorem szd_root {τ : List (List Int)} {σ : List K} {W : Nat} {x : PN} (R : PRoots σ τ) (hx : NumOk τ x) (hv : valp τ σ (el τ x.parts) ≠ 0) (s : Szd τ W x) : Szd (mrad τ x :: τ) W (mroot τ x) := by
  have px := hx.pos
  obtain ⟨l, h1, h2, ⟨h3, z, f, c⟩ | ⟨h3, h4, h5, c⟩⟩ := s
  · refine ⟨l, h1, h2, .inl ⟨h3, ?_, ?_, (Cr.root hx c).2⟩⟩
    · right
      rw [(mroot_el (mrad τ x)).2]
      show (lv τ).Nm (Qd.N (⟨0, 1⟩ : (lv τ).E (mrad τ x))) ≠ 0
      have e : Qd.N (⟨0, 1⟩ : (lv τ).E (mrad τ x)) = ((-x.under : Int) : (lv τ).A) * el τ x.parts := by
        show (0 : (lv τ).A) * 0 - 1 * 1 * (lv τ).ofL (mrad τ x) = _
        rw [(mrad_pit hx.sub).2, Lv.ca_neg]
        grind
      rw [e, (lv τ).Nm_mul]
      refine Int.mul_ne_zero ((lv τ).Nm_cst_ne (by omega)) ?_
      rcases z with q | q
      · exact absurd (by rw [q, valp_zero]) hv
      · exact q
    · have c1 := (Cr.root hx (FR.size hx f)).2
      refine (FR.of_cr (x := mroot τ x) px c1).mono ?_
      rw [List.length_cons, ← Nat.mul_assoc]
      exact Nat.le_refl _
  · exact ⟨l, h1, h2, .inr ⟨h3, h4, h5, (Cr.root hx c).2⟩⟩
end
end Rr
end
section
set_option Elab.async false
namespace Rr
open Lean.Grind Std
section
variable {F : Type} [OF F]
theorem cancel {a b c : F} (hc : c ≠ 0) (h : a * c = b * c) : a = b := by
  have e : (a - b) * c = 0 := by grind
  rcases mul_z e with q | q
  · grind
  · exact absurd q hc
theorem vIs {τ : List (List Int)} {σ : List F} (R : PRoots σ τ) {x : PN} {z : (lv τ).A} {u : Int} (h : Is τ x z u) : valp τ σ (el τ x.parts) * (u : F) = valp τ σ z * (x.under : F) := by
  unfold Is at h
  have := congrArg (valp τ σ) h
  rw [valp_mul R, valp_mul R, valp_int, valp_int] at this
  exact this
/-- the program's number n is the specification's x -/
structure JN (ρ σ : List F) (t : Lk.Tower) (τ : List (List Int)) (W : Nat) (n : PN) (x : Lk.Num) : Prop where
  fit : Fits t.length x
  ok : NumOk τ n
  val : val ρ x * (n.under : F) = valp τ σ (el τ n.parts)
  sz : Szd τ W n
variable {ρ σ : List F} {t : Lk.Tower} {τ : List (List Int)}
theorem JN.un {W : Nat} {n : PN} {x : Lk.Num} (h : JN ρ σ t τ W n x) : (0 : F) < (n.under : F) := ic_ps h.ok.pos
theorem JN.nz {W : Nat} {n : PN} {x : Lk.Num} (h : JN ρ σ t τ W n x) : (n.under : F) ≠ 0 := by have := h.un; grind
theorem JN.sign {W : Nat} {n : PN} {x : Lk.Num} (R : Roots ρ t) (P : PRoots σ τ) (h : JN ρ σ t τ W n x) : psign (low τ n.parts.length) n.parts = Lk.sign t x := by
  rw [psign_low P h.ok.sub, ← h.val, sg_scale h.un, sign_val R h.fit]
theorem jn_whole (R : Roots ρ t) (P : PRoots σ τ) {v : Int} (hv : v.natAbs ≤ 2 ^ 31) {W : Nat} (hW : 32 ≤ W) : JN ρ σ t τ W (mwhole v) (Lk.ofRat t (v : Rat)) := by
  refine ⟨fits_ofRat t _, whole_ok τ v, ?_, szd_whole τ hv hW⟩
  rw [val_ofRat ρ t R.len, rc_int]
  show (v : F) * ((1 : Int) : F) = valp τ σ (el τ [v])
  rw [el_one, valp_int, ic_one]
  grind
theorem jn_plus (R : Roots ρ t) (P : PRoots σ τ) {V W U : Nat} {n m : PN} {x y : Lk.Num} (a : JN ρ σ t τ V n x) (b : JN ρ σ t τ W m y) (hU : U = V + W + 1) (h : U ≤ 256) : JN ρ σ t τ U (mplus n m) (Lk.plus x y) := by
  obtain ⟨h1, h2⟩ := mplus_ok a.ok.pre b.ok.pre
  refine ⟨fits_plus a.fit b.fit, h1, ?_, szd_plus a.ok.pre b.ok.pre a.sz b.sz hU h⟩
  rw [val_plus (by rw [R.len]; exact a.fit) (by rw [R.len]; exact b.fit)]
  have e := vIs P h2
  rw [valp_add, valp_mul P, valp_mul P, valp_int, valp_int, ← a.val, ← b.val, ic_mul] at e
  have na := a.nz
  have nb := b.nz
  have nab : (n.under : F) * (m.under : F) ≠ 0 := fun q => by
    rcases mul_z q with z | z
    · exact na z
    · exact nb z
  refine cancel nab ?_
  grind
theorem jn_minus (R : Roots ρ t) (P : PRoots σ τ) {V W U : Nat} {n m : PN} {x y : Lk.Num} (a : JN ρ σ t τ V n x) (b : JN ρ σ t τ W m y) (hU : U = V + W + 1) (h : U ≤ 256) : JN ρ σ t τ U (mminus n m) (Lk.minus x y) := by
  obtain ⟨p1, p2⟩ := mneg_pre b.ok.pre
  obtain ⟨h1, h2⟩ := mplus_ok a.ok.pre p1
  refine ⟨fits_minus a.fit b.fit, h1, ?_, szd_plus a.ok.pre p1 a.sz (szd_neg b.ok.pre b.sz) hU h⟩
  rw [val_minus (by rw [R.len]; exact a.fit) (by rw [R.len]; exact b.fit)]
  have e := vIs P h2
  rw [p2, valp_add, valp_mul P, valp_mul P, valp_int, valp_int, valp_neg, ← a.val, ← b.val, ic_mul] at e
  have e' : valp τ σ (el τ (mminus n m).parts) * ((n.under : F) * (m.under : F)) = (val ρ x * (n.under : F) * (m.under : F) + -(val ρ y * (m.under : F)) * (n.under : F)) * ((mminus n m).under : F) := e
  have na := a.nz
  have nb := b.nz
  have nab : (n.under : F) * (m.under : F) ≠ 0 := fun q => by
    rcases mul_z q with z | z
    · exact na z
    · exact nb z
  refine cancel nab ?_
  grind
theorem jn_times (R : Roots ρ t) (P : PRoots σ τ) {V W U : Nat} {n m : PN} {x y : Lk.Num} (a : JN ρ σ t τ V n x) (b : JN ρ σ t τ W m y) (hU : U = V + W) (h : U ≤ 256) : JN ρ σ t τ U (mtimes τ n m) (Lk.mul t x y) := by
  obtain ⟨h1, h2⟩ := mtimes_ok (PRoots.rts P) a.ok.pre b.ok.pre
  refine ⟨fits_mul R a.fit b.fit, h1, ?_, szd_times (PRoots.rts P) a.ok.pre b.ok.pre a.sz b.sz hU h⟩
  rw [val_mul R a.fit b.fit]
  have e := vIs P h2
  rw [valp_mul P, ← a.val, ← b.val, ic_mul] at e
  have na := a.nz
  have nb := b.nz
  have nab : (n.under : F) * (m.under : F) ≠ 0 := fun q => by
    rcases mul_z q with z | z
    · exact na z
    · exact nb z
  refine cancel nab ?_
  grind
theorem inv_value (P : PRoots σ τ) {W : Nat} {m : PN} {y : Lk.Num} (b : JN ρ σ t τ W m y) (hv : valp τ σ (el τ m.parts) ≠ 0) : valp τ σ (el τ (minv τ m).parts) * val ρ y = ((minv τ m).under : F) := by
  obtain ⟨h1, h2⟩ := minv_ok P b.ok hv
  obtain ⟨n1, n2⟩ := pinv_val P _ hv
  have e := vIs P h2
  rw [valp_cst P] at e
  have nn : (((pinv τ σ (el τ m.parts)).2 : Int) : F) ≠ 0 := ic_nz n1
  have nu := b.nz
  have hb := b.val
  have nz : valp τ σ (el τ m.parts) ≠ 0 := hv
  generalize valp τ σ (pinv τ σ (el τ m.parts)).1 = q at *
  generalize (((pinv τ σ (el τ m.parts)).2 : Int) : F) = k at *
  generalize valp τ σ (el τ (minv τ m).parts) = E at *
  generalize ((minv τ m).under : F) = w at *
  generalize valp τ σ (el τ m.parts) = X at *
  generalize (m.under : F) = u at *
  generalize val ρ y = Y at *
  have nku : k * u ≠ 0 := fun z => by
    rcases mul_z z with z | z
    · exact nn z
    · exact nu z
  refine cancel nku ?_
  grind
theorem jn_over (R : Roots ρ t) (P : PRoots σ τ) (hl : τ.length ≤ 3) {V W U : Nat} {n m : PN} {x y : Lk.Num} (a : JN ρ σ t τ V n x) (b : JN ρ σ t τ W m y) (hv : val ρ y ≠ 0) (hU : U = V + W) (h : U ≤ 256) : JN ρ σ t τ U (mover τ n m) (Lk.mul t x (Lk.inverse t y)) := by
  have hv' : valp τ σ (el τ m.parts) ≠ 0 := by
    rw [← b.val]
    intro z
    rcases mul_z z with z | z
    · exact hv z
    · exact b.nz z
  have m1 := (minv_ok P b.ok hv').1
  obtain ⟨h1, h2⟩ := mtimes_ok (PRoots.rts P) a.ok.pre m1.pre
  refine ⟨fits_mul R a.fit (fits_inverse R b.fit), h1, ?_, (szd_over P hl a.ok.pre b.ok hv' a.sz b.sz hU h).1⟩
  rw [val_mul R a.fit (fits_inverse R b.fit)]
  have e := vIs P h2
  rw [valp_mul P, ← a.val, ic_mul] at e
  have iv := inv_value P b hv'
  have is := val_inverse R b.fit hv
  have na := a.nz
  have nb : ((minv τ m).under : F) ≠ 0 := ic_nz (by have := m1.pos; omega)
  have nab : (n.under : F) * ((minv τ m).under : F) ≠ 0 := fun q => by
    rcases mul_z q with z | z
    · exact na z
    · exact nb z
  have e' : valp τ σ (el τ (mover τ n m).parts) * ((n.under : F) * ((minv τ m).under : F)) = val ρ x * (n.under : F) * valp τ σ (el τ (minv τ m).parts) * ((mover τ n m).under : F) := e
  refine cancel nab ?_
  generalize valp τ σ (el τ (minv τ m).parts) = E at *
  generalize ((minv τ m).under : F) = w at *
  generalize val ρ (Lk.inverse t y) = Yi at *
  generalize val ρ y = Y at *
  have e2 : E = Yi * w := by grind
  grind
end
section
variable {F L : Type} [OF F] [OF L] (f : Emb F L)
variable {ρ σ : List F} {t : Lk.Tower} {τ : List (List Int)}
/-- one root more in the specification's tower, none in the program's -/
theorem JN.lift0 {W : Nat} {n : PN} {x : Lk.Num} (R : Roots ρ t) (h : JN ρ σ t τ W n x) (r' : L) (c : Lk.Num) : JN (r' :: ρ.map f.f) (σ.map f.f) (c :: t) τ W n (Lk.lift x) := by
  have l : (ρ.map f.f).length = t.length := by rw [List.length_map]; exact R.len
  refine ⟨fits_lift h.fit, h.ok, ?_, h.sz⟩
  rw [val_lift (by rw [l]; exact h.fit), ← f.val, ← f.valp, ← h.val, f.mul, f.int]
/-- one root more in both -/
theorem JN.lift1 {W : Nat} {n : PN} {x : Lk.Num} (R : Roots ρ t) (h : JN ρ σ t τ W n x) (r' s : L) (c : Lk.Num) (r : List Int) : JN (r' :: ρ.map f.f) (s :: σ.map f.f) (c :: t) (r :: τ) W n (Lk.lift x) := by
  have l : (ρ.map f.f).length = t.length := by rw [List.length_map]; exact R.len
  refine ⟨fits_lift h.fit, h.ok.up r, ?_, h.sz.up r h.ok.sub⟩
  rw [val_lift (by rw [l]; exact h.fit), el_up r h.ok.sub, valp_emb, ← f.val, ← f.valp, ← h.val, f.mul, f.int]
end
end Rr
end
section
set_option Elab.async false
namespace Rr
open Lean.Grind Std
section
variable {F : Type} [OF F]
/-- within n in size -/
def Wi (x : F) (n : Nat) : Prop := -((n : Int) : F) ≤ x ∧ x ≤ ((n : Int) : F)
theorem nn_c (n : Nat) : (0 : F) ≤ ((n : Int) : F) := ic_nn (by omega)
theorem le_c {m n : Nat} (h : m ≤ n) : ((m : Int) : F) ≤ ((n : Int) : F) := ic_le (by omega)
theorem Wi.mono {x : F} {m n : Nat} (h : Wi x m) (q : m ≤ n) : Wi x n := by
  have := le_c (F := F) q
  unfold Wi at *
  constructor <;> grind
theorem Wi.int (z : Int) : Wi ((z : Int) : F) z.natAbs := by
  unfold Wi
  rw [← ic_neg]
  exact ⟨ic_le (by omega), ic_le (by omega)⟩
theorem Wi.add {x y : F} {m n : Nat} (h : Wi x m) (q : Wi y n) : Wi (x + y) (m + n) := by
  unfold Wi at *
  have e : (((m + n : Nat) : Int) : F) = ((m : Int) : F) + ((n : Int) : F) := by rw [← ic_add]; congr 1
  rw [e]
  constructor <;> grind
theorem Wi.neg {x : F} {m : Nat} (h : Wi x m) : Wi (-x) m := by
  unfold Wi at *
  constructor <;> grind
theorem Wi.mul {x y : F} {m n : Nat} (h : Wi x m) (q : Wi y n) : Wi (x * y) (m * n) := by
  unfold Wi at *
  have e : (((m * n : Nat) : Int) : F) = ((m : Int) : F) * ((n : Int) : F) := by rw [← ic_mul]; congr 1
  rw [e]
  have hm := nn_c (F := F) m
  have hn := nn_c (F := F) n
  generalize ((m : Int) : F) = a at *
  generalize ((n : Int) : F) = b at *
  have p1 := mul_nn (show (0 : F) ≤ a - x by grind) (show (0 : F) ≤ b - y by grind)
  have p2 := mul_nn (show (0 : F) ≤ a + x by grind) (show (0 : F) ≤ b + y by grind)
  have p3 := mul_nn (show (0 : F) ≤ a - x by grind) (show (0 : F) ≤ b + y by grind)
  have p4 := mul_nn (show (0 : F) ≤ a + x by grind) (show (0 : F) ≤ b - y by grind)
  constructor <;> grind
/-- what a number is worth is within its size -/
theorem valp_wi : ∀ {τ : List (List Int)} {σ : List F} (_ : PRoots σ τ) (z : (lv τ).A), Wi (valp τ σ z) ((lv τ).nm z)
  | [], [], _, z => Wi.int (show Int from z)
  | r :: τ, s :: σ, R, z => by
    have R' := R.2.2.2
    let z' : (lv τ).E r := z
    have ha := valp_wi R' z'.a
    have hb := valp_wi R' z'.b
    have hr := valp_wi R' ((lv τ).ofL r)
    have hs : Wi s ((lv τ).rho r) := by
      have h1 : s * s ≤ (((lv τ).rho r : Int) : F) * (((lv τ).rho r : Int) : F) := by
        rw [R.2.1, ← ic_mul]
        refine (show _ ≤ _ by
          have := hr.2
          have h2 : (((lv τ).nm ((lv τ).ofL r) : Int) : F) ≤ ((((lv τ).rho r : Int) * ((lv τ).rho r : Int) : Int) : F) := ic_le (by
            have := rho_sq r τ
            unfold sz at this
            have e : (((lv τ).rho r * (lv τ).rho r : Nat) : Int) = ((lv τ).rho r : Int) * ((lv τ).rho r : Int) := by simp
            rw [← e]
            omega)
          grind)
      have h3 := le_of_sq (nn_c (F := F) ((lv τ).rho r)) h1
      have h4 := R.1
      have h5 := nn_c (F := F) ((lv τ).rho r)
      unfold Wi
      constructor <;> grind
    have e : valp (r :: τ) (s :: σ) z = valp τ σ z'.a + s * valp τ σ z'.b := rfl
    rw [e]
    exact ha.add (hs.mul hb)
/-- a number that isn't 0 isn't small -/
theorem valp_far {τ : List (List Int)} {σ : List F} (R : PRoots σ τ) (hl : τ.length ≤ 3) (z : (lv τ).A) {S : Nat} (hS : (lv τ).nm z ≤ 2 ^ S) (hz : valp τ σ z ≠ 0) :
    ∃ y : F, Wi y (2 ^ (7 * (S + 1))) ∧ ∃ n : Int, n ≠ 0 ∧ y * valp τ σ z = (n : F) := by
  obtain ⟨n1, n2⟩ := pinv_val R z hz
  obtain ⟨s1, s2⟩ := pinv_size R z (2 ^ S) (two_pos S) hS
  refine ⟨valp τ σ (pinv τ σ z).1, (valp_wi R _).mono (Nat.le_trans s1 ?_), _, n1, n2⟩
  have e : 2 * 2 ^ S = 2 ^ (S + 1) := by rw [Nat.pow_succ]; omega
  rw [e, ← Nat.pow_mul]
  refine two_le ?_
  have p4 := pow_four hl
  have := Nat.mul_le_mul_left (S + 1) (show 2 ^ τ.length - 1 ≤ 7 by omega)
  omega
end
end Rr
end
section
set_option Elab.async false
namespace Rr
open Lean.Grind Std
/-! ### how large a row's numbers are: each a quotient of two numbers of small size -/
section
variable {F : Type} [OF F]
structure HN (ρ σ : List F) (t : Lk.Tower) (τ : List (List Int)) (W : Nat) (x : Lk.Num) : Prop where
  fit : Fits t.length x
  qu : ∃ N D : (lv τ).A, (lv τ).nm N ≤ 2 ^ W ∧ (lv τ).nm D ≤ 2 ^ W ∧ valp τ σ D ≠ 0 ∧ valp τ σ N = val ρ x * valp τ σ D
variable {ρ σ : List F} {t : Lk.Tower} {τ : List (List Int)}
theorem hn_whole (R : Roots ρ t) {v : Int} (hv : v.natAbs ≤ 2 ^ 31) {W : Nat} (hW : 32 ≤ W) : HN ρ σ t τ W (Lk.ofRat t (v : Rat)) := by
  refine ⟨fits_ofRat t _, ((v : Int) : (lv τ).A), 1, ?_, ?_, ?_, ?_⟩
  · rw [(lv τ).nm_cst]
    exact Nat.le_trans hv (two_le (by omega))
  · rw [(lv τ).nm_one]
    exact two_pos W
  · rw [valp_one]
    grind
  · rw [val_ofRat ρ t R.len, rc_int, valp_int, valp_one]
    grind
theorem nz2 {a b : F} (ha : a ≠ 0) (hb : b ≠ 0) : a * b ≠ 0 := fun q => by
  rcases mul_z q with z | z
  · exact ha z
  · exact hb z
theorem two_sum {a b V W : Nat} (ha : a ≤ 2 ^ V * 2 ^ W) (hb : b ≤ 2 ^ W * 2 ^ V) : a + b ≤ 2 ^ (V + W + 1) := by
  rw [← Nat.pow_add] at ha
  rw [← Nat.pow_add, Nat.add_comm W V] at hb
  rw [Nat.pow_succ]
  omega
theorem nm_two {N M : (lv τ).A} {V W : Nat} (h : (lv τ).nm N ≤ 2 ^ V) (q : (lv τ).nm M ≤ 2 ^ W) : (lv τ).nm (N * M) ≤ 2 ^ V * 2 ^ W := Nat.le_trans ((lv τ).nm_mul _ _) (Nat.mul_le_mul h q)
theorem hn_plus (R : Roots ρ t) (P : PRoots σ τ) {V W U : Nat} {x y : Lk.Num} (a : HN ρ σ t τ V x) (b : HN ρ σ t τ W y) (hU : U = V + W + 1) : HN ρ σ t τ U (Lk.plus x y) := by
  obtain ⟨N, D, n1, n2, n3, n4⟩ := a.qu
  obtain ⟨M, E, m1, m2, m3, m4⟩ := b.qu
  subst hU
  refine ⟨fits_plus a.fit b.fit, N * E + M * D, D * E, ?_, ?_, ?_, ?_⟩
  · exact Nat.le_trans ((lv τ).nm_add _ _) (two_sum (nm_two n1 m2) (nm_two m1 n2))
  · refine Nat.le_trans (nm_two n2 m2) ?_
    rw [← Nat.pow_add]
    exact two_le (by omega)
  · rw [valp_mul P]
    exact nz2 n3 m3
  · rw [val_plus (by rw [R.len]; exact a.fit) (by rw [R.len]; exact b.fit), valp_add, valp_mul P, valp_mul P, valp_mul P, n4, m4]
    grind
theorem hn_minus (R : Roots ρ t) (P : PRoots σ τ) {V W U : Nat} {x y : Lk.Num} (a : HN ρ σ t τ V x) (b : HN ρ σ t τ W y) (hU : U = V + W + 1) : HN ρ σ t τ U (Lk.minus x y) := by
  obtain ⟨N, D, n1, n2, n3, n4⟩ := a.qu
  obtain ⟨M, E, m1, m2, m3, m4⟩ := b.qu
  subst hU
  refine ⟨fits_minus a.fit b.fit, N * E - M * D, D * E, ?_, ?_, ?_, ?_⟩
  · exact Nat.le_trans ((lv τ).nm_sub _ _) (two_sum (nm_two n1 m2) (nm_two m1 n2))
  · refine Nat.le_trans (nm_two n2 m2) ?_
    rw [← Nat.pow_add]
    exact two_le (by omega)
  · rw [valp_mul P]
    exact nz2 n3 m3
  · rw [val_minus (by rw [R.len]; exact a.fit) (by rw [R.len]; exact b.fit), valp_sub, valp_mul P, valp_mul P, valp_mul P, n4, m4]
    grind
theorem hn_times (R : Roots ρ t) (P : PRoots σ τ) {V W U : Nat} {x y : Lk.Num} (a : HN ρ σ t τ V x) (b : HN ρ σ t τ W y) (hU : U = V + W) : HN ρ σ t τ U (Lk.mul t x y) := by
  obtain ⟨N, D, n1, n2, n3, n4⟩ := a.qu
  obtain ⟨M, E, m1, m2, m3, m4⟩ := b.qu
  subst hU
  refine ⟨fits_mul R a.fit b.fit, N * M, D * E, ?_, ?_, ?_, ?_⟩
  · rw [Nat.pow_add]; exact nm_two n1 m1
  · rw [Nat.pow_add]; exact nm_two n2 m2
  · rw [valp_mul P]
    exact nz2 n3 m3
  · rw [val_mul R a.fit b.fit, valp_mul P, valp_mul P, n4, m4]
    grind
theorem hn_over (R : Roots ρ t) (P : PRoots σ τ) {V W U : Nat} {x y : Lk.Num} (a : HN ρ σ t τ V x) (b : HN ρ σ t τ W y) (hv : val ρ y ≠ 0) (hU : U = V + W) : HN ρ σ t τ U (Lk.mul t x (Lk.inverse t y)) := by
  obtain ⟨N, D, n1, n2, n3, n4⟩ := a.qu
  obtain ⟨M, E, m1, m2, m3, m4⟩ := b.qu
  subst hU
  have is := val_inverse R b.fit hv
  refine ⟨fits_mul R a.fit (fits_inverse R b.fit), N * E, D * M, ?_, ?_, ?_, ?_⟩
  · rw [Nat.pow_add]; exact nm_two n1 m2
  · rw [Nat.pow_add]; exact nm_two n2 m1
  · rw [valp_mul P, m4]
    exact nz2 n3 (nz2 hv m3)
  · rw [val_mul R a.fit (fits_inverse R b.fit), valp_mul P, valp_mul P, n4, m4]
    grind
end
section
variable {F L : Type} [OF F] [OF L] (f : Emb F L)
variable {ρ σ : List F} {t : Lk.Tower} {τ : List (List Int)}
theorem Emb.ne {x : F} (h : x ≠ 0) : f.f x ≠ 0 := fun q => by
  rcases (show x < 0 ∨ 0 < x by grind) with z | z
  · have := f.ps (show 0 < -x by grind)
    rw [f.neg, q] at this
    grind
  · have := f.ps z
    rw [q] at this
    grind
theorem HN.lift0 {W : Nat} {x : Lk.Num} (R : Roots ρ t) (h : HN ρ σ t τ W x) (r' : L) (c : Lk.Num) : HN (r' :: ρ.map f.f) (σ.map f.f) (c :: t) τ W (Lk.lift x) := by
  have l : (ρ.map f.f).length = t.length := by rw [List.length_map]; exact R.len
  obtain ⟨N, D, n1, n2, n3, n4⟩ := h.qu
  refine ⟨fits_lift h.fit, N, D, n1, n2, ?_, ?_⟩
  · rw [← f.valp]; exact f.ne n3
  · rw [val_lift (by rw [l]; exact h.fit), ← f.val, ← f.valp, ← f.valp, n4, f.mul]
theorem HN.lift1 {W : Nat} {x : Lk.Num} (R : Roots ρ t) (h : HN ρ σ t τ W x) (r' s : L) (c : Lk.Num) (r : List Int) : HN (r' :: ρ.map f.f) (s :: σ.map f.f) (c :: t) (r :: τ) W (Lk.lift x) := by
  have l : (ρ.map f.f).length = t.length := by rw [List.length_map]; exact R.len
  obtain ⟨N, D, n1, n2, n3, n4⟩ := h.qu
  refine ⟨fits_lift h.fit, (lv τ).emb r N, (lv τ).emb r D, ?_, ?_, ?_, ?_⟩
  · show (lv τ).nmE ((lv τ).emb r N) ≤ _
    rw [Lv.nmE_emb]; exact n1
  · show (lv τ).nmE ((lv τ).emb r D) ≤ _
    rw [Lv.nmE_emb]; exact n2
  · rw [valp_emb, ← f.valp]; exact f.ne n3
  · rw [val_lift (by rw [l]; exact h.fit), valp_emb, valp_emb, ← f.val, ← f.valp, ← f.valp, n4, f.mul]
end
structure HR (F : Type) [OF F] (ρ σ : List F) (M : Lk.Made) (τ : List (List Int)) (ws : List Nat) (r : Nat) : Prop where
  R : Roots ρ M.t
  P : PRoots σ τ
  l1 : M.nums.length = ws.length
  tr : τ.length ≤ r
  nums : ∀ (j : Nat) (x : Lk.Num), M.nums[j]? = some x → ∃ W, ws[j]? = some W ∧ W ≤ 256 ∧ 32 ≤ W ∧ HN ρ σ M.t τ W x
def HX (M : Lk.Made) (ws : List Nat) (r : Nat) : Prop := ∃ (F : Type) (_ : OF F) (ρ σ : List F) (τ : List (List Int)), HR F ρ σ M τ ws r
theorem hx_start : HX ⟨[], []⟩ [] 0 := ⟨Rat, inferInstance, [], [], [], trivial, trivial, rfl, Nat.le_refl _, fun j n e => by simp at e⟩
theorem HR.at {F : Type} [OF F] {ρ σ : List F} {M : Lk.Made} {τ : List (List Int)} {ws : List Nat} {r : Nat} (h : HR F ρ σ M τ ws r) {j : Nat} (hj : j < ws.length) :
    ∃ x W, M.nums[j]? = some x ∧ ws[j]? = some W ∧ M.num j = x ∧ ws.getD j 0 = W ∧ W ≤ 256 ∧ 32 ≤ W ∧ HN ρ σ M.t τ W x := by
  obtain ⟨x, hx⟩ : ∃ x, M.nums[j]? = some x := ⟨_, List.getElem?_eq_getElem (by rw [h.l1]; exact hj)⟩
  obtain ⟨W, e2, w1, w2, q⟩ := h.nums j x hx
  refine ⟨x, W, hx, e2, ?_, ?_, w1, w2, q⟩
  · unfold Lk.Made.num
    rw [List.getD_eq_getElem?_getD, hx]
    rfl
  · rw [List.getD_eq_getElem?_getD, e2]
    rfl
theorem hr_push {F : Type} [OF F] {ρ σ : List F} {M : Lk.Made} {τ : List (List Int)} {ws : List Nat} {r r' : Nat} (h : HR F ρ σ M τ ws r) (hr : r ≤ r') {W : Nat} {x : Lk.Num} (h1 : W ≤ 256) (h2 : 32 ≤ W) (q : HN ρ σ M.t τ W x) :
    HR F ρ σ { M with nums := M.nums ++ [x] } τ (ws ++ [W]) r' := by
  refine ⟨h.R, h.P, ?_, Nat.le_trans h.tr hr, fun j y e => ?_⟩
  · show (M.nums ++ [x]).length = _
    rw [List.length_append, List.length_append, h.l1]
    rfl
  · have e' : (M.nums ++ [x])[j]? = some y := e
    rcases Nat.lt_or_ge j M.nums.length with z | z
    · rw [List.getElem?_append_left z] at e'
      obtain ⟨V, e2, w1, w2, p⟩ := h.nums j y e'
      refine ⟨V, ?_, w1, w2, p⟩
      rw [List.getElem?_append_left (by rw [← h.l1]; exact z)]
      exact e2
    · have hj : j = M.nums.length := by
        have := (List.getElem?_eq_some_iff.mp e').1
        rw [List.length_append] at this
        simp at this
        omega
      subst hj
      rw [List.getElem?_append_right (Nat.le_refl _), Nat.sub_self] at e'
      obtain rfl : x = y := Option.some.inj e'
      refine ⟨W, ?_, h1, h2, q⟩
      rw [h.l1, List.getElem?_append_right (Nat.le_refl _), Nat.sub_self]
      rfl
theorem hr_lift {F L : Type} [OF F] [OF L] (f : Emb F L) {ρ σ : List F} {M : Lk.Made} {τ : List (List Int)} {ws : List Nat} {r : Nat} (h : HR F ρ σ M τ ws r) {c : Lk.Num} {r' : L} {σ' : List L} {τ' : List (List Int)}
    (hR : Roots (r' :: ρ.map f.f) (c :: M.t)) (hP : PRoots σ' τ') (ht : τ'.length ≤ r + 1) (hn : ∀ W x, HN ρ σ M.t τ W x → HN (r' :: ρ.map f.f) σ' (c :: M.t) τ' W (Lk.lift x)) :
    HR L (r' :: ρ.map f.f) σ' ⟨c :: M.t, M.nums.map Lk.lift⟩ τ' ws (r + 1) := by
  refine ⟨hR, hP, ?_, ht, fun j y e => ?_⟩
  · show (M.nums.map Lk.lift).length = _
    rw [List.length_map]
    exact h.l1
  · have e' : (M.nums.map Lk.lift)[j]? = some y := e
    rw [List.getElem?_map] at e'
    obtain ⟨x, hx, rfl⟩ := Option.map_eq_some_iff.mp e'
    obtain ⟨W, e2, w1, w2, q⟩ := h.nums j x hx
    exact ⟨W, e2, w1, w2, hn W x q⟩
theorem h_step {M M' : Lk.Made} {ws : List Nat} {r : Nat} (J : HX M ws r) (s : Lk.Step) (hf : s.fine ws.length = true) (hr : (if s.op = 5 then r + 1 else r) ≤ 3) (hw : Lk.weight ws s ≤ 256) (hM : M.step s = .ok M') :
    HX M' (ws ++ [Lk.weight ws s]) (if s.op = 5 then r + 1 else r) := by
  obtain ⟨F, iF, ρ, σ, τ, h⟩ := J
  obtain ⟨op, a, b, v⟩ := s
  dsimp only at *
  have two : op ≠ 0 → op ≠ 5 → op ≤ 5 ∧ a < ws.length ∧ b < ws.length := fun h0 h5 => by
    unfold Lk.Step.fine at hf
    dsimp only at hf
    rw [if_neg h0, if_neg h5] at hf
    simp only [Bool.and_eq_true, decide_eq_true_eq] at hf
    exact ⟨hf.1, hf.2.2.1, hf.2.2.2⟩
  have f5 : op ≤ 5 := by
    unfold Lk.Step.fine at hf
    simp only [Bool.and_eq_true, decide_eq_true_eq] at hf
    exact hf.1
  rcases (show op = 0 ∨ op = 1 ∨ op = 2 ∨ op = 3 ∨ op = 4 ∨ op = 5 by omega) with rfl | rfl | rfl | rfl | rfl | rfl
  · have e : (⟨0, a, b, v⟩ : Lk.Step).fine ws.length = (a == 0 && (b == 0 && (decide (-(2 ^ 31) ≤ v) && decide (v < 2 ^ 31)))) := rfl
    rw [e] at hf
    simp only [Bool.and_eq_true, decide_eq_true_eq] at hf
    have eM : M' = { M with nums := M.nums ++ [Lk.ofRat M.t (v : Rat)] } := (Except.ok.inj hM).symm
    subst eM
    exact ⟨F, iF, ρ, σ, τ, hr_push h (Nat.le_refl _) hw (Nat.le_refl 32) (hn_whole (v := v) h.R (show v.natAbs ≤ 2 ^ 31 by omega) (Nat.le_refl 32))⟩
  · obtain ⟨_, fa, fb⟩ := two (by decide) (by decide)
    obtain ⟨x, V, x1, v1, nx, nv, a1, a2, ja⟩ := h.at fa
    obtain ⟨y, W, y1, w1, my, mw, b1, b2, jb⟩ := h.at fb
    have eM : M' = { M with nums := M.nums ++ [Lk.plus (M.num a) (M.num b)] } := (Except.ok.inj hM).symm
    subst eM
    have e2 : Lk.weight ws ⟨1, a, b, v⟩ = V + W + 1 := by
      show ws.getD a 0 + ws.getD b 0 + 1 = _
      rw [nv, mw]
    rw [e2] at hw ⊢
    rw [nx, my]
    exact ⟨F, iF, ρ, σ, τ, hr_push h (Nat.le_refl _) hw (by omega) (hn_plus h.R h.P ja jb rfl)⟩
  · obtain ⟨_, fa, fb⟩ := two (by decide) (by decide)
    obtain ⟨x, V, x1, v1, nx, nv, a1, a2, ja⟩ := h.at fa
    obtain ⟨y, W, y1, w1, my, mw, b1, b2, jb⟩ := h.at fb
    have eM : M' = { M with nums := M.nums ++ [Lk.minus (M.num a) (M.num b)] } := (Except.ok.inj hM).symm
    subst eM
    have e2 : Lk.weight ws ⟨2, a, b, v⟩ = V + W + 1 := by
      show ws.getD a 0 + ws.getD b 0 + 1 = _
      rw [nv, mw]
    rw [e2] at hw ⊢
    rw [nx, my]
    exact ⟨F, iF, ρ, σ, τ, hr_push h (Nat.le_refl _) hw (by omega) (hn_minus h.R h.P ja jb rfl)⟩
  · obtain ⟨_, fa, fb⟩ := two (by decide) (by decide)
    obtain ⟨x, V, x1, v1, nx, nv, a1, a2, ja⟩ := h.at fa
    obtain ⟨y, W, y1, w1, my, mw, b1, b2, jb⟩ := h.at fb
    have eM : M' = { M with nums := M.nums ++ [Lk.mul M.t (M.num a) (M.num b)] } := (Except.ok.inj hM).symm
    subst eM
    have e2 : Lk.weight ws ⟨3, a, b, v⟩ = V + W := by
      show ws.getD a 0 + ws.getD b 0 = _
      rw [nv, mw]
    rw [e2] at hw ⊢
    rw [nx, my]
    exact ⟨F, iF, ρ, σ, τ, hr_push h (Nat.le_refl _) hw (by omega) (hn_times h.R h.P ja jb rfl)⟩
  · obtain ⟨_, fa, fb⟩ := two (by decide) (by decide)
    obtain ⟨x, V, x1, v1, nx, nv, a1, a2, ja⟩ := h.at fa
    obtain ⟨y, W, y1, w1, my, mw, b1, b2, jb⟩ := h.at fb
    have st : M.step ⟨4, a, b, v⟩ = if Lk.sign M.t y = 0 then .error (-2) else .ok { M with nums := M.nums ++ [Lk.mul M.t x (Lk.inverse M.t y)] } := by
      rw [← nx, ← my]
      rfl
    rw [st] at hM
    split at hM
    · cases hM
    · rename_i z
      have eM : M' = { M with nums := M.nums ++ [Lk.mul M.t x (Lk.inverse M.t y)] } := (Except.ok.inj hM).symm
      subst eM
      have hv : val ρ y ≠ 0 := fun q => z (by rw [sign_val h.R jb.fit, q, sg_zero])
      have e2 : Lk.weight ws ⟨4, a, b, v⟩ = V + W := by
        show ws.getD a 0 + ws.getD b 0 = _
        rw [nv, mw]
      rw [e2] at hw ⊢
      exact ⟨F, iF, ρ, σ, τ, hr_push h (Nat.le_refl _) hw (by omega) (hn_over h.R h.P ja jb hv rfl)⟩
  · have e : (⟨5, a, b, v⟩ : Lk.Step).fine ws.length = (v == 0 && (decide (a < ws.length) && b == 0)) := rfl
    rw [e] at hf
    simp only [Bool.and_eq_true, decide_eq_true_eq] at hf
    rw [if_pos rfl] at hr ⊢
    obtain ⟨x, V, x1, v1, nx, nv, a1, a2, ja⟩ := h.at hf.2.1
    have st : M.step ⟨5, a, b, v⟩ = if Lk.sign M.t x < 0 then .error (-3) else .ok ⟨x :: M.t, M.nums.map Lk.lift ++ [Lk.newest M.t]⟩ := by
      rw [← nx]
      rfl
    rw [st] at hM
    split at hM
    · cases hM
    · rename_i z
      have eM : M' = ⟨x :: M.t, M.nums.map Lk.lift ++ [Lk.newest M.t]⟩ := (Except.ok.inj hM).symm
      subst eM
      have e2 : Lk.weight ws ⟨5, a, b, v⟩ = V := by
        show ws.getD a 0 = _
        rw [nv]
      rw [e2] at hw ⊢
      rw [sign_val h.R ja.fit] at z
      have nn : 0 ≤ val ρ x := sg_nn_iff.mp (by omega)
      obtain ⟨L, iL, f, r', hr1, hr2⟩ := ext_root F (val ρ x) nn
      have hR : Roots (r' :: ρ.map f.f) (x :: M.t) := ⟨hr1, by rw [hr2, f.val], ja.fit, f.roots h.R⟩
      have hP := f.proots h.P
      have l : (ρ.map f.f).length = M.t.length := by rw [List.length_map]; exact h.R.len
      have htr := h.tr
      by_cases v0 : val ρ x = 0
      · have r0 : r' = 0 := sq_z (by rw [hr2, v0, f.zero])
        have jl := hr_lift f h (c := x) (r' := r') (σ' := σ.map f.f) (τ' := τ) hR hP (by omega) (fun W x q => q.lift0 f h.R r' _)
        refine ⟨L, iL, r' :: ρ.map f.f, σ.map f.f, τ, hr_push jl (Nat.le_refl _) hw a2 ⟨fits_newest M.t, 0, 1, ?_, ?_, ?_, ?_⟩⟩
        · rw [(lv τ).nm_zero]; exact Nat.zero_le _
        · rw [(lv τ).nm_one]; exact two_pos V
        · rw [valp_one]; grind
        · rw [val_newest l, r0, valp_zero, valp_one]; grind
      · obtain ⟨N, D, n1, n2, n3, n4⟩ := ja.qu
        have ps : 0 < val ρ x := by grind
        have rpos : (0 : L) < r' := by
          have fp := f.ps ps
          rw [← hr2] at fp
          rcases (show r' = 0 ∨ 0 < r' by grind) with q | q
          · rw [q] at fp
            grind
          · exact q
        have hD : valp τ (σ.map f.f) D ≠ 0 := by rw [← f.valp]; exact f.ne n3
        have hN : valp τ (σ.map f.f) N = r' * r' * valp τ (σ.map f.f) D := by rw [← f.valp, ← f.valp, n4, f.mul, hr2]
        have pit : Pit τ ((lv τ).co (N * D)) := Pit.co _
        have key : ∀ (s : L) (e : Int), (e = 1 ∨ e = -1) → s = (e : L) * (r' * valp τ (σ.map f.f) D) → 0 < s → HX ⟨x :: M.t, M.nums.map Lk.lift ++ [Lk.newest M.t]⟩ (ws ++ [V]) (r + 1) := by
          intro s e he hs sp
          have ee : (e : L) * (e : L) = 1 := by
            rw [← ic_mul]
            rcases he with rfl | rfl <;> exact ic_one
          have hPn : PRoots (s :: σ.map f.f) ((lv τ).co (N * D) :: τ) := by
            refine ⟨sp, ?_, pit, hP⟩
            rw [(lv τ).ofL_co, valp_mul hP, hN, hs]
            grind
          have jl := hr_lift f h (c := x) (r' := r') (σ' := s :: σ.map f.f) (τ' := (lv τ).co (N * D) :: τ) hR hPn (by rw [List.length_cons]; omega) (fun W x' q => q.lift1 f h.R r' _ _ _)
          refine ⟨L, iL, r' :: ρ.map f.f, s :: σ.map f.f, (lv τ).co (N * D) :: τ, hr_push jl (Nat.le_refl _) hw a2 ⟨fits_newest M.t, (⟨0, (e : (lv τ).A)⟩ : (lv τ).E ((lv τ).co (N * D))), (lv τ).emb _ D, ?_, ?_, ?_, ?_⟩⟩
          · show (lv τ).nm (0 : (lv τ).A) + (lv τ).rho ((lv τ).co (N * D)) * (lv τ).nm ((e : Int) : (lv τ).A) ≤ _
            rw [(lv τ).nm_zero, (lv τ).nm_cst, Nat.zero_add, show e.natAbs = 1 by omega, Nat.mul_one]
            refine csq_le (two_pos V) ?_
            show (lv τ).nm ((lv τ).ofL ((lv τ).co (N * D))) ≤ _
            rw [(lv τ).ofL_co]
            exact nm_two n1 n2
          · show (lv τ).nmE ((lv τ).emb _ D) ≤ _
            rw [Lv.nmE_emb]; exact n2
          · rw [valp_emb]; exact hD
          · rw [val_newest l, valp_emb, valp_cons, valp_zero, valp_int, hs]
            grind
        rcases (show 0 < valp τ (σ.map f.f) D ∨ 0 < -valp τ (σ.map f.f) D by grind) with q | q
        · have pp := mul_ps rpos q
          exact key (r' * valp τ (σ.map f.f) D) 1 (.inl rfl) (by rw [ic_one]; grind) pp
        · have pp := mul_ps rpos q
          refine key (r' * -valp τ (σ.map f.f) D) (-1) (.inr rfl) ?_ pp
          rw [ic_neg, ic_one]
          grind
end Rr
end
section
set_option Elab.async false
namespace Rr
open Lean.Grind Std
/-! ### how far a row's number may lie -/
section
variable {F : Type} [OF F]
theorem abs_one {n : Int} (h : n ≠ 0) : (1 : F) ≤ (n : F) ∨ (n : F) ≤ -1 := by
  rcases (show 1 ≤ n ∨ n ≤ -1 by omega) with q | q
  · left
    have := ic_le (K := F) q
    rw [ic_one] at this
    exact this
  · right
    have := ic_le (K := F) q
    rw [ic_neg, ic_one] at this
    exact this
theorem Wi.div {x : F} {n : Int} {m : Nat} (h : Wi (x * (n : F)) m) (hn : n ≠ 0) : Wi x m := by
  have hm := nn_c (F := F) m
  unfold Wi at *
  generalize ((m : Int) : F) = a at *
  rcases abs_one (F := F) hn with q | q
  · generalize (n : F) = k at *
    constructor
    · rcases (show 0 ≤ x ∨ 0 ≤ -x by grind) with z | z
      · grind
      · have := mul_nn z (show (0 : F) ≤ k - 1 by grind)
        grind
    · rcases (show 0 ≤ x ∨ 0 ≤ -x by grind) with z | z
      · have := mul_nn z (show (0 : F) ≤ k - 1 by grind)
        grind
      · grind
  · generalize (n : F) = k at *
    constructor
    · rcases (show 0 ≤ x ∨ 0 ≤ -x by grind) with z | z
      · grind
      · have := mul_nn z (show (0 : F) ≤ -1 - k by grind)
        grind
    · rcases (show 0 ≤ x ∨ 0 ≤ -x by grind) with z | z
      · have := mul_nn z (show (0 : F) ≤ -1 - k by grind)
        grind
      · grind
/-- not within 1 / m -/
def Fa (x : F) (m : Nat) : Prop := (1 : F) ≤ x * ((m : Int) : F) ∨ x * ((m : Int) : F) ≤ -1
theorem Fa.of {x y : F} {n : Int} {m : Nat} (hy : Wi y m) (hn : n ≠ 0) (h : x * y = (n : F)) : Fa x m := by
  have hm := nn_c (F := F) m
  unfold Fa
  unfold Wi at hy
  generalize ((m : Int) : F) = a at *
  have q := abs_one (F := F) hn
  rw [← h] at q
  rcases (show 0 ≤ x ∨ 0 ≤ -x by grind) with z | z
  · left
    have p1 := mul_nn z (show (0 : F) ≤ a - y by grind)
    have p2 := mul_nn z (show (0 : F) ≤ a + y by grind)
    rcases q with q | q <;> grind
  · right
    have p1 := mul_nn z (show (0 : F) ≤ a - y by grind)
    have p2 := mul_nn z (show (0 : F) ≤ a + y by grind)
    rcases q with q | q <;> grind
theorem hn_near {ρ σ : List F} {t : Lk.Tower} {τ : List (List Int)} {W : Nat} {x : Lk.Num} (P : PRoots σ τ) (hl : τ.length ≤ 3) (h : HN ρ σ t τ W x) (hW : W ≤ 256) : Wi (val ρ x) (2 ^ 2055) ∧ (val ρ x ≠ 0 → Fa (val ρ x) (2 ^ 2055)) := by
  obtain ⟨N, D, n1, n2, n3, n4⟩ := h.qu
  have n1' : (lv τ).nm N ≤ 2 ^ 256 := Nat.le_trans n1 (two_le hW)
  have n2' : (lv τ).nm D ≤ 2 ^ 256 := Nat.le_trans n2 (two_le hW)
  have wN := (valp_wi P N).mono n1'
  have wD := (valp_wi P D).mono n2'
  have e1 : 2 ^ (7 * (256 + 1)) * 2 ^ 256 = 2 ^ 2055 := by rw [← Nat.pow_add]
  constructor
  · obtain ⟨y, y1, n, y2, y3⟩ := valp_far P hl D n2' n3
    refine Wi.div (n := n) ?_ y2
    have e : val ρ x * (n : F) = y * valp τ σ N := by
      rw [← y3, n4]
      grind
    rw [e, ← e1]
    exact y1.mul wN
  · intro hx
    have nN : valp τ σ N ≠ 0 := by
      rw [n4]
      exact nz2 hx n3
    obtain ⟨y, y1, n, y2, y3⟩ := valp_far P hl N n1' nN
    refine Fa.of (y := y * valp τ σ D) (n := n) ?_ y2 ?_
    · rw [← e1]
      exact y1.mul wD
    · rw [← y3, n4]
      grind
end
section
variable {F G : Type} [OF F] [OF G] {ρ : List F} {π : List G} {t : Lk.Tower}
theorem against_sg (R : Roots ρ t) {x : Lk.Num} (hx : Fits t.length x) (q : Rat) : Lk.against t x q = sg (val ρ x - rc q) := by
  unfold Lk.against
  rw [sign_val R (fits_minus hx (fits_ofRat t q)), val_minus (by rw [R.len]; exact hx) (by rw [R.len]; exact fits_ofRat t q), val_ofRat ρ t R.len]
/-- comparing with a fraction hangs on the tower alone -/
theorem tr_le (R : Roots ρ t) (Q : Roots π t) {x : Lk.Num} (hx : Fits t.length x) {q : Rat} (h : (rc q : F) ≤ val ρ x) : (rc q : G) ≤ val π x := by
  have e := against_sg R hx q
  rw [against_sg Q hx q] at e
  have h1 : 0 ≤ sg (val ρ x - rc q) := sg_nn_iff.mpr (by grind)
  rw [← e] at h1
  have := sg_nn_iff.mp h1
  grind
theorem tr_ge (R : Roots ρ t) (Q : Roots π t) {x : Lk.Num} (hx : Fits t.length x) {q : Rat} (h : val ρ x ≤ (rc q : F)) : val π x ≤ (rc q : G) := by
  have e := against_sg R hx q
  rw [against_sg Q hx q] at e
  apply Classical.byContradiction
  intro z
  have h1 : 0 < sg (val π x - rc q) := sg_pos_iff.mpr (by grind)
  rw [e] at h1
  have := sg_pos_iff.mp h1
  grind
theorem tr_wi (R : Roots ρ t) (Q : Roots π t) {x : Lk.Num} (hx : Fits t.length x) {m : Nat} (h : Wi (val ρ x) m) : Wi (val π x) m := by
  unfold Wi at *
  constructor
  · have := tr_le R Q hx (q := ((-(m : Int) : Int) : Rat)) (by rw [rc_int, ic_neg]; exact h.1)
    rw [rc_int, ic_neg] at this
    exact this
  · have := tr_ge R Q hx (q := (((m : Int) : Int) : Rat)) (by rw [rc_int]; exact h.2)
    rw [rc_int] at this
    exact this
theorem rc_part {m : Nat} (hm : 0 < m) : (rc (1 / ((m : Int) : Rat)) : F) * ((m : Int) : F) = 1 := by
  have h : ((m : Int) : Rat) ≠ 0 := by
    intro q
    have := Rat.intCast_inj.mp (show ((m : Int) : Rat) = ((0 : Int) : Rat) by rw [q]; rfl)
    omega
  have := rc_inv (K := F) h
  rw [rc_int] at this
  exact this
theorem tr_fa (R : Roots ρ t) (Q : Roots π t) {x : Lk.Num} (hx : Fits t.length x) {m : Nat} (hm : 0 < m) (h : Fa (val ρ x) m) : Fa (val π x) m := by
  have e1 := rc_part (F := F) hm
  have e2 := rc_part (F := G) hm
  have m1 : (0 : F) < ((m : Int) : F) := ic_ps (by omega)
  have m2 : (0 : G) < ((m : Int) : G) := ic_ps (by omega)
  unfold Fa at *
  rcases h with h | h
  · left
    have l : (rc (1 / ((m : Int) : Rat)) : F) ≤ val ρ x := by
      apply Classical.byContradiction
      intro z
      have := mul_ps (show (0 : F) < rc (1 / ((m : Int) : Rat)) - val ρ x by grind) m1
      grind
    have l2 := tr_le R Q hx l
    have := mul_nn (show (0 : G) ≤ val π x - rc (1 / ((m : Int) : Rat)) by grind) (show (0 : G) ≤ ((m : Int) : G) by grind)
    grind
  · right
    have l : val ρ x ≤ (rc (-(1 / ((m : Int) : Rat))) : F) := by
      rw [rc_neg]
      apply Classical.byContradiction
      intro z
      have := mul_ps (show (0 : F) < val ρ x + rc (1 / ((m : Int) : Rat)) by grind) m1
      grind
    have l2 := tr_ge R Q hx l
    rw [rc_neg] at l2
    have := mul_nn (show (0 : G) ≤ -rc (1 / ((m : Int) : Rat)) - val π x by grind) (show (0 : G) ≤ ((m : Int) : G) by grind)
    grind
end
/-! ### the specification's floor -/
section
variable {F : Type} [OF F] {ρ : List F} {t : Lk.Tower}
theorem leastFrom_ok (ok : Nat → Bool) : ∀ (k z : Nat), ok (z + 2 ^ k - 1) = true → ok (Lk.leastFrom ok k z) = true
  | 0, z, h => by
    have e : z + 2 ^ 0 - 1 = z := by simp
    rw [e] at h
    exact h
  | k + 1, z, h => by
    unfold Lk.leastFrom
    split
    · rename_i q
      exact leastFrom_ok ok k z q
    · refine leastFrom_ok ok k (z + 2 ^ k) ?_
      rw [show z + 2 ^ k + 2 ^ k - 1 = z + 2 ^ (k + 1) - 1 by rw [Nat.pow_succ]; omega]
      exact h
theorem least_ok (ok : Nat → Bool) {j : Nat} (hj : j < 27) (h : ok (2 ^ j) = true) : ok (Lk.least ok) = true := by
  unfold Lk.least
  split
  · rename_i q
    exact q
  · cases e : (List.range 27).find? fun j => ok (2 ^ j) with
    | none =>
      have := List.find?_eq_none.mp e j (List.mem_range.mpr hj)
      exact absurd h this
    | some i =>
      have hi := List.find?_some e
      show ok (Lk.leastFrom ok i 1) = true
      refine leastFrom_ok ok i 1 ?_
      rw [Nat.add_sub_cancel_left]
      exact hi
theorem below_iff (R : Roots ρ t) {x : Lk.Num} (hx : Fits t.length x) (q : Rat) : Lk.below t x q = true ↔ val ρ x < rc q ∧ -(rc q : F) < val ρ x := by
  unfold Lk.below
  rw [Bool.and_eq_true, decide_eq_true_eq, decide_eq_true_eq, against_sg R hx, against_sg R hx, sg_neg_iff, sg_pos_iff, rc_neg]
  constructor <;> (intro h; constructor <;> grind)
theorem rc_nat (n : Nat) : (rc ((n : Nat) : Rat) : F) = ((n : Int) : F) := by
  rw [show ((n : Nat) : Rat) = ((n : Int) : Rat) from rfl, rc_int]
theorem pow2_nat (k : Nat) : Lk.pow2 (k : Int) = ((2 ^ k : Nat) : Rat) := by
  unfold Lk.pow2
  rw [if_pos (by omega), Int.toNat_natCast]
/-- between two neighbours -/
def Fls (x : F) (n : Int) : Prop := (n : F) ≤ x ∧ x < ((n + 1 : Int) : F)
theorem Fls.uniq {x : F} {m n : Int} (h : Fls x m) (q : Fls x n) : m = n := by
  unfold Fls at *
  have a : (m : F) < ((n + 1 : Int) : F) := by grind
  have b : (n : F) < ((m + 1 : Int) : F) := by grind
  have a' := ic_lt_iff.mp a
  have b' := ic_lt_iff.mp b
  omega
theorem upTo_ok (R : Roots ρ t) {x : Lk.Num} (hx : Fits t.length x) : ∀ (k : Nat) (z : Int), (z : F) ≤ val ρ x → val ρ x < ((z + (2 ^ k : Nat) : Int) : F) → Fls (val ρ x) (Lk.upTo t x k z)
  | 0, z, h1, h2 => ⟨h1, by
      have e : (z + (2 ^ 0 : Nat) : Int) = z + 1 := by simp
      rw [e] at h2
      exact h2⟩
  | k + 1, z, h1, h2 => by
    unfold Lk.upTo
    have e : (z + (2 ^ (k + 1) : Nat) : Int) = (z + (2 ^ k : Nat)) + (2 ^ k : Nat) := by rw [Nat.pow_succ]; omega
    rw [e] at h2
    rw [against_sg R hx, rc_int]
    by_cases c : 0 ≤ sg (val ρ x - ((z + (2 ^ k : Nat) : Int) : F))
    · rw [if_pos c]
      have := sg_nn_iff.mp c
      exact upTo_ok R hx k _ (by grind) h2
    · rw [if_neg c]
      have : ¬ 0 ≤ val ρ x - ((z + (2 ^ k : Nat) : Int) : F) := fun q => c (sg_nn_iff.mpr q)
      exact upTo_ok R hx k z h1 (by grind)
theorem floor_ok (R : Roots ρ t) {x : Lk.Num} (hx : Fits t.length x) {K : Nat} (hK : K < 4096) (h : Wi (val ρ x) (2 ^ K)) : Fls (val ρ x) (Lk.floor t x) := by
  have ok : Lk.below t x (Lk.pow2 ((2 ^ 12 : Nat) : Int)) = true := by
    rw [below_iff R hx, pow2_nat, rc_nat]
    have lt : ((2 ^ K : Nat) : Int) < ((2 ^ 2 ^ 12 : Nat) : Int) := Int.ofNat_lt.mpr (Nat.pow_lt_pow_right (by decide) hK)
    have := ic_lt (K := F) lt
    unfold Wi at h
    constructor <;> grind
  have hk := least_ok (fun (k : Nat) => Lk.below t x (Lk.pow2 (k : Int))) (j := 12) (by decide) ok
  unfold Lk.floor
  dsimp only
  generalize Lk.least (fun (k : Nat) => Lk.below t x (Lk.pow2 (k : Int))) = k at *
  rw [below_iff R hx, pow2_nat, rc_nat] at hk
  refine upTo_ok R hx (k + 1) _ ?_ ?_
  · rw [ic_neg]
    have := hk.2
    grind
  · have e : (-((2 ^ k : Nat) : Int) + ((2 ^ (k + 1) : Nat) : Int)) = ((2 ^ k : Nat) : Int) := by rw [Nat.pow_succ]; omega
    rw [e]
    exact hk.1
end
end Rr
end
section
set_option Elab.async false
namespace Rr
open Lean.Grind Std
theorem makeFrom_hx : ∀ {st : List Lk.Step} {i : Nat} {M M' : Lk.Made} {ws : List Nat} {r : Nat}, HX M ws r → r ≤ 3 → ws.length = i → Lk.wrongFrom st i ws r = none → Lk.makeFrom st i M = .ok M' → ∃ ws' r', HX M' ws' r' ∧ r' ≤ 3
  | [], i, M, M', ws, r, J, h3, _, _, hm => by
    obtain rfl := Except.ok.inj hm
    exact ⟨ws, r, J, h3⟩
  | s :: st, i, M, M', ws, r, J, h3, hl, hw, hm => by
    have e1 : Lk.wrongFrom (s :: st) i ws r = if s.fine i = false ∨ Lk.ROOTS < (if s.op = 5 then r + 1 else r) ∨ Lk.WEIGHT < Lk.weight ws s then some i else Lk.wrongFrom st (i + 1) (ws ++ [Lk.weight ws s]) (if s.op = 5 then r + 1 else r) := rfl
    have e2 : Lk.makeFrom (s :: st) i M = match M.step s with
      | .error e => .error (e, i)
      | .ok k => Lk.makeFrom st (i + 1) k := rfl
    rw [e1] at hw
    rw [e2] at hm
    have hc : ¬ (s.fine i = false ∨ Lk.ROOTS < (if s.op = 5 then r + 1 else r) ∨ Lk.WEIGHT < Lk.weight ws s) := fun z => by
      rw [if_pos z] at hw
      cases hw
    rw [if_neg hc] at hw
    cases hs : M.step s with
    | error e => rw [hs] at hm; cases hm
    | ok k =>
      rw [hs] at hm
      have hf : s.fine ws.length = true := by
        rw [hl]
        cases q : s.fine i with
        | true => rfl
        | false => exact absurd (Or.inl q) hc
      have hro : (if s.op = 5 then r + 1 else r) ≤ 3 := Nat.le_of_not_lt fun z => hc (Or.inr (Or.inl z))
      have hwe : Lk.weight ws s ≤ 256 := Nat.le_of_not_lt fun z => hc (Or.inr (Or.inr z))
      exact makeFrom_hx (h_step J s hf hro hwe hs) hro (by rw [List.length_append, hl]; rfl) hw hm
theorem make_hx {st : List Lk.Step} {M : Lk.Made} (h : Lk.make st = .ok M) : ∃ ws r, HX M ws r ∧ r ≤ 3 := by
  unfold Lk.make at h
  split at h
  · cases h
  · split at h
    · cases h
    · rename_i q
      exact makeFrom_hx hx_start (by decide) rfl q h
/-- a row's number is neither large nor near 0 -/
theorem num_near {st : List Lk.Step} {M : Lk.Made} (h : Lk.make st = .ok M) {G : Type} [OF G] {π : List G} (Q : Roots π M.t) {j : Nat} {x : Lk.Num} (hx : M.nums[j]? = some x) : Wi (val π x) (2 ^ 2055) ∧ (val π x ≠ 0 → Fa (val π x) (2 ^ 2055)) := by
  obtain ⟨ws, r, ⟨F, iF, ρ, σ, τ, hr⟩, h3⟩ := make_hx h
  obtain ⟨W, e, w1, w2, hn⟩ := hr.nums j x hx
  obtain ⟨n1, n2⟩ := hn_near hr.P (Nat.le_trans hr.tr h3) hn w1
  refine ⟨tr_wi hr.R Q hn.fit n1, fun z => tr_fa hr.R Q hn.fit (two_pos 2055) (n2 fun q => z ?_)⟩
  have a := sign_val hr.R hn.fit
  rw [sign_val Q hn.fit, q, sg_zero] at a
  exact sg_zero_iff.mp a
end Rr
end
section
set_option Elab.async false
namespace Rr
open Lean.Grind Std
/-! ### spans -/
abbrev up (b : Nat) : Int := ((2 ^ b : Nat) : Int)
theorem up_pos (b : Nat) : 0 < up b := by have := two_pos b; show (0 : Int) < ((2 ^ b : Nat) : Int); omega
theorem up_add (a b : Nat) : up (a + b) = up a * up b := by
  show ((2 ^ (a + b) : Nat) : Int) = ((2 ^ a : Nat) : Int) * ((2 ^ b : Nat) : Int)
  rw [Nat.pow_add]
  simp
theorem up_le {a b : Nat} (h : a ≤ b) : up a ≤ up b := by
  have := two_le h
  show ((2 ^ a : Nat) : Int) ≤ ((2 ^ b : Nat) : Int)
  omega
section
variable {F : Type} [OF F]
/-- y lies between lo and hi, in units of 1 over 2 ^ b -/
def Spn (b : Nat) (lo hi : Int) (y : F) : Prop := (lo : F) ≤ y * (up b : F) ∧ y * (up b : F) ≤ (hi : F)
theorem upF_pos (b : Nat) : (0 : F) < (up b : F) := ic_ps (up_pos b)
theorem Spn.add {b : Nat} {l h l' h' : Int} {x y : F} (a : Spn b l h x) (c : Spn b l' h' y) : Spn b (l + l') (h + h') (x + y) := by
  unfold Spn at *
  rw [ic_add, ic_add]
  constructor <;> grind
theorem Spn.int (b : Nat) (n : Int) : Spn b (n * up b) (n * up b) ((n : Int) : F) := by
  unfold Spn
  rw [ic_mul]
  constructor <;> grind
theorem Spn.le {b : Nat} {l h : Int} {y : F} (a : Spn b l h y) : l ≤ h := by
  unfold Spn at a
  exact ic_le_iff (K := F).mp (by grind)
theorem root_spn {b : Nat} {lo hi p q : Int} {s : F} (h : Spn b lo hi (s * s)) (hs : 0 < s) (p0 : 0 ≤ p) (hp : p * p ≤ max lo 0 * up b) (q0 : 0 ≤ q) (hq : hi * up b < (q + 1) * (q + 1)) : Spn b p (q + 1) s := by
  have U := upF_pos (F := F) b
  have hU : (0 : F) ≤ s * (up b : F) := mul_nn (by grind) (by grind)
  unfold Spn at *
  constructor
  · refine le_of_sq hU ?_
    have e1 : (p : F) * (p : F) ≤ ((max lo 0 : Int) : F) * (up b : F) := by
      rw [← ic_mul, ← ic_mul]
      exact ic_le hp
    have e2 : ((max lo 0 : Int) : F) ≤ s * s * (up b : F) := by
      rcases (show max lo 0 = lo ∨ max lo 0 = 0 by omega) with z | z
      · rw [z]; exact h.1
      · rw [z, ic_zero]
        exact mul_nn (mul_nn (by grind) (by grind)) (by grind)
    have e3 := mul_nn (show (0 : F) ≤ s * s * (up b : F) - ((max lo 0 : Int) : F) by grind) (show (0 : F) ≤ (up b : F) by grind)
    grind
  · refine le_of_sq (ic_nn (by omega)) ?_
    have e1 : (hi : F) * (up b : F) ≤ ((q + 1 : Int) : F) * ((q + 1 : Int) : F) := by
      rw [← ic_mul, ← ic_mul]
      exact ic_le (by omega)
    have e3 := mul_nn (show (0 : F) ≤ (hi : F) - s * s * (up b : F) by grind) (show (0 : F) ≤ (up b : F) by grind)
    grind
theorem root_mag {b g : Nat} {hi q : Int} (h : hi ≤ up (b + g)) (q0 : 0 ≤ q) (hq : q * q ≤ hi * up b) : q + 1 ≤ up (b + g / 2 + 2) := by
  have e : q * q ≤ up (b + g / 2 + 1) * up (b + g / 2 + 1) := by
    have h1 := Int.mul_le_mul_of_nonneg_right h (Int.le_of_lt (up_pos b))
    rw [← up_add] at h1 ⊢
    exact Int.le_trans hq (Int.le_trans h1 (up_le (by omega)))
  have h2 : q ≤ up (b + g / 2 + 1) := by
    apply Classical.byContradiction
    intro z
    have u := up_pos (b + g / 2 + 1)
    have m := Int.mul_le_mul (show up (b + g / 2 + 1) + 1 ≤ q by omega) (show up (b + g / 2 + 1) + 1 ≤ q by omega) (by omega) (by omega)
    have e3 : (up (b + g / 2 + 1) + 1) * (up (b + g / 2 + 1) + 1) = up (b + g / 2 + 1) * up (b + g / 2 + 1) + 2 * up (b + g / 2 + 1) + 1 := by grind
    omega
  have e2 : up (b + g / 2 + 2) = 2 * up (b + g / 2 + 1) := by
    rw [show b + g / 2 + 2 = 1 + (b + g / 2 + 1) by omega, up_add]
    rfl
  have u := up_pos (b + g / 2 + 1)
  omega
theorem root_wid {b : Nat} {lo hi p q w k : Int} {s : F} (h : Spn b lo hi (s * s)) (hs : 0 < s) (p0 : 0 ≤ p) (hp2 : max lo 0 * up b < (p + 1) * (p + 1)) (q0 : 0 ≤ q) (hq : hi * up b < (q + 1) * (q + 1)) (hq2 : q * q ≤ hi * up b) (hw : hi - lo ≤ w) (hk : 0 < k) (far : (1 : F) ≤ s * (k : F)) :
    (q + 1) - p ≤ w * k + 2 := by
  have U := upF_pos (F := F) b
  have hle := h.le
  have w0 : 0 ≤ w := by omega
  rcases (show q - p ≤ 1 ∨ 2 ≤ q - p by omega) with z | z
  · have := Int.mul_nonneg w0 (Int.le_of_lt hk)
    omega
  · have sq : s * (up b : F) ≤ ((q + 1 : Int) : F) := by
      refine le_of_sq (ic_nn (by omega)) ?_
      unfold Spn at h
      have e1 : (hi : F) * (up b : F) ≤ ((q + 1 : Int) : F) * ((q + 1 : Int) : F) := by
        rw [← ic_mul, ← ic_mul]
        exact ic_le (by omega)
      have e3 := mul_nn (show (0 : F) ≤ (hi : F) - s * s * (up b : F) by grind) (show (0 : F) ≤ (up b : F) by grind)
      grind
    -- (d - 1) (q + 1) < w U
    have i1 : (q - p - 1) * (q + 1) ≤ (q - p - 1) * (q + p + 1) := Int.mul_le_mul_of_nonneg_left (by omega) (by omega)
    have i2 : (q - p - 1) * (q + p + 1) = q * q - (p + 1) * (p + 1) := by grind
    have i3 : (hi - max lo 0) * up b ≤ w * up b := Int.mul_le_mul_of_nonneg_right (by omega) (Int.le_of_lt (up_pos b))
    have i4 : (hi - max lo 0) * up b = hi * up b - max lo 0 * up b := by rw [Int.sub_mul]
    have i5 : (q - p - 1) * (q + 1) < w * up b := by omega
    have f5 := ic_lt (K := F) i5
    rw [ic_mul, ic_mul] at f5
    have d0 : (0 : F) ≤ ((q - p - 1 : Int) : F) := ic_nn (by omega)
    have f6 := mul_nn d0 (show (0 : F) ≤ ((q + 1 : Int) : F) - s * (up b : F) by grind)
    have k0 : (0 : F) < (k : F) := ic_ps hk
    -- (d - 1) s U < w U, so (d - 1) < w k
    have f7 : ((q - p - 1 : Int) : F) < ((w * k : Int) : F) := by
      rw [ic_mul]
      apply Classical.byContradiction
      intro c
      have c1 : (0 : F) ≤ ((q - p - 1 : Int) : F) - (w : F) * (k : F) := by grind
      have c2 := mul_nn (mul_nn c1 (show (0 : F) ≤ s by grind)) (show (0 : F) ≤ (up b : F) by grind)
      have c3 := mul_nn (mul_nn (show (0 : F) ≤ (w : F) from ic_nn w0) (show (0 : F) ≤ s * (k : F) - 1 by grind)) (show (0 : F) ≤ (up b : F) by grind)
      grind
    have := ic_lt_iff.mp f7
    omega
/-! products -/
/-- the product's span, as the program takes it -/
structure PrS (b : Nat) (l h p q lo hi : Int) : Prop where
  l1 : lo * up b ≤ l * (if 0 ≤ l then p else q)
  l2 : l * (if 0 ≤ l then p else q) < (lo + 1) * up b
  h1 : h * (if 0 ≤ h then q else p) ≤ hi * up b
  h2 : (hi - 1) * up b < h * (if 0 ≤ h then q else p)
theorem prod_spn {b : Nat} {l h p q lo hi : Int} {y s : F} (a : Spn b l h y) (c : Spn b p q s) (p0 : 0 ≤ p) (hs : 0 < s) (r : PrS b l h p q lo hi) : Spn b lo hi (y * s) := by
  have U := upF_pos (F := F) b
  have sU : (0 : F) < s * (up b : F) := mul_ps hs U
  have fp : (0 : F) ≤ (p : F) := ic_nn p0
  unfold Spn at *
  constructor
  · have e1 := ic_le (K := F) r.l1
    rw [ic_mul, ic_mul] at e1
    have key : (l : F) * ((if 0 ≤ l then p else q : Int) : F) ≤ y * (up b : F) * (s * (up b : F)) := by
      split
      · rename_i z
        have fl : (0 : F) ≤ (l : F) := ic_nn z
        have m1 := mul_nn fl (show (0 : F) ≤ s * (up b : F) - (p : F) by grind)
        have m2 := mul_nn (show (0 : F) ≤ y * (up b : F) - (l : F) by grind) (show (0 : F) ≤ s * (up b : F) by grind)
        grind
      · rename_i z
        have fl : (l : F) ≤ 0 := by
          have := ic_le (K := F) (show l ≤ 0 by omega)
          rw [ic_zero] at this
          exact this
        have m1 := mul_nn (show (0 : F) ≤ -(l : F) by grind) (show (0 : F) ≤ (q : F) - s * (up b : F) by grind)
        have m2 := mul_nn (show (0 : F) ≤ y * (up b : F) - (l : F) by grind) (show (0 : F) ≤ s * (up b : F) by grind)
        grind
    apply Classical.byContradiction
    intro cc
    have c1 : (0 : F) < (lo : F) - y * s * (up b : F) := by grind
    have c2 := mul_ps c1 U
    grind
  · have e1 := ic_le (K := F) r.h1
    rw [ic_mul, ic_mul] at e1
    have key : y * (up b : F) * (s * (up b : F)) ≤ (h : F) * ((if 0 ≤ h then q else p : Int) : F) := by
      split
      · rename_i z
        have fl : (0 : F) ≤ (h : F) := ic_nn z
        have m1 := mul_nn fl (show (0 : F) ≤ (q : F) - s * (up b : F) by grind)
        have m2 := mul_nn (show (0 : F) ≤ (h : F) - y * (up b : F) by grind) (show (0 : F) ≤ s * (up b : F) by grind)
        grind
      · rename_i z
        have fl : (h : F) ≤ 0 := by
          have := ic_le (K := F) (show h ≤ 0 by omega)
          rw [ic_zero] at this
          exact this
        have m1 := mul_nn (show (0 : F) ≤ -(h : F) by grind) (show (0 : F) ≤ s * (up b : F) - (p : F) by grind)
        have m2 := mul_nn (show (0 : F) ≤ (h : F) - y * (up b : F) by grind) (show (0 : F) ≤ s * (up b : F) by grind)
        grind
    apply Classical.byContradiction
    intro cc
    have c1 : (0 : F) < y * s * (up b : F) - (hi : F) := by grind
    have c2 := mul_ps c1 U
    grind
theorem Wi.lohi {b : Nat} {l h : Int} {y : F} {Y : Nat} (a : Spn b l h y) (w : Wi y Y) : l ≤ (Y : Int) * up b ∧ -((Y : Int) * up b) ≤ h := by
  have U := upF_pos (F := F) b
  unfold Spn Wi at *
  constructor
  · have m := mul_nn (show (0 : F) ≤ ((Y : Int) : F) - y by grind) (show (0 : F) ≤ (up b : F) by grind)
    refine ic_le_iff (K := F).mp ?_
    rw [ic_mul]
    grind
  · have m := mul_nn (show (0 : F) ≤ ((Y : Int) : F) + y by grind) (show (0 : F) ≤ (up b : F) by grind)
    refine ic_le_iff (K := F).mp ?_
    rw [ic_neg, ic_mul]
    grind
theorem prod_wid {b : Nat} {l h p q lo hi : Int} {y s : F} {Y S wy ws : Nat} (a : Spn b l h y) (c : Spn b p q s) (p0 : 0 ≤ p) (r : PrS b l h p q lo hi) (hy : Wi y Y) (hs : Wi s S) (w1 : h - l ≤ wy) (w2 : q - p ≤ ws) (u1 : (wy : Int) ≤ up b) (u2 : (ws : Int) ≤ up b) :
    hi - lo ≤ (wy : Int) * (S + 1) + (Y + 1) * ws + 2 := by
  have U := up_pos b
  have a1 := (Wi.lohi a hy).1
  have a2 := (Wi.lohi a hy).2
  have c1 := (Wi.lohi c hs).1
  have hle := a.le
  have cle := c.le
  have q1 : q ≤ (S + 1) * up b := by
    have : ((S : Int) + 1) * up b = S * up b + up b := by rw [Int.add_mul, Int.one_mul]
    omega
  -- what stands over U
  have key : h * (if 0 ≤ h then q else p) - l * (if 0 ≤ l then p else q) ≤ ((wy : Int) * (S + 1) + (Y + 1) * ws) * up b := by
    have e : ((wy : Int) * (S + 1) + (Y + 1) * ws) * up b = wy * ((S + 1) * up b) + (Y * up b + up b) * ws := by grind
    rw [e]
    have hq0 : 0 ≤ q := by omega
    have hws : 0 ≤ (ws : Int) := by omega
    have hwy : 0 ≤ (wy : Int) := by omega
    have m1 : (h - l) * q ≤ wy * ((S + 1) * up b) := Int.le_trans (Int.mul_le_mul_of_nonneg_right w1 hq0) (Int.mul_le_mul_of_nonneg_left q1 hwy)
    have hYU : 0 ≤ (Y : Int) * up b := Int.mul_nonneg (by omega) (by omega)
    rcases (show 0 ≤ l ∨ (l < 0 ∧ 0 ≤ h) ∨ h < 0 by omega) with z | z | z
    · rw [if_pos z, if_pos (show 0 ≤ h by omega)]
      have m2 : l * (q - p) ≤ (Y * up b + up b) * ws := Int.le_trans (Int.mul_le_mul_of_nonneg_right (show l ≤ Y * up b + up b by omega) (by omega)) (Int.mul_le_mul_of_nonneg_left w2 (by omega))
      have e2 : h * q - l * p = (h - l) * q + l * (q - p) := by grind
      rw [e2]
      omega
    · rw [if_pos z.2, if_neg (show ¬ 0 ≤ l by omega)]
      have e2 : h * q - l * q = (h - l) * q := by grind
      rw [e2]
      have m3 : 0 ≤ (Y * up b + up b) * (ws : Int) := Int.mul_nonneg (by omega) hws
      omega
    · rw [if_neg (show ¬ 0 ≤ h by omega), if_neg (show ¬ 0 ≤ l by omega)]
      have m2 : (-l) * (q - p) ≤ (Y * up b + up b) * ws := Int.le_trans (Int.mul_le_mul_of_nonneg_right (show -l ≤ Y * up b + up b by omega) (by omega)) (Int.mul_le_mul_of_nonneg_left w2 (by omega))
      have m4 : (h - l) * p ≤ (h - l) * q := Int.mul_le_mul_of_nonneg_left cle (by omega)
      have e2 : h * p - l * q = (h - l) * p + (-l) * (q - p) := by grind
      rw [e2]
      omega
  have d1 : (hi - lo - 2) * up b < ((wy : Int) * (S + 1) + (Y + 1) * ws) * up b := by
    have e : (hi - lo - 2) * up b = (hi - 1) * up b - (lo + 1) * up b := by grind
    rw [e]
    have := r.l2
    have := r.h2
    omega
  have := Int.lt_of_mul_lt_mul_right d1 (by omega)
  omega
theorem prod_mag {b g e : Nat} {l h p q lo hi : Int} (r : PrS b l h p q lo hi) (h1 : l.natAbs ≤ 2 ^ (b + g)) (h2 : h.natAbs ≤ 2 ^ (b + g)) (h3 : p.natAbs ≤ 2 ^ (b + e)) (h4 : q.natAbs ≤ 2 ^ (b + e)) : lo.natAbs ≤ 2 ^ (b + (g + e + 1)) ∧ hi.natAbs ≤ 2 ^ (b + (g + e + 1)) := by
  have U := up_pos b
  have one : ∀ (x m : Int), x.natAbs ≤ 2 ^ (b + g) → m.natAbs ≤ 2 ^ (b + e) → (x * m).natAbs ≤ 2 ^ (b + g + e) * 2 ^ b := fun x m hx hm => by
    rw [Int.natAbs_mul, ← Nat.pow_add, show b + g + e + b = (b + g) + (b + e) by omega, Nat.pow_add]
    exact Nat.mul_le_mul hx hm
  have el : (if 0 ≤ l then p else q).natAbs ≤ 2 ^ (b + e) := by split <;> assumption
  have eh : (if 0 ≤ h then q else p).natAbs ≤ 2 ^ (b + e) := by split <;> assumption
  have o1 := one _ _ h1 el
  have o2 := one _ _ h2 eh
  have tp := two_pos (b + g + e)
  have e3 : 2 ^ (b + (g + e + 1)) = 2 * 2 ^ (b + g + e) := by rw [show b + (g + e + 1) = (b + g + e) + 1 by omega, Nat.pow_succ]; omega
  -- |z| <= P U gives |lo| <= P + 1
  have fin : ∀ (z n : Int), z.natAbs ≤ 2 ^ (b + g + e) * 2 ^ b → (n - 1) * up b ≤ z → z ≤ (n + 1) * up b → n.natAbs ≤ 2 ^ (b + g + e) + 1 := fun z n hz hn1 hn2 => by
    have hz' : z ≤ ((2 ^ (b + g + e) : Nat) : Int) * up b ∧ -(((2 ^ (b + g + e) : Nat) : Int) * up b) ≤ z := by
      have : ((2 ^ (b + g + e) * 2 ^ b : Nat) : Int) = ((2 ^ (b + g + e) : Nat) : Int) * up b := by simp
      omega
    have i1 : (n - 1) * up b ≤ ((2 ^ (b + g + e) : Nat) : Int) * up b := by omega
    have i2 : (-((2 ^ (b + g + e) : Nat) : Int)) * up b ≤ (n + 1) * up b := by rw [Int.neg_mul]; omega
    have j1 := Int.le_of_mul_le_mul_right i1 U
    have j2 := Int.le_of_mul_le_mul_right i2 U
    omega
  have x1 := fin _ lo o1 (by have := r.l1; rw [Int.sub_mul, Int.one_mul]; omega) (by have := r.l2; omega)
  have x2 := fin _ hi o2 (by have := r.h2; omega) (by have := r.h1; rw [Int.add_mul, Int.one_mul]; omega)
  omega
end
end Rr
end
section
set_option Elab.async false
namespace Rr
open Lean.Grind Std
/-! ### the span of a list -/
def gE (M : Nat) : List Nat → Nat
  | [] => M
  | e :: es => gE M es + e + 2
def wd (S Y : Nat) : List Nat → Nat
  | [] => 0
  | w :: ws => wd S Y ws + (wd S Y ws * (S + 1) + (Y + 1) * w + 2)
section
variable {F : Type} [OF F]
/-- the spans of the roots, with their sizes and their widths -/
def SO (b : Nat) (big : Prop) (S : Nat) : List F → List (Int × Int) → List Nat → List Nat → Prop
  | [], [], [], [] => True
  | s :: σ, pq :: sps, e :: es, w :: ws => (0 < s ∧ Wi s S ∧ Spn b pq.1 pq.2 s ∧ 0 ≤ pq.1 ∧ pq.1.natAbs ≤ 2 ^ (b + e) ∧ pq.2.natAbs ≤ 2 ^ (b + e) ∧ (big → pq.2 - pq.1 ≤ w ∧ (w : Int) ≤ up b)) ∧ SO b big S σ sps es ws
  | _, _, _, _ => False
theorem SO.len {b : Nat} {big : Prop} {S : Nat} : ∀ {σ : List F} {sps : List (Int × Int)} {es ws : List Nat}, SO b big S σ sps es ws → sps.length = σ.length
  | [], [], [], [], _ => rfl
  | s :: σ, pq :: sps, e :: es, w :: ws, h => by rw [List.length_cons, List.length_cons, SO.len h.2]
/-- what is told of a list's span -/
structure SpR (b : Nat) (big : Prop) (S M Y : Nat) (es ws : List Nat) (l : List Int) (y : F) (lo hi : Int) : Prop where
  spn : Spn b lo hi y
  m1 : lo.natAbs ≤ 2 ^ (b + gE M es)
  m2 : hi.natAbs ≤ 2 ^ (b + gE M es)
  wid : big → hi - lo ≤ wd S Y ws
  ex : (∀ c ∈ l.drop 1, c = 0) → lo = l.getD 0 0 * up b ∧ hi = l.getD 0 0 * up b
theorem upAbs (b : Nat) : (up b).natAbs = 2 ^ b := Int.natAbs_natCast _
theorem spr_nil (b : Nat) (big : Prop) (S M Y : Nat) {c : Int} (h : c.natAbs ≤ 2 ^ M) : SpR b big S M Y [] [] [c] ((c : Int) : F) (c * up b) (c * up b) := by
  have m : (c * up b).natAbs ≤ 2 ^ (b + gE M []) := by
    rw [Int.natAbs_mul, upAbs, Nat.add_comm, Nat.pow_add]
    exact Nat.mul_le_mul_right _ h
  exact ⟨Spn.int b c, m, m, fun _ => by show _ ≤ ((0 : Nat) : Int); omega, fun _ => ⟨rfl, rfl⟩⟩
theorem pr_zero {b : Nat} {p q lo hi : Int} (r : PrS b 0 0 p q lo hi) : lo = 0 ∧ hi = 0 := by
  have u := up_pos b
  have h1 := r.l1
  have h2 := r.l2
  have h3 := r.h1
  have h4 := r.h2
  rw [Int.zero_mul] at h1 h2 h3 h4
  constructor
  · apply Classical.byContradiction
    intro z
    rcases (show lo ≤ -1 ∨ 1 ≤ lo by omega) with q | q
    · have := Int.mul_le_mul_of_nonneg_right (show lo + 1 ≤ 0 by omega) (Int.le_of_lt u)
      rw [Int.zero_mul] at this
      omega
    · have := Int.mul_le_mul_of_nonneg_right q (Int.le_of_lt u)
      rw [Int.one_mul] at this
      omega
  · apply Classical.byContradiction
    intro z
    rcases (show hi ≤ -1 ∨ 1 ≤ hi by omega) with q | q
    · have := Int.mul_le_mul_of_nonneg_right q (Int.le_of_lt u)
      rw [Int.neg_mul, Int.one_mul] at this
      omega
    · have := Int.mul_nonneg (show 0 ≤ hi - 1 by omega) (Int.le_of_lt u)
      omega
theorem spr_cons {b : Nat} {big : Prop} {S M Y : Nat} {es ws : List Nat} {e w : Nat} {l : List Int} {ya yb s : F} {la ha lb hb p q lo hi : Int} {n : Nat} (hn : 1 ≤ n) (hl : n ≤ l.length)
    (A : SpR b big S M Y es ws (l.take n) ya la ha) (B : SpR b big S M Y es ws (l.drop n) yb lb hb) (hs : 0 < s) (hS : Wi s S) (hY : Wi yb Y) (c : Spn b p q s) (p0 : 0 ≤ p) (pm : p.natAbs ≤ 2 ^ (b + e)) (qm : q.natAbs ≤ 2 ^ (b + e))
    (pw : big → q - p ≤ w ∧ (w : Int) ≤ up b) (bw : big → ((wd S Y ws : Nat) : Int) ≤ up b) (r : PrS b lb hb p q lo hi) : SpR b big S M Y (e :: es) (w :: ws) l (ya + s * yb) (la + lo) (ha + hi) := by
  obtain ⟨g1, g2⟩ := prod_mag r B.m1 B.m2 pm qm
  have pr := prod_spn B.spn c p0 hs r
  have tp := two_pos (b + gE M es)
  have e1 : 2 ^ (b + (gE M es + e + 1)) = 2 ^ (b + gE M es) * 2 ^ (e + 1) := by rw [← Nat.pow_add]; congr 1; omega
  have e2 : 2 ^ (b + gE M (e :: es)) = 2 * 2 ^ (b + (gE M es + e + 1)) := by
    show 2 ^ (b + (gE M es + e + 2)) = _
    rw [show b + (gE M es + e + 2) = (b + (gE M es + e + 1)) + 1 by omega, Nat.pow_succ]
    omega
  have e3 : 2 ^ (b + gE M es) ≤ 2 ^ (b + (gE M es + e + 1)) := two_le (by omega)
  have a1 := A.m1
  have a2 := A.m2
  refine ⟨?_, by rw [e2]; omega, by rw [e2]; omega, fun hb' => ?_, fun hz => ?_⟩
  · rw [show s * yb = yb * s by grind]
    exact A.spn.add pr
  · obtain ⟨w1, w2⟩ := pw hb'
    have w3 := bw hb'
    have w4 := prod_wid B.spn c p0 r hY hS (B.wid hb') w1 w3 w2
    have w5 := A.wid hb'
    show _ ≤ ((wd S Y ws + (wd S Y ws * (S + 1) + (Y + 1) * w + 2) : Nat) : Int)
    have e4 : ((wd S Y ws + (wd S Y ws * (S + 1) + (Y + 1) * w + 2) : Nat) : Int) = (wd S Y ws : Int) + ((wd S Y ws : Int) * (S + 1) + (Y + 1) * w + 2) := by simp
    rw [e4]
    omega
  · have za : ∀ c ∈ (l.take n).drop 1, c = 0 := fun c hc => hz c (by
      rw [List.drop_take] at hc
      exact List.mem_of_mem_take hc)
    have zb : ∀ c ∈ l.drop n, c = 0 := fun c hc => hz c (by
      obtain ⟨m, rfl⟩ : ∃ m, n = 1 + m := ⟨n - 1, by omega⟩
      rw [← List.drop_drop] at hc
      exact List.mem_of_mem_drop hc)
    obtain ⟨x1, x2⟩ := A.ex za
    obtain ⟨y1, y2⟩ := B.ex fun c hc => zb c (List.mem_of_mem_drop hc)
    have z0 : (l.drop n).getD 0 0 = 0 := by
      cases q : l.drop n with
      | nil => rfl
      | cons c t => exact zb c (by rw [q]; exact List.mem_cons_self ..)
    rw [z0, Int.zero_mul] at y1 y2
    subst y1 y2
    obtain ⟨z1, z2⟩ := pr_zero r
    have t0 : (l.take n).getD 0 0 = l.getD 0 0 := by
      rw [List.getD_eq_getElem?_getD, List.getD_eq_getElem?_getD, List.getElem?_take_of_lt (by omega)]
    rw [t0] at x1 x2
    rw [z1, z2, x1, x2]
    omega
end
end Rr
end
section
set_option Elab.async false
set_option linter.all false
set_option maxRecDepth 100000
/-! own rules over the layer: products and quotients of large numbers, any() of whole numbers -/
namespace L2
open PySem PySem.Spec PyProof.Rows
section
variable {X : Cx}
theorem op_mulB : OpR X (binaryOp .Mult) (rI (fun i j => IntMulOk i j) fun i j => .int (i * j)) := opI fun _ _ _ _ _ _ _ hc q => mul_int q hc
/-- what a division of large numbers asks of the place where it stands -/
structure Calm (X : Cx) : Prop where
  seer : X.base.NoSeer
  tree : X.prog.given.tree = none
  stk : ∃ env l, X.stack = env :: l ∧ env.scope.isGenerator = false ∧ env.scope.isCoroutine = false ∧ env.builtins = builtinsNs ∧ env.globals = mainGlobals
  dp : X.A.depth + 100 < recursionLimit
theorem op_fdivB (c : Calm X) : OpR X (binaryOp .FloorDiv) (rI (fun _ j => 0 < j) fun i j => .int (i / j)) := by
  intro pins s σ H x y v u Q I rx ry h
  obtain ⟨i, j, rfl, rfl, hc, q⟩ := h
  obtain ⟨t, rfl⟩ := rx
  obtain ⟨t', rfl⟩ := ry
  obtain ⟨env, l, e1, e2, e3, e4, e5⟩ := c.stk
  have fr : X.A.frames = some (env :: l) := by rw [I.ok.frames, e1]
  have se : s.heap.NoSeer := c.seer.keeps I.bk
  have sa : SeerAt (model X.prog X.w) X.A s.heap := SeerAt.of se c.tree fr e2 e3 e4 e5
  have rm : PylongRoom (model X.prog X.w) X.A s := PylongRoom.of I.nolimit c.dp sa
  refine floordiv_int (by omega) ?_ (Or.inr rm)
  have e : i.fdiv j = i / j := Int.fdiv_eq_ediv_of_nonneg i (by omega)
  rw [e]
  exact ⟨.int (i / j), H, I.tok _, ⟨_, rfl⟩, q⟩
/-! ### any(xs) of whole numbers -/
theorem truth_ints {prog : Program} {w : World} {A : Around} {ns : List Int} {its : List Value} (e : IntsAre its ns) :
    TruthOf prog w A (fun i v => its.toArray[i]? = some v) (fun i => (ns.map fun n => n != 0).getD i false) := fun i v s Q E hv hq => by
  have hv' : its[i]? = some v := by simpa using hv
  have rv := vals_ints e
  obtain ⟨x, hx⟩ : ∃ x, (ns.map V.int)[i]? = some x := by
    cases q : (ns.map V.int)[i]? with
    | none =>
      rw [rv.none_of q] at hv'
      cases hv'
    | some x => exact ⟨x, rfl⟩
  obtain ⟨u, hu, ru⟩ := rv.get hx
  rw [hv'] at hu
  cases hu
  rw [List.getElem?_map] at hx
  obtain ⟨n, hn, rfl⟩ := Option.map_eq_some_iff.mp hx
  obtain ⟨t, rfl⟩ := ru
  have hg : (ns.map fun n => n != 0).getD i false = (n != 0) := by
    rw [List.getD_eq_getElem?_getD, List.getElem?_map, hn]
    rfl
  have hq' : Q ((ns.map fun n => n != 0).getD i false) s := hq
  rw [hg] at hq'
  exact truthy_int hq'
def rAnyI (K : PySem.W.Frag) : List V → Hp → VK → Prop := fun vs H Q => ∃ (a : Addr) (ns : List Int), vs = [V.ref a] ∧ SqL K H a (ns.map V.int) ∧ Q (.bl (ns.any fun n => n != 0)) H
theorem cr_anyI (hc : X.calm = true) : CallR X (.builtin "any") (rAnyI X.K) := by
  intro pins s σ H vs us Q I r h
  obtain ⟨a, ns, rfl, hs, q⟩ := h
  obtain ⟨its, rv, hl, _⟩ := I.list hs
  rw [Vals.ref1 r]
  have hb := intsAre_of rv
  refine call_any_walk (iter_any hl.isList fun s₂ e2 st hne => ?_)
  subst e2
  refine ⟨_, _, _, _, _, _, _, rfl, Walks.list (A := X.A.in1) (I.ok.hd hc) _ a hne its.toArray, st, truth_ints hb, fun h' tk hk => ?_⟩
  refine ⟨.bl _, H, I.kept fun b o eo => hk b o (fun hmem => ?_) (Heap.get?_push_of_some _ eo), ?_, q⟩
  · rcases List.mem_cons.mp hmem with e1 | hmem
    · exact absurd (e1 ▸ Heap.lt_size eo) (Nat.lt_irrefl _)
    · cases hmem
  · show Value.bool _ = Value.bool _
    have e1 : its.toArray.size = (ns.map fun n => n != 0).length := by rw [List.size_toArray, List.length_map, hb.length]
    rw [e1, any_range, List.any_map]
    rfl
end
end L2
end
section
set_option Elab.async false
set_option linter.all false
set_option maxRecDepth 100000
set_option maxHeartbeats 2000000
namespace Wk
open PySem PySem.Spec PyProof.Rows L2
/-! ### defs by their names -/
structure Dn (P : Program) (w : World) (K : PySem.W.Frag) (mg : Str → Option Value) (base : Heap) (x : Str) (k : Nat) (ps : List Str) (sp : Sp) : Prop where
  ex : ∃ (f : Addr) (fd : FuncData), mg x = some (.ref f) ∧ PySem.W.keepIn K (.ref f) = true ∧ Binds K fd ps [] ∧ FnOk P w K mg base CX0 k f fd ps sp
structure Df (K : PySem.W.Frag) (mg : Str → Option Value) (x : Str) (st : Stmt) (ps : List Str) : Prop where
  ex : ∃ (f : Addr) (fd : FuncData), Fun K x x st f fd ∧ mg x = some (.ref f) ∧ Binds K fd ps []
section
variable {P : Program} {w : World} {K : PySem.W.Frag} {mg : Str → Option Value} {base : Heap}
theorem Dn.mono {x : Str} {j k : Nat} {ps : List Str} {sp : Sp} (D : Dn P w K mg base x j ps sp) (h : j ≤ k) : Dn P w K mg base x k ps sp := by
  obtain ⟨f, fd, a, b, c, d⟩ := D.ex
  exact ⟨f, fd, a, b, c, d.mono h⟩
theorem Df.dn {x : Str} {st : Stmt} {N ps : List Str} {k : Nat} {sp : Sp} (d : Df K mg x st ps) (S : FnScope N ps (defScope st)) (len : ∀ vs H Q E, sp vs H Q E → vs.length = ps.length)
    (hbody : ∀ (f : Addr) (cdv : Value) (A : Around) (outer : List Env) (s : Shared) (H : Hp) (vs : List V) (Q : VK) (E : XK), Room k (A.deeper (envOfC x (defScope st) s.heap.objs.size f cdv)) → sp vs H Q E →
      ∃ t, PSs (cxOf CX0 P w K mg base N x (defScope st) f cdv A outer s H E).nox (defBody st) t ∧ t { nx := fun _ H' => Q .non H', rt := Q } (start N vs) H) : Dn P w K mg base x (k + 1) ps sp := by
  obtain ⟨f, fd, F, hm, hb⟩ := d.ex
  exact ⟨f, fd, hm, F.kp, hb, F.ok S len (hbody f)⟩
end
theorem pe_cd {X : Cx} {x : Str} {k : Nat} {ps : List Str} {sp : Sp} {p pos : Pos} {e : Expr} {es : List Expr} {t : TA} (D : Dn X.prog X.w X.K X.mg X.base x k ps sp) (hr : Room k X.A) (hg : Gl X x) (ha : PA X (e :: es) t)
    (hdb : (x == ("__debug__" : Str)) = false := by decide) (he : starEach (e :: es) X.env = (false, eval e X.env) :: starEach es X.env := by rfl) (hpl : (backTo pos (starEach es X.env)).any (·.1) = false := by rfl) :
    PE X (.Call (.Name x p) (e :: es) [] pos) (tCall sp [] E0 t) := by
  obtain ⟨f, fd, a, b, c, d⟩ := D.ex
  exact pe_call d hr hg a b c .nil pass0 ha hdb he hpl
/-! ### the text by places -/
def top (i : Nat) : Stmt := PySem.Challenge.pw_ruledroots_s04_double.main.body.getD i (.Pass ⟨0, 0, 0, 0⟩)
abbrev sNInit : Stmt := inClass (top 1) 0
abbrev sWhole : Stmt := top 2
abbrev sGcd : Stmt := top 3
abbrev sReduced : Stmt := top 4
abbrev sWidened : Stmt := top 5
abbrev sScaled : Stmt := top 6
abbrev sSum : Stmt := top 7
abbrev sProd : Stmt := top 8
abbrev sNorm : Stmt := top 9
abbrev sWsign : Stmt := top 10
abbrev sPsign : Stmt := top 11
abbrev sSignOf : Stmt := top 12
abbrev sPlus : Stmt := top 13
abbrev sMinus : Stmt := top 14
abbrev sTimes : Stmt := top 15
abbrev sInverse : Stmt := top 16
abbrev sOver : Stmt := top 17
abbrev sRoot : Stmt := top 18
/-- builtins that the text does not bind -/
structure Blt (mg : Str → Option Value) : Prop where
  rng : mg "range" = none
  len : mg "len" = none
  any : mg "any" = none
  max : mg "max" = none
  abs : mg "abs" = none
/-! ### lists -/
theorem same_new {H : Hp} {p : Addr} {o : HO} (h : H p = none) : Same H (upd H p o) := fun b q e => by
  rw [upd_ne (ne_of_none e h)]
  exact e
theorem mapI_get {ns : List Int} {i : Nat} {x : V} (h : (ns.map V.int)[i]? = some x) : ∃ n, ns[i]? = some n ∧ x = V.int n := by
  rw [List.getElem?_map] at h
  obtain ⟨n, a, b⟩ := Option.map_eq_some_iff.mp h
  exact ⟨n, a, b.symm⟩
theorem take_snoc {α : Type} : ∀ {l : List α} {i : Nat} {x : α}, l[i]? = some x → l.take (i + 1) = l.take i ++ [x]
  | [], i, x, h => by simp at h
  | a :: l, 0, x, h => by
    have e : a = x := Option.some.inj h
    subst e
    rfl
  | a :: l, i + 1, x, h => by
    have ih := take_snoc (l := l) (i := i) (x := x) h
    show a :: l.take (i + 1) = a :: l.take i ++ [x]
    rw [ih]
    rfl
theorem mapV_snoc {l : List Int} {i : Nat} {x : Int} (h : l[i]? = some x) : (l.take (i + 1)).map V.int = (l.take i).map V.int ++ [V.int x] := by
  rw [take_snoc h, List.map_append]
  rfl
theorem yes_then {σ : L2.St} {H : Hp} {A B : Hp → Prop} (h : A H) : tYes σ H (fun b H3 => if b = true then A H3 else B H3) := by
  show if true = true then A H else B H
  rw [if_pos rfl]
  exact h
abbrev IL (H : Hp) (a : Addr) (ns : List Int) : Prop := H a = some (.lst (ns.map V.int))
section
variable {P : Program} {w : World} {K : PySem.W.Frag} {mg : Str → Option Value} {base : Heap}
/-! ### scaled -/
def spScaled : Sp := fun vs H Q _ => ∃ (a : Addr) (ns : List Int) (f : Int), vs = [.ref a, .int f] ∧ IL H a ns ∧ ns.length ≤ 1000 ∧ (∀ c ∈ ns, IntMulOk c f) ∧ ∀ (H' : Hp) (p : Addr), Same H H' → IL H' p (Rr.pscale ns f) → Q (.ref p) H'
theorem scScaled : FnScope ["parts", "factor", "part"] ["parts", "factor"] (defScope sScaled) := ⟨rfl, rfl, rfl, by decide +kernel, rfl, by decide +kernel, by decide +kernel⟩
theorem ok_scaled (d : Df K mg "scaled" sScaled ["parts", "factor"]) : Dn P w K mg base "scaled" 1 ["parts", "factor"] spScaled := by
  refine d.dn scScaled (fun vs H Q E h => ?_) (fun f cdv A outer s H vs Q E hr h => ?_)
  · obtain ⟨a, ns, f, rfl, _⟩ := h
    rfl
  · obtain ⟨a, ns, g, rfl, ha, hl, hm, k⟩ := h
    refine ⟨_, pss_one (ps_ret (pe_lc rfl scScaled.nd (pi_list (pv 0)) (blkOk_by (own := [("part", 2)]) (by show blkC ["parts", "factor", "part"] (defScope sScaled) _ _ = true; decide +kernel)) (fun _ _ _ _ _ => pg_name (i := 2) scScaled.nd rfl (Or.inl rfl)) (fun _ _ _ _ _ => pts_nil) (fun _ _ _ _ _ => pe_op op_mulB (pv 2) (pv 1)))), ?_⟩
    refine ⟨_, rfl, a, rfl, ⟨_, SqL.of ha⟩, fun D hD => ?_⟩
    have n0 : a ≠ D := ne_of_none ha hD
    refine lc_list (K := K) (a := a) (xs := ns.map V.int) (fun i H' => Same H H' ∧ IL H' D ((Rr.pscale ns g).take i)) ⟨same_new hD, upd_same⟩ (fun i H' _ ⟨s1, _⟩ => SqL.of (s1 _ _ ha)) ?_ ?_
    · rintro i x H' hi ⟨s1, hp⟩
      obtain ⟨n, hn, rfl⟩ := mapI_get hi
      refine ⟨rfl, yes_then ?_⟩
      refine ⟨_, rfl, _, rfl, _, _, rfl, rfl, hm n (List.mem_of_getElem? hn), _, hp, ?_, fun b o e => ?_, ?_⟩
      · rw [List.length_map, List.length_take]
        refine Nat.lt_of_le_of_lt (Nat.min_le_right _ _) (small1000 ?_)
        unfold Rr.pscale
        rw [List.length_map]
        exact hl
      · rw [upd_ne (ne_of_none e hD)]
        exact s1 b o e
      · show upd H' D _ D = _
        rw [upd_same, mapV_snoc (x := n * g)]
        unfold Rr.pscale
        rw [List.getElem?_map, hn]
        rfl
    · rintro H' ⟨s1, hp⟩
      refine k H' D s1 ?_
      have e : (Rr.pscale ns g).take (ns.map V.int).length = Rr.pscale ns g := by
        rw [List.take_of_length_le]
        unfold Rr.pscale
        rw [List.length_map, List.length_map]
        exact Nat.le_refl _
      rw [e] at hp
      exact hp
end
end Wk
end
section
set_option Elab.async false
set_option linter.all false
set_option maxRecDepth 100000
set_option maxHeartbeats 2000000
namespace Wk
open PySem PySem.Spec PyProof.Rows L2
/-- the turn of a comprehension that makes a list of ints -/
theorem lc_turn {H H' : Hp} {D : Addr} {R : List Int} {i : Nat} {y : Int} (hD : H D = none) (s1 : Same H H') (hp : IL H' D (R.take i)) (hy : R[i]? = some y) (hl : R.length ≤ 1000) :
    ∃ acc, H' D = some (.lst acc) ∧ acc.length < sizeLine ∧ (Same H (upd H' D (.lst (acc ++ [V.int y]))) ∧ IL (upd H' D (.lst (acc ++ [V.int y]))) D (R.take (i + 1))) := by
  refine ⟨_, hp, ?_, fun b o e => ?_, ?_⟩
  · rw [List.length_map, List.length_take]
    exact Nat.lt_of_le_of_lt (Nat.min_le_right _ _) (small1000 hl)
  · rw [upd_ne (ne_of_none e hD)]
    exact s1 b o e
  · show upd H' D _ D = _
    rw [upd_same, mapV_snoc hy]
theorem line1000 {n : Nat} (h : n ≤ 1000) : n ≤ sizeLine := Nat.le_of_lt (small1000 h)
theorem rep_one {α : Type} (x : α) (n : Nat) : (List.replicate n [x]).flatten = List.replicate n x := by
  induction n with
  | zero => rfl
  | succ n ih => rw [List.replicate_succ, List.flatten_cons, ih, List.replicate_succ]; rfl
section
variable {P : Program} {w : World} {K : PySem.W.Frag} {mg : Str → Option Value} {base : Heap}
/-! ### widened -/
def spWidened : Sp := fun vs H Q _ => ∃ (a : Addr) (ns : List Int) (n : Nat), vs = [.ref a, .int n] ∧ IL H a ns ∧ ns.length ≤ 100 ∧ n ≤ 100 ∧ ∀ (H' : Hp) (p : Addr), Same H H' → IL H' p (Rr.widen ns n) → Q (.ref p) H'
theorem scWidened : FnScope ["parts", "size"] ["parts", "size"] (defScope sWidened) := ⟨rfl, rfl, rfl, by decide +kernel, rfl, by decide +kernel, by decide +kernel⟩
theorem ok_widened (T : Blt mg) (d : Df K mg "widened" sWidened ["parts", "size"]) : Dn P w K mg base "widened" 1 ["parts", "size"] spWidened := by
  refine d.dn scWidened (fun vs H Q E h => ?_) (fun f cdv A outer s H vs Q E hr h => ?_)
  · obtain ⟨a, ns, f, rfl, _⟩ := h
    rfl
  · obtain ⟨a, ns, n, rfl, ha, hl, hn, k⟩ := h
    refine ⟨_, pss_one (ps_ret (pe_op op_cat (pv 0) (pe_op op_rep (pe_lst (pa_cons pe_int pa_nil)) (pe_op op_sub (pv 1) (pe_callB call_len_seq (by rfl) T.len PySem.boot_len (pa_cons (pv 0) pa_nil)))))), ?_⟩
    refine ⟨_, rfl, (by show 1 ≤ sizeLine; decide), fun l hl0 => ?_⟩
    have s1 : Same H (upd H l (.lst [V.int 0])) := same_new hl0
    refine ⟨_, rfl, _, rfl, a, _, rfl, .inl (SqL.of (s1 _ _ ha)), _, _, rfl, rfl, ?_⟩
    have e1 : ((n : Int) - ((ns.map V.int).length : Nat)).toNat = n - ns.length := by rw [List.length_map]; omega
    refine ⟨l, _, [V.int 0], rfl, rfl, upd_same, ?_, ?_, ?_, fun p hp => ?_⟩
    · rw [List.length_map]; omega
    · omega
    · rw [e1]; exact line1000 (by show 1 * _ ≤ 1000; omega)
    rw [e1, rep_one]
    have s2 := same_new (o := .lst (List.replicate (n - ns.length) (V.int 0))) hp
    have s3 := s1.trans s2
    refine ⟨a, p, _, _, rfl, rfl, s3 _ _ ha, upd_same, ?_, fun q hq => ?_⟩
    · rw [List.length_map, List.length_replicate]
      exact line1000 (by omega)
    · refine k _ q (s3.trans (same_new hq)) ?_
      show upd _ q _ q = _
      rw [upd_same]
      unfold Rr.widen
      rw [List.map_append, List.map_replicate]
/-! ### parts_sum -/
def spSum : Sp := fun vs H Q _ => ∃ (a b : Addr) (u v : List Int), vs = [.ref a, .ref b] ∧ IL H a u ∧ IL H b v ∧ u.length = v.length ∧ u.length ≤ 1000 ∧ ∀ (H' : Hp) (p : Addr), Same H H' → IL H' p (Rr.psum u v) → Q (.ref p) H'
theorem scSum : FnScope ["u", "v", "k"] ["u", "v"] (defScope sSum) := ⟨rfl, rfl, rfl, by decide +kernel, rfl, by decide +kernel, by decide +kernel⟩
theorem mapI_at {ns : List Int} {i : Nat} {n : Int} (h : ns[i]? = some n) : (ns.map V.int)[i]? = some (V.int n) := by
  rw [List.getElem?_map, h]
  rfl
theorem ok_sum (T : Blt mg) (d : Df K mg "parts_sum" sSum ["u", "v"]) : Dn P w K mg base "parts_sum" 1 ["u", "v"] spSum := by
  refine d.dn scSum (fun vs H Q E h => ?_) (fun f cdv A outer s H vs Q E hr h => ?_)
  · obtain ⟨a, b, u, v, rfl, _⟩ := h
    rfl
  · obtain ⟨a, b, u, v, rfl, ha, hb, huv, hl, k⟩ := h
    refine ⟨_, pss_one (ps_ret (pe_lc rfl scSum.nd (pi_range1 rfl T.rng (pa_cons (pe_callB call_len_seq (by rfl) T.len PySem.boot_len (pa_cons (pv 0) pa_nil)) pa_nil)) (blkOk_by (own := [("k", 2)]) (by show blkC ["u", "v", "k"] (defScope sSum) _ _ = true; decide +kernel)) (fun _ _ _ _ _ => pg_name (i := 2) scSum.nd rfl (Or.inl rfl)) (fun _ _ _ _ _ => pts_nil)
      (fun _ _ _ _ _ => pe_op op_add (pe_ix (r := rIxL K) ix_list (pv 0) (pv 2) (fun _ _ => rfl)) (pe_ix (r := rIxL K) ix_list (pv 1) (pv 2) (fun _ _ => rfl))))), ?_⟩
    refine ⟨_, rfl, a, _, rfl, .inl (SqL.of ha), _, rfl, ?_, ?_, fun D hD => ?_⟩
    · rw [List.length_map]; omega
    · rw [List.length_map]; omega
    have e1 : ((u.map V.int).length : Int).toNat = u.length := by rw [List.length_map]; rfl
    rw [e1]
    have hR : (Rr.psum u v).length = u.length := by unfold Rr.psum; rw [List.length_zipWith, huv, Nat.min_self]
    refine lc_range (n := u.length) (fun i H' => Same H H' ∧ IL H' D ((Rr.psum u v).take i)) ⟨same_new hD, upd_same⟩ ?_ ?_
    · rintro i H' hi ⟨s1, hp⟩
      obtain ⟨x, hx⟩ : ∃ x, u[i]? = some x := ⟨_, List.getElem?_eq_getElem hi⟩
      obtain ⟨y, hy⟩ : ∃ y, v[i]? = some y := ⟨_, List.getElem?_eq_getElem (by omega)⟩
      refine ⟨rfl, yes_then ?_⟩
      refine ⟨_, rfl, _, rfl, a, _, _, _, rfl, rfl, SqL.of (s1 _ _ ha), at_of (j := i) (by omega) (mapI_at hx), _, rfl, _, rfl, b, _, _, _, rfl, rfl, SqL.of (s1 _ _ hb), at_of (j := i) (by omega) (mapI_at hy), _, _, rfl, rfl, ?_⟩
      refine lc_turn hD s1 hp ?_ (by omega)
      unfold Rr.psum
      rw [List.getElem?_zipWith, hx, hy]
    · rintro H' ⟨s1, hp⟩
      refine k H' D s1 ?_
      rw [List.take_of_length_le (by omega)] at hp
      exact hp
/-! ### whole_sign -/
def spWsign : Sp := fun vs H Q _ => ∃ n : Int, vs = [.int n] ∧ Q (.int (Rr.wsign n)) H
theorem scWsign : FnScope ["n"] ["n"] (defScope sWsign) := ⟨rfl, rfl, rfl, by decide +kernel, rfl, by decide +kernel, by decide +kernel⟩
theorem ok_wsign (d : Df K mg "whole_sign" sWsign ["n"]) : Dn P w K mg base "whole_sign" 1 ["n"] spWsign := by
  refine d.dn scWsign (fun vs H Q E h => ?_) (fun f cdv A outer s H vs Q E hr h => ?_)
  · obtain ⟨n, rfl, _⟩ := h
    rfl
  · obtain ⟨n, rfl, k⟩ := h
    refine ⟨_, pss_cons (ps_if (pt_cmpR op_lt (pv 0) pe_int (nomark _)) (pss_one (ps_ret (pe_un un_neg pe_int))) pss_nil) (pss_one (ps_ret (pe_ifExp (pt_cmpR op_gt (pv 0) pe_int (nomark _)) pe_int pe_int))), ?_⟩
    refine ⟨_, rfl, _, _, rfl, rfl, _, rfl, ite2 (fun c => ?_) (fun c => ?_)⟩
    · have c' : n < 0 := of_decide_eq_true c
      refine ⟨_, rfl, ?_⟩
      have e : Rr.wsign n = -1 := by unfold Rr.wsign; rw [if_pos c']
      rw [e] at k
      exact k
    · have c' : ¬ n < 0 := fun z => c (decide_eq_true z)
      refine ⟨_, rfl, _, _, rfl, rfl, _, rfl, ite2 (fun c2 => ?_) (fun c2 => ?_)⟩
      · have c3 : 0 < n := of_decide_eq_true c2
        have e : Rr.wsign n = 1 := by unfold Rr.wsign; rw [if_neg c', if_pos c3]
        rw [e] at k
        exact k
      · have c3 : ¬ 0 < n := fun z => c2 (decide_eq_true z)
        have e : Rr.wsign n = 0 := by unfold Rr.wsign; rw [if_neg c', if_neg c3]
        rw [e] at k
        exact k
/-! ### common_divisor -/
def spGcd : Sp := fun vs H Q _ => ∃ m n : Int, vs = [.int m, .int n] ∧ 0 < n ∧ Q (.int ((Int.gcd m n : Nat) : Int)) H
theorem scGcd : FnScope ["m", "n", "rest"] ["m", "n"] (defScope sGcd) := ⟨rfl, rfl, rfl, by decide +kernel, rfl, by decide +kernel, by decide +kernel⟩
theorem gcd_step (m n : Int) (h : 0 < n) : Int.gcd n (m % n) = Int.gcd m n := by
  have e := Int.gcd_add_mul_left_left n (m % n) (m / n)
  rw [Int.emod_add_mul_ediv] at e
  rw [Int.gcd_comm, ← e]
theorem ok_gcd (d : Df K mg "common_divisor" sGcd ["m", "n"]) : Dn P w K mg base "common_divisor" 1 ["m", "n"] spGcd := by
  refine d.dn scGcd (fun vs H Q E h => ?_) (fun f cdv A outer s H vs Q E hr h => ?_)
  · obtain ⟨m, n, rfl, _⟩ := h
    rfl
  · obtain ⟨m, n, rfl, hn, k⟩ := h
    refine ⟨_, pss_cons (ps_while PassesOwn.never (pt_cmpR op_ne (pv 1) pe_int (nomark _)) (pss_cons (ps_set (i := 2) scGcd.nd rfl (Or.inl rfl) (pe_op op_mod (pv 0) (pv 1))) (pss_cons (ps_set (i := 0) scGcd.nd rfl (Or.inl rfl) (pv 1)) (pss_one (ps_set (i := 1) scGcd.nd rfl (Or.inl rfl) (pv 2))))))
      (pss_one (ps_ret (pv 0))), ?_⟩
    refine ⟨fun t σ H' => ∃ (a b : Int) (r : Option V), σ = [some (.int a), some (.int b), r] ∧ H' = H ∧ 0 ≤ b ∧ (b = 0 → 0 < a) ∧ Int.gcd a b = Int.gcd m n ∧ t = b.toNat, ⟨n.toNat, m, n, none, rfl, rfl, by omega, by omega, rfl, rfl⟩, ?_⟩
    rintro t σ H' ⟨a, b, r, rfl, rfl, hb, hz, hg, rfl⟩
    refine ⟨_, rfl, rfl, _, rfl, ite2 (fun c => ?_) (fun c => ?_)⟩
    · have c' : b ≠ 0 := by
        intro z
        subst z
        exact absurd c (by decide)
      refine ⟨fun σ' H2 => ∃ r, σ' = [some (.int b), some (.int (a % b)), some r] ∧ H2 = H', fun σ' H2 ⟨r2, e1, e2⟩ => ?_, ?_⟩
      · have h1 : 0 ≤ a % b := Int.emod_nonneg a c'
        have h2 : a % b < b := Int.emod_lt_of_pos a (by omega)
        exact ⟨(a % b).toNat, by omega, b, a % b, _, e1, e2, h1, fun _ => by omega, by rw [gcd_step a b (by omega)]; exact hg, rfl⟩
      · exact ⟨_, rfl, _, rfl, _, _, rfl, rfl, (by show 0 < b; omega), _, rfl, _, rfl, _, rfl, rfl⟩
    · have c' : b = 0 := by
        apply Classical.byContradiction
        intro z
        apply c
        show (!decide (V.int b = V.int 0)) = true
        rw [decide_eq_false (fun q => z (V.int.inj q))]
        rfl
      subst c'
      refine ⟨_, rfl, ?_⟩
      have e : ((Int.gcd m n : Nat) : Int) = a := by
        rw [← hg, Int.gcd_zero_right]
        have := hz rfl
        omega
      rw [e] at k
      exact k
end
end Wk
end
section
set_option Elab.async false
set_option linter.all false
set_option maxRecDepth 100000
set_option maxHeartbeats 2000000
namespace Wk
open PySem PySem.Spec PyProof.Rows L2
/-! ### slices -/
theorem cut_lo {ns : List Int} {h : Nat} {z : Int} (hz : z = (h : Int)) (hh : h ≤ ns.length) : cutV (ns.map V.int) none (some z) = (ns.take h).map V.int := by
  subst hz
  unfold cutV
  rw [HT.sIx_none, HT.sIx_nat, List.drop_zero, Nat.sub_zero, List.length_map, Nat.min_eq_left hh, List.map_take]
theorem cut_hi {ns : List Int} {h : Nat} {z : Int} (hz : z = (h : Int)) (hh : h ≤ ns.length) : cutV (ns.map V.int) (some z) none = (ns.drop h).map V.int := by
  subst hz
  unfold cutV
  rw [HT.sIx_none, HT.sIx_nat, List.length_map, Nat.min_eq_left hh, List.map_drop, List.take_of_length_le]
  rw [List.length_drop, List.length_map]
  exact Nat.le_refl _
theorem half_eq (ns : List Int) : (((ns.map V.int).length : Nat) : Int) / 2 = ((ns.length / 2 : Nat) : Int) := by
  rw [List.length_map]; omega
/-! ### numbers as objects -/
def nf (v u : V) : List (Str × V) := putF "under" u (putF "parts" v [])
theorem nf_parts (v u : V) : (nf v u).lookup ("parts" : Str) = some v := by
  unfold nf
  rw [lookup_putF, if_neg (by decide +kernel), lookup_putF, if_pos rfl]
theorem nf_under (v u : V) : (nf v u).lookup ("under" : Str) = some u := by
  unfold nf
  rw [lookup_putF, if_pos rfl]
/-- the number n stands at x -/
def NAt (C : Addr) (H : Hp) (x : Addr) (n : Rr.PN) : Prop := ∃ dx pa, H x = some (.ins C dx (nf (.ref pa) (.int n.under))) ∧ IL H pa n.parts
theorem NAt.same {C : Addr} {H H' : Hp} {x : Addr} {n : Rr.PN} (h : NAt C H x n) (s : Same H H') : NAt C H' x n := by
  obtain ⟨dx, pa, a, b⟩ := h
  exact ⟨dx, pa, s _ _ a, s _ _ b⟩
def spNInit (C : Addr) : Sp := fun vs H Q _ => ∃ (x dx : Addr) (v u : V), vs = [.ref x, v, u] ∧ H x = some (.ins C dx []) ∧ ∀ H' : Hp, H' x = some (.ins C dx (nf v u)) → (∀ b o, H b = some o → b ≠ x → H' b = some o) → Q .non H'
section
variable {P : Program} {w : World} {K : PySem.W.Frag} {mg : Str → Option Value} {base : Heap}
theorem scNI : FnScope ["self", "parts", "under"] ["self", "parts", "under"] (defScope sNInit) := ⟨rfl, rfl, rfl, by decide +kernel, rfl, by decide +kernel, by decide +kernel⟩
theorem ok_ninit {f C : Addr} {fd : FuncData} (F : Fun K "__init__" "Number.__init__" sNInit f fd) (cl : Cls K C) (nP : NoAttr K C "parts") (nU : NoAttr K C "under") : FnOk P w K mg base CX0 1 f fd ["self", "parts", "under"] (spNInit C) := by
  refine F.ok scNI (fun vs H Q E h => ?_) (fun cdv A outer s H vs Q E hr h => ?_)
  · obtain ⟨x, dx, v, u, rfl, _⟩ := h
    rfl
  · obtain ⟨x, dx, v, u, rfl, hx, k⟩ := h
    refine ⟨_, pss_cons (ps_fld (pv 0) (pv 1) rfl) (pss_one (ps_fld (pv 0) (pv 2) rfl)), ?_⟩
    refine ⟨_, rfl, _, rfl, x, C, dx, [], rfl, hx, cl, nP, (by show 0 < 1000; decide), ?_⟩
    refine ⟨_, rfl, _, rfl, x, C, dx, _, rfl, upd_same, cl, nU, (by show 1 < 1000; decide), ?_⟩
    refine k _ upd_same fun b o e hb => ?_
    rw [upd_ne hb, upd_ne hb]
    exact e
end
/-- the class of numbers -/
structure NCl (P : Program) (w : World) (K : PySem.W.Frag) (mg : Str → Option Value) (base : Heap) (C : Addr) : Prop where
  cl : Cls K C
  nP : NoAttr K C "parts"
  nU : NoAttr K C "under"
  mgC : mg "Number" = some (.ref C)
  mkf : ∃ (f : Addr) (fd : FuncData), Mk K C f ∧ Binds K fd ["self", "parts", "under"] [] ∧ FnOk P w K mg base CX0 1 f fd ["self", "parts", "under"] (spNInit C)
theorem pe_mkN {X : Cx} {C : Addr} {p pos : Pos} {e : Expr} {es : List Expr} {t : TA} (T : NCl X.prog X.w X.K X.mg X.base C) (hr : Room 2 X.A) (hg : Gl X "Number") (ha : PA X (e :: es) t)
    (he : starEach (e :: es) X.env = (false, eval e X.env) :: starEach es X.env := by rfl) (hpl : (backTo pos (starEach es X.env)).any (·.1) = false := by rfl) :
    PE X (.Call (.Name "Number" p) (e :: es) [] pos) (tMake C (spNInit C) [] E0 t) := by
  obtain ⟨f, fd, a, b, c⟩ := T.mkf
  exact pe_make a c hr hg T.mgC b .nil pass0 ha (by decide) he hpl
theorem while_fin {c : TT} {tb : TS} {D : Ends} {σ : L2.St} {H : Hp} (Pv : Nat → L2.St → Hp → Prop) (Fin : L2.St → Hp → Prop) (h0 : ∃ m, Pv m σ H) (fin : ∀ σ H, Fin σ H → D.nx σ H)
    (step : (∀ σ H, Fin σ H → D.nx σ H) → ∀ m σ H, Pv m σ H → c σ H fun b H1 => if b = true then ∃ N : L2.St → Hp → Prop, (∀ σ' H', N σ' H' → ∃ m', m' < m ∧ Pv m' σ' H') ∧ tb { D with nx := N, ct := N, bk := D.nx } σ H1 else D.nx σ H1) : tWhile c tb D σ H := ⟨Pv, h0, step fin⟩
section
variable {P : Program} {w : World} {K : PySem.W.Frag} {mg : Str → Option Value} {base : Heap}
/-! ### whole -/
def spWhole (C : Addr) : Sp := fun vs H Q _ => ∃ n : Int, vs = [.int n] ∧ ∀ (H' : Hp) (x : Addr), Same H H' → NAt C H' x (Rr.mwhole n) → Q (.ref x) H'
theorem scWhole : FnScope ["v"] ["v"] (defScope sWhole) := ⟨rfl, rfl, rfl, by decide +kernel, rfl, by decide +kernel, by decide +kernel⟩
theorem ok_whole {C : Addr} (T : NCl P w K mg base C) (d : Df K mg "whole" sWhole ["v"]) : Dn P w K mg base "whole" 3 ["v"] (spWhole C) := by
  refine d.dn scWhole (fun vs H Q E h => ?_) (fun f cdv A outer s H vs Q E hr h => ?_)
  · obtain ⟨n, rfl, _⟩ := h
    rfl
  · obtain ⟨n, rfl, k⟩ := h
    refine ⟨_, pss_one (ps_ret (pe_mkN T hr (by rfl) (pa_cons (pe_lst (pa_cons (pv 0) pa_nil)) (pa_cons pe_int pa_nil)))), ?_⟩
    refine ⟨_, rfl, (by show 1 ≤ sizeLine; decide), fun l hl => ?_⟩
    intro x dx nx ndx nex
    refine ⟨x, dx, _, _, rfl, upd_same, fun H' hx kp => ⟨rfl, ?_⟩⟩
    have s1 := same_new (o := .lst [V.int n]) hl
    have s2 := Same.made nx ndx kp
    exact k H' x (s1.trans s2) ⟨dx, l, hx, s2 _ _ upd_same⟩
/-! ### reduced -/
def spReduced (C : Addr) : Sp := fun vs H Q _ => ∃ (a : Addr) (ns : List Int) (u : Int), vs = [.ref a, .int u] ∧ IL H a ns ∧ 1 ≤ ns.length ∧ ns.length ≤ 100 ∧ 0 < u ∧ ∀ (H' : Hp) (x : Addr), Same H H' → NAt C H' x (Rr.reduced ns u) → Q (.ref x) H'
theorem scReduced : FnScope ["parts", "under", "divisor", "part"] ["parts", "under"] (defScope sReduced) := ⟨rfl, rfl, rfl, by decide +kernel, rfl, by decide +kernel, by decide +kernel⟩
theorem strip_stop {l : List Int} (h : ¬ (1 < l.length ∧ ∀ c ∈ l.drop (l.length / 2), c = 0)) : ∀ k, Rr.strip k l = l
  | 0 => rfl
  | k + 1 => by unfold Rr.strip; rw [if_neg h]
theorem strip_go {l : List Int} (h : 1 < l.length ∧ ∀ c ∈ l.drop (l.length / 2), c = 0) (k : Nat) : Rr.strip (k + 1) l = Rr.strip k (l.take (l.length / 2)) := by
  conv => lhs; unfold Rr.strip
  rw [if_pos h]
theorem any_iff (l : List Int) : (l.any fun n => n != 0) = false ↔ ∀ c ∈ l, c = 0 := by
  rw [List.any_eq_false]
  constructor
  · intro h c hc
    have := h c hc
    simpa using this
  · intro h c hc
    rw [h c hc]
    decide
theorem gfold_snoc {l : List Int} {i : Nat} {c u : Int} (h : l[i]? = some c) : Rr.gfold (l.take (i + 1)) u = ((Int.gcd c (Rr.gfold (l.take i) u) : Nat) : Int) := by
  unfold Rr.gfold
  rw [take_snoc h, List.foldl_append]
  rfl
theorem ok_reduced {C : Addr} (B : Blt mg) (T : NCl P w K mg base C) (hse : base.NoSeer) (htr : P.given.tree = none) (g : Dn P w K mg base "common_divisor" 1 ["m", "n"] spGcd) (d : Df K mg "reduced" sReduced ["parts", "under"]) : Dn P w K mg base "reduced" 33 ["parts", "under"] (spReduced C) := by
  refine d.dn scReduced (fun vs H Q E h => ?_) (fun f cdv A outer s H vs Q E hr h => ?_)
  · obtain ⟨a, ns, u, rfl, _⟩ := h
    rfl
  · obtain ⟨a, ns, u, rfl, ha, hl1, hl2, hu, k⟩ := h
    have hr1 : Room 1 _ := hr.mono (by decide)
    have hr2 : Room 2 _ := hr.mono (by decide)
    have cm : Calm (cxOf CX0 P w K mg base ["parts", "under", "divisor", "part"] "reduced" (defScope sReduced) f cdv A outer s H E).nox := ⟨hse, htr, ⟨_, _, rfl, rfl, rfl, rfl, rfl⟩, by have := hr.dp; show (A.deeper _).depth + 100 < _; omega⟩
    have cmB : ∀ (s' : Shared) (H' : Hp) (sc : Scope) (ce : Env) (fp : List Addr), Calm ((cxOf CX0 P w K mg base ["parts", "under", "divisor", "part"] "reduced" (defScope sReduced) f cdv A outer s H E).nox.blk s' H' sc ce fp) := fun _ _ _ _ _ => ⟨hse, htr, cm.stk, cm.dp⟩
    refine ⟨_, pss_cons (ps_while PassesOwn.never (PW.pt (pw_and (pt_cmpR op_gt (pe_callB call_len_seq (by rfl) B.len PySem.boot_len (pa_cons (pv 0) pa_nil)) pe_int (nomark _)) (pw_and1 (pt_not (pt_val (pe_callB (cr_anyI rfl) (by rfl) B.any PyProof.Rows.boot_any (pa_cons (pe_slice sl_list (pv 0) (po_some (pe_op op_fdiv (pe_callB call_len_seq (by rfl) B.len PySem.boot_len (pa_cons (pv 0) pa_nil)) pe_int)) po_none) pa_nil)))))))
        (pss_one (ps_set (i := 0) scReduced.nd rfl (Or.inl rfl) (pe_slice sl_list (pv 0) po_none (po_some (pe_op op_fdiv (pe_callB call_len_seq (by rfl) B.len PySem.boot_len (pa_cons (pv 0) pa_nil)) pe_int))))))
      (pss_cons (ps_set (i := 2) scReduced.nd rfl (Or.inr rfl) (pv 1))
      (pss_cons (ps_for PassesOwn.never rfl (pi_list (pv 0)) (pg_name (i := 3) scReduced.nd rfl (Or.inl rfl)) (pss_one (ps_set (i := 2) scReduced.nd rfl (Or.inr rfl) (pe_cd g hr1 (by rfl) (pa_cons (pv 3) (pa_cons (pv 2) pa_nil))))))
      (pss_one (ps_ret (pe_mkN T hr2 (by rfl) (pa_cons (pe_lc rfl scReduced.nd (pi_list (pv 0)) (blkOk_by (own := [("part", 3)]) (by show blkC ["parts", "under", "divisor", "part"] (defScope sReduced) _ _ = true; decide +kernel)) (fun _ _ _ _ _ => pg_name (i := 3) scReduced.nd rfl (Or.inl rfl)) (fun _ _ _ _ _ => pts_nil) (fun _ _ _ _ _ => pe_op (op_fdivB (cmB _ _ _ _ _)) (pv 3) (pv 2))) (pa_cons (pe_op (op_fdivB cm) (pv 1) (pv 2)) pa_nil))))))), ?_⟩
    refine while_fin (fun m σ H' => ∃ (b : Addr) (l : List Int) (k : Nat), σ = [some (.ref b), some (.int u), none, none] ∧ IL H' b l ∧ Same H H' ∧ 1 ≤ l.length ∧ l.length ≤ 100 ∧ l.length ≤ k ∧ Rr.strip k l = Rr.strip ns.length ns ∧ m = l.length)
      (fun σ H' => ∃ (b : Addr) (l : List Int), σ = [some (.ref b), some (.int u), none, none] ∧ IL H' b l ∧ Same H H' ∧ l.length ≤ 100 ∧ l = Rr.strip ns.length ns)
      ⟨_, a, ns, ns.length, rfl, ha, fun _ _ e => e, hl1, hl2, Nat.le_refl _, rfl, rfl⟩ ?_ (fun fin => ?_)
    · rintro σ H2 ⟨b, l, rfl, hb', s3, hb2, el⟩
      refine ⟨_, rfl, ?_⟩
      refine ⟨_, rfl, b, rfl, ⟨_, SqL.of hb'⟩, for_list (K := K) (a := b) (xs := l.map V.int) (fun i σ H' => ∃ r : Option V, σ = [some (.ref b), some (.int u), some (.int (Rr.gfold (l.take i) u)), r] ∧ Same H2 H')
        ⟨none, rfl, fun _ _ e => e⟩ (fun i σ H' _ ⟨_, _, s4⟩ => SqL.of (s4 _ _ hb')) ?_ ?_⟩
      · rintro i x σ H' hi ⟨r, rfl, s4⟩
        obtain ⟨c, hc, rfl⟩ := mapI_get hi
        refine ⟨_, rfl, _, rfl, c, Rr.gfold (l.take i) u, rfl, Rr.gfold_pos _ _ hu, ?_⟩
        refine ⟨some (.int c), ?_, s4⟩
        rw [gfold_snoc hc]
        rfl
      · rintro σ H' ⟨r, rfl, s4⟩
        have e0 : l.take (l.map V.int).length = l := by rw [List.length_map, List.take_length]
        rw [e0]
        have hg := Rr.gfold_pos l u hu
        refine ⟨_, rfl, b, rfl, ⟨_, SqL.of (s4 _ _ hb')⟩, fun D hD => ?_⟩
        refine lc_list (K := K) (a := b) (xs := l.map V.int) (fun i H4 => Same H' H4 ∧ IL H4 D ((l.map fun c => c / Rr.gfold l u).take i)) ⟨same_new hD, upd_same⟩ (fun i H4 _ ⟨s5, _⟩ => SqL.of (s5 _ _ (s4 _ _ hb'))) ?_ ?_
        · rintro i x H4 hi ⟨s5, hp⟩
          obtain ⟨c, hc, rfl⟩ := mapI_get hi
          refine ⟨rfl, yes_then ?_⟩
          refine ⟨_, rfl, _, rfl, _, _, rfl, rfl, hg, ?_⟩
          refine lc_turn hD s5 hp ?_ (by rw [List.length_map]; omega)
          rw [List.getElem?_map, hc]
          rfl
        · rintro H4 ⟨s5, hp⟩
          rw [List.take_of_length_le (by rw [List.length_map, List.length_map]; exact Nat.le_refl _)] at hp
          refine ⟨_, rfl, _, rfl, _, _, rfl, rfl, hg, ?_⟩
          intro x dx nx ndx nex
          refine ⟨x, dx, _, _, rfl, upd_same, fun H5 hx kp => ⟨rfl, ?_⟩⟩
          have s6 := Same.made nx ndx kp
          refine k H5 x (((s3.trans s4).trans s5).trans s6) ⟨dx, D, ?_, ?_⟩
          · rw [hx]
            unfold Rr.reduced
            rw [← el]
          · show H5 D = _
            rw [s6 _ _ hp]
            unfold Rr.reduced
            rw [← el]
    · rintro m σ H1 ⟨b, l, kk, rfl, hb, s1, hb1, hb2, hk, hst, rfl⟩
      refine ⟨_, rfl, b, _, rfl, .inl (SqL.of hb), _, _, rfl, rfl, _, rfl, ite2 (fun c => ?_) (fun c => ?_)⟩
      · have c' : (1 : Int) < ((l.map V.int).length : Nat) := of_decide_eq_true c
        rw [List.length_map] at c'
        refine ⟨_, rfl, _, rfl, b, _, rfl, .inl (SqL.of hb), _, _, rfl, rfl, ⟨by decide, by decide⟩, _, rfl, b, _, rfl, SqL.of hb, fun q hq => ?_⟩
        rw [cut_hi (half_eq l) (by omega)]
        have s2 := same_new (o := .lst ((l.drop (l.length / 2)).map V.int)) hq
        refine ⟨q, _, rfl, SqL.of upd_same, _, rfl, ite2 (fun c2 => ?_) (fun c2 => ?_)⟩
        · have c3 : ∀ x ∈ l.drop (l.length / 2), x = 0 := (any_iff _).mp (by simpa using c2)
          refine ⟨fun σ' H' => ∃ q2, σ' = [some (.ref q2), some (.int u), none, none] ∧ IL H' q2 (l.take (l.length / 2)) ∧ Same H1 H', fun σ' H' ⟨q2, e1, e2, e3⟩ => ?_, ?_⟩
          · obtain ⟨k2, rfl⟩ : ∃ k2, kk = k2 + 1 := ⟨kk - 1, by omega⟩
            have ll : (l.take (l.length / 2)).length = l.length / 2 := by rw [List.length_take]; omega
            refine ⟨l.length / 2, by omega, q2, _, k2, e1, e2, s1.trans e3, by omega, by omega, by omega, ?_, ll.symm⟩
            rw [← hst, strip_go ⟨by omega, c3⟩]
          · refine ⟨_, rfl, _, rfl, b, _, rfl, .inl (SqL.of (s2 _ _ hb)), _, _, rfl, rfl, ⟨by decide, by decide⟩, _, rfl, b, _, rfl, SqL.of (s2 _ _ hb), fun q2 hq2 => ?_⟩
            rw [cut_lo (half_eq l) (by omega)]
            exact ⟨q2, rfl, upd_same, s2.trans (same_new hq2)⟩
        · refine fin _ _ ⟨b, l, rfl, s2 _ _ hb, s1.trans s2, hb2, ?_⟩
          rw [← hst, strip_stop fun z => c2 ?_]
          have := (any_iff _).mpr z.2
          simpa using z.2
      · refine iteF (fin _ _ ⟨b, l, rfl, hb, s1, hb2, ?_⟩)
        rw [← hst, strip_stop fun z => c (decide_eq_true ?_)]
        have := z.1
        rw [List.length_map]
        omega
end
end Wk
end
section
set_option Elab.async false
set_option linter.all false
set_option maxRecDepth 100000
set_option maxHeartbeats 2000000
namespace Wk
open PySem PySem.Spec PyProof.Rows L2
/-! ### the dict of the roots -/
def RtsAt (H : Hp) (kvs : List (Key × V)) : List (List Int) → Prop
  | [] => True
  | r :: τ => (∃ a, valV kvs (Sum.inl ((2 ^ τ.length : Nat) : Int)) = some (.ref a) ∧ IL H a r) ∧ RtsAt H kvs τ
theorem RtsAt.same {H H' : Hp} {kvs : List (Key × V)} (s : Same H H') : ∀ {τ : List (List Int)}, RtsAt H kvs τ → RtsAt H' kvs τ
  | [], _ => trivial
  | r :: τ, ⟨⟨a, h1, h2⟩, h3⟩ => ⟨⟨a, h1, s _ _ h2⟩, RtsAt.same s h3⟩
def RAt (H : Hp) (d : Addr) (τ : List (List Int)) : Prop := ∃ kvs, H d = some (.dK kvs) ∧ RtsAt H kvs τ
theorem RAt.same {H H' : Hp} {d : Addr} {τ : List (List Int)} (h : RAt H d τ) (s : Same H H') : RAt H' d τ := by
  obtain ⟨kvs, a, b⟩ := h
  exact ⟨kvs, s _ _ a, b.same s⟩
theorem RAt.tail {H : Hp} {d : Addr} {r : List Int} {τ : List (List Int)} (h : RAt H d (r :: τ)) : RAt H d τ := by
  obtain ⟨kvs, a, b⟩ := h
  exact ⟨kvs, a, b.2⟩
theorem RAt.low {H : Hp} {d : Addr} : ∀ {τ : List (List Int)} (n : Nat), RAt H d τ → RAt H d (Rr.low τ n)
  | [], _, h => h
  | r :: τ, n, h => by
    by_cases q : n ≤ 2 ^ τ.length
    · rw [Rr.low_short q]
      exact RAt.low n h.tail
    · rw [Rr.low_full q]
      exact h
theorem RAt.get {H : Hp} {d : Addr} {r : List Int} {τ : List (List Int)} (h : RAt H d (r :: τ)) {z : Int} (hz : z = ((2 ^ τ.length : Nat) : Int)) : ∃ a, DGet H d (.int z) (some (.ref a)) ∧ IL H a r := by
  obtain ⟨kvs, a, ⟨b, h1, h2⟩, h3⟩ := h
  subst hz
  refine ⟨b, ?_, h2⟩
  have := DGet.k (k := Sum.inl ((2 ^ τ.length : Nat) : Int)) a
  rw [h1] at this
  exact this
theorem pow32 {n : Nat} (h : n ≤ 5) : 2 ^ n ≤ 32 := Nat.pow_le_pow_right (n := 2) (by decide) h
/-- products of numbers within the bound go -/
def Goes (B : Nat) : Prop := ∀ x y : Int, x.natAbs * y.natAbs ≤ B → IntMulOk x y
section
variable {P : Program} {w : World} {K : PySem.W.Frag} {mg : Str → Option Value} {base : Heap}
/-! ### parts_product -/
def spProd (B n : Nat) : Sp := fun vs H Q _ => ∃ (a b d : Addr) (u v : List Int) (τ : List (List Int)), vs = [.ref a, .ref b, .ref d] ∧ IL H a u ∧ IL H b v ∧ RAt H d τ ∧ τ.length ≤ n ∧ Rr.Rts τ ∧ Rr.Pit τ u ∧ Rr.Pit τ v ∧ Rr.sz τ u * Rr.sz τ v ≤ B ∧
  ∀ (H' : Hp) (p : Addr), Same H H' → IL H' p (Rr.pprod τ u v) → Q (.ref p) H'
theorem scProd : FnScope ["u", "v", "roots", "half", "a", "b", "c", "d", "beside_root", "first", "second"] ["u", "v", "roots"] (defScope sProd) := ⟨rfl, rfl, rfl, by decide +kernel, rfl, by decide +kernel, by decide +kernel⟩
theorem ok_prod {B : Nat} (hB : Goes B) (T : Blt mg) (sm : Dn P w K mg base "parts_sum" 1 ["u", "v"] spSum) (d : Df K mg "parts_product" sProd ["u", "v", "roots"]) :
    ∀ n, n ≤ 5 → Dn P w K mg base "parts_product" (n + 2) ["u", "v", "roots"] (spProd B n) := by
  intro n hn5
  induction n with
  | zero =>
    refine d.dn scProd (fun vs H Q E h => ?_) (fun f cdv A outer s H vs Q E hr h => ?_)
    · obtain ⟨a, b, d, u, v, τ, rfl, _⟩ := h
      rfl
    · obtain ⟨a, b, d, u, v, τ, rfl, ha, hb, hd, hn, R, hu, hv, hs, k⟩ := h
      obtain rfl : τ = [] := List.eq_nil_of_length_eq_zero (by omega)
      obtain ⟨x, rfl⟩ : ∃ x, u = [x] := List.length_eq_one_iff.mp hu
      obtain ⟨y, rfl⟩ : ∃ y, v = [y] := List.length_eq_one_iff.mp hv
      refine ⟨_, pss_cons (ps_if (PW.pt (pw_or (pt_not (pt_val (pe_callB (cr_anyI rfl) (by rfl) T.any PyProof.Rows.boot_any (pa_cons (pv 0) pa_nil)))) (pw_or1 (pt_not (pt_val (pe_callB (cr_anyI rfl) (by rfl) T.any PyProof.Rows.boot_any (pa_cons (pv 1) pa_nil))))))) (pss_one (ps_ret (pe_op op_rep (pe_lst (pa_cons pe_int pa_nil)) (pe_callB call_len_seq (by rfl) T.len PySem.boot_len (pa_cons (pv 0) pa_nil))))) pss_nil)
        (pss_cons (ps_set (i := 3) scProd.nd rfl (Or.inl rfl) (pe_op op_fdiv (pe_callB call_len_seq (by rfl) T.len PySem.boot_len (pa_cons (pv 0) pa_nil)) pe_int))
        (pss_cons (ps_if (pt_cmpR op_eq (pv 3) pe_int (nomark _)) (pss_one (ps_ret (pe_lst (pa_cons (pe_op op_mulB (pe_ix ix_list (pv 0) pe_int (fun _ _ => rfl)) (pe_ix ix_list (pv 1) pe_int (fun _ _ => rfl))) pa_nil)))) pss_nil) pss_never)), ?_⟩
      have zero : ((∀ c ∈ [x], c = 0) ∨ ∀ c ∈ [y], c = 0) → ∀ (H' : Hp) (p : Addr), Same H H' → H' p = some (.lst [V.int 0]) → Q (.ref p) H' := fun z H' p s1 hp => by
        refine k H' p s1 ?_
        rw [Rr.pprod_zero R hu hv z]
        exact hp
      have fin : ∀ z : List Int, z = [x] ∨ z = [y] → (z.any fun n => n != 0) = false → (∀ c ∈ [x], c = 0) ∨ ∀ c ∈ [y], c = 0 := fun z hz q => by
        rcases hz with rfl | rfl
        · exact .inl ((any_iff _).mp q)
        · exact .inr ((any_iff _).mp q)
      refine ⟨_, rfl, a, _, rfl, SqL.of ha, _, rfl, ite2 (fun c => iteT ?_) (fun c => ?_)⟩
      · have z := fin [x] (.inl rfl) (by simpa using c)
        refine ⟨(by show 1 ≤ sizeLine; decide), fun l hl => ⟨_, rfl, a, _, rfl, .inl (SqL.of (same_new hl _ _ ha)), l, _, [V.int 0], rfl, rfl, upd_same, (by show -(2 ^ 63 : Int) ≤ 1; decide), (by show (1 : Int) < 2 ^ 63; decide), (by show 1 * 1 ≤ sizeLine; decide), fun p hp => ?_⟩⟩
        exact zero z _ p ((same_new hl).trans (same_new hp)) upd_same
      refine ⟨_, rfl, b, _, rfl, SqL.of hb, _, rfl, ite2 (fun c2 => ?_) (fun c2 => ?_)⟩
      · have z := fin [y] (.inr rfl) (by simpa using c2)
        refine ⟨(by show 1 ≤ sizeLine; decide), fun l hl => ⟨_, rfl, a, _, rfl, .inl (SqL.of (same_new hl _ _ ha)), l, _, [V.int 0], rfl, rfl, upd_same, (by show -(2 ^ 63 : Int) ≤ 1; decide), (by show (1 : Int) < 2 ^ 63; decide), (by show 1 * 1 ≤ sizeLine; decide), fun p hp => ?_⟩⟩
        exact zero z _ p ((same_new hl).trans (same_new hp)) upd_same
      refine ⟨_, rfl, a, _, rfl, .inl (SqL.of ha), _, _, rfl, rfl, ⟨by decide, by decide⟩, _, rfl, rfl, _, rfl, ite2 (fun _ => ?_) (fun c3 => (c3 (decide_eq_true (by show V.int (((1 : Nat) : Int) / 2) = V.int 0; decide))).elim)⟩
      refine ⟨_, rfl, a, _, _, _, rfl, rfl, SqL.of ha, at_of (j := 0) rfl rfl, _, rfl, b, _, _, _, rfl, rfl, SqL.of hb, at_of (j := 0) rfl rfl, _, _, rfl, rfl, hB x y (by simpa [Rr.sz_base] using hs), (by show 1 ≤ sizeLine; decide), fun p hp => ?_⟩
      exact k _ p (same_new hp) upd_same
  | succ n ih =>
    have rc := ih (by omega)
    refine d.dn scProd (fun vs H Q E h => ?_) (fun f cdv A outer s H vs Q E hr h => ?_)
    · obtain ⟨a, b, d, u, v, τ, rfl, _⟩ := h
      rfl
    · obtain ⟨a, b, d, u, v, τ, rfl, ha, hb, hd, hn, R, hu, hv, hs, k⟩ := h
      have hr1 : Room 1 _ := hr.mono (by omega)
      have hr2 : Room (n + 2) _ := hr
      have hU := hu_of hr
      refine ⟨_, pss_cons (ps_if (PW.pt (pw_or (pt_not (pt_val (pe_callB (cr_anyI rfl) (by rfl) T.any PyProof.Rows.boot_any (pa_cons (pv 0) pa_nil)))) (pw_or1 (pt_not (pt_val (pe_callB (cr_anyI rfl) (by rfl) T.any PyProof.Rows.boot_any (pa_cons (pv 1) pa_nil))))))) (pss_one (ps_ret (pe_op op_rep (pe_lst (pa_cons pe_int pa_nil)) (pe_callB call_len_seq (by rfl) T.len PySem.boot_len (pa_cons (pv 0) pa_nil))))) pss_nil)
        (pss_cons (ps_set (i := 3) scProd.nd rfl (Or.inl rfl) (pe_op op_fdiv (pe_callB call_len_seq (by rfl) T.len PySem.boot_len (pa_cons (pv 0) pa_nil)) pe_int))
        (pss_cons (ps_if (pt_cmpR op_eq (pv 3) pe_int (nomark _)) (pss_one (ps_ret (pe_lst (pa_cons (pe_op op_mulB (pe_ix ix_list (pv 0) pe_int (fun _ _ => rfl)) (pe_ix ix_list (pv 1) pe_int (fun _ _ => rfl))) pa_nil)))) pss_nil)
        (pss_cons (ps_set (i := 4) scProd.nd rfl (Or.inl rfl) (pe_slice sl_list (pv 0) po_none (po_some (pv 3))))
        (pss_cons (ps_set (i := 5) scProd.nd rfl (Or.inl rfl) (pe_slice sl_list (pv 0) (po_some (pv 3)) po_none))
        (pss_cons (ps_set (i := 6) scProd.nd rfl (Or.inl rfl) (pe_slice sl_list (pv 1) po_none (po_some (pv 3))))
        (pss_cons (ps_set (i := 7) scProd.nd rfl (Or.inl rfl) (pe_slice sl_list (pv 1) (po_some (pv 3)) po_none))
        (pss_cons (ps_set (i := 8) scProd.nd rfl (Or.inl rfl) (pe_cd rc hr2 (by rfl) (pa_cons (pe_cd rc hr2 (by rfl) (pa_cons (pv 5) (pa_cons (pv 7) (pa_cons (pv 2) pa_nil)))) (pa_cons (pe_dget hU (pv 2) (pv 3) (fun _ _ => rfl)) (pa_cons (pv 2) pa_nil)))))
        (pss_cons (ps_set (i := 9) scProd.nd rfl (Or.inl rfl) (pe_cd sm hr1 (by rfl) (pa_cons (pe_cd rc hr2 (by rfl) (pa_cons (pv 4) (pa_cons (pv 6) (pa_cons (pv 2) pa_nil)))) (pa_cons (pv 8) pa_nil))))
        (pss_cons (ps_set (i := 10) scProd.nd rfl (Or.inl rfl) (pe_cd sm hr1 (by rfl) (pa_cons (pe_cd rc hr2 (by rfl) (pa_cons (pv 4) (pa_cons (pv 7) (pa_cons (pv 2) pa_nil)))) (pa_cons (pe_cd rc hr2 (by rfl) (pa_cons (pv 5) (pa_cons (pv 6) (pa_cons (pv 2) pa_nil)))) pa_nil))))
        (pss_one (ps_ret (pe_op op_cat (pv 9) (pv 10))))))))))))), ?_⟩
      have hul : u.length ≤ 32 := by rw [show u.length = 2 ^ τ.length from hu]; exact pow32 (by omega)
      have hvu : v.length = u.length := by rw [show u.length = 2 ^ τ.length from hu]; exact hv
      have zero : ((∀ c ∈ u, c = 0) ∨ ∀ c ∈ v, c = 0) → ∀ (H' : Hp) (p : Addr), Same H H' → H' p = some (.lst (List.replicate u.length (V.int 0))) → Q (.ref p) H' := fun z H' p s1 hp => by
        refine k H' p s1 ?_
        rw [Rr.pprod_zero R hu hv z]
        show H' p = _
        rw [hp, List.map_replicate]
      have rep : ∀ (z : (∀ c ∈ u, c = 0) ∨ ∀ c ∈ v, c = 0), tOp rRep (tLst (tCons (tC (.int 0)) tNil)) (tCB (fun xs H Q => ∃ p ys, xs = [V.ref p] ∧ (SqL K H p ys ∨ SqT K H p ys) ∧ Q (V.int ys.length) H) (tCons (tVar 0) tNil)) (start ["u", "v", "roots", "half", "a", "b", "c", "d", "beside_root", "first", "second"] [V.ref a, V.ref b, V.ref d]) H Q := fun z => by
        refine ⟨(by show 1 ≤ sizeLine; decide), fun l hl => ⟨_, rfl, a, _, rfl, .inl (SqL.of (same_new hl _ _ ha)), l, _, [V.int 0], rfl, rfl, upd_same, ?_, ?_, ?_, fun p hp => ?_⟩⟩
        · rw [List.length_map]; omega
        · rw [List.length_map]; omega
        · rw [List.length_map]
          exact line1000 (by show 1 * _ ≤ 1000; omega)
        · refine zero z _ p ((same_new hl).trans (same_new hp)) ?_
          rw [upd_same, List.length_map, rep_one]
          rfl
      refine ⟨_, rfl, a, _, rfl, SqL.of ha, _, rfl, ite2 (fun c => iteT ?_) (fun c => ?_)⟩
      · exact rep (.inl ((any_iff _).mp (by simpa using c)))
      refine ⟨_, rfl, b, _, rfl, SqL.of hb, _, rfl, ite2 (fun c2 => ?_) (fun c2 => ?_)⟩
      · exact rep (.inr ((any_iff _).mp (by simpa using c2)))
      refine ⟨_, rfl, a, _, rfl, .inl (SqL.of ha), _, _, rfl, rfl, ⟨by decide, by decide⟩, _, rfl, rfl, _, rfl, ?_⟩
      match τ, hd, hn, R, hu, hv, hs, k with
      | [], hd, hn, R, hu, hv, hs, k =>
        obtain ⟨x, rfl⟩ : ∃ x, u = [x] := List.length_eq_one_iff.mp hu
        obtain ⟨y, rfl⟩ : ∃ y, v = [y] := List.length_eq_one_iff.mp hv
        refine ite2 (fun _ => ?_) (fun c3 => (c3 (decide_eq_true (by show V.int (((1 : Nat) : Int) / 2) = V.int 0; decide))).elim)
        refine ⟨_, rfl, a, _, _, _, rfl, rfl, SqL.of ha, at_of (j := 0) rfl rfl, _, rfl, b, _, _, _, rfl, rfl, SqL.of hb, at_of (j := 0) rfl rfl, _, _, rfl, rfl, hB x y (by simpa [Rr.sz_base] using hs), (by show 1 ≤ sizeLine; decide), fun p hp => ?_⟩
        exact k _ p (same_new hp) upd_same
      | r :: τ, hd, hn, R, hu, hv, hs, k =>
        have hh : u.length / 2 = 2 ^ τ.length := hu.half
        have hp0 := Rr.two_pos τ.length
        have h2 := half_eq u
        have ne0 : ¬ ((((u.map V.int).length : Nat) : Int) / 2 = 0) := by rw [h2]; omega
        refine ite2 (fun c3 => absurd (V.int.inj (of_decide_eq_true c3)) ne0) (fun _ => ?_)
        obtain ⟨q1, q2, q3, q4, q5⟩ := Rr.sz_five R hu hv hs
        rw [hvu] at q1 q2 q3 q4 q5
        have vlo := hv.lo
        have vhi := hv.hi
        rw [hvu] at vlo vhi
        -- the halves
        refine ⟨_, rfl, _, rfl, _, rfl, a, _, rfl, SqL.of ha, fun pa hpa => ?_⟩
        rw [cut_lo h2 (by omega)]
        have s1 := same_new (o := .lst ((u.take (u.length / 2)).map V.int)) hpa
        have ga : IL (upd H pa _) pa (u.take (u.length / 2)) := upd_same
        generalize upd H pa _ = H1 at s1 ga
        refine ⟨_, rfl, _, rfl, _, rfl, a, _, rfl, SqL.of (s1 _ _ ha), fun pb hpb => ?_⟩
        rw [cut_hi h2 (by omega)]
        have s2 := same_new (o := .lst ((u.drop (u.length / 2)).map V.int)) hpb
        have gb : IL (upd H1 pb _) pb (u.drop (u.length / 2)) := upd_same
        generalize upd H1 pb _ = H2 at s2 gb
        have s02 := s1.trans s2
        refine ⟨_, rfl, _, rfl, _, rfl, b, _, rfl, SqL.of (s02 _ _ hb), fun pc hpc => ?_⟩
        rw [cut_lo h2 (by omega)]
        have s3 := same_new (o := .lst ((v.take (u.length / 2)).map V.int)) hpc
        have gc : IL (upd H2 pc _) pc (v.take (u.length / 2)) := upd_same
        generalize upd H2 pc _ = H3 at s3 gc
        have s03 := s02.trans s3
        refine ⟨_, rfl, _, rfl, _, rfl, b, _, rfl, SqL.of (s03 _ _ hb), fun pd hpd => ?_⟩
        rw [cut_hi h2 (by omega)]
        have s4 := same_new (o := .lst ((v.drop (u.length / 2)).map V.int)) hpd
        have gd : IL (upd H3 pd _) pd (v.drop (u.length / 2)) := upd_same
        generalize upd H3 pd _ = H4 at s4 gd
        have s04 := s03.trans s4
        have ga4 := s4 _ _ (s3 _ _ (s2 _ _ ga))
        have gb4 := s4 _ _ (s3 _ _ gb)
        have gc4 := s4 _ _ gc
        -- beside_root
        refine ⟨_, rfl, _, rfl, _, rfl, pb, pd, d, _, _, τ, rfl, gb4, gd, (hd.same s04).tail, by simpa using hn, R.2, hu.hi, vhi, q2, fun H5 p5 s5 g5 => ?_⟩
        obtain ⟨pr, dg, gr⟩ := (hd.same (s04.trans s5)).get (z := ((u.map V.int).length : Int) / 2) (by rw [h2, hh])
        refine ⟨_, rfl, _, rfl, d, _, rfl, dg, _, rfl, p5, pr, d, _, _, τ, rfl, g5, gr, (hd.same (s04.trans s5)).tail, by simpa using hn, R.2, Rr.pprod_len R.2 hu.hi vhi, R.1, q5, fun H6 p6 s6 g6 => ?_⟩
        have s46 := s5.trans s6
        -- first
        refine ⟨_, rfl, _, rfl, _, rfl, pa, pc, d, _, _, τ, rfl, s46 _ _ ga4, s46 _ _ gc4, (hd.same (s04.trans s46)).tail, by simpa using hn, R.2, hu.lo, vlo, q1, fun H7 p7 s7 g7 => ?_⟩
        have l1 : (Rr.pprod τ (u.take (u.length / 2)) (v.take (u.length / 2))).length = 2 ^ τ.length := Rr.pprod_len R.2 hu.lo vlo
        have l2 : (Rr.pprod τ (Rr.pprod τ (u.drop (u.length / 2)) (v.drop (u.length / 2))) r).length = 2 ^ τ.length := Rr.pprod_len R.2 (Rr.pprod_len R.2 hu.hi vhi) R.1
        refine ⟨_, rfl, p7, p6, _, _, rfl, g7, s7 _ _ g6, by rw [l1, l2], by omega, fun H8 p8 s8 g8 => ?_⟩
        have s48 := (s46.trans s7).trans s8
        -- second
        refine ⟨_, rfl, _, rfl, _, rfl, pa, pd, d, _, _, τ, rfl, s48 _ _ ga4, s48 _ _ gd, (hd.same (s04.trans s48)).tail, by simpa using hn, R.2, hu.lo, vhi, q3, fun H9 p9 s9 g9 => ?_⟩
        have s49 := s48.trans s9
        refine ⟨_, rfl, _, rfl, _, rfl, pb, pc, d, _, _, τ, rfl, s49 _ _ gb4, s49 _ _ gc4, (hd.same (s04.trans s49)).tail, by simpa using hn, R.2, hu.hi, vlo, q4, fun H10 p10 s10 g10 => ?_⟩
        have l3 : (Rr.pprod τ (u.take (u.length / 2)) (v.drop (u.length / 2))).length = 2 ^ τ.length := Rr.pprod_len R.2 hu.lo vhi
        have l4 : (Rr.pprod τ (u.drop (u.length / 2)) (v.take (u.length / 2))).length = 2 ^ τ.length := Rr.pprod_len R.2 hu.hi vlo
        refine ⟨p9, p10, _, _, rfl, s10 _ _ g9, g10, by rw [l3, l4], by omega, fun H11 p11 s11 g11 => ?_⟩
        have m1 : (Rr.psum (Rr.pprod τ (u.take (u.length / 2)) (v.take (u.length / 2))) (Rr.pprod τ (Rr.pprod τ (u.drop (u.length / 2)) (v.drop (u.length / 2))) r)).length ≤ 32 := by
          unfold Rr.psum
          rw [List.length_zipWith, l1, l2]; omega
        have m2 : (Rr.psum (Rr.pprod τ (u.take (u.length / 2)) (v.drop (u.length / 2))) (Rr.pprod τ (u.drop (u.length / 2)) (v.take (u.length / 2)))).length ≤ 32 := by
          unfold Rr.psum
          rw [List.length_zipWith, l3, l4]; omega
        refine ⟨_, rfl, _, rfl, p8, p11, _, _, rfl, rfl, s11 _ _ (s10 _ _ (s9 _ _ g8)), g11, ?_, fun p hp => ?_⟩
        · rw [List.length_map, List.length_map]
          exact line1000 (by omega)
        · refine k _ p (((((s04.trans s48).trans s9).trans s10).trans s11).trans (same_new hp)) ?_
          show upd _ p _ p = _
          rw [upd_same, Rr.pprod_cons, List.map_append]
end
end Wk
end
section
set_option Elab.async false
set_option linter.all false
set_option maxRecDepth 100000
set_option maxHeartbeats 2000000
namespace Wk
open PySem PySem.Spec PyProof.Rows L2
theorem mul_m1 (c : Int) : IntMulOk c (-1) := IntMulOk.of_right (by decide)
theorem mul_one_of {a b : Int} (h : a = -1 ∨ a = 0 ∨ a = 1) : IntMulOk a b := IntMulOk.of_left (by rcases h with rfl | rfl | rfl <;> decide)
section
variable {P : Program} {w : World} {K : PySem.W.Frag} {mg : Str → Option Value} {base : Heap}
/-! ### parts_norm -/
def spNorm (B n : Nat) : Sp := fun vs H Q _ => ∃ (a d : Addr) (u r : List Int) (τ : List (List Int)), vs = [.ref a, .ref d] ∧ IL H a u ∧ RAt H d (r :: τ) ∧ τ.length ≤ n ∧ Rr.Rts (r :: τ) ∧ Rr.Pit (r :: τ) u ∧ Rr.sz (r :: τ) u * Rr.sz (r :: τ) u ≤ B ∧
  ∀ (H' : Hp) (p : Addr), Same H H' → IL H' p (Rr.pnorm r τ u) → Q (.ref p) H'
theorem scNorm : FnScope ["parts", "roots", "half", "a", "b", "rest"] ["parts", "roots"] (defScope sNorm) := ⟨rfl, rfl, rfl, by decide +kernel, rfl, by decide +kernel, by decide +kernel⟩
theorem ok_norm {B n : Nat} (hn4 : n ≤ 4) (T : Blt mg) (sm : Dn P w K mg base "parts_sum" 1 ["u", "v"] spSum) (sc : Dn P w K mg base "scaled" 1 ["parts", "factor"] spScaled) (rc : Dn P w K mg base "parts_product" (n + 2) ["u", "v", "roots"] (spProd B n)) (d : Df K mg "parts_norm" sNorm ["parts", "roots"]) :
    Dn P w K mg base "parts_norm" (n + 3) ["parts", "roots"] (spNorm B n) := by
  refine d.dn scNorm (fun vs H Q E h => ?_) (fun f cdv A outer s H vs Q E hr h => ?_)
  · obtain ⟨a, d, u, r, τ, rfl, _⟩ := h
    rfl
  · obtain ⟨a, d, u, r, τ, rfl, ha, hd, hn, R, hu, hs, k⟩ := h
    have hr1 : Room 1 _ := hr.mono (by omega)
    have hr2 : Room (n + 2) _ := hr
    have hU := hu_of hr
    refine ⟨_, pss_cons (ps_set (i := 2) scNorm.nd rfl (Or.inl rfl) (pe_op op_fdiv (pe_callB call_len_seq (by rfl) T.len PySem.boot_len (pa_cons (pv 0) pa_nil)) pe_int))
      (pss_cons (ps_set (i := 3) scNorm.nd rfl (Or.inl rfl) (pe_slice sl_list (pv 0) po_none (po_some (pv 2))))
      (pss_cons (ps_set (i := 4) scNorm.nd rfl (Or.inl rfl) (pe_slice sl_list (pv 0) (po_some (pv 2)) po_none))
      (pss_cons (ps_set (i := 5) scNorm.nd rfl (Or.inl rfl) (pe_cd rc hr2 (by rfl) (pa_cons (pe_cd rc hr2 (by rfl) (pa_cons (pv 4) (pa_cons (pv 4) (pa_cons (pv 1) pa_nil)))) (pa_cons (pe_dget hU (pv 1) (pv 2) (fun _ _ => rfl)) (pa_cons (pv 1) pa_nil)))))
      (pss_one (ps_ret (pe_cd sm hr1 (by rfl) (pa_cons (pe_cd rc hr2 (by rfl) (pa_cons (pv 3) (pa_cons (pv 3) (pa_cons (pv 1) pa_nil)))) (pa_cons (pe_cd sc hr1 (by rfl) (pa_cons (pv 5) (pa_cons (pe_un un_neg pe_int) pa_nil))) pa_nil)))))))), ?_⟩
    have hul : u.length ≤ 32 := by rw [show u.length = 2 ^ (r :: τ).length from hu]; exact pow32 (by rw [List.length_cons]; omega)
    have h2 := half_eq u
    have hh : u.length / 2 = 2 ^ τ.length := hu.half
    obtain ⟨q1, q2, q3, q4, q5⟩ := Rr.sz_five R hu hu hs
    refine ⟨_, rfl, a, _, rfl, .inl (SqL.of ha), _, _, rfl, rfl, ⟨by decide, by decide⟩, ?_⟩
    refine ⟨_, rfl, _, rfl, _, rfl, a, _, rfl, SqL.of ha, fun pa hpa => ?_⟩
    rw [cut_lo h2 (by omega)]
    have s1 := same_new (o := .lst ((u.take (u.length / 2)).map V.int)) hpa
    have ga : IL (upd H pa _) pa (u.take (u.length / 2)) := upd_same
    generalize upd H pa _ = H1 at s1 ga
    refine ⟨_, rfl, _, rfl, _, rfl, a, _, rfl, SqL.of (s1 _ _ ha), fun pb hpb => ?_⟩
    rw [cut_hi h2 (by omega)]
    have s2 := same_new (o := .lst ((u.drop (u.length / 2)).map V.int)) hpb
    have gb : IL (upd H1 pb _) pb (u.drop (u.length / 2)) := upd_same
    generalize upd H1 pb _ = H2 at s2 gb
    have s02 := s1.trans s2
    have ga2 := s2 _ _ ga
    refine ⟨_, rfl, _, rfl, _, rfl, pb, pb, d, _, _, τ, rfl, gb, gb, (hd.same s02).tail, hn, R.2, hu.hi, hu.hi, q2, fun H5 p5 s5 g5 => ?_⟩
    obtain ⟨pr, dg, gr⟩ := (hd.same (s02.trans s5)).get (z := ((u.map V.int).length : Int) / 2) (by rw [h2, hh])
    refine ⟨_, rfl, _, rfl, d, _, rfl, dg, _, rfl, p5, pr, d, _, _, τ, rfl, g5, gr, (hd.same (s02.trans s5)).tail, hn, R.2, Rr.pprod_len R.2 hu.hi hu.hi, R.1, q5, fun H6 p6 s6 g6 => ?_⟩
    have s26 := s5.trans s6
    refine ⟨_, rfl, _, rfl, _, rfl, pa, pa, d, _, _, τ, rfl, s26 _ _ ga2, s26 _ _ ga2, (hd.same (s02.trans s26)).tail, hn, R.2, hu.lo, hu.lo, q1, fun H7 p7 s7 g7 => ?_⟩
    have l1 : (Rr.pprod τ (u.take (u.length / 2)) (u.take (u.length / 2))).length = 2 ^ τ.length := Rr.pprod_len R.2 hu.lo hu.lo
    have l2 : (Rr.pprod τ (Rr.pprod τ (u.drop (u.length / 2)) (u.drop (u.length / 2))) r).length = 2 ^ τ.length := Rr.pprod_len R.2 (Rr.pprod_len R.2 hu.hi hu.hi) R.1
    refine ⟨_, rfl, _, rfl, p6, _, -1, rfl, s7 _ _ g6, by omega, fun c _ => mul_m1 c, fun H8 p8 s8 g8 => ?_⟩
    refine ⟨p7, p8, _, _, rfl, s8 _ _ g7, g8, ?_, by omega, fun H9 p9 s9 g9 => ?_⟩
    · unfold Rr.pscale
      rw [List.length_map, l1, l2]
    · exact k _ p9 ((((s02.trans s26).trans s7).trans s8).trans s9) g9
/-! ### parts_sign -/
def spPsign (B n : Nat) : Sp := fun vs H Q _ => ∃ (a d : Addr) (u : List Int) (τ : List (List Int)), vs = [.ref a, .ref d] ∧ IL H a u ∧ RAt H d τ ∧ τ.length ≤ n ∧ Rr.Rts τ ∧ Rr.Pit τ u ∧ Rr.sz τ u ^ 2 ^ τ.length ≤ B ∧
  ∀ H' : Hp, Same H H' → Q (.int (Rr.psign τ u)) H'
theorem scPsign : FnScope ["parts", "roots", "half", "first", "second"] ["parts", "roots"] (defScope sPsign) := ⟨rfl, rfl, rfl, by decide +kernel, rfl, by decide +kernel, by decide +kernel⟩
theorem ok_psign {B : Nat} (T : Blt mg) (ws : Dn P w K mg base "whole_sign" 1 ["n"] spWsign) (nm : ∀ n, n ≤ 4 → Dn P w K mg base "parts_norm" (n + 3) ["parts", "roots"] (spNorm B n)) (d : Df K mg "parts_sign" sPsign ["parts", "roots"]) :
    ∀ n, n ≤ 5 → Dn P w K mg base "parts_sign" (n + 3) ["parts", "roots"] (spPsign B n) := by
  intro n hn5
  induction n with
  | zero =>
    refine d.dn scPsign (fun vs H Q E h => ?_) (fun f cdv A outer s H vs Q E hr h => ?_)
    · obtain ⟨a, d, u, τ, rfl, _⟩ := h
      rfl
    · obtain ⟨a, d, u, τ, rfl, ha, hd, hn, R, hu, hs, k⟩ := h
      obtain rfl : τ = [] := List.eq_nil_of_length_eq_zero (by omega)
      obtain ⟨x, rfl⟩ : ∃ x, u = [x] := List.length_eq_one_iff.mp hu
      have hr1 : Room 1 _ := hr.mono (by omega)
      refine ⟨_, pss_cons (ps_set (i := 2) scPsign.nd rfl (Or.inl rfl) (pe_op op_fdiv (pe_callB call_len_seq (by rfl) T.len PySem.boot_len (pa_cons (pv 0) pa_nil)) pe_int))
        (pss_cons (ps_if (pt_cmpR op_eq (pv 2) pe_int (nomark _)) (pss_one (ps_ret (pe_cd ws hr1 (by rfl) (pa_cons (pe_ix ix_list (pv 0) pe_int (fun _ _ => rfl)) pa_nil)))) pss_nil) pss_never), ?_⟩
      refine ⟨_, rfl, a, _, rfl, .inl (SqL.of ha), _, _, rfl, rfl, ⟨by decide, by decide⟩, _, rfl, rfl, _, rfl, ite2 (fun _ => ?_) (fun c3 => (c3 (decide_eq_true (by show V.int (((1 : Nat) : Int) / 2) = V.int 0; decide))).elim)⟩
      exact ⟨_, rfl, a, _, _, _, rfl, rfl, SqL.of ha, at_of (j := 0) rfl rfl, x, rfl, k H fun _ _ e => e⟩
  | succ n ih =>
    have rc := ih (by omega)
    refine d.dn scPsign (fun vs H Q E h => ?_) (fun f cdv A outer s H vs Q E hr h => ?_)
    · obtain ⟨a, d, u, τ, rfl, _⟩ := h
      rfl
    · obtain ⟨a, d, u, τ, rfl, ha, hd, hn, R, hu, hs, k⟩ := h
      have hr1 : Room 1 _ := hr.mono (by omega)
      have hr3 : Room (n + 3) _ := hr
      have hU := hu_of hr
      refine ⟨_, pss_cons (ps_set (i := 2) scPsign.nd rfl (Or.inl rfl) (pe_op op_fdiv (pe_callB call_len_seq (by rfl) T.len PySem.boot_len (pa_cons (pv 0) pa_nil)) pe_int))
        (pss_cons (ps_if (pt_cmpR op_eq (pv 2) pe_int (nomark _)) (pss_one (ps_ret (pe_cd ws hr1 (by rfl) (pa_cons (pe_ix ix_list (pv 0) pe_int (fun _ _ => rfl)) pa_nil)))) pss_nil)
        (pss_cons (ps_set (i := 3) scPsign.nd rfl (Or.inl rfl) (pe_cd rc hr3 (by rfl) (pa_cons (pe_slice sl_list (pv 0) po_none (po_some (pv 2))) (pa_cons (pv 1) pa_nil))))
        (pss_cons (ps_set (i := 4) scPsign.nd rfl (Or.inl rfl) (pe_cd rc hr3 (by rfl) (pa_cons (pe_slice sl_list (pv 0) (po_some (pv 2)) po_none) (pa_cons (pv 1) pa_nil))))
        (pss_cons (ps_if (PW.pt (pw_or (pt_cmpR op_eq (pv 4) pe_int (nomark _)) (pw_or1 (pt_cmpR op_eq (pv 3) (pv 4) (nomark _))))) (pss_one (ps_ret (pv 3))) pss_nil)
        (pss_cons (ps_if (pt_cmpR op_eq (pv 3) pe_int (nomark _)) (pss_one (ps_ret (pv 4))) pss_nil)
        (pss_one (ps_ret (pe_op op_mulB (pv 3) (pe_cd rc hr3 (by rfl) (pa_cons (pe_cd (nm n (by omega)) hr3 (by rfl) (pa_cons (pv 0) (pa_cons (pv 1) pa_nil))) (pa_cons (pv 1) pa_nil))))))))))), ?_⟩
      refine ⟨_, rfl, a, _, rfl, .inl (SqL.of ha), _, _, rfl, rfl, ⟨by decide, by decide⟩, _, rfl, rfl, _, rfl, ?_⟩
      match τ, hd, hn, R, hu, hs, k with
      | [], hd, hn, R, hu, hs, k =>
        obtain ⟨x, rfl⟩ : ∃ x, u = [x] := List.length_eq_one_iff.mp hu
        refine ite2 (fun _ => ?_) (fun c3 => (c3 (decide_eq_true (by show V.int (((1 : Nat) : Int) / 2) = V.int 0; decide))).elim)
        exact ⟨_, rfl, a, _, _, _, rfl, rfl, SqL.of ha, at_of (j := 0) rfl rfl, x, rfl, k H fun _ _ e => e⟩
      | r :: τ, hd, hn, R, hu, hs, k =>
        have hul : u.length ≤ 64 := by
          rw [show u.length = 2 ^ (r :: τ).length from hu, List.length_cons, Nat.pow_succ]
          have := pow32 (n := τ.length) (by rw [List.length_cons] at hn; omega)
          omega
        have hn' : τ.length ≤ n := by simpa using hn
        have hh : u.length / 2 = 2 ^ τ.length := hu.half
        have hp0 := Rr.two_pos τ.length
        have h2 := half_eq u
        have ne0 : ¬ ((((u.map V.int).length : Nat) : Int) / 2 = 0) := by rw [h2]; omega
        refine ite2 (fun c3 => absurd (V.int.inj (of_decide_eq_true c3)) ne0) (fun _ => ?_)
        obtain ⟨z0, z1, z2, z3⟩ := Rr.sz_sign R hu hs
        have f1 := Rr.psign_range τ (u.take (u.length / 2))
        refine ⟨_, rfl, _, rfl, _, rfl, a, _, rfl, SqL.of ha, fun pa hpa => ?_⟩
        rw [cut_lo h2 (by omega)]
        have s1 := same_new (o := .lst ((u.take (u.length / 2)).map V.int)) hpa
        have ga : IL (upd H pa _) pa (u.take (u.length / 2)) := upd_same
        generalize upd H pa _ = H1 at s1 ga
        refine ⟨_, rfl, pa, d, _, τ, rfl, ga, (hd.same s1).tail, hn', R.2, hu.lo, z1, fun H2 s2 => ?_⟩
        have s02 := s1.trans s2
        refine ⟨_, rfl, _, rfl, _, rfl, a, _, rfl, SqL.of (s02 _ _ ha), fun pb hpb => ?_⟩
        rw [cut_hi h2 (by omega)]
        have s3 := same_new (o := .lst ((u.drop (u.length / 2)).map V.int)) hpb
        have gb : IL (upd H2 pb _) pb (u.drop (u.length / 2)) := upd_same
        generalize upd H2 pb _ = H3 at s3 gb
        have s03 := s02.trans s3
        refine ⟨_, rfl, pb, d, _, τ, rfl, gb, (hd.same s03).tail, hn', R.2, hu.hi, z2, fun H4 s4 => ?_⟩
        have s04 := s03.trans s4
        have kk := k
        unfold Rr.psign at kk
        dsimp only at kk
        generalize Rr.psign τ (u.take (u.length / 2)) = x at f1 kk ⊢
        generalize Rr.psign τ (u.drop (u.length / 2)) = y at kk ⊢
        refine ⟨_, rfl, rfl, _, rfl, ite2 (fun c => iteT ?_) (fun c => ?_)⟩
        · have c' : y = 0 := V.int.inj (of_decide_eq_true c)
          rw [if_pos (Or.inl c')] at kk
          exact ⟨_, rfl, kk _ s04⟩
        have c' : ¬ y = 0 := fun q => c (decide_eq_true (congrArg V.int q))
        refine ⟨_, rfl, _, rfl, rfl, _, rfl, ite2 (fun c2 => ?_) (fun c2 => ?_)⟩
        · have c2' : x = y := V.int.inj (of_decide_eq_true c2)
          rw [if_pos (Or.inr c2')] at kk
          exact ⟨_, rfl, kk _ s04⟩
        have c2' : ¬ x = y := fun q => c2 (decide_eq_true (congrArg V.int q))
        rw [if_neg (fun q => q.elim c' c2')] at kk
        refine ⟨_, rfl, rfl, _, rfl, ite2 (fun c3 => ?_) (fun c3 => ?_)⟩
        · have c3' : x = 0 := V.int.inj (of_decide_eq_true c3)
          rw [if_pos c3'] at kk
          exact ⟨_, rfl, kk _ s04⟩
        have c3' : ¬ x = 0 := fun q => c3 (decide_eq_true (congrArg V.int q))
        rw [if_neg c3'] at kk
        refine ⟨_, rfl, _, rfl, _, rfl, a, d, u, r, τ, rfl, s04 _ _ ha, hd.same s04, hn', R, hu, z0, fun H5 p5 s5 g5 => ?_⟩
        refine ⟨_, rfl, p5, d, _, τ, rfl, g5, (hd.same (s04.trans s5)).tail, hn', R.2, Rr.pnorm_len R hu, z3, fun H6 s6 => ?_⟩
        exact ⟨_, _, rfl, rfl, mul_one_of f1, kk _ ((s04.trans s5).trans s6)⟩
/-! ### sign_of -/
def spSignOf (C : Addr) (B : Nat) : Sp := fun vs H Q _ => ∃ (x d : Addr) (n : Rr.PN) (τ : List (List Int)), vs = [.ref x, .ref d] ∧ NAt C H x n ∧ RAt H d τ ∧ τ.length ≤ 3 ∧ Rr.Rts τ ∧ Rr.Pit τ n.parts ∧ Rr.sz τ n.parts ^ 2 ^ τ.length ≤ B ∧
  ∀ H' : Hp, Same H H' → Q (.int (Rr.psign τ n.parts)) H'
theorem scSignOf : FnScope ["x", "roots"] ["x", "roots"] (defScope sSignOf) := ⟨rfl, rfl, rfl, by decide +kernel, rfl, by decide +kernel, by decide +kernel⟩
theorem ok_signof {C : Addr} {B : Nat} (N : NCl P w K mg base C) (ps : Dn P w K mg base "parts_sign" 6 ["parts", "roots"] (spPsign B 3)) (d : Df K mg "sign_of" sSignOf ["x", "roots"]) : Dn P w K mg base "sign_of" 7 ["x", "roots"] (spSignOf C B) := by
  refine d.dn scSignOf (fun vs H Q E h => ?_) (fun f cdv A outer s H vs Q E hr h => ?_)
  · obtain ⟨x, d, n, τ, rfl, _⟩ := h
    rfl
  · obtain ⟨x, d, n, τ, rfl, ⟨dx, pa, hx, hp⟩, hd, hl, R, hu, hs, k⟩ := h
    refine ⟨_, pss_one (ps_ret (pe_cd ps hr (by rfl) (pa_cons (pe_fld (pv 0) rfl) (pa_cons (pv 1) pa_nil)))), ?_⟩
    exact ⟨_, rfl, x, C, dx, _, _, rfl, hx, N.cl, N.nP, nf_parts _ _, _, rfl, pa, d, _, τ, rfl, hp, hd, hl, R, hu, hs, k⟩
end
end Wk
end
section
set_option Elab.async false
set_option linter.all false
set_option maxRecDepth 100000
set_option maxHeartbeats 2000000
namespace Wk
open PySem PySem.Spec PyProof.Rows L2
theorem max_int (a b : Nat) : (if (b : Int) > (a : Int) then (b : Int) else (a : Int)) = ((max a b : Nat) : Int) := by
  split <;> omega
theorem widen_len {l : List Int} {n : Nat} (h : l.length ≤ n) : (Rr.widen l n).length = n := by
  unfold Rr.widen
  rw [List.length_append, List.length_replicate]
  omega
theorem widen_mem {l : List Int} {n : Nat} {c : Int} (h : c ∈ Rr.widen l n) : c ∈ l ∨ c = 0 := by
  unfold Rr.widen at h
  rcases List.mem_append.mp h with q | q
  · exact .inl q
  · exact .inr (List.mem_replicate.mp q).2
theorem goes_zero {B : Nat} (hB : Goes B) (y : Int) : IntMulOk 0 y := hB 0 y (by show 0 * _ ≤ B; rw [Nat.zero_mul]; exact Nat.zero_le _)
section
variable {P : Program} {w : World} {K : PySem.W.Frag} {mg : Str → Option Value} {base : Heap}
/-- two numbers whose sum goes -/
structure Pair (B : Nat) (n m : Rr.PN) : Prop where
  n1 : 1 ≤ n.parts.length
  n2 : n.parts.length ≤ 32
  m1 : 1 ≤ m.parts.length
  m2 : m.parts.length ≤ 32
  nu : 0 < n.under
  mu : 0 < m.under
  nm : ∀ c ∈ n.parts, c.natAbs * m.under.natAbs ≤ B
  mn : ∀ c ∈ m.parts, c.natAbs * n.under.natAbs ≤ B
  uu : n.under.natAbs * m.under.natAbs ≤ B
/-! ### plus -/
def spPlus (C : Addr) (B : Nat) (g : Rr.PN → Rr.PN → Rr.PN) : Sp := fun vs H Q _ => ∃ (x y : Addr) (n m : Rr.PN), vs = [.ref x, .ref y] ∧ NAt C H x n ∧ NAt C H y m ∧ Pair B n m ∧ ∀ (H' : Hp) (z : Addr), Same H H' → NAt C H' z (g n m) → Q (.ref z) H'
theorem scPlus : FnScope ["x", "y", "size", "u", "v"] ["x", "y"] (defScope sPlus) := ⟨rfl, rfl, rfl, by decide +kernel, rfl, by decide +kernel, by decide +kernel⟩
theorem ok_plus {C : Addr} {B : Nat} (hB : Goes B) (T : Blt mg) (N : NCl P w K mg base C) (sc : Dn P w K mg base "scaled" 1 ["parts", "factor"] spScaled) (wd : Dn P w K mg base "widened" 1 ["parts", "size"] spWidened) (sm : Dn P w K mg base "parts_sum" 1 ["u", "v"] spSum)
    (rd : Dn P w K mg base "reduced" 33 ["parts", "under"] (spReduced C)) (d : Df K mg "plus" sPlus ["x", "y"]) : Dn P w K mg base "plus" 34 ["x", "y"] (spPlus C B Rr.mplus) := by
  refine d.dn scPlus (fun vs H Q E h => ?_) (fun f cdv A outer s H vs Q E hr h => ?_)
  · obtain ⟨x, y, n, m, rfl, _⟩ := h
    rfl
  · obtain ⟨x, y, n, m, rfl, ⟨dx, px, hx, gx⟩, ⟨dy, py, hy, gy⟩, pr, k⟩ := h
    obtain ⟨n1, n2, m1, m2, nu, mu, hnm, hmn, huu⟩ := pr
    have hr1 : Room 1 _ := hr.mono (by omega)
    refine ⟨_, pss_cons (ps_set (i := 2) scPlus.nd rfl (Or.inl rfl) (pe_callB (call_max2 rfl) (by rfl) T.max PyProof.Rows.boot_max (pa_cons (pe_callB call_len_seq (by rfl) T.len PySem.boot_len (pa_cons (pe_fld (pv 0) rfl) pa_nil)) (pa_cons (pe_callB call_len_seq (by rfl) T.len PySem.boot_len (pa_cons (pe_fld (pv 1) rfl) pa_nil)) pa_nil))))
      (pss_cons (ps_set (i := 3) scPlus.nd rfl (Or.inl rfl) (pe_cd sc hr1 (by rfl) (pa_cons (pe_cd wd hr1 (by rfl) (pa_cons (pe_fld (pv 0) rfl) (pa_cons (pv 2) pa_nil))) (pa_cons (pe_fld (pv 1) rfl) pa_nil))))
      (pss_cons (ps_set (i := 4) scPlus.nd rfl (Or.inl rfl) (pe_cd sc hr1 (by rfl) (pa_cons (pe_cd wd hr1 (by rfl) (pa_cons (pe_fld (pv 1) rfl) (pa_cons (pv 2) pa_nil))) (pa_cons (pe_fld (pv 0) rfl) pa_nil))))
      (pss_one (ps_ret (pe_cd rd hr (by rfl) (pa_cons (pe_cd sm hr1 (by rfl) (pa_cons (pv 3) (pa_cons (pv 4) pa_nil))) (pa_cons (pe_op op_mulB (pe_fld (pv 0) rfl) (pe_fld (pv 1) rfl)) pa_nil))))))), ?_⟩
    have eM := max_int n.parts.length m.parts.length
    have lM : max n.parts.length m.parts.length ≤ 32 := by omega
    have lw1 := widen_len (l := n.parts) (n := max n.parts.length m.parts.length) (by omega)
    have lw2 := widen_len (l := m.parts) (n := max n.parts.length m.parts.length) (by omega)
    refine ⟨_, rfl, x, C, dx, _, _, rfl, hx, N.cl, N.nP, nf_parts _ _, px, _, rfl, .inl (SqL.of gx), _, rfl, y, C, dy, _, _, rfl, hy, N.cl, N.nP, nf_parts _ _, py, _, rfl, .inl (SqL.of gy), _, _, rfl, ?_⟩
    rw [List.length_map, List.length_map, eM]
    refine ⟨_, rfl, x, C, dx, _, _, rfl, hx, N.cl, N.nP, nf_parts _ _, _, rfl, px, _, _, rfl, gx, by omega, by omega, fun H1 p1 s1 g1 => ?_⟩
    refine ⟨_, rfl, y, C, dy, _, _, rfl, s1 _ _ hy, N.cl, N.nU, nf_under _ _, p1, _, _, rfl, g1, by omega, fun c hc => ?_, fun H2 p2 s2 g2 => ?_⟩
    · rcases widen_mem hc with q | rfl
      · exact hB _ _ (hnm c q)
      · exact goes_zero hB _
    have s02 := s1.trans s2
    refine ⟨_, rfl, y, C, dy, _, _, rfl, s02 _ _ hy, N.cl, N.nP, nf_parts _ _, _, rfl, py, _, _, rfl, s02 _ _ gy, by omega, by omega, fun H3 p3 s3 g3 => ?_⟩
    have s03 := s02.trans s3
    refine ⟨_, rfl, x, C, dx, _, _, rfl, s03 _ _ hx, N.cl, N.nU, nf_under _ _, p3, _, _, rfl, g3, by omega, fun c hc => ?_, fun H4 p4 s4 g4 => ?_⟩
    · rcases widen_mem hc with q | rfl
      · exact hB _ _ (hmn c q)
      · exact goes_zero hB _
    have s04 := s03.trans s4
    have l1 : (Rr.pscale (Rr.widen n.parts (max n.parts.length m.parts.length)) m.under).length = max n.parts.length m.parts.length := by unfold Rr.pscale; rw [List.length_map, lw1]
    have l2 : (Rr.pscale (Rr.widen m.parts (max n.parts.length m.parts.length)) n.under).length = max n.parts.length m.parts.length := by unfold Rr.pscale; rw [List.length_map, lw2]
    refine ⟨_, rfl, _, rfl, p2, p4, _, _, rfl, s4 _ _ (s3 _ _ g2), g4, by rw [l1, l2], by omega, fun H5 p5 s5 g5 => ?_⟩
    have s05 := s04.trans s5
    have l3 : (Rr.psum (Rr.pscale (Rr.widen n.parts (max n.parts.length m.parts.length)) m.under) (Rr.pscale (Rr.widen m.parts (max n.parts.length m.parts.length)) n.under)).length = max n.parts.length m.parts.length := by
      unfold Rr.psum
      rw [List.length_zipWith, l1, l2, Nat.min_self]
    refine ⟨_, rfl, x, C, dx, _, _, rfl, s05 _ _ hx, N.cl, N.nU, nf_under _ _, _, rfl, y, C, dy, _, _, rfl, s05 _ _ hy, N.cl, N.nU, nf_under _ _, _, _, rfl, rfl, hB _ _ huu, p5, _, _, rfl, g5, by omega, by omega, Int.mul_pos nu mu, fun H6 z s6 g6 => ?_⟩
    exact k H6 z (s05.trans s6) g6
/-! ### minus -/
theorem scMinus : FnScope ["x", "y"] ["x", "y"] (defScope sMinus) := ⟨rfl, rfl, rfl, by decide +kernel, rfl, by decide +kernel, by decide +kernel⟩
theorem ok_minus {C : Addr} {B : Nat} (N : NCl P w K mg base C) (sc : Dn P w K mg base "scaled" 1 ["parts", "factor"] spScaled) (pl : Dn P w K mg base "plus" 34 ["x", "y"] (spPlus C B Rr.mplus)) (d : Df K mg "minus" sMinus ["x", "y"]) : Dn P w K mg base "minus" 35 ["x", "y"] (spPlus C B Rr.mminus) := by
  refine d.dn scMinus (fun vs H Q E h => ?_) (fun f cdv A outer s H vs Q E hr h => ?_)
  · obtain ⟨x, y, n, m, rfl, _⟩ := h
    rfl
  · obtain ⟨x, y, n, m, rfl, hx, ⟨dy, py, hy, gy⟩, pr, k⟩ := h
    have hr1 : Room 1 _ := hr.mono (by omega)
    have hr2 : Room 2 _ := hr.mono (by omega)
    refine ⟨_, pss_one (ps_ret (pe_cd pl hr (by rfl) (pa_cons (pv 0) (pa_cons (pe_mkN N hr2 (by rfl) (pa_cons (pe_cd sc hr1 (by rfl) (pa_cons (pe_fld (pv 1) rfl) (pa_cons (pe_un un_neg pe_int) pa_nil))) (pa_cons (pe_fld (pv 1) rfl) pa_nil))) pa_nil)))), ?_⟩
    have pr' := pr
    obtain ⟨n1, n2, m1, m2, nu, mu, hnm, hmn, huu⟩ := pr
    refine ⟨_, rfl, _, rfl, y, C, dy, _, _, rfl, hy, N.cl, N.nP, nf_parts _ _, _, rfl, py, _, -1, rfl, gy, by omega, fun c _ => mul_m1 c, fun H1 p1 s1 g1 => ?_⟩
    refine ⟨_, rfl, y, C, dy, _, _, rfl, s1 _ _ hy, N.cl, N.nU, nf_under _ _, ?_⟩
    intro z dz nz ndz nez
    refine ⟨z, dz, _, _, rfl, upd_same, fun H2 hz kp => ⟨rfl, ?_⟩⟩
    have s2 := Same.made nz ndz kp
    have s02 := s1.trans s2
    refine ⟨x, z, n, Rr.mneg m, rfl, hx.same s02, ⟨dz, p1, hz, s2 _ _ g1⟩, ⟨n1, n2, ?_, ?_, nu, mu, hnm, fun c hc => ?_, huu⟩, fun H3 v s3 g3 => k H3 v (s02.trans s3) g3⟩
    · unfold Rr.mneg Rr.pscale; rw [List.length_map]; exact m1
    · unfold Rr.mneg Rr.pscale; rw [List.length_map]; exact m2
    · unfold Rr.mneg Rr.pscale at hc
      obtain ⟨c', h1, rfl⟩ := List.mem_map.mp hc
      have := hmn c' h1
      rw [Int.natAbs_mul]
      simpa using this
/-! ### times -/
structure TPair (B : Nat) (τ : List (List Int)) (n m : Rr.PN) : Prop where
  R : Rr.Rts τ
  l3 : τ.length ≤ 3
  pn : Rr.PreOk τ n
  pm : Rr.PreOk τ m
  nm : (Rr.lv τ).nm (Rr.el τ n.parts) * (Rr.lv τ).nm (Rr.el τ m.parts) ≤ B
  uu : n.under.natAbs * m.under.natAbs ≤ B
def spTimes (C : Addr) (B : Nat) : Sp := fun vs H Q _ => ∃ (x y d : Addr) (n m : Rr.PN) (τ : List (List Int)), vs = [.ref x, .ref y, .ref d] ∧ NAt C H x n ∧ NAt C H y m ∧ RAt H d τ ∧ TPair B τ n m ∧ ∀ (H' : Hp) (z : Addr), Same H H' → NAt C H' z (Rr.mtimes τ n m) → Q (.ref z) H'
theorem scTimes : FnScope ["x", "y", "roots", "size", "u", "v"] ["x", "y", "roots"] (defScope sTimes) := ⟨rfl, rfl, rfl, by decide +kernel, rfl, by decide +kernel, by decide +kernel⟩
theorem sub_len {τ : List (List Int)} {l : List Int} (h : Rr.Sub τ l) (hl : τ.length ≤ 3) : 1 ≤ l.length ∧ l.length ≤ 8 := by
  refine ⟨h.pos, Nat.le_trans h.le ?_⟩
  exact Nat.pow_le_pow_right (n := 2) (by decide) hl
theorem ok_times {C : Addr} {B : Nat} (hB : Goes B) (T : Blt mg) (N : NCl P w K mg base C) (wd : Dn P w K mg base "widened" 1 ["parts", "size"] spWidened) (pp : Dn P w K mg base "parts_product" 5 ["u", "v", "roots"] (spProd B 3))
    (rd : Dn P w K mg base "reduced" 33 ["parts", "under"] (spReduced C)) (d : Df K mg "times" sTimes ["x", "y", "roots"]) : Dn P w K mg base "times" 34 ["x", "y", "roots"] (spTimes C B) := by
  refine d.dn scTimes (fun vs H Q E h => ?_) (fun f cdv A outer s H vs Q E hr h => ?_)
  · obtain ⟨x, y, d, n, m, τ, rfl, _⟩ := h
    rfl
  · obtain ⟨x, y, d, n, m, τ, rfl, ⟨dx, px, hx, gx⟩, ⟨dy, py, hy, gy⟩, hd, pr, k⟩ := h
    obtain ⟨R, hl, pn, pm, hnm, huu⟩ := pr
    have hr1 : Room 1 _ := hr.mono (by omega)
    have hr5 : Room 5 _ := hr.mono (by omega)
    refine ⟨_, pss_cons (ps_set (i := 3) scTimes.nd rfl (Or.inl rfl) (pe_callB (call_max2 rfl) (by rfl) T.max PyProof.Rows.boot_max (pa_cons (pe_callB call_len_seq (by rfl) T.len PySem.boot_len (pa_cons (pe_fld (pv 0) rfl) pa_nil)) (pa_cons (pe_callB call_len_seq (by rfl) T.len PySem.boot_len (pa_cons (pe_fld (pv 1) rfl) pa_nil)) pa_nil))))
      (pss_cons (ps_set (i := 4) scTimes.nd rfl (Or.inl rfl) (pe_cd wd hr1 (by rfl) (pa_cons (pe_fld (pv 0) rfl) (pa_cons (pv 3) pa_nil))))
      (pss_cons (ps_set (i := 5) scTimes.nd rfl (Or.inl rfl) (pe_cd wd hr1 (by rfl) (pa_cons (pe_fld (pv 1) rfl) (pa_cons (pv 3) pa_nil))))
      (pss_one (ps_ret (pe_cd rd hr (by rfl) (pa_cons (pe_cd pp hr5 (by rfl) (pa_cons (pv 4) (pa_cons (pv 5) (pa_cons (pv 2) pa_nil)))) (pa_cons (pe_op op_mulB (pe_fld (pv 0) rfl) (pe_fld (pv 1) rfl)) pa_nil))))))), ?_⟩
    have eM := max_int n.parts.length m.parts.length
    have ln := sub_len pn.sub hl
    have lm := sub_len pm.sub hl
    obtain ⟨e1, e2, l1, l2, w1⟩ := Rr.widen_both pn.sub pm.sub
    have w2 : Rr.Sub τ (Rr.widen m.parts (max n.parts.length m.parts.length)) := w1.of_len (by rw [l1, l2])
    have p1 := Rr.low_pit w1
    rw [l1] at p1
    have p2 := Rr.low_pit w2
    rw [l2] at p2
    have z1 := Rr.sz_low w1
    rw [l1, e1] at z1
    have z2 := Rr.sz_low w2
    rw [l2, e2] at z2
    refine ⟨_, rfl, x, C, dx, _, _, rfl, hx, N.cl, N.nP, nf_parts _ _, px, _, rfl, .inl (SqL.of gx), _, rfl, y, C, dy, _, _, rfl, hy, N.cl, N.nP, nf_parts _ _, py, _, rfl, .inl (SqL.of gy), _, _, rfl, ?_⟩
    rw [List.length_map, List.length_map, eM]
    refine ⟨_, rfl, x, C, dx, _, _, rfl, hx, N.cl, N.nP, nf_parts _ _, _, rfl, px, _, _, rfl, gx, by omega, by omega, fun H1 q1 s1 g1 => ?_⟩
    refine ⟨_, rfl, y, C, dy, _, _, rfl, s1 _ _ hy, N.cl, N.nP, nf_parts _ _, _, rfl, py, _, _, rfl, s1 _ _ gy, by omega, by omega, fun H2 q2 s2 g2 => ?_⟩
    have s02 := s1.trans s2
    refine ⟨_, rfl, _, rfl, _, rfl, q1, q2, d, _, _, Rr.low τ (max n.parts.length m.parts.length), rfl, s2 _ _ g1, g2, (hd.same s02).low _, Nat.le_trans (Rr.low_length _ _) hl, Rr.low_rts _ R, p1, p2, by rw [z1, z2]; exact hnm, fun H3 q3 s3 g3 => ?_⟩
    have s03 := s02.trans s3
    have len := Rr.pprod_len (Rr.low_rts _ R) p1 p2
    have len2 : (Rr.pprod (Rr.low τ (max n.parts.length m.parts.length)) (Rr.widen n.parts (max n.parts.length m.parts.length)) (Rr.widen m.parts (max n.parts.length m.parts.length))).length = max n.parts.length m.parts.length := by
      rw [show _ = _ from len, ← show _ = _ from p1, l1]
    refine ⟨_, rfl, x, C, dx, _, _, rfl, s03 _ _ hx, N.cl, N.nU, nf_under _ _, _, rfl, y, C, dy, _, _, rfl, s03 _ _ hy, N.cl, N.nU, nf_under _ _, _, _, rfl, rfl, hB _ _ huu, q3, _, _, rfl, g3, by omega, by omega, Int.mul_pos pn.pos pm.pos, fun H6 z s6 g6 => ?_⟩
    exact k H6 z (s03.trans s6) g6
end
end Wk
end
section
set_option Elab.async false
set_option linter.all false
set_option maxRecDepth 100000
set_option maxHeartbeats 2000000
namespace Wk
open PySem PySem.Spec PyProof.Rows L2
theorem inv_base {F : Type} [Rr.OF F] {σ : List F} {c : Int} (hv : Rr.valp [] σ (Rr.el [] [c]) ≠ 0) : c ≠ 0 := by
  intro q
  apply hv
  show ((c : Int) : F) = 0
  rw [q, Rr.ic_zero]
theorem mul_two (c : Int) : IntMulOk c 2 := IntMulOk.of_right (by decide)
theorem abs_eq (c : Int) : (if c < 0 then -c else c) = ((c.natAbs : Nat) : Int) := by split <;> omega
section
variable {P : Program} {w : World} {K : PySem.W.Frag} {mg : Str → Option Value} {base : Heap}
/-! ### inverse -/
def spInv (C : Addr) (B n : Nat) : Sp := fun vs H Q _ => ∃ (x d : Addr) (y : Rr.PN) (τ : List (List Int)) (S : Nat) (F : Type) (_ : Rr.OF F) (σ : List F), vs = [.ref x, .ref d] ∧ NAt C H x y ∧ RAt H d τ ∧ τ.length ≤ n ∧ Rr.PRoots σ τ ∧ Rr.NumOk τ y ∧ Rr.valp τ σ (Rr.el τ y.parts) ≠ 0 ∧
  Rr.Cr τ S y ∧ 1 ≤ S ∧ 2 ^ (25 * 2 ^ n * S) ≤ B ∧ ∀ (H' : Hp) (z : Addr), Same H H' → NAt C H' z (Rr.minv τ y) → Q (.ref z) H'
theorem scInverse : FnScope ["x", "roots", "half", "n", "a", "b", "norm", "other"] ["x", "roots"] (defScope sInverse) := ⟨rfl, rfl, rfl, by decide +kernel, rfl, by decide +kernel, by decide +kernel⟩
theorem le_B {B a b : Nat} (h : 2 ^ b ≤ B) (q : a ≤ b) : 2 ^ a ≤ B := Nat.le_trans (Rr.two_le q) h
def spInvR (C : Addr) (B : Nat) : Nat → Sp
  | 0 => fun _ _ _ _ => False
  | n + 1 => spInv C B n
theorem inv_turn {C : Addr} {B : Nat} (T : Blt mg) (N : NCl P w K mg base C) (sc : Dn P w K mg base "scaled" 1 ["parts", "factor"] spScaled) (nmD : ∀ n, n ≤ 4 → Dn P w K mg base "parts_norm" (n + 3) ["parts", "roots"] (spNorm B n))
    (psD : ∀ n, n ≤ 5 → Dn P w K mg base "parts_sign" (n + 3) ["parts", "roots"] (spPsign B n)) (rd : Dn P w K mg base "reduced" 33 ["parts", "under"] (spReduced C)) (tm : Dn P w K mg base "times" 34 ["x", "y", "roots"] (spTimes C B)) (d : Df K mg "inverse" sInverse ["x", "roots"])
    (n : Nat) (hn3 : n ≤ 3) (rc : Dn P w K mg base "inverse" (n + 34) ["x", "roots"] (spInvR C B n)) : Dn P w K mg base "inverse" (n + 35) ["x", "roots"] (spInv C B n) := by
  refine d.dn scInverse (fun vs H Q E h => ?_) (fun f cdv A outer s H vs Q E hr h => ?_)
  · obtain ⟨x, d, y, τ, S, F, _, σ, rfl, _⟩ := h
    rfl
  · obtain ⟨x, d, y, τ, S, F, iF, σ, rfl, ⟨dx, px, hx, gx⟩, hd, hn, R, hy, hv, cr, hS, hB, k⟩ := h
    have hr1 : Room 1 _ := hr.mono (by omega)
    have hr2 : Room 2 _ := hr.mono (by omega)
    have hr6 : Room (3 + 3) _ := hr.mono (by omega)
    have hr33 : Room 33 _ := hr.mono (by omega)
    have hr34 : Room 34 _ := hr.mono (by omega)
    refine ⟨_, pss_cons (ps_set (i := 2) scInverse.nd rfl (Or.inl rfl) (pe_op op_fdiv (pe_callB call_len_seq (by rfl) T.len PySem.boot_len (pa_cons (pe_fld (pv 0) rfl) pa_nil)) pe_int))
      (pss_cons (ps_if (pt_cmpR op_eq (pv 2) pe_int (nomark _)) (pss_cons (ps_set (i := 3) scInverse.nd rfl (Or.inl rfl) (pe_ix ix_list (pe_fld (pv 0) rfl) pe_int (fun _ _ => rfl))) (pss_one (ps_ret (pe_cd rd hr33 (by rfl) (pa_cons (pe_lst (pa_cons (pe_ifExp (pt_cmpR op_gt (pv 3) pe_int (nomark _)) (pe_fld (pv 0) rfl) (pe_un un_neg (pe_fld (pv 0) rfl))) pa_nil)) (pa_cons (pe_callB call_abs (by rfl) T.abs PyProof.Rows.boot_abs (pa_cons (pv 3) pa_nil)) pa_nil)))))) pss_nil)
      (pss_cons (ps_set (i := 4) scInverse.nd rfl (Or.inl rfl) (pe_slice sl_list (pe_fld (pv 0) rfl) po_none (po_some (pv 2))))
      (pss_cons (ps_set (i := 5) scInverse.nd rfl (Or.inl rfl) (pe_slice sl_list (pe_fld (pv 0) rfl) (po_some (pv 2)) po_none))
      (pss_cons (ps_set (i := 6) scInverse.nd rfl (Or.inl rfl) (pe_cd (nmD 3 (by decide)) hr6 (by rfl) (pa_cons (pe_fld (pv 0) rfl) (pa_cons (pv 1) pa_nil))))
      (pss_cons (ps_if (pt_cmpR op_eq (pe_cd (psD 3 (by decide)) hr6 (by rfl) (pa_cons (pv 6) (pa_cons (pv 1) pa_nil))) pe_int (nomark _))
        (pss_one (ps_ret (pe_cd rc hr (by rfl) (pa_cons (pe_cd rd hr33 (by rfl) (pa_cons (pe_cd sc hr1 (by rfl) (pa_cons (pv 4) (pa_cons pe_int pa_nil))) (pa_cons (pe_fld (pv 0) rfl) pa_nil))) (pa_cons (pv 1) pa_nil))))) pss_nil)
      (pss_cons (ps_set (i := 7) scInverse.nd rfl (Or.inl rfl) (pe_mkN N hr2 (by rfl) (pa_cons (pe_op op_cat (pv 4) (pe_cd sc hr1 (by rfl) (pa_cons (pv 5) (pa_cons (pe_un un_neg pe_int) pa_nil)))) (pa_cons pe_int pa_nil))))
      (pss_one (ps_ret (pe_cd tm hr34 (by rfl) (pa_cons (pv 7) (pa_cons (pe_cd rc hr (by rfl) (pa_cons (pe_cd rd hr33 (by rfl) (pa_cons (pv 6) (pa_cons (pe_fld (pv 0) rfl) pa_nil))) (pa_cons (pv 1) pa_nil))) (pa_cons (pv 1) pa_nil)))))))))))), ?_⟩
    -- the number at its own level
    obtain ⟨σ', R', hy', py, ev, en, em⟩ := Rr.down R hy
    have hd' := hd.low y.parts.length
    have hn' : (Rr.low τ y.parts.length).length ≤ n := Nat.le_trans (Rr.low_length _ _) hn
    have hv' : Rr.valp (Rr.low τ y.parts.length) σ' (Rr.el (Rr.low τ y.parts.length) y.parts) ≠ 0 := by rw [ev]; exact hv
    have cr' : Rr.Cr (Rr.low τ y.parts.length) S y := ⟨by rw [en]; exact cr.nm, cr.un⟩
    rw [em] at k
    generalize Rr.low τ y.parts.length = ρ at R' hy' py hd' hn' hv' cr' k
    clear hd hn R hy hv cr ev en em
    refine ⟨_, rfl, x, C, dx, _, _, rfl, hx, N.cl, N.nP, nf_parts _ _, px, _, rfl, .inl (SqL.of gx), _, _, rfl, rfl, ⟨by decide, by decide⟩, _, rfl, rfl, _, rfl, ?_⟩
    match ρ, σ', R', hy', py, hd', hn', hv', cr', k with
    | [], σ', R', hy', py, hd', hn', hv', cr', k =>
      obtain ⟨ps, u⟩ := y
      obtain ⟨c, rfl⟩ : ∃ c, ps = [c] := List.length_eq_one_iff.mp hy'.sub
      have hc := inv_base hv'
      refine ite2 (fun _ => ?_) (fun c3 => (c3 (decide_eq_true (by show V.int (((1 : Nat) : Int) / 2) = V.int 0; decide))).elim)
      refine ⟨_, rfl, x, C, dx, _, _, rfl, hx, N.cl, N.nP, nf_parts _ _, px, _, _, _, rfl, rfl, SqL.of gx, at_of (j := 0) rfl rfl, ?_⟩
      refine ⟨_, rfl, _, _, rfl, rfl, _, rfl, ite2 (fun c2 => ?_) (fun c2 => ?_)⟩
      · have c2' : 0 < c := of_decide_eq_true c2
        refine ⟨_, rfl, x, C, dx, _, _, rfl, hx, N.cl, N.nU, nf_under _ _, (by show 1 ≤ sizeLine; decide), fun l hl => ?_⟩
        refine ⟨_, rfl, _, rfl, l, [u], _, rfl, upd_same, Nat.le_refl _, (by show 1 ≤ 100; decide), ?_, fun H1 z s1 g1 => ?_⟩
        · rw [abs_eq]; omega
        · refine k H1 z ((same_new hl).trans s1) ?_
          rw [abs_eq] at g1
          have e : Rr.minv [] ⟨[c], u⟩ = Rr.reduced [u] ((c.natAbs : Nat) : Int) := by
            show Rr.reduced [if 0 < c then u else -u] _ = _
            rw [if_pos c2']
            rfl
          rw [e]
          exact g1
      · have c2' : ¬ 0 < c := fun q => c2 (decide_eq_true q)
        refine ⟨_, rfl, x, C, dx, _, _, rfl, hx, N.cl, N.nU, nf_under _ _, _, rfl, (by show 1 ≤ sizeLine; decide), fun l hl => ?_⟩
        refine ⟨_, rfl, _, rfl, l, [-u], _, rfl, upd_same, Nat.le_refl _, (by show 1 ≤ 100; decide), ?_, fun H1 z s1 g1 => ?_⟩
        · rw [abs_eq]; omega
        · refine k H1 z ((same_new hl).trans s1) ?_
          rw [abs_eq] at g1
          have e : Rr.minv [] ⟨[c], u⟩ = Rr.reduced [-u] ((c.natAbs : Nat) : Int) := by
            show Rr.reduced [if 0 < c then u else -u] _ = _
            rw [if_neg c2']
            rfl
          rw [e]
          exact g1
    | r :: ρ, t :: σ', R', hy', py, hd', hn', hv', cr', k =>
      obtain ⟨n, rfl⟩ : ∃ m, n = m + 1 := ⟨n - 1, by rw [List.length_cons] at hn'; omega⟩
      have hn2 : ρ.length ≤ n := by simpa using hn'
      have hR := Rr.PRoots.rts R'
      obtain ⟨st0, st1⟩ := Rr.inv_step R' hy' py hv' cr' hS
      have hul : y.parts.length ≤ 32 := by rw [show y.parts.length = 2 ^ (r :: ρ).length from py]; exact pow32 (by rw [List.length_cons]; omega)
      have hp0 := Rr.two_pos ρ.length
      have hh : y.parts.length / 2 = 2 ^ ρ.length := py.half
      have h2 := half_eq y.parts
      have ne0 : ¬ ((((y.parts.map V.int).length : Nat) : Int) / 2 = 0) := by rw [h2]; omega
      refine ite2 (fun c3 => absurd (V.int.inj (of_decide_eq_true c3)) ne0) (fun _ => ?_)
      have hB2 : 2 ^ (25 * 2 ^ n * (2 * S)) ≤ B := by
        rw [show 25 * 2 ^ n * (2 * S) = 25 * 2 ^ (n + 1) * S by rw [Nat.pow_succ]; grind]
        exact hB
      have t1 : 1 ≤ 2 ^ n := Rr.two_pos n
      have hBS : ∀ a : Nat, a ≤ 50 * S → 2 ^ a ≤ B := fun a ha => le_B hB2 (by
        have := Nat.mul_le_mul_right (2 * S) (Nat.mul_le_mul_left 25 t1)
        omega)
      have csz : Rr.sz (r :: ρ) y.parts ≤ 2 ^ S := by
        have := cr'.nm
        rw [Rr.el_pit py] at this
        exact this
      have zz : Rr.sz (r :: ρ) y.parts * Rr.sz (r :: ρ) y.parts ≤ 2 ^ (2 * S) := by
        rw [show 2 ^ (2 * S) = 2 ^ S * 2 ^ S by rw [← Nat.pow_add]; congr 1; omega]
        exact Nat.mul_le_mul csz csz
      have zs : Rr.sz ρ (Rr.pnorm r ρ y.parts) ^ 2 ^ ρ.length ≤ B := by
        refine Rr.pow_le_of (Nat.le_trans (Rr.sz_norm hR py) zz) ?_
        rw [← Nat.pow_mul]
        refine le_B hB2 ?_
        have e1 : 2 ^ ρ.length ≤ 2 ^ n := Rr.two_le hn2
        have e2 := Nat.mul_le_mul_left (2 * S) e1
        rw [show 25 * 2 ^ n * (2 * S) = 25 * (2 * S * 2 ^ n) by grind]
        omega
      -- the halves
      refine ⟨_, rfl, x, C, dx, _, _, rfl, hx, N.cl, N.nP, nf_parts _ _, _, rfl, _, rfl, px, _, rfl, SqL.of gx, fun pa hpa => ?_⟩
      rw [cut_lo h2 (by omega)]
      have s1 := same_new (o := .lst ((y.parts.take (y.parts.length / 2)).map V.int)) hpa
      have ga : IL (upd H pa _) pa (y.parts.take (y.parts.length / 2)) := upd_same
      generalize upd H pa _ = H1 at s1 ga
      refine ⟨_, rfl, x, C, dx, _, _, rfl, s1 _ _ hx, N.cl, N.nP, nf_parts _ _, _, rfl, _, rfl, px, _, rfl, SqL.of (s1 _ _ gx), fun pb hpb => ?_⟩
      rw [cut_hi h2 (by omega)]
      have s2 := same_new (o := .lst ((y.parts.drop (y.parts.length / 2)).map V.int)) hpb
      have gb : IL (upd H1 pb _) pb (y.parts.drop (y.parts.length / 2)) := upd_same
      generalize upd H1 pb _ = H2 at s2 gb
      have s02 := s1.trans s2
      have ga2 := s2 _ _ ga
      -- the norm
      refine ⟨_, rfl, x, C, dx, _, _, rfl, s02 _ _ hx, N.cl, N.nP, nf_parts _ _, _, rfl, px, d, _, r, ρ, rfl, s02 _ _ gx, hd'.same s02, by omega, hR, py, Nat.le_trans zz (hBS _ (by omega)), fun H3 p3 s3 g3 => ?_⟩
      have s03 := s02.trans s3
      refine ⟨_, rfl, _, rfl, p3, d, _, ρ, rfl, g3, (hd'.same s03).tail, by omega, hR.2, Rr.pnorm_len hR py, zs, fun H4 s4 => ?_⟩
      have s04 := s03.trans s4
      have ga4 := s4 _ _ (s3 _ _ ga2)
      have gb4 := s4 _ _ (s3 _ _ gb)
      have g34 := s4 _ _ g3
      have hev : y.parts.length = 2 * 2 ^ ρ.length := by rw [show y.parts.length = 2 ^ (r :: ρ).length from py, List.length_cons, Nat.pow_succ]; omega
      have la : (y.parts.take (y.parts.length / 2)).length = y.parts.length / 2 := by rw [List.length_take]; omega
      have lb : (y.parts.drop (y.parts.length / 2)).length = y.parts.length / 2 := by rw [List.length_drop]; omega
      have ln : (Rr.pnorm r ρ y.parts).length = 2 ^ ρ.length := Rr.pnorm_len hR py
      refine ⟨rfl, _, rfl, ite2 (fun c => ?_) (fun c => ?_)⟩
      · obtain ⟨i1, i2, i3, i4⟩ := st0 (V.int.inj (of_decide_eq_true c))
        refine ⟨_, rfl, pa, _, 2, rfl, ga4, by omega, fun c _ => mul_two c, fun H5 p5 s5 g5 => ?_⟩
        have s05 := s04.trans s5
        have l5 : (Rr.pscale (y.parts.take (y.parts.length / 2)) 2).length = y.parts.length / 2 := by unfold Rr.pscale; rw [List.length_map, la]
        refine ⟨_, rfl, x, C, dx, _, _, rfl, s05 _ _ hx, N.cl, N.nU, nf_under _ _, p5, _, _, rfl, g5, by omega, by omega, hy'.pos, fun H6 z6 s6 g6 => ?_⟩
        have s06 := s05.trans s6
        refine ⟨_, rfl, z6, d, _, ρ, 2 * S, F, iF, σ', rfl, g6, (hd'.same s06).tail, hn2, R'.2.2.2, i1, i2, i3, by omega, hB2, fun H7 z7 s7 g7 => ?_⟩
        refine k H7 z7 (s06.trans s7) ?_
        rw [i4]
        exact g7
      · obtain ⟨i1, i2, i3, i4, i5, i6⟩ := st1 (fun q => c (decide_eq_true (congrArg V.int q)))
        have i7 := Rr.Cr.inv R'.2.2.2 (by omega) i1 i2 i3
        have i8 := (Rr.minv_ok R'.2.2.2 i1 i2).1
        have i9 := i7.up r i8.sub
        refine ⟨_, rfl, _, rfl, _, rfl, pb, _, -1, rfl, gb4, by omega, fun c _ => mul_m1 c, fun H5 p5 s5 g5 => ?_⟩
        have s05 := s04.trans s5
        have l5 : (Rr.pscale (y.parts.drop (y.parts.length / 2)) (-1)).length = y.parts.length / 2 := by unfold Rr.pscale; rw [List.length_map, lb]
        refine ⟨pa, p5, _, _, rfl, rfl, s5 _ _ ga4, g5, ?_, fun p6 hp6 => ?_⟩
        · rw [List.length_map, List.length_map]
          exact line1000 (by omega)
        have s6 := same_new (o := .lst ((y.parts.take (y.parts.length / 2)).map V.int ++ (Rr.pscale (y.parts.drop (y.parts.length / 2)) (-1)).map V.int)) hp6
        have g6 : IL (upd H5 p6 (.lst ((y.parts.take (y.parts.length / 2)).map V.int ++ (Rr.pscale (y.parts.drop (y.parts.length / 2)) (-1)).map V.int))) p6 (y.parts.take (y.parts.length / 2) ++ Rr.pscale (y.parts.drop (y.parts.length / 2)) (-1)) := by
          show upd _ p6 _ p6 = _
          rw [upd_same, List.map_append]
        generalize upd H5 p6 _ = H6 at s6 g6
        have s06 := s05.trans s6
        intro z dz nz ndz nez
        refine ⟨z, dz, _, _, rfl, upd_same, fun H7 hz kp => ⟨rfl, ?_⟩⟩
        have s7 := Same.made nz ndz kp
        have s07 := s06.trans s7
        have gz : NAt C H7 z ⟨y.parts.take (y.parts.length / 2) ++ Rr.pscale (y.parts.drop (y.parts.length / 2)) (-1), 1⟩ := ⟨dz, p6, hz, s7 _ _ g6⟩
        refine ⟨_, rfl, _, rfl, _, rfl, x, C, dx, _, _, rfl, s07 _ _ hx, N.cl, N.nU, nf_under _ _, p3, _, _, rfl, s7 _ _ (s6 _ _ (s5 _ _ g34)), by omega, by omega, hy'.pos, fun H8 z8 s8 g8 => ?_⟩
        have s08 := s07.trans s8
        refine ⟨_, rfl, z8, d, _, ρ, 2 * S, F, iF, σ', rfl, g8, (hd'.same s08).tail, hn2, R'.2.2.2, i1, i2, i3, by omega, hB2, fun H9 z9 s9 g9 => ?_⟩
        have s09 := s08.trans s9
        refine ⟨_, rfl, z, z9, d, _, _, r :: ρ, rfl, (gz.same s8).same s9, g9, hd'.same s09, ⟨hR, by omega, i5, (i8.up r).pre, ?_, ?_⟩, fun H10 z10 s10 g10 => ?_⟩
        · refine Nat.le_trans (Nat.mul_le_mul i6 i9.nm) ?_
          rw [← Nat.pow_add]
          exact hBS _ (by omega)
        · show 1 * _ ≤ B
          rw [Nat.one_mul]
          exact Nat.le_trans i9.un (hBS _ (by omega))
        · refine k H10 z10 (s09.trans s10) ?_
          rw [i4]
          exact g10
theorem ok_inverse {C : Addr} {B : Nat} (T : Blt mg) (N : NCl P w K mg base C) (sc : Dn P w K mg base "scaled" 1 ["parts", "factor"] spScaled) (nmD : ∀ n, n ≤ 4 → Dn P w K mg base "parts_norm" (n + 3) ["parts", "roots"] (spNorm B n))
    (psD : ∀ n, n ≤ 5 → Dn P w K mg base "parts_sign" (n + 3) ["parts", "roots"] (spPsign B n)) (rd : Dn P w K mg base "reduced" 33 ["parts", "under"] (spReduced C)) (tm : Dn P w K mg base "times" 34 ["x", "y", "roots"] (spTimes C B)) (d : Df K mg "inverse" sInverse ["x", "roots"]) :
    ∀ n, n ≤ 3 → Dn P w K mg base "inverse" (n + 35) ["x", "roots"] (spInv C B n) := by
  intro n hn3
  induction n with
  | zero => exact inv_turn T N sc nmD psD rd tm d 0 hn3 (d.dn scInverse (k := 33) (fun vs H Q E h => h.elim) (fun f cdv A outer s H vs Q E hr h => h.elim))
  | succ n ih => exact inv_turn T N sc nmD psD rd tm d (n + 1) hn3 (ih (by omega))
end
end Wk
end
section
set_option Elab.async false
set_option linter.all false
set_option maxRecDepth 100000
set_option maxHeartbeats 2000000
namespace Wk
open PySem PySem.Spec PyProof.Rows L2
/-- the dict of the roots, and no more in it -/
def RFul (H : Hp) (d : Addr) (τ : List (List Int)) : Prop := ∃ kvs, H d = some (.dK kvs) ∧ RtsAt H kvs τ ∧ kvs.length = τ.length ∧ (∀ j, τ.length ≤ j → valV kvs (Sum.inl ((2 ^ j : Nat) : Int)) = none) ∧ kvs.map (·.1) = ((List.range τ.length).map fun i => ((2 ^ i : Nat) : Int)).map (Sum.inl : Int → Key)
theorem RFul.at {H : Hp} {d : Addr} {τ : List (List Int)} (h : RFul H d τ) : RAt H d τ := by
  obtain ⟨kvs, a, b, _⟩ := h
  exact ⟨kvs, a, b⟩
theorem RFul.same {H H' : Hp} {d : Addr} {τ : List (List Int)} (h : RFul H d τ) (s : Same H H') : RFul H' d τ := by
  obtain ⟨kvs, a, b, c⟩ := h
  exact ⟨kvs, s _ _ a, b.same s, c⟩
theorem pow_inj {i j : Nat} (h : ((2 ^ i : Nat) : Int) = ((2 ^ j : Nat) : Int)) : i = j := by
  have e : 2 ^ i = 2 ^ j := Int.ofNat.inj h
  rcases Nat.lt_trichotomy i j with q | q | q
  · have := Nat.pow_lt_pow_right (a := 2) (by decide) q
    omega
  · exact q
  · have := Nat.pow_lt_pow_right (a := 2) (by decide) q
    omega
theorem RtsAt.put {H : Hp} {d : Addr} {kvs : List (Key × V)} {v : V} {o : HO} {n : Nat} (hd : H d = some (.dK kvs)) : ∀ {τ : List (List Int)}, τ.length ≤ n → RtsAt H kvs τ → RtsAt (upd H d o) (putK kvs (Sum.inl ((2 ^ n : Nat) : Int)) v) τ
  | [], _, _ => trivial
  | r :: τ, hl, ⟨⟨a, h1, h2⟩, h3⟩ => by
    rw [List.length_cons] at hl
    refine ⟨⟨a, ?_, ?_⟩, RtsAt.put hd (by omega) h3⟩
    · rw [valV_put, if_neg (fun q => ?_)]
      · exact h1
      · have := pow_inj (Sum.inl.inj q)
        omega
    · show upd H d o a = _
      rw [upd_ne (ne_of h2 hd (by intro q; cases q))]
      exact h2
section
variable {P : Program} {w : World} {K : PySem.W.Frag} {mg : Str → Option Value} {base : Heap}
/-! ### over -/
def spOver (C : Addr) (B : Nat) : Sp := fun vs H Q _ => ∃ (x y d : Addr) (n m : Rr.PN) (τ : List (List Int)) (S : Nat) (F : Type) (_ : Rr.OF F) (σ : List F), vs = [.ref x, .ref y, .ref d] ∧ NAt C H x n ∧ NAt C H y m ∧ RAt H d τ ∧ τ.length ≤ 3 ∧ Rr.PRoots σ τ ∧ Rr.NumOk τ m ∧ Rr.valp τ σ (Rr.el τ m.parts) ≠ 0 ∧
  Rr.Cr τ S m ∧ 1 ≤ S ∧ 2 ^ (25 * 2 ^ 3 * S) ≤ B ∧ TPair B τ n (Rr.minv τ m) ∧ ∀ (H' : Hp) (z : Addr), Same H H' → NAt C H' z (Rr.mover τ n m) → Q (.ref z) H'
theorem scOver : FnScope ["x", "y", "roots"] ["x", "y", "roots"] (defScope sOver) := ⟨rfl, rfl, rfl, by decide +kernel, rfl, by decide +kernel, by decide +kernel⟩
theorem ok_over {C : Addr} {B : Nat} (iv : Dn P w K mg base "inverse" (3 + 35) ["x", "roots"] (spInv C B 3)) (tm : Dn P w K mg base "times" 34 ["x", "y", "roots"] (spTimes C B)) (d : Df K mg "over" sOver ["x", "y", "roots"]) : Dn P w K mg base "over" 39 ["x", "y", "roots"] (spOver C B) := by
  refine d.dn scOver (fun vs H Q E h => ?_) (fun f cdv A outer s H vs Q E hr h => ?_)
  · obtain ⟨x, y, d, n, m, τ, S, F, _, σ, rfl, _⟩ := h
    rfl
  · obtain ⟨x, y, d, n, m, τ, S, F, iF, σ, rfl, hx, hy, hd, hl, R, hm, hv, cr, hS, hB, tp, k⟩ := h
    have hr34 : Room 34 _ := hr.mono (by omega)
    refine ⟨_, pss_one (ps_ret (pe_cd tm hr34 (by rfl) (pa_cons (pv 0) (pa_cons (pe_cd iv hr (by rfl) (pa_cons (pv 1) (pa_cons (pv 2) pa_nil))) (pa_cons (pv 2) pa_nil))))), ?_⟩
    refine ⟨_, rfl, _, rfl, _, rfl, y, d, m, τ, S, F, iF, σ, rfl, hy, hd, hl, R, hm, hv, cr, hS, hB, fun H1 z1 s1 g1 => ?_⟩
    exact ⟨_, rfl, x, z1, d, n, _, τ, rfl, hx.same s1, g1, hd.same s1, tp, fun H2 z2 s2 g2 => k H2 z2 (s1.trans s2) g2⟩
/-! ### root -/
structure RootPre (B : Nat) (τ : List (List Int)) (n : Rr.PN) : Prop where
  R : Rr.Rts τ
  l2 : τ.length ≤ 2
  sub : Rr.Sub τ n.parts
  sg : Rr.sz (Rr.low τ n.parts.length) n.parts ^ 2 ^ (Rr.low τ n.parts.length).length ≤ B
  mu : ∀ c ∈ n.parts, c.natAbs * n.under.natAbs ≤ B
def spRoot (C : Addr) (B : Nat) : Sp := fun vs H Q _ => ∃ (x d : Addr) (n : Rr.PN) (τ : List (List Int)), vs = [.ref x, .ref d] ∧ NAt C H x n ∧ RFul H d τ ∧ RootPre B τ n ∧
  (Rr.psign (Rr.low τ n.parts.length) n.parts = 0 → ∀ (H' : Hp) (z : Addr), Same H H' → NAt C H' z (Rr.mwhole 0) → Q (.ref z) H') ∧
  (Rr.psign (Rr.low τ n.parts.length) n.parts ≠ 0 → ∀ (H' : Hp) (z : Addr), (∀ b o, H b = some o → b ≠ d → H' b = some o) → RFul H' d (Rr.mrad τ n :: τ) → NAt C H' z (Rr.mroot τ n) → Q (.ref z) H')
theorem scRoot : FnScope ["x", "roots", "half"] ["x", "roots"] (defScope sRoot) := ⟨rfl, rfl, rfl, by decide +kernel, rfl, by decide +kernel, by decide +kernel⟩
theorem ok_root {C : Addr} {B : Nat} (hB : Goes B) (T : Blt mg) (N : NCl P w K mg base C) (sg : Dn P w K mg base "sign_of" 7 ["x", "roots"] (spSignOf C B)) (wh : Dn P w K mg base "whole" 3 ["v"] (spWhole C)) (sc : Dn P w K mg base "scaled" 1 ["parts", "factor"] spScaled) (wd : Dn P w K mg base "widened" 1 ["parts", "size"] spWidened)
    (d : Df K mg "root" sRoot ["x", "roots"]) : Dn P w K mg base "root" 8 ["x", "roots"] (spRoot C B) := by
  refine d.dn scRoot (fun vs H Q E h => ?_) (fun f cdv A outer s H vs Q E hr h => ?_)
  · obtain ⟨x, d, n, τ, rfl, _⟩ := h
    rfl
  · obtain ⟨x, d, n, τ, rfl, hx0, hd, pr, k0, k1⟩ := h
    have hr1 : Room 1 _ := hr.mono (by omega)
    have hr2 : Room 2 _ := hr.mono (by omega)
    have hr3 : Room 3 _ := hr.mono (by omega)
    have hU := hu_of hr
    refine ⟨_, pss_cons (ps_if (pt_cmpR op_eq (pe_cd sg hr (by rfl) (pa_cons (pv 0) (pa_cons (pv 1) pa_nil))) pe_int (nomark _)) (pss_one (ps_ret (pe_cd wh hr3 (by rfl) (pa_cons pe_int pa_nil)))) pss_nil)
      (pss_cons (ps_set (i := 2) scRoot.nd rfl (Or.inl rfl) (pe_op op_shl pe_int (pe_callB call_lenD (by rfl) T.len PySem.boot_len (pa_cons (pv 1) pa_nil))))
      (pss_cons (ps_dput hU (pv 1) (pv 2) (pe_cd wd hr1 (by rfl) (pa_cons (pe_cd sc hr1 (by rfl) (pa_cons (pe_fld (pv 0) rfl) (pa_cons (pe_fld (pv 0) rfl) pa_nil))) (pa_cons (pv 2) pa_nil))) rfl)
      (pss_one (ps_ret (pe_mkN N hr2 (by rfl) (pa_cons (pe_op op_cat (pe_op op_cat (pe_op op_rep (pe_lst (pa_cons pe_int pa_nil)) (pv 2)) (pe_lst (pa_cons pe_int pa_nil))) (pe_op op_rep (pe_lst (pa_cons pe_int pa_nil)) (pe_op op_sub (pv 2) pe_int))) (pa_cons (pe_fld (pv 0) rfl) pa_nil))))))), ?_⟩
    have lp := sub_len pr.sub (Nat.le_trans pr.l2 (by decide))
    refine ⟨_, rfl, _, rfl, x, d, n, Rr.low τ n.parts.length, rfl, hx0, hd.at.low _, Nat.le_trans (Rr.low_length _ _) (Nat.le_trans pr.l2 (by decide)), Rr.low_rts _ pr.R, Rr.low_pit pr.sub, pr.sg, fun H1 s1 => ?_⟩
    refine ⟨rfl, _, rfl, ite2 (fun c => ?_) (fun c => ?_)⟩
    · have c' := V.int.inj (of_decide_eq_true c)
      exact ⟨0, rfl, fun H2 z s2 g2 => k0 c' H2 z (s1.trans s2) g2⟩
    · have c' : Rr.psign (Rr.low τ n.parts.length) n.parts ≠ 0 := fun q => c (decide_eq_true (congrArg V.int q))
      obtain ⟨dx, px, hx, gx⟩ := hx0.same s1
      obtain ⟨kvs, hk, hts, hkl, hno, hky⟩ := hd.same s1
      refine ⟨_, rfl, d, kvs, rfl, hk, _, _, rfl, rfl, ⟨by omega, by rw [hkl]; have := pr.l2; omega, by decide⟩, ?_⟩
      have e1 : (1 : Int) * 2 ^ ((kvs.length : Nat) : Int).toNat = ((2 ^ τ.length : Nat) : Int) := by
        rw [hkl, Int.toNat_natCast, Int.one_mul]
        simp
      have p4 : 2 ^ τ.length ≤ 4 := Nat.pow_le_pow_right (n := 2) (by decide) pr.l2
      have p1 := Rr.two_pos τ.length
      refine ⟨_, rfl, x, C, dx, _, _, rfl, hx, N.cl, N.nP, nf_parts _ _, _, rfl, x, C, dx, _, _, rfl, hx, N.cl, N.nU, nf_under _ _, px, _, _, rfl, gx, by omega, fun c hc => hB _ _ (pr.mu c hc), fun H2 p2 s2 g2 => ?_⟩
      have l2 : (Rr.pscale n.parts n.under).length = n.parts.length := by unfold Rr.pscale; rw [List.length_map]
      refine ⟨_, rfl, p2, _, 2 ^ τ.length, congrArg (fun z => [V.ref p2, V.int z]) e1, g2, by omega, by omega, fun H3 p3 s3 g3 => ?_⟩
      have s13 := s2.trans s3
      refine ⟨_, rfl, _, rfl, d, upd H3 d (.dK (putK kvs (Sum.inl ((2 ^ τ.length : Nat) : Int)) (.ref p3))), rfl, ?_, ?_⟩
      · have dp := DPut.k (k := Sum.inl ((2 ^ τ.length : Nat) : Int)) (v := .ref p3) (s13 _ _ hk) (small1000 (by rw [hkl]; have := pr.l2; omega))
        show DPut H3 d (V.int (1 * 2 ^ ((kvs.length : Nat) : Int).toNat)) _ _
        rw [e1]
        exact dp
      have xd : x ≠ d := ne_of hx hk (by intro q; cases q)
      have pd : p3 ≠ d := ne_of g3 (s13 _ _ hk) (by intro q; cases q)
      have rts : RtsAt (upd H3 d (.dK (putK kvs (Sum.inl ((2 ^ τ.length : Nat) : Int)) (.ref p3)))) (putK kvs (Sum.inl ((2 ^ τ.length : Nat) : Int)) (.ref p3)) (Rr.mrad τ n :: τ) := by
        refine ⟨⟨p3, ?_, ?_⟩, RtsAt.put (s13 _ _ hk) (Nat.le_refl _) (hts.same s13)⟩
        · rw [valV_put, if_pos rfl]
        · show upd _ d _ p3 = _
          rw [upd_ne pd]
          exact g3
      have hk4 : upd H3 d (.dK (putK kvs (Sum.inl ((2 ^ τ.length : Nat) : Int)) (.ref p3))) d = some (.dK (putK kvs (Sum.inl ((2 ^ τ.length : Nat) : Int)) (.ref p3))) := upd_same
      have hx4 : upd H3 d (.dK (putK kvs (Sum.inl ((2 ^ τ.length : Nat) : Int)) (.ref p3))) x = some (.ins C dx (nf (.ref px) (.int n.under))) := by
        rw [upd_ne xd]
        exact s13 _ _ hx
      have s4 : ∀ b o, H b = some o → b ≠ d → upd H3 d (.dK (putK kvs (Sum.inl ((2 ^ τ.length : Nat) : Int)) (.ref p3))) b = some o := fun b o e hb => by
        rw [upd_ne hb]
        exact s13 _ _ (s1 _ _ e)
      generalize upd H3 d _ = H4 at rts hk4 hx4 s4
      have ful : RFul H4 d (Rr.mrad τ n :: τ) := by
        refine ⟨_, hk4, rts, ?_, fun j hj => ?_, ?_⟩
        · rw [putK_new _ (hno _ (Nat.le_refl _)), List.length_append, hkl]
          rfl
        · rw [List.length_cons] at hj
          rw [valV_put, if_neg (fun q => ?_)]
          · exact hno j (by omega)
          · have := pow_inj (Sum.inl.inj q)
            omega
        · rw [putK_new _ (hno _ (Nat.le_refl _)), List.map_append, hky, List.length_cons, List.range_succ, List.map_append, List.map_append]
          rfl
      -- Number([0] * half + [1] + [0] * (half - 1), x.under)
      refine ⟨(by show 1 ≤ sizeLine; decide), fun a1 ha1 => ⟨_, rfl, a1, _, [V.int 0], rfl, congrArg V.int e1, upd_same, by omega, by omega, line1000 (by show 1 * _ ≤ 1000; omega), fun a2 ha2 => ?_⟩⟩
      have t1 := same_new (o := .lst [V.int 0]) ha1
      have t2 := same_new (o := .lst (List.replicate ((2 ^ τ.length : Nat) : Int).toNat [V.int 0]).flatten) ha2
      refine ⟨(by show 1 ≤ sizeLine; decide), fun a3 ha3 => ?_⟩
      have t3 := same_new (o := .lst [V.int 1]) ha3
      refine ⟨a2, a3, _, _, rfl, rfl, t3 _ _ upd_same, upd_same, ?_, fun a4 ha4 => ?_⟩
      · rw [rep_one, List.length_replicate]
        exact line1000 (by show _ + 1 ≤ 1000; omega)
      have t4 := same_new (o := .lst ((List.replicate ((2 ^ τ.length : Nat) : Int).toNat [V.int 0]).flatten ++ [V.int 1])) ha4
      refine ⟨(by show 1 ≤ sizeLine; decide), fun a5 ha5 => ?_⟩
      have t5 := same_new (o := .lst [V.int 0]) ha5
      refine ⟨_, rfl, _, _, congrArg V.int e1, rfl, a5, _, [V.int 0], rfl, rfl, upd_same, by omega, by omega, line1000 (by show 1 * _ ≤ 1000; omega), fun a6 ha6 => ?_⟩
      have t6 := same_new (o := .lst (List.replicate (((2 ^ τ.length : Nat) : Int) - 1).toNat [V.int 0]).flatten) ha6
      refine ⟨a4, a6, _, _, rfl, rfl, t6 _ _ (t5 _ _ upd_same), upd_same, ?_, fun a7 ha7 => ?_⟩
      · rw [rep_one, rep_one, List.length_append, List.length_replicate, List.length_replicate]
        exact line1000 (by show _ + 1 + _ ≤ 1000; omega)
      have t7 := same_new (o := .lst (((List.replicate ((2 ^ τ.length : Nat) : Int).toNat [V.int 0]).flatten ++ [V.int 1]) ++ (List.replicate (((2 ^ τ.length : Nat) : Int) - 1).toNat [V.int 0]).flatten)) ha7
      have tt := (((((t1.trans t2).trans t3).trans t4).trans t5).trans t6).trans t7
      refine ⟨_, rfl, x, C, dx, _, _, rfl, tt _ _ hx4, N.cl, N.nU, nf_under _ _, ?_⟩
      intro z dz nz ndz nez
      refine ⟨z, dz, _, _, rfl, upd_same, fun H5 hz kp => ⟨rfl, ?_⟩⟩
      have s7 := Same.made nz ndz kp
      have st := tt.trans s7
      refine k1 c' H5 z (fun b o e hb => st _ _ (s4 b o e hb)) (ful.same st) ⟨dz, a7, hz, ?_⟩
      show H5 a7 = _
      rw [s7 _ _ upd_same, rep_one, rep_one]
      unfold Rr.mroot
      rw [Int.toNat_natCast, show (((2 ^ τ.length : Nat) : Int) - 1).toNat = 2 ^ τ.length - 1 by omega, List.map_append, List.map_cons, List.map_replicate, List.map_replicate, List.append_assoc]
      rfl
end
end Wk
end
section
set_option Elab.async false
set_option linter.all false
set_option maxRecDepth 100000
set_option maxHeartbeats 2000000
namespace Wk
open PySem PySem.Spec PyProof.Rows L2
abbrev sStepsOf : Stmt := top 56
abbrev sFirstWrong : Stmt := top 57
abbrev sFieldsWrong : Stmt := top 58
abbrev sWeightOf : Stmt := top 59
/-- the text's numbers -/
structure Cst (mg : Str → Option Value) : Prop where
  whole : ∃ t, mg "WHOLE" = some (.int 0 t)
  plus : ∃ t, mg "PLUS" = some (.int 1 t)
  minus : ∃ t, mg "MINUS" = some (.int 2 t)
  times : ∃ t, mg "TIMES" = some (.int 3 t)
  over : ∃ t, mg "OVER" = some (.int 4 t)
  root : ∃ t, mg "ROOT" = some (.int 5 t)
  steps : ∃ t, mg "MOST_STEPS" = some (.int 32 t)
  roots : ∃ t, mg "MOST_ROOTS" = some (.int 3 t)
  weight : ∃ t, mg "MOST_WEIGHT" = some (.int 256 t)
  ww : ∃ t, mg "WHOLE_WEIGHT" = some (.int 32 t)
  lim : ∃ t, mg "VALUE_LIMIT" = some (.int 2147483648 t)
theorem pe_k {X : Cx} {x : Str} {i : Int} {pos : Pos} (h : ∃ t, X.mg x = some (.int i t)) (hg : Gl X x) (hd : (x == ("__debug__" : Str)) = false := by decide) : PE X (.Name x pos) (tC (.int i)) := by
  obtain ⟨t, h⟩ := h
  exact pe_glob hg h ⟨t, rfl⟩ hd
/-! ### steps as lists -/
def q4 (s : Lk.Step) : List Int := [(s.op : Int), (s.a : Int), (s.b : Int), s.v]
def StAt (H : Hp) (l : Addr) (st : List Lk.Step) : Prop := ∃ as : List Addr, H l = some (.lst (as.map V.ref)) ∧ as.length = st.length ∧ ∀ (j : Nat) (a : Addr) (s : Lk.Step), as[j]? = some a → st[j]? = some s → IL H a (q4 s)
theorem StAt.same {H H' : Hp} {l : Addr} {st : List Lk.Step} (h : StAt H l st) (s : Same H H') : StAt H' l st := by
  obtain ⟨as, a, b, c⟩ := h
  exact ⟨as, s _ _ a, b, fun j x q e1 e2 => s _ _ (c j x q e1 e2)⟩
theorem lst_ne {ns : List Int} (h : ns ≠ []) (as : List Addr) : HO.lst (ns.map V.int) ≠ HO.lst (as.map V.ref) := by
  intro q
  have q' := HO.lst.inj q
  cases ns with
  | nil => exact h rfl
  | cons n ns =>
    cases as with
    | nil => cases q'
    | cons a as =>
      have := (List.cons.inj q').1
      cases this
theorem flat_len : ∀ st : List Lk.Step, (st.map q4).flatten.length = 4 * st.length
  | [] => rfl
  | s :: st => by
    rw [List.map_cons, List.flatten_cons, List.length_append, flat_len st, List.length_cons]
    show 4 + _ = _
    omega
theorem flat_cut : ∀ {st : List Lk.Step} {k : Nat} {s : Lk.Step}, st[k]? = some s → ((st.map q4).flatten.drop (4 * k)).take 4 = q4 s
  | [], k, s, h => by simp at h
  | s :: st, 0, t, h => by
    have e : s = t := Option.some.inj h
    subst e
    rfl
  | s :: st, k + 1, t, h => by
    have ih := flat_cut (st := st) (k := k) (s := t) h
    rw [List.map_cons, List.flatten_cons, show 4 * (k + 1) = 4 * k + 4 by omega]
    exact ih
theorem cut_at {ns : List Int} {k : Nat} {z y : Int} (hz : z = ((4 * k : Nat) : Int)) (hy : y = ((4 * k + 4 : Nat) : Int)) (h : 4 * k + 4 ≤ ns.length) : cutV (ns.map V.int) (some z) (some y) = ((ns.drop (4 * k)).take 4).map V.int := by
  subst hz hy
  unfold cutV
  rw [HT.sIx_nat, HT.sIx_nat, List.length_map, Nat.min_eq_left (by omega), Nat.min_eq_left (by omega), List.map_take, List.map_drop]
  congr 1
  omega
section
variable {P : Program} {w : World} {K : PySem.W.Frag} {mg : Str → Option Value} {base : Heap}
/-! ### steps_of -/
def spStepsOf (K : PySem.W.Frag) : Sp := fun vs H Q _ => ∃ (a : Addr) (st : List Lk.Step), vs = [.ref a] ∧ SqL K H a ((st.map q4).flatten.map V.int) ∧ st.length ≤ 100 ∧ ∀ (H' : Hp) (l : Addr), Same H H' → StAt H' l st → Q (.ref l) H'
theorem scStepsOf : FnScope ["p", "k"] ["p"] (defScope sStepsOf) := ⟨rfl, rfl, rfl, by decide +kernel, rfl, by decide +kernel, by decide +kernel⟩
theorem ok_stepsof (T : Blt mg) (d : Df K mg "steps_of" sStepsOf ["p"]) : Dn P w K mg base "steps_of" 1 ["p"] (spStepsOf K) := by
  refine d.dn scStepsOf (fun vs H Q E h => ?_) (fun f cdv A outer s H vs Q E hr h => ?_)
  · obtain ⟨a, st, rfl, _⟩ := h
    rfl
  · obtain ⟨a, st, rfl, ha, hl, k⟩ := h
    refine ⟨_, pss_one (ps_ret (pe_lc rfl scStepsOf.nd (pi_range1 rfl T.rng (pa_cons (pe_op op_fdiv (pe_callB call_len_seq (by rfl) T.len PySem.boot_len (pa_cons (pv 0) pa_nil)) pe_int) pa_nil)) (blkOk_by (own := [("k", 1)]) (by show blkC ["p", "k"] (defScope sStepsOf) _ _ = true; decide +kernel)) (fun _ _ _ _ _ => pg_name (i := 1) scStepsOf.nd rfl (Or.inl rfl)) (fun _ _ _ _ _ => pts_nil)
      (fun _ _ _ _ _ => pe_slice (r := rSlL K) sl_list (pv 0) (po_some (pe_op op_mul pe_int (pv 1))) (po_some (pe_op op_add (pe_op op_mul pe_int (pv 1)) pe_int))))), ?_⟩
    have fl := flat_len st
    refine ⟨_, rfl, a, _, rfl, .inl ha, _, _, rfl, rfl, ⟨by decide, by decide⟩, _, rfl, ?_, ?_, fun D hD => ?_⟩
    · show -(2 ^ 62) ≤ (((List.map V.int _).length : Nat) : Int) / 4
      omega
    · show (((List.map V.int (List.map q4 st).flatten).length : Nat) : Int) / 4 < 2 ^ 62
      rw [List.length_map, fl]; omega
    have e1 : ((((List.map V.int (List.map q4 st).flatten).length : Nat) : Int) / 4).toNat = st.length := by rw [List.length_map, fl]; omega
    have main := lc_range (lo := 0) (n := st.length) (g := gName 1) (tt := tYes) (te := tSl (rSlL K) (tVar 0) (tPart (tOp (rI CMul fun i j => .int (i * j)) (tC (.int 4)) (tVar 1))) (tPart (tOp (rI0 fun i j => .int (i + j)) (tOp (rI CMul fun i j => .int (i * j)) (tC (.int 4)) (tVar 1)) (tC (.int 4)))))
      (vs := [1]) (σ := start ["p", "k"] [V.ref a]) (H1 := H) (D := D) (Qd := fun H' => Q (.ref D) H')
      (fun i H' => Same H H' ∧ ∃ as : List Addr, H' D = some (.lst (as.map V.ref)) ∧ as.length = i ∧ ∀ (j : Nat) (b : Addr) (s : Lk.Step), as[j]? = some b → st[j]? = some s → IL H' b (q4 s)) ⟨same_new hD, [], upd_same, rfl, fun j b s e => by simp at e⟩ ?_ ?_
    · rw [← e1] at main
      exact main
    · rintro i H' hi ⟨s1, as, hp, hla, hal⟩
      obtain ⟨t, ht⟩ : ∃ t, st[i]? = some t := ⟨_, List.getElem?_eq_getElem hi⟩
      refine ⟨rfl, yes_then ?_⟩
      refine ⟨_, rfl, _, rfl, _, _, rfl, rfl, .inl ⟨by decide, by decide⟩, _, rfl, _, rfl, _, _, rfl, rfl, .inl ⟨by decide, by decide⟩, _, _, rfl, rfl, _, rfl, a, _, rfl, s1.seq ha, fun p hp2 => ?_⟩
      rw [cut_at (k := i) (by omega) (by omega) (by rw [fl]; omega), flat_cut ht]
      have s2 := same_new (o := .lst ((q4 t).map V.int)) hp2
      have nD : D ≠ p := ne_of_none hp hp2
      refine ⟨_, s2 _ _ hp, ?_, fun b o e => ?_, as ++ [p], ?_, by rw [List.length_append, hla]; rfl, fun j b s e1 e2 => ?_⟩
      · rw [List.length_map]
        exact small1000 (by omega)
      · rw [upd_ne (ne_of_none e hD)]
        exact s2 _ _ (s1 b o e)
      · show upd _ D _ D = _
        rw [upd_same, List.map_append]
        rfl
      · show upd _ D _ b = _
        rcases Nat.lt_or_ge j as.length with q | q
        · rw [List.getElem?_append_left q] at e1
          have hb := hal j b s e1 e2
          rw [upd_ne (ne_of hb hp (lst_ne (by unfold q4; simp) as))]
          exact s2 _ _ hb
        · rw [List.getElem?_append_right q] at e1
          have ej : j = i := by
            have := (List.getElem?_eq_some_iff.mp e1).1
            simp at this
            omega
          subst ej
          rw [hla, Nat.sub_self] at e1
          have eb : p = b := Option.some.inj e1
          subst eb
          rw [ht] at e2
          obtain rfl := Option.some.inj e2
          rw [upd_ne (fun q => nD q.symm)]
          exact upd_same
    · rintro H' ⟨s1, as, hp, hla, hal⟩
      exact k H' D s1 ⟨as, hp, hla, hal⟩
end
end Wk
end
section
set_option Elab.async false
set_option linter.all false
set_option maxRecDepth 100000
set_option maxHeartbeats 2000000
namespace Wk
open PySem PySem.Spec PyProof.Rows L2
/-! ### a step's fields -/
theorem fine_big {s : Lk.Step} {k : Nat} (h : 5 < s.op) : s.fine k = false := by
  unfold Lk.Step.fine
  rw [decide_eq_false (by omega)]
  rfl
theorem fine_whole {s : Lk.Step} {k : Nat} (h : s.op = 0) : s.fine k = (s.a == 0 && (s.b == 0 && (decide (-(2 ^ 31) ≤ s.v) && decide (s.v < 2 ^ 31)))) := by
  unfold Lk.Step.fine
  rw [h]
  rfl
theorem fine_root {s : Lk.Step} {k : Nat} (h : s.op = 5) : s.fine k = (s.v == 0 && (decide (s.a < k) && s.b == 0)) := by
  unfold Lk.Step.fine
  rw [h]
  rfl
theorem fine_two {s : Lk.Step} {k : Nat} (h : s.op ≤ 5) (h0 : s.op ≠ 0) (h5 : s.op ≠ 5) : s.fine k = (s.v == 0 && (decide (s.a < k) && decide (s.b < k))) := by
  unfold Lk.Step.fine
  rw [decide_eq_true h, if_neg h0, if_neg h5]
  rfl
section
variable {P : Program} {w : World} {K : PySem.W.Frag} {mg : Str → Option Value} {base : Heap}
def spFields : Sp := fun vs H Q _ => ∃ (l : Addr) (s : Lk.Step) (k : Nat), vs = [.ref l, .int k] ∧ IL H l (q4 s) ∧ Q (.bl (!s.fine k)) H
theorem scFields : FnScope ["step", "k", "op", "a", "b", "v"] ["step", "k"] (defScope sFieldsWrong) := ⟨rfl, rfl, rfl, by decide +kernel, rfl, by decide +kernel, by decide +kernel⟩
theorem vin {x y : Int} (h : ¬ decide (V.int x = V.int y) = true) : x ≠ y := fun q => h (decide_eq_true (congrArg V.int q))
theorem vn {x y : Int} (h : (!decide (V.int x = V.int y)) = true) : x ≠ y := fun q => by
  rw [decide_eq_true (congrArg V.int q)] at h
  cases h
theorem vnn {x y : Int} (h : ¬ (!decide (V.int x = V.int y)) = true) : x = y := Classical.byContradiction fun q => h (by rw [decide_eq_false (fun z => q (V.int.inj z))]; rfl)
theorem ok_fields (C : Cst mg) (d : Df K mg "fields_wrong" sFieldsWrong ["step", "k"]) : Dn P w K mg base "fields_wrong" 1 ["step", "k"] spFields := by
  refine d.dn scFields (fun vs H Q E h => ?_) (fun f cdv A outer s H vs Q E hr h => ?_)
  · obtain ⟨l, s, k, rfl, _⟩ := h
    rfl
  · obtain ⟨l, st, k, rfl, hl, q⟩ := h
    refine ⟨_, pss_cons (ps_set (i := 2) scFields.nd rfl (Or.inl rfl) (pe_ix ix_list (pv 0) pe_int (fun _ _ => rfl)))
      (pss_cons (ps_set (i := 3) scFields.nd rfl (Or.inl rfl) (pe_ix ix_list (pv 0) pe_int (fun _ _ => rfl)))
      (pss_cons (ps_set (i := 4) scFields.nd rfl (Or.inl rfl) (pe_ix ix_list (pv 0) pe_int (fun _ _ => rfl)))
      (pss_cons (ps_set (i := 5) scFields.nd rfl (Or.inl rfl) (pe_ix ix_list (pv 0) pe_int (fun _ _ => rfl)))
      (pss_cons (ps_if (pt_cmpR op_gt (pv 2) (pe_k C.root (by rfl)) (nomark _)) (pss_one (ps_ret pe_bl)) pss_nil)
      (pss_cons (ps_if (pt_cmpR op_eq (pv 2) (pe_k C.whole (by rfl)) (nomark _)) (pss_one (ps_ret (pe_or (pe_cmpR op_ne (pv 3) pe_int (nomark _)) (pe_or (pe_cmpR op_ne (pv 4) pe_int (nomark _)) (pe_or (pe_cmpR op_lt (pv 5) (pe_un un_neg (pe_k C.lim (by rfl))) (nomark _)) (pe_one (pe_cmpR op_ge (pv 5) (pe_k C.lim (by rfl)) (nomark _)))))))) pss_nil)
      (pss_cons (ps_if (PW.pt (pw_or (pt_cmpR op_ne (pv 5) pe_int (nomark _)) (pw_or1 (pt_cmpR op_ge (pv 3) (pv 1) (nomark _))))) (pss_one (ps_ret pe_bl)) pss_nil)
      (pss_cons (ps_if (pt_cmpR op_eq (pv 2) (pe_k C.root (by rfl)) (nomark _)) (pss_one (ps_ret (pe_cmpR op_ne (pv 4) pe_int (nomark _)))) pss_nil)
      (pss_one (ps_ret (pe_cmpR op_ge (pv 4) (pv 1) (nomark _))))))))))), ?_⟩
    refine ⟨_, rfl, l, _, _, _, rfl, rfl, SqL.of hl, at_of (j := 0) rfl rfl, ?_⟩
    refine ⟨_, rfl, l, _, _, _, rfl, rfl, SqL.of hl, at_of (j := 1) rfl rfl, ?_⟩
    refine ⟨_, rfl, l, _, _, _, rfl, rfl, SqL.of hl, at_of (j := 2) rfl rfl, ?_⟩
    refine ⟨_, rfl, l, _, _, _, rfl, rfl, SqL.of hl, at_of (j := 3) rfl rfl, ?_⟩
    refine ⟨_, rfl, _, _, rfl, rfl, _, rfl, ite2 (fun c => ?_) (fun c => ?_)⟩
    · have c' : (5 : Int) < st.op := of_decide_eq_true c
      rw [fine_big (by omega)] at q
      exact q
    have c1 : ¬ (5 : Int) < st.op := fun z => c (decide_eq_true z)
    refine ⟨_, rfl, rfl, _, rfl, ite2 (fun c => ?_) (fun c => ?_)⟩
    · have c2 : (st.op : Int) = 0 := V.int.inj (of_decide_eq_true c)
      rw [fine_whole (by omega)] at q
      refine ⟨_, rfl, rfl, _, rfl, ite2 (fun c => ?_) (fun c => ?_)⟩
      · have c3 := vn c
        rw [show (st.a == 0) = false from beq_false_of_ne (by omega)] at q
        exact q
      have c3 := vnn c
      rw [show (st.a == 0) = true from beq_iff_eq.mpr (by omega)] at q
      refine ⟨_, rfl, rfl, _, rfl, ite2 (fun c => ?_) (fun c => ?_)⟩
      · have c4 := vn c
        rw [show (st.b == 0) = false from beq_false_of_ne (by omega)] at q
        exact q
      have c4 := vnn c
      rw [show (st.b == 0) = true from beq_iff_eq.mpr (by omega)] at q
      refine ⟨_, rfl, _, rfl, _, _, rfl, rfl, _, rfl, ite2 (fun c => ?_) (fun c => ?_)⟩
      · have c5 : st.v < -2147483648 := of_decide_eq_true c
        rw [decide_eq_false (show ¬ -(2 ^ 31) ≤ st.v by omega)] at q
        exact q
      have c5 : ¬ st.v < -2147483648 := fun z => c (decide_eq_true z)
      refine ⟨_, rfl, _, _, rfl, rfl, ?_⟩
      rw [decide_eq_true (show -(2 ^ 31) ≤ st.v by omega)] at q
      have e : decide ((2147483648 : Int) ≤ st.v) = !(true && (true && (true && decide (st.v < 2 ^ 31)))) := by
        by_cases z : st.v < 2 ^ 31
        · rw [decide_eq_true z, decide_eq_false (by omega)]
          rfl
        · rw [decide_eq_false z, decide_eq_true (by omega)]
          rfl
      show Q (.bl (decide ((2147483648 : Int) ≤ st.v))) H
      rw [e]
      exact q
    have c2 : (st.op : Int) ≠ 0 := vin c
    refine ⟨_, rfl, rfl, _, rfl, ite2 (fun c => iteT ?_) (fun c => ?_)⟩
    · have c3 := vn c
      have e : st.fine k = false := by
        by_cases z : st.op = 5
        · rw [fine_root z, show (st.v == 0) = false from beq_false_of_ne c3]
          rfl
        · rw [fine_two (by omega) (by omega) z, show (st.v == 0) = false from beq_false_of_ne c3]
          rfl
      rw [e] at q
      exact q
    have c3 := vnn c
    refine ⟨_, rfl, _, rfl, _, _, rfl, rfl, _, rfl, ite2 (fun c => ?_) (fun c => ?_)⟩
    · have c4 : (k : Int) ≤ st.a := of_decide_eq_true c
      have e : st.fine k = false := by
        by_cases z : st.op = 5
        · rw [fine_root z, decide_eq_false (show ¬ st.a < k by omega), Bool.false_and, Bool.and_false]
        · rw [fine_two (by omega) (by omega) z, decide_eq_false (show ¬ st.a < k by omega), Bool.false_and, Bool.and_false]
      rw [e] at q
      exact q
    have c4 : ¬ (k : Int) ≤ st.a := fun z => c (decide_eq_true z)
    refine ⟨_, rfl, rfl, _, rfl, ite2 (fun c => ?_) (fun c => ?_)⟩
    · have c5 : (st.op : Int) = 5 := V.int.inj (of_decide_eq_true c)
      refine ⟨_, rfl, rfl, ?_⟩
      have e : (!decide (V.int (st.b : Int) = V.int 0)) = !st.fine k := by
        rw [fine_root (by omega), decide_eq_true (show st.a < k by omega), show (st.v == 0) = true from beq_iff_eq.mpr c3, Bool.true_and, Bool.true_and]
        by_cases z : st.b = 0
        · rw [z]; rfl
        · rw [decide_eq_false (fun y => z (by have := V.int.inj y; omega)), show (st.b == 0) = false from beq_false_of_ne z]
      rw [e]
      exact q
    have c5 : (st.op : Int) ≠ 5 := vin c
    refine ⟨_, rfl, _, rfl, _, _, rfl, rfl, ?_⟩
    have e : decide ((k : Int) ≤ st.b) = !st.fine k := by
      rw [fine_two (by omega) (by omega) (by omega), decide_eq_true (show st.a < k by omega), show (st.v == 0) = true from beq_iff_eq.mpr c3, Bool.true_and, Bool.true_and]
      by_cases z : st.b < k
      · rw [decide_eq_true z, decide_eq_false (by omega)]
        rfl
      · rw [decide_eq_false z, decide_eq_true (by omega)]
        rfl
    show Q (.bl (decide ((k : Int) ≤ st.b))) H
    rw [e]
    exact q
/-! ### weight_of -/
def wi (w : List Nat) : List Int := w.map fun (n : Nat) => ((n : Nat) : Int)
def spWeight : Sp := fun vs H Q _ => ∃ (l m : Addr) (s : Lk.Step) (ws : List Nat), vs = [.ref l, .ref m] ∧ IL H l (q4 s) ∧ IL H m (wi ws) ∧ s.fine ws.length = true ∧ Q (.int ((Lk.weight ws s : Nat) : Int)) H
theorem scWeight : FnScope ["step", "weights", "op", "both"] ["step", "weights"] (defScope sWeightOf) := ⟨rfl, rfl, rfl, by decide +kernel, rfl, by decide +kernel, by decide +kernel⟩
theorem wi_at {ws : List Nat} {j : Nat} (h : j < ws.length) : (wi ws)[j]? = some ((ws.getD j 0 : Nat) : Int) := by
  unfold wi
  rw [List.getElem?_map, List.getD_eq_getElem?_getD, List.getElem?_eq_getElem h]
  rfl
theorem ok_weight (C : Cst mg) (d : Df K mg "weight_of" sWeightOf ["step", "weights"]) : Dn P w K mg base "weight_of" 1 ["step", "weights"] spWeight := by
  refine d.dn scWeight (fun vs H Q E h => ?_) (fun f cdv A outer s H vs Q E hr h => ?_)
  · obtain ⟨l, m, s, ws, rfl, _⟩ := h
    rfl
  · obtain ⟨l, m, st, ws, rfl, hl, hm, hf, q⟩ := h
    refine ⟨_, pss_cons (ps_set (i := 2) scWeight.nd rfl (Or.inl rfl) (pe_ix ix_list (pv 0) pe_int (fun _ _ => rfl)))
      (pss_cons (ps_if (pt_cmpR op_eq (pv 2) (pe_k C.whole (by rfl)) (nomark _)) (pss_one (ps_ret (pe_k C.ww (by rfl)))) pss_nil)
      (pss_cons (ps_if (pt_cmpR op_eq (pv 2) (pe_k C.root (by rfl)) (nomark _)) (pss_one (ps_ret (pe_ix ix_list (pv 1) (pe_ix ix_list (pv 0) pe_int (fun _ _ => rfl)) (fun _ _ => rfl)))) pss_nil)
      (pss_cons (ps_set (i := 3) scWeight.nd rfl (Or.inl rfl) (pe_op op_add (pe_ix ix_list (pv 1) (pe_ix ix_list (pv 0) pe_int (fun _ _ => rfl)) (fun _ _ => rfl)) (pe_ix ix_list (pv 1) (pe_ix ix_list (pv 0) pe_int (fun _ _ => rfl)) (fun _ _ => rfl))))
      (pss_cons (ps_if (PW.pt (pw_or (pt_cmpR op_eq (pv 2) (pe_k C.plus (by rfl)) (nomark _)) (pw_or1 (pt_cmpR op_eq (pv 2) (pe_k C.minus (by rfl)) (nomark _))))) (pss_one (ps_ret (pe_op op_add (pv 3) pe_int))) pss_nil)
      (pss_one (ps_ret (pv 3))))))), ?_⟩
    refine ⟨_, rfl, l, _, _, _, rfl, rfl, SqL.of hl, at_of (j := 0) rfl rfl, ?_⟩
    refine ⟨_, rfl, rfl, _, rfl, ite2 (fun c => ?_) (fun c => ?_)⟩
    · have c1 : (st.op : Int) = 0 := V.int.inj (of_decide_eq_true c)
      have e : Lk.weight ws st = 32 := by
        unfold Lk.weight
        rw [show st.op = 0 by omega]
        rfl
      rw [e] at q
      exact q
    have c1 : (st.op : Int) ≠ 0 := vin c
    have f5 : st.op ≤ 5 := Classical.byContradiction fun z => by rw [fine_big (by omega)] at hf; cases hf
    refine ⟨_, rfl, rfl, _, rfl, ite2 (fun c => ?_) (fun c => ?_)⟩
    · have c2 : (st.op : Int) = 5 := V.int.inj (of_decide_eq_true c)
      rw [fine_root (by omega), Bool.and_eq_true, Bool.and_eq_true] at hf
      have fa := of_decide_eq_true hf.2.1
      refine ⟨_, rfl, _, rfl, l, _, _, _, rfl, rfl, SqL.of hl, at_of (j := 1) rfl rfl, m, _, _, _, rfl, rfl, SqL.of hm, at_of (j := st.a) rfl (mapI_at (wi_at fa)), ?_⟩
      have e : Lk.weight ws st = ws.getD st.a 0 := by
        unfold Lk.weight
        rw [show st.op = 5 by omega]
        rfl
      rw [e] at q
      exact q
    have c2 : (st.op : Int) ≠ 5 := vin c
    rw [fine_two f5 (by omega) (by omega), Bool.and_eq_true, Bool.and_eq_true] at hf
    have fa := of_decide_eq_true hf.2.1
    have fb := of_decide_eq_true hf.2.2
    refine ⟨_, rfl, _, rfl, l, _, _, _, rfl, rfl, SqL.of hl, at_of (j := 1) rfl rfl, m, _, _, _, rfl, rfl, SqL.of hm, at_of (j := st.a) rfl (mapI_at (wi_at fa)), _, rfl, _, rfl, l, _, _, _, rfl, rfl, SqL.of hl, at_of (j := 2) rfl rfl, m, _, _, _, rfl, rfl, SqL.of hm, at_of (j := st.b) rfl (mapI_at (wi_at fb)), _, _, rfl, rfl, ?_⟩
    have lst : st.op = 1 ∨ st.op = 2 ∨ st.op = 3 ∨ st.op = 4 := by omega
    refine ⟨_, rfl, rfl, _, rfl, ite2 (fun c => iteT ?_) (fun c => ?_)⟩
    · have c3 : (st.op : Int) = 1 := V.int.inj (of_decide_eq_true c)
      refine ⟨_, rfl, _, _, rfl, rfl, ?_⟩
      have e : Lk.weight ws st = ws.getD st.a 0 + ws.getD st.b 0 + 1 := by
        unfold Lk.weight
        rw [show st.op = 1 by omega]
        rfl
      rw [e] at q
      exact q
    have c3 : (st.op : Int) ≠ 1 := vin c
    refine ⟨_, rfl, rfl, _, rfl, ite2 (fun c => ?_) (fun c => ?_)⟩
    · have c4 : (st.op : Int) = 2 := V.int.inj (of_decide_eq_true c)
      refine ⟨_, rfl, _, _, rfl, rfl, ?_⟩
      have e : Lk.weight ws st = ws.getD st.a 0 + ws.getD st.b 0 + 1 := by
        unfold Lk.weight
        rw [show st.op = 2 by omega]
        rfl
      rw [e] at q
      exact q
    have c4 : (st.op : Int) ≠ 2 := vin c
    refine ⟨_, rfl, ?_⟩
    have e : Lk.weight ws st = ws.getD st.a 0 + ws.getD st.b 0 := by
      unfold Lk.weight
      rcases (show st.op = 3 ∨ st.op = 4 by omega) with z | z <;> (rw [z]; rfl)
    rw [e] at q
    exact q
end
end Wk
end
section
set_option Elab.async false
set_option linter.all false
set_option maxRecDepth 100000
set_option maxHeartbeats 2000000
namespace Wk
open PySem PySem.Spec PyProof.Rows L2
theorem ps_imp {X : Cx} {st : Stmt} {t t' : TS} (h : PS X st t) (hi : ∀ D σ H, t' D σ H → t D σ H) : PS X st t' := fun pins s σ H D I q => h pins s σ H D I (hi D σ H q)
section
variable {P : Program} {w : World} {K : PySem.W.Frag} {mg : Str → Option Value} {base : Heap}
/-! ### first_wrong -/
def wv : Option Nat → V
  | some i => .int (i : Int)
  | none => .non
def spFirst : Sp := fun vs H Q _ => ∃ (l : Addr) (st : List Lk.Step), vs = [.ref l] ∧ StAt H l st ∧ st.length ≤ 100 ∧ ∀ H' : Hp, Same H H' → Q (wv (Lk.wrong st)) H'
theorem scFirst : FnScope ["steps", "weights", "roots", "k", "step", "weight"] ["steps"] (defScope sFirstWrong) := ⟨rfl, rfl, rfl, by decide +kernel, rfl, by decide +kernel, by decide +kernel⟩
/-- if step[0] == ROOT: roots += 1 -/
def tCount : TS := fun D σ H => ∃ (a : Addr) (s : Lk.Step) (r : Nat), σ[4]? = some (some (.ref a)) ∧ σ[2]? = some (some (.int r)) ∧ IL H a (q4 s) ∧ D.nx (σ.set 2 (some (.int ((if s.op = 5 then r + 1 else r : Nat) : Int)))) H
theorem set_same {α : Type} : ∀ {l : List α} {i : Nat} {x : α}, l[i]? = some x → l.set i x = l
  | [], i, x, h => by simp at h
  | a :: l, 0, x, h => by
    have e : a = x := Option.some.inj h
    subst e
    rfl
  | a :: l, i + 1, x, h => by
    show a :: l.set i x = a :: l
    rw [set_same (l := l) h]
theorem wrongFrom_cons (s : Lk.Step) (r : List Lk.Step) (i : Nat) (w : List Nat) (k : Nat) : Lk.wrongFrom (s :: r) i w k =
    if s.fine i = false ∨ Lk.ROOTS < (if s.op = 5 then k + 1 else k) ∨ Lk.WEIGHT < Lk.weight w s then some i else Lk.wrongFrom r (i + 1) (w ++ [Lk.weight w s]) (if s.op = 5 then k + 1 else k) := rfl
theorem drop_at {α : Type} {l : List α} {i : Nat} {x : α} (h : l[i]? = some x) : l.drop i = x :: l.drop (i + 1) := by
  obtain ⟨h1, h2⟩ := List.getElem?_eq_some_iff.mp h
  rw [List.drop_eq_getElem_cons h1, h2]
theorem ok_first (T : Blt mg) (C : Cst mg) (fw : Dn P w K mg base "fields_wrong" 1 ["step", "k"] spFields) (wo : Dn P w K mg base "weight_of" 1 ["step", "weights"] spWeight) (d : Df K mg "first_wrong" sFirstWrong ["steps"]) : Dn P w K mg base "first_wrong" 2 ["steps"] spFirst := by
  refine d.dn scFirst (fun vs H Q E h => ?_) (fun f cdv A outer s H vs Q E hr h => ?_)
  · obtain ⟨l, st, rfl, _⟩ := h
    rfl
  · obtain ⟨l, st, rfl, hl, hlen, q⟩ := h
    refine ⟨_, pss_cons (ps_set (i := 1) scFirst.nd rfl (Or.inl rfl) (pe_lst pa_nil)) (pss_cons (ps_set (i := 2) scFirst.nd rfl (Or.inl rfl) pe_int)
      (pss_cons (ps_for PassesOwn.never rfl (pi_range1 rfl T.rng (pa_cons (pe_callB call_len_seq (by rfl) T.len PySem.boot_len (pa_cons (pv 0) pa_nil)) pa_nil)) (pg_name (i := 3) scFirst.nd rfl (Or.inl rfl))
        (pss_cons (ps_set (i := 4) scFirst.nd rfl (Or.inl rfl) (pe_ix ix_list (pv 0) (pv 3) (fun _ _ => rfl)))
        (pss_cons (ps_if (pt_val (pe_cd fw hr (by rfl) (pa_cons (pv 4) (pa_cons (pv 3) pa_nil)))) (pss_one (ps_ret (pv 3))) pss_nil)
        (pss_cons (ps_imp (t' := tCount) (ps_if (pt_cmpR op_eq (pe_ix ix_list (pv 4) pe_int (fun _ _ => rfl)) (pe_k C.root (by rfl)) (nomark _)) (pss_one (ps_aug (i := 2) scFirst.nd rfl (Or.inl rfl) pe_int ip_add)) pss_nil) ?cnt)
        (pss_cons (ps_set (i := 5) scFirst.nd rfl (Or.inl rfl) (pe_cd wo hr (by rfl) (pa_cons (pv 4) (pa_cons (pv 1) pa_nil))))
        (pss_cons (ps_if (PW.pt (pw_or (pt_cmpR op_gt (pv 2) (pe_k C.roots (by rfl)) (nomark _)) (pw_or1 (pt_cmpR op_gt (pv 5) (pe_k C.weight (by rfl)) (nomark _))))) (pss_one (ps_ret (pv 3))) pss_nil)
        (pss_one (ps_expr (pe_bm PySem.F.plainAttrs_list PySem.F.slot_list_append PySem.F.type_list_append mt_append (pv 1) (pa_cons (pv 5) pa_nil))))))))))
      (pss_one (ps_ret pe_non)))), ?_⟩
    case cnt =>
      rintro D σ H' ⟨a, s, r, e4, e2, ha, k⟩
      refine ⟨_, e4, a, _, _, _, rfl, rfl, SqL.of ha, at_of (j := 0) rfl rfl, rfl, _, rfl, ite2 (fun c => ?_) (fun c => ?_)⟩
      · have c1 : (s.op : Int) = 5 := V.int.inj (of_decide_eq_true c)
        rw [if_pos (by omega)] at k
        exact ⟨_, e2, _, _, rfl, rfl, k⟩
      · have c1 : (s.op : Int) ≠ 5 := vin c
        rw [if_neg (by omega), set_same e2] at k
        exact k
    refine ⟨Nat.zero_le _, fun wl hwl => ?_⟩
    have s1 := same_new (o := .lst []) hwl
    have g1 : IL (upd H wl (.lst [])) wl (wi []) := upd_same
    generalize upd H wl (.lst []) = H1 at s1 g1
    obtain ⟨as, hla, hal, hat⟩ := hl
    refine ⟨_, rfl, l, _, rfl, .inl (SqL.of (s1 _ _ hla)), _, rfl, ?_, ?_, ?_⟩
    · rw [List.length_map]; omega
    · rw [List.length_map]; omega
    have e1 : (((as.map V.ref).length : Nat) : Int).toNat = st.length := by rw [List.length_map, hal]; rfl
    rw [e1]
    refine for_range (n := st.length) (fun i σ H' => ∃ (ws : List Nat) (r : Nat) (a b c : Option V), σ = [some (.ref l), some (.ref wl), some (.int (r : Int)), a, b, c] ∧ IL H' wl (wi ws) ∧ ws.length = i ∧ Same H H' ∧ Lk.wrong st = Lk.wrongFrom (st.drop i) i ws r)
      ⟨[], 0, none, none, none, rfl, g1, rfl, s1, rfl⟩ ?_ ?_
    · rintro i σ H' hi ⟨ws, r, a, b, c, rfl, gw, hws, s2, hwr⟩
      obtain ⟨t, ht⟩ : ∃ t, st[i]? = some t := ⟨_, List.getElem?_eq_getElem hi⟩
      obtain ⟨x, hx⟩ : ∃ x, as[i]? = some x := ⟨_, List.getElem?_eq_getElem (by omega)⟩
      have gx := s2 _ _ (hat i x t hx ht)
      rw [drop_at ht, wrongFrom_cons] at hwr
      refine ⟨_, rfl, _, rfl, l, _, _, _, rfl, rfl, SqL.of (s2 _ _ hla), at_of (j := i) (by omega) (by rw [List.getElem?_map, hx]; rfl), ?_⟩
      refine ⟨_, rfl, _, rfl, x, t, i, congrArg (fun z => [V.ref x, V.int z]) (Int.zero_add _), gx, _, rfl, ite2 (fun c1 => ?_) (fun c1 => ?_)⟩
      · refine ⟨_, rfl, ?_⟩
        rw [if_pos (Or.inl (by simpa using c1))] at hwr
        have := q H' s2
        rw [hwr] at this
        show Q (V.int (0 + (i : Int))) H'
        rw [Int.zero_add]
        exact this
      have f1 : t.fine i = true := by simpa using c1
      refine ⟨x, t, r, rfl, rfl, gx, ?_⟩
      refine ⟨_, rfl, _, rfl, x, wl, t, ws, rfl, gx, gw, by rw [hws]; exact f1, ?_⟩
      generalize (if t.op = 5 then r + 1 else r) = j at hwr ⊢
      refine ⟨_, rfl, _, _, rfl, rfl, _, rfl, ite2 (fun c2 => iteT ?_) (fun c2 => ?_)⟩
      · have c2' : (3 : Int) < j := of_decide_eq_true c2
        rw [if_pos (Or.inr (Or.inl (by unfold Lk.ROOTS; omega)))] at hwr
        refine ⟨_, rfl, ?_⟩
        have := q H' s2
        rw [hwr] at this
        show Q (V.int (0 + (i : Int))) H'
        rw [Int.zero_add]
        exact this
      have c2' : ¬ (3 : Int) < j := fun z => c2 (decide_eq_true z)
      refine ⟨_, rfl, _, _, rfl, rfl, _, rfl, ite2 (fun c3 => ?_) (fun c3 => ?_)⟩
      · have c3' : (256 : Int) < (Lk.weight ws t : Nat) := of_decide_eq_true c3
        rw [if_pos (Or.inr (Or.inr (by unfold Lk.WEIGHT; omega)))] at hwr
        refine ⟨_, rfl, ?_⟩
        have := q H' s2
        rw [hwr] at this
        show Q (V.int (0 + (i : Int))) H'
        rw [Int.zero_add]
        exact this
      have c3' : ¬ (256 : Int) < (Lk.weight ws t : Nat) := fun z => c3 (decide_eq_true z)
      rw [if_neg (by unfold Lk.ROOTS Lk.WEIGHT; rw [f1]; rintro (z | z | z) <;> first | omega | cases z)] at hwr
      refine ⟨_, rfl, .inl ⟨rfl, _, SqL.of gw⟩, _, rfl, wl, _, _, rfl, rfl, gw, ?_, ?_⟩
      · unfold wi
        rw [List.length_map, List.length_map]
        exact small1000 (by omega)
      refine ⟨ws ++ [Lk.weight ws t], j, _, _, _, rfl, ?_, by rw [List.length_append, hws]; rfl, fun b o e => ?_, hwr⟩
      · show upd _ wl _ wl = _
        rw [upd_same]
        unfold wi
        rw [List.map_append, List.map_append]
        rfl
      · rw [upd_ne (ne_of_none e hwl)]
        exact s2 _ _ e
    · rintro σ H' ⟨ws, r, a, b, c, rfl, gw, hws, s2, hwr⟩
      rw [List.drop_of_length_le (Nat.le_refl _)] at hwr
      have := q H' s2
      rw [hwr] at this
      exact this
end
end Wk
end
section
set_option Elab.async false
set_option linter.all false
set_option maxRecDepth 100000
set_option maxHeartbeats 2000000
namespace Wk
open PySem PySem.Spec PyProof.Rows L2
abbrev sRInit : Stmt := inClass (top 63) 0
abbrev sRowOf : Stmt := top 64
abbrev sMade : Stmt := top 65
abbrev sWhy : Stmt := top 66
abbrev sNumberOf : Stmt := top 67
/-! ### a row as an object -/
def rf (v n r : V) : List (Str × V) := putF "roots" r (putF "numbers" n (putF "refusal" v []))
theorem rf_ref (v n r : V) : (rf v n r).lookup ("refusal" : Str) = some v := by
  unfold rf
  rw [lookup_putF, if_neg (by decide +kernel), lookup_putF, if_neg (by decide +kernel), lookup_putF, if_pos rfl]
theorem rf_num (v n r : V) : (rf v n r).lookup ("numbers" : Str) = some n := by
  unfold rf
  rw [lookup_putF, if_neg (by decide +kernel), lookup_putF, if_pos rfl]
theorem rf_roots (v n r : V) : (rf v n r).lookup ("roots" : Str) = some r := by
  unfold rf
  rw [lookup_putF, if_pos rfl]
def spRInit (C : Addr) : Sp := fun vs H Q _ => ∃ (x dx : Addr) (v n r : V), vs = [.ref x, v, n, r] ∧ H x = some (.ins C dx []) ∧ ∀ H' : Hp, H' x = some (.ins C dx (rf v n r)) → (∀ b o, H b = some o → b ≠ x → H' b = some o) → Q .non H'
section
variable {P : Program} {w : World} {K : PySem.W.Frag} {mg : Str → Option Value} {base : Heap}
theorem scRI : FnScope ["self", "refusal", "numbers", "roots"] ["self", "refusal", "numbers", "roots"] (defScope sRInit) := ⟨rfl, rfl, rfl, by decide +kernel, rfl, by decide +kernel, by decide +kernel⟩
theorem ok_rinit {f C : Addr} {fd : FuncData} (F : Fun K "__init__" "Row.__init__" sRInit f fd) (cl : Cls K C) (n1 : NoAttr K C "refusal") (n2 : NoAttr K C "numbers") (n3 : NoAttr K C "roots") : FnOk P w K mg base CX0 1 f fd ["self", "refusal", "numbers", "roots"] (spRInit C) := by
  refine F.ok scRI (fun vs H Q E h => ?_) (fun cdv A outer s H vs Q E hr h => ?_)
  · obtain ⟨x, dx, v, n, r, rfl, _⟩ := h
    rfl
  · obtain ⟨x, dx, v, n, r, rfl, hx, k⟩ := h
    refine ⟨_, pss_cons (ps_fld (pv 0) (pv 1) rfl) (pss_cons (ps_fld (pv 0) (pv 2) rfl) (pss_one (ps_fld (pv 0) (pv 3) rfl))), ?_⟩
    refine ⟨_, rfl, _, rfl, x, C, dx, [], rfl, hx, cl, n1, (by show 0 < 1000; decide), ?_⟩
    refine ⟨_, rfl, _, rfl, x, C, dx, _, rfl, upd_same, cl, n2, (by show 1 < 1000; decide), ?_⟩
    refine ⟨_, rfl, _, rfl, x, C, dx, _, rfl, upd_same, cl, n3, ?_, ?_⟩
    · exact Nat.lt_of_le_of_lt (length_putF _ _ _) (by show 1 + 1 < 1000; decide)
    refine k _ upd_same fun b o e hb => ?_
    rw [upd_ne hb, upd_ne hb, upd_ne hb]
    exact e
end
structure RCl (P : Program) (w : World) (K : PySem.W.Frag) (mg : Str → Option Value) (base : Heap) (C : Addr) : Prop where
  cl : Cls K C
  n1 : NoAttr K C "refusal"
  n2 : NoAttr K C "numbers"
  n3 : NoAttr K C "roots"
  mgC : mg "Row" = some (.ref C)
  mkf : ∃ (f : Addr) (fd : FuncData), Mk K C f ∧ Binds K fd ["self", "refusal", "numbers", "roots"] [] ∧ FnOk P w K mg base CX0 1 f fd ["self", "refusal", "numbers", "roots"] (spRInit C)
theorem pe_mkR {X : Cx} {C : Addr} {p pos : Pos} {e : Expr} {es : List Expr} {t : TA} (T : RCl X.prog X.w X.K X.mg X.base C) (hr : Room 2 X.A) (hg : Gl X "Row") (ha : PA X (e :: es) t)
    (he : starEach (e :: es) X.env = (false, eval e X.env) :: starEach es X.env := by rfl) (hpl : (backTo pos (starEach es X.env)).any (·.1) = false := by rfl) :
    PE X (.Call (.Name "Row" p) (e :: es) [] pos) (tMake C (spRInit C) [] E0 t) := by
  obtain ⟨f, fd, a, b, c⟩ := T.mkf
  exact pe_make a c hr hg T.mgC b .nil pass0 ha (by decide) he hpl
/-! ### the numbers made so far -/
def NsAt (C : Addr) (H : Hp) (l : Addr) (ns : List Rr.PN) : Prop := ∃ xs : List Addr, H l = some (.lst (xs.map V.ref)) ∧ xs.length = ns.length ∧ ∀ (j : Nat) (x : Addr) (n : Rr.PN), xs[j]? = some x → ns[j]? = some n → NAt C H x n
theorem NsAt.same {C : Addr} {H H' : Hp} {l : Addr} {ns : List Rr.PN} (h : NsAt C H l ns) (s : Same H H') : NsAt C H' l ns := by
  obtain ⟨xs, a, b, c⟩ := h
  exact ⟨xs, s _ _ a, b, fun j x n e1 e2 => (c j x n e1 e2).same s⟩
theorem NsAt.get {C : Addr} {H : Hp} {l : Addr} {ns : List Rr.PN} (h : NsAt C H l ns) {j : Nat} {n : Rr.PN} (e : ns[j]? = some n) : ∃ (xs : List Addr) (x : Addr), H l = some (.lst (xs.map V.ref)) ∧ (xs.map V.ref)[j]? = some (.ref x) ∧ NAt C H x n := by
  obtain ⟨xs, a, b, c⟩ := h
  have hj := (List.getElem?_eq_some_iff.mp e).1
  obtain ⟨x, hx⟩ : ∃ x, xs[j]? = some x := ⟨_, List.getElem?_eq_getElem (by omega)⟩
  exact ⟨xs, x, a, by rw [List.getElem?_map, hx]; rfl, c j x n hx e⟩
/-- the sign of a number, as the program takes it -/
def psg (τ : List (List Int)) (n : Rr.PN) : Int := Rr.psign (Rr.low τ n.parts.length) n.parts
structure SgPre (B : Nat) (τ : List (List Int)) (n : Rr.PN) : Prop where
  sub : Rr.Sub τ n.parts
  sg : Rr.sz (Rr.low τ n.parts.length) n.parts ^ 2 ^ (Rr.low τ n.parts.length).length ≤ B
def why (τ : List (List Int)) (ns : List Rr.PN) (s : Lk.Step) : Int :=
  if s.op = 4 ∧ psg τ (ns.getD s.b ⟨[], 1⟩) = 0 then -2 else if s.op = 5 ∧ psg τ (ns.getD s.a ⟨[], 1⟩) < 0 then -3 else 0
section
variable {P : Program} {w : World} {K : PySem.W.Frag} {mg : Str → Option Value} {base : Heap}
theorem getD_of {α : Type} {l : List α} {i : Nat} {x d : α} (h : l[i]? = some x) : l.getD i d = x := by
  rw [List.getD_eq_getElem?_getD, h]
  rfl
/-! ### why_it_cannot_be -/
def spWhy (C : Addr) (B : Nat) : Sp := fun vs H Q _ => ∃ (a l d : Addr) (s : Lk.Step) (ns : List Rr.PN) (τ : List (List Int)), vs = [.ref a, .ref l, .ref d] ∧ IL H a (q4 s) ∧ NsAt C H l ns ∧ RAt H d τ ∧ τ.length ≤ 3 ∧ Rr.Rts τ ∧
  (s.op = 4 → ∃ n, ns[s.b]? = some n ∧ SgPre B τ n) ∧ (s.op = 5 → ∃ n, ns[s.a]? = some n ∧ SgPre B τ n) ∧ ∀ H' : Hp, Same H H' → Q (.int (why τ ns s)) H'
theorem scWhy : FnScope ["step", "numbers", "roots"] ["step", "numbers", "roots"] (defScope sWhy) := ⟨rfl, rfl, rfl, by decide +kernel, rfl, by decide +kernel, by decide +kernel⟩
theorem ok_why {C : Addr} {B : Nat} (T : Cst mg) (sg : Dn P w K mg base "sign_of" 7 ["x", "roots"] (spSignOf C B)) (d : Df K mg "why_it_cannot_be" sWhy ["step", "numbers", "roots"]) : Dn P w K mg base "why_it_cannot_be" 8 ["step", "numbers", "roots"] (spWhy C B) := by
  refine d.dn scWhy (fun vs H Q E h => ?_) (fun f cdv A outer s H vs Q E hr h => ?_)
  · obtain ⟨a, l, d, s, ns, τ, rfl, _⟩ := h
    rfl
  · obtain ⟨a, l, d, st, ns, τ, rfl, ha, hn, hd, hl, R, p4, p5, k⟩ := h
    refine ⟨_, pss_cons (ps_if (PW.pt (pw_and (pt_cmpR op_eq (pe_ix ix_list (pv 0) pe_int (fun _ _ => rfl)) (pe_k T.over (by rfl)) (nomark _)) (pw_and1 (pt_cmpR op_eq (pe_cd sg hr (by rfl) (pa_cons (pe_ix ix_list (pv 1) (pe_ix ix_list (pv 0) pe_int (fun _ _ => rfl)) (fun _ _ => rfl)) (pa_cons (pv 2) pa_nil))) pe_int (nomark _))))) (pss_one (ps_ret (pe_un un_neg pe_int))) pss_nil)
      (pss_cons (ps_if (PW.pt (pw_and (pt_cmpR op_eq (pe_ix ix_list (pv 0) pe_int (fun _ _ => rfl)) (pe_k T.root (by rfl)) (nomark _)) (pw_and1 (pt_cmpR op_lt (pe_cd sg hr (by rfl) (pa_cons (pe_ix ix_list (pv 1) (pe_ix ix_list (pv 0) pe_int (fun _ _ => rfl)) (fun _ _ => rfl)) (pa_cons (pv 2) pa_nil))) pe_int (nomark _))))) (pss_one (ps_ret (pe_un un_neg pe_int))) pss_nil)
      (pss_one (ps_ret pe_int))), ?_⟩
    refine ⟨_, rfl, a, _, _, _, rfl, rfl, SqL.of ha, at_of (j := 0) rfl rfl, rfl, _, rfl, ite2 (fun c => ?_) (fun c => iteF ?_)⟩
    · have c1 : (st.op : Int) = 4 := V.int.inj (of_decide_eq_true c)
      obtain ⟨n, en, pn⟩ := p4 (by omega)
      obtain ⟨xs, x, hx, hxj, gx⟩ := hn.get en
      refine ⟨_, rfl, _, rfl, a, _, _, _, rfl, rfl, SqL.of ha, at_of (j := 2) rfl rfl, l, _, _, _, rfl, rfl, SqL.of hx, at_of (j := st.b) rfl hxj, _, rfl, x, d, n, Rr.low τ n.parts.length, rfl, gx, hd.low _, Nat.le_trans (Rr.low_length _ _) hl, Rr.low_rts _ R, Rr.low_pit pn.sub, pn.sg, fun H1 s1 => ?_⟩
      have kk := k
      unfold why psg at kk
      rw [getD_of en, if_neg (show ¬ (st.op = 5 ∧ _) by omega)] at kk
      refine ⟨rfl, _, rfl, ite2 (fun c2 => ?_) (fun c2 => ?_)⟩
      · have c3 := V.int.inj (of_decide_eq_true c2)
        rw [if_pos ⟨by omega, c3⟩] at kk
        exact ⟨_, rfl, kk H1 s1⟩
      have c3 := vin c2
      rw [if_neg (fun z => c3 z.2)] at kk
      refine ⟨_, rfl, a, _, _, _, rfl, rfl, SqL.of (s1 _ _ ha), at_of (j := 0) rfl rfl, rfl, _, rfl, ite2 (fun c4 => ?_) (fun c4 => iteF ?_)⟩
      · have c5 : (st.op : Int) = 5 := V.int.inj (of_decide_eq_true c4)
        omega
      · exact kk H1 s1
    · have c1 : (st.op : Int) ≠ 4 := vin c
      have kk := k
      unfold why psg at kk
      rw [if_neg (show ¬ (st.op = 4 ∧ _) by omega)] at kk
      refine ⟨_, rfl, a, _, _, _, rfl, rfl, SqL.of ha, at_of (j := 0) rfl rfl, rfl, _, rfl, ite2 (fun c4 => ?_) (fun c4 => iteF ?_)⟩
      · have c5 : (st.op : Int) = 5 := V.int.inj (of_decide_eq_true c4)
        obtain ⟨n, en, pn⟩ := p5 (by omega)
        obtain ⟨xs, x, hx, hxj, gx⟩ := hn.get en
        rw [getD_of en] at kk
        refine ⟨_, rfl, _, rfl, a, _, _, _, rfl, rfl, SqL.of ha, at_of (j := 1) rfl rfl, l, _, _, _, rfl, rfl, SqL.of hx, at_of (j := st.a) rfl hxj, _, rfl, x, d, n, Rr.low τ n.parts.length, rfl, gx, hd.low _, Nat.le_trans (Rr.low_length _ _) hl, Rr.low_rts _ R, Rr.low_pit pn.sub, pn.sg, fun H1 s1 => ?_⟩
        refine ⟨_, _, rfl, rfl, _, rfl, ite2 (fun c2 => ?_) (fun c2 => ?_)⟩
        · have c3 := of_decide_eq_true c2
          rw [if_pos ⟨by omega, c3⟩] at kk
          exact ⟨_, rfl, kk H1 s1⟩
        · rw [if_neg (fun z => c2 (decide_eq_true z.2))] at kk
          exact kk H1 s1
      · have c5 : (st.op : Int) ≠ 5 := vin c4
        rw [if_neg (show ¬ (st.op = 5 ∧ _) by omega)] at kk
        exact kk H fun _ _ e => e
end
end Wk
end
section
set_option Elab.async false
set_option linter.all false
set_option maxRecDepth 100000
set_option maxHeartbeats 2000000
namespace Wk
open PySem PySem.Spec PyProof.Rows L2
abbrev nx0 : Rr.PN := ⟨[], 1⟩
/-- a step's number and the roots behind it, as the program makes them -/
def mstep (τ : List (List Int)) (ns : List Rr.PN) (s : Lk.Step) : Rr.PN × List (List Int) :=
  if s.op = 0 then (Rr.mwhole s.v, τ)
  else if s.op = 5 then (if psg τ (ns.getD s.a nx0) = 0 then (Rr.mwhole 0, τ) else (Rr.mroot τ (ns.getD s.a nx0), Rr.mrad τ (ns.getD s.a nx0) :: τ))
  else if s.op = 1 then (Rr.mplus (ns.getD s.a nx0) (ns.getD s.b nx0), τ)
  else if s.op = 2 then (Rr.mminus (ns.getD s.a nx0) (ns.getD s.b nx0), τ)
  else if s.op = 3 then (Rr.mtimes τ (ns.getD s.a nx0) (ns.getD s.b nx0), τ)
  else (Rr.mover τ (ns.getD s.a nx0) (ns.getD s.b nx0), τ)
def OverPre (B : Nat) (τ : List (List Int)) (n m : Rr.PN) : Prop := ∃ (S : Nat) (F : Type) (_ : Rr.OF F) (σ : List F), τ.length ≤ 3 ∧ Rr.PRoots σ τ ∧ Rr.NumOk τ m ∧ Rr.valp τ σ (Rr.el τ m.parts) ≠ 0 ∧ Rr.Cr τ S m ∧ 1 ≤ S ∧ 2 ^ (25 * 2 ^ 3 * S) ≤ B ∧ TPair B τ n (Rr.minv τ m)
/-- what a step asks -/
structure StepPre (B : Nat) (τ : List (List Int)) (ns : List Rr.PN) (s : Lk.Step) : Prop where
  op : s.op ≤ 5
  root : s.op = 5 → ∃ x, ns[s.a]? = some x ∧ RootPre B τ x
  sum : s.op = 1 ∨ s.op = 2 → ∃ x y, ns[s.a]? = some x ∧ ns[s.b]? = some y ∧ Pair B x y
  prod : s.op = 3 → ∃ x y, ns[s.a]? = some x ∧ ns[s.b]? = some y ∧ TPair B τ x y
  quot : s.op = 4 → ∃ x y, ns[s.a]? = some x ∧ ns[s.b]? = some y ∧ OverPre B τ x y
section
variable {P : Program} {w : World} {K : PySem.W.Frag} {mg : Str → Option Value} {base : Heap}
def spNumberOf (C : Addr) (B : Nat) : Sp := fun vs H Q _ => ∃ (a l d : Addr) (s : Lk.Step) (ns : List Rr.PN) (τ : List (List Int)), vs = [.ref a, .ref l, .ref d] ∧ IL H a (q4 s) ∧ NsAt C H l ns ∧ RFul H d τ ∧ StepPre B τ ns s ∧
  ∀ (H' : Hp) (z : Addr), (∀ b o, H b = some o → b ≠ d → H' b = some o) → RFul H' d (mstep τ ns s).2 → NAt C H' z (mstep τ ns s).1 → Q (.ref z) H'
theorem scNumberOf : FnScope ["step", "numbers", "roots", "op", "x", "y"] ["step", "numbers", "roots"] (defScope sNumberOf) := ⟨rfl, rfl, rfl, by decide +kernel, rfl, by decide +kernel, by decide +kernel⟩
theorem ok_numberof {C : Addr} {B : Nat} (T : Cst mg) (wh : Dn P w K mg base "whole" 3 ["v"] (spWhole C)) (rt : Dn P w K mg base "root" 8 ["x", "roots"] (spRoot C B)) (pl : Dn P w K mg base "plus" 34 ["x", "y"] (spPlus C B Rr.mplus)) (mi : Dn P w K mg base "minus" 35 ["x", "y"] (spPlus C B Rr.mminus))
    (tm : Dn P w K mg base "times" 34 ["x", "y", "roots"] (spTimes C B)) (ov : Dn P w K mg base "over" 39 ["x", "y", "roots"] (spOver C B)) (d : Df K mg "number_of" sNumberOf ["step", "numbers", "roots"]) : Dn P w K mg base "number_of" 40 ["step", "numbers", "roots"] (spNumberOf C B) := by
  refine d.dn scNumberOf (fun vs H Q E h => ?_) (fun f cdv A outer s H vs Q E hr h => ?_)
  · obtain ⟨a, l, d, s, ns, τ, rfl, _⟩ := h
    rfl
  · obtain ⟨a, l, d, st, ns, τ, rfl, ha, hn, hd, pre, k⟩ := h
    have hr3 : Room 3 _ := hr.mono (by omega)
    have hr8 : Room 8 _ := hr.mono (by omega)
    have hr34 : Room 34 _ := hr.mono (by omega)
    have hr35 : Room 35 _ := hr.mono (by omega)
    refine ⟨_, pss_cons (ps_set (i := 3) scNumberOf.nd rfl (Or.inl rfl) (pe_ix ix_list (pv 0) pe_int (fun _ _ => rfl)))
      (pss_cons (ps_if (pt_cmpR op_eq (pv 3) (pe_k T.whole (by rfl)) (nomark _)) (pss_one (ps_ret (pe_cd wh hr3 (by rfl) (pa_cons (pe_ix ix_list (pv 0) pe_int (fun _ _ => rfl)) pa_nil)))) pss_nil)
      (pss_cons (ps_set (i := 4) scNumberOf.nd rfl (Or.inl rfl) (pe_ix ix_list (pv 1) (pe_ix ix_list (pv 0) pe_int (fun _ _ => rfl)) (fun _ _ => rfl)))
      (pss_cons (ps_if (pt_cmpR op_eq (pv 3) (pe_k T.root (by rfl)) (nomark _)) (pss_one (ps_ret (pe_cd rt hr8 (by rfl) (pa_cons (pv 4) (pa_cons (pv 2) pa_nil))))) pss_nil)
      (pss_cons (ps_set (i := 5) scNumberOf.nd rfl (Or.inl rfl) (pe_ix ix_list (pv 1) (pe_ix ix_list (pv 0) pe_int (fun _ _ => rfl)) (fun _ _ => rfl)))
      (pss_cons (ps_if (pt_cmpR op_eq (pv 3) (pe_k T.plus (by rfl)) (nomark _)) (pss_one (ps_ret (pe_cd pl hr34 (by rfl) (pa_cons (pv 4) (pa_cons (pv 5) pa_nil))))) pss_nil)
      (pss_cons (ps_if (pt_cmpR op_eq (pv 3) (pe_k T.minus (by rfl)) (nomark _)) (pss_one (ps_ret (pe_cd mi hr35 (by rfl) (pa_cons (pv 4) (pa_cons (pv 5) pa_nil))))) pss_nil)
      (pss_cons (ps_if (pt_cmpR op_eq (pv 3) (pe_k T.times (by rfl)) (nomark _)) (pss_one (ps_ret (pe_cd tm hr34 (by rfl) (pa_cons (pv 4) (pa_cons (pv 5) (pa_cons (pv 2) pa_nil)))))) pss_nil)
      (pss_one (ps_ret (pe_cd ov hr (by rfl) (pa_cons (pv 4) (pa_cons (pv 5) (pa_cons (pv 2) pa_nil))))))))))))), ?_⟩
    refine ⟨_, rfl, a, _, _, _, rfl, rfl, SqL.of ha, at_of (j := 0) rfl rfl, ?_⟩
    refine ⟨_, rfl, rfl, _, rfl, ite2 (fun c => ?_) (fun c => ?_)⟩
    · have c0 : (st.op : Int) = 0 := V.int.inj (of_decide_eq_true c)
      unfold mstep at k
      rw [if_pos (by omega)] at k
      refine ⟨_, rfl, a, _, _, _, rfl, rfl, SqL.of ha, at_of (j := 3) rfl rfl, st.v, rfl, fun H' z s1 g1 => ?_⟩
      exact k H' z (fun b o e _ => s1 b o e) (hd.same s1) g1
    have c0 : (st.op : Int) ≠ 0 := vin c
    have o5 := pre.op
    obtain ⟨x, ex⟩ : ∃ x, ns[st.a]? = some x := by
      rcases (show st.op = 5 ∨ (st.op = 1 ∨ st.op = 2) ∨ st.op = 3 ∨ st.op = 4 by omega) with z | z | z | z
      · obtain ⟨x, e, _⟩ := pre.root z
        exact ⟨x, e⟩
      · obtain ⟨x, y, e, _⟩ := pre.sum z
        exact ⟨x, e⟩
      · obtain ⟨x, y, e, _⟩ := pre.prod z
        exact ⟨x, e⟩
      · obtain ⟨x, y, e, _⟩ := pre.quot z
        exact ⟨x, e⟩
    obtain ⟨xs, xa, hx, hxj, gx⟩ := hn.get ex
    have dx := getD_of (d := nx0) ex
    unfold mstep at k
    rw [if_neg (by omega), dx] at k
    refine ⟨_, rfl, _, rfl, a, _, _, _, rfl, rfl, SqL.of ha, at_of (j := 1) rfl rfl, l, _, _, _, rfl, rfl, SqL.of hx, at_of (j := st.a) rfl hxj, ?_⟩
    refine ⟨_, rfl, rfl, _, rfl, ite2 (fun c => ?_) (fun c => ?_)⟩
    · have c5 : (st.op : Int) = 5 := V.int.inj (of_decide_eq_true c)
      obtain ⟨x', ex', rp⟩ := pre.root (by omega)
      rw [ex] at ex'
      obtain rfl := Option.some.inj ex'
      rw [if_pos (by omega)] at k
      refine ⟨_, rfl, _, rfl, xa, d, x, τ, rfl, gx, hd, rp, fun hz H' z s1 g1 => ?_, fun hz H' z s1 g1 g2 => ?_⟩
      · rw [if_pos (show psg τ x = 0 from hz)] at k
        exact k H' z (fun b o e _ => s1 b o e) (hd.same s1) g1
      · rw [if_neg (show ¬ psg τ x = 0 from hz)] at k
        exact k H' z s1 g1 g2
    have c5 : (st.op : Int) ≠ 5 := vin c
    obtain ⟨y, ey⟩ : ∃ y, ns[st.b]? = some y := by
      rcases (show (st.op = 1 ∨ st.op = 2) ∨ st.op = 3 ∨ st.op = 4 by omega) with z | z | z
      · obtain ⟨x, y, _, e, _⟩ := pre.sum z
        exact ⟨y, e⟩
      · obtain ⟨x, y, _, e, _⟩ := pre.prod z
        exact ⟨y, e⟩
      · obtain ⟨x, y, _, e, _⟩ := pre.quot z
        exact ⟨y, e⟩
    obtain ⟨ys, ya, hy, hyj, gy⟩ := hn.get ey
    have dy := getD_of (d := nx0) ey
    rw [if_neg (by omega), dy] at k
    refine ⟨_, rfl, _, rfl, a, _, _, _, rfl, rfl, SqL.of ha, at_of (j := 2) rfl rfl, l, _, _, _, rfl, rfl, SqL.of hy, at_of (j := st.b) rfl hyj, ?_⟩
    refine ⟨_, rfl, rfl, _, rfl, ite2 (fun c => ?_) (fun c => ?_)⟩
    · have c1 : (st.op : Int) = 1 := V.int.inj (of_decide_eq_true c)
      obtain ⟨x', y', ex', ey', pp⟩ := pre.sum (by omega)
      rw [ex] at ex'
      rw [ey] at ey'
      obtain rfl := Option.some.inj ex'
      obtain rfl := Option.some.inj ey'
      rw [if_pos (by omega)] at k
      exact ⟨_, rfl, _, rfl, xa, ya, x, y, rfl, gx, gy, pp, fun H' z s1 g1 => k H' z (fun b o e _ => s1 b o e) (hd.same s1) g1⟩
    have c1 : (st.op : Int) ≠ 1 := vin c
    rw [if_neg (by omega)] at k
    refine ⟨_, rfl, rfl, _, rfl, ite2 (fun c => ?_) (fun c => ?_)⟩
    · have c2 : (st.op : Int) = 2 := V.int.inj (of_decide_eq_true c)
      obtain ⟨x', y', ex', ey', pp⟩ := pre.sum (by omega)
      rw [ex] at ex'
      rw [ey] at ey'
      obtain rfl := Option.some.inj ex'
      obtain rfl := Option.some.inj ey'
      rw [if_pos (by omega)] at k
      exact ⟨_, rfl, _, rfl, xa, ya, x, y, rfl, gx, gy, pp, fun H' z s1 g1 => k H' z (fun b o e _ => s1 b o e) (hd.same s1) g1⟩
    have c2 : (st.op : Int) ≠ 2 := vin c
    rw [if_neg (by omega)] at k
    refine ⟨_, rfl, rfl, _, rfl, ite2 (fun c => ?_) (fun c => ?_)⟩
    · have c3 : (st.op : Int) = 3 := V.int.inj (of_decide_eq_true c)
      obtain ⟨x', y', ex', ey', pp⟩ := pre.prod (by omega)
      rw [ex] at ex'
      rw [ey] at ey'
      obtain rfl := Option.some.inj ex'
      obtain rfl := Option.some.inj ey'
      rw [if_pos (by omega)] at k
      exact ⟨_, rfl, _, rfl, _, rfl, xa, ya, d, x, y, τ, rfl, gx, gy, hd.at, pp, fun H' z s1 g1 => k H' z (fun b o e _ => s1 b o e) (hd.same s1) g1⟩
    have c3 : (st.op : Int) ≠ 3 := vin c
    rw [if_neg (by omega)] at k
    obtain ⟨x', y', ex', ey', S, F, iF, σ, q1, q2, q3, q4, q5, q6, q7, q8⟩ := pre.quot (by omega)
    rw [ex] at ex'
    rw [ey] at ey'
    obtain rfl := Option.some.inj ex'
    obtain rfl := Option.some.inj ey'
    exact ⟨_, rfl, _, rfl, _, rfl, xa, ya, d, x, y, τ, S, F, iF, σ, rfl, gx, gy, hd.at, q1, q2, q3, q4, q5, q6, q7, q8, fun H' z s1 g1 => k H' z (fun b o e _ => s1 b o e) (hd.same s1) g1⟩
end
end Wk
end
section
set_option Elab.async false
set_option linter.all false
set_option maxRecDepth 100000
set_option maxHeartbeats 2000000
namespace Wk
open PySem PySem.Spec PyProof.Rows L2
theorem le_of_abs {x : Int} {m : Nat} (h : x.natAbs ≤ m) : x ≤ (m : Int) := by omega
/-! ### the program's row against the specification's -/
/-- the radicands' sizes -/
def RSz : List (List Int) → Prop
  | [] => True
  | r :: τ => Rr.sz τ r ≤ 2 ^ 4634320 ∧ RSz τ
structure JR (F : Type) [Rr.OF F] (ρ σ : List F) (M : Lk.Made) (τ : List (List Int)) (ns : List Rr.PN) (ws : List Nat) (r : Nat) : Prop where
  R : Rr.Roots ρ M.t
  P : Rr.PRoots σ τ
  l1 : M.nums.length = ns.length
  l2 : ws.length = ns.length
  tr : τ.length ≤ r
  src : ∀ q ∈ ρ, ∃ (j : Nat) (x : Lk.Num), M.nums[j]? = some x ∧ q * q = Rr.val ρ x
  rel : ∀ s ∈ σ, ∃ q ∈ ρ, 0 < q ∧ q ≤ s ∧ s ≤ q * (((2 ^ 2317160 : Nat) : Int) : F)
  rsz : RSz τ
  nums : ∀ (j : Nat) (n : Rr.PN), ns[j]? = some n → ∃ x W, M.nums[j]? = some x ∧ ws[j]? = some W ∧ Rr.JN ρ σ M.t τ W n x
def JX (M : Lk.Made) (τ : List (List Int)) (ns : List Rr.PN) (ws : List Nat) (r : Nat) : Prop := ∃ (F : Type) (_ : Rr.OF F) (ρ σ : List F), JR F ρ σ M τ ns ws r
theorem jx_start : JX ⟨[], []⟩ [] [] [] 0 := ⟨Rat, inferInstance, [], [], trivial, trivial, rfl, rfl, Nat.le_refl _, (fun q hq => by simp at hq), (fun q hq => by simp at hq), trivial, fun j n e => by simp at e⟩
theorem JR.at {F : Type} [Rr.OF F] {ρ σ : List F} {M : Lk.Made} {τ : List (List Int)} {ns : List Rr.PN} {ws : List Nat} {r : Nat} (h : JR F ρ σ M τ ns ws r) {j : Nat} (hj : j < ns.length) :
    ∃ n x W, ns[j]? = some n ∧ M.nums[j]? = some x ∧ ws[j]? = some W ∧ M.num j = x ∧ ws.getD j 0 = W ∧ Rr.JN ρ σ M.t τ W n x := by
  obtain ⟨n, hn⟩ : ∃ n, ns[j]? = some n := ⟨_, List.getElem?_eq_getElem hj⟩
  obtain ⟨x, W, e1, e2, q⟩ := h.nums j n hn
  exact ⟨n, x, W, hn, e1, e2, getD_of e1, getD_of e2, q⟩
/-- all the powers that are needed -/
def Big (B : Nat) : Prop := ∀ a, a ≤ 134217726 → 2 ^ a ≤ B
theorem JN.sgpre {F : Type} [Rr.OF F] {ρ σ : List F} {t : Lk.Tower} {τ : List (List Int)} {W B : Nat} {n : Rr.PN} {x : Lk.Num} (hB : Big B) (hl : τ.length ≤ 3) (h : Rr.JN ρ σ t τ W n x) : SgPre B τ n := by
  refine ⟨h.ok.sub, ?_⟩
  have l := Nat.le_trans (Rr.low_length τ n.parts.length) hl
  have c := h.sz.cr.nm
  rw [Rr.sz_low h.ok.sub]
  refine Rr.pow_le_of c ?_
  rw [← Nat.pow_mul]
  refine hB _ ?_
  have := Rr.pow_four l
  have := Nat.mul_le_mul_left 2317160 this
  omega
theorem JN.psg {F : Type} [Rr.OF F] {ρ σ : List F} {t : Lk.Tower} {τ : List (List Int)} {W : Nat} {n : Rr.PN} {x : Lk.Num} (R : Rr.Roots ρ t) (P : Rr.PRoots σ τ) (h : Rr.JN ρ σ t τ W n x) : psg τ n = Lk.sign t x := h.sign R P
theorem two_mul_le {B a b : Nat} {x y : Nat} (hB : Big B) (hx : x ≤ 2 ^ a) (hy : y ≤ 2 ^ b) (h : a + b ≤ 134217726) : x * y ≤ B := by
  refine Nat.le_trans (Nat.mul_le_mul hx hy) ?_
  rw [← Nat.pow_add]
  exact hB _ h
theorem jn_pair {F : Type} [Rr.OF F] {ρ σ : List F} {t : Lk.Tower} {τ : List (List Int)} {V W B : Nat} {n m : Rr.PN} {x y : Lk.Num} (hB : Big B) (hl : τ.length ≤ 3) (a : Rr.JN ρ σ t τ V n x) (b : Rr.JN ρ σ t τ W m y) : Pair B n m := by
  have la := sub_len a.ok.sub hl
  have lb := sub_len b.ok.sub hl
  have ca := a.sz.cr
  have cb := b.sz.cr
  exact ⟨la.1, by omega, lb.1, by omega, a.ok.pos, b.ok.pos, fun c hc => two_mul_le hB (Nat.le_trans (Rr.part_le a.ok.sub c hc) ca.nm) cb.un (by decide), fun c hc => two_mul_le hB (Nat.le_trans (Rr.part_le b.ok.sub c hc) cb.nm) ca.un (by decide), two_mul_le hB ca.un cb.un (by decide)⟩
theorem jr_push {F : Type} [Rr.OF F] {ρ σ : List F} {M : Lk.Made} {τ : List (List Int)} {ns : List Rr.PN} {ws : List Nat} {r r' : Nat} (h : JR F ρ σ M τ ns ws r) (hr : r ≤ r') {W : Nat} {n : Rr.PN} {x : Lk.Num} (q : Rr.JN ρ σ M.t τ W n x) :
    JR F ρ σ { M with nums := M.nums ++ [x] } τ (ns ++ [n]) (ws ++ [W]) r' := by
  refine ⟨h.R, h.P, ?_, ?_, Nat.le_trans h.tr hr, fun q hq => ?_, h.rel, h.rsz, fun j m e => ?_⟩
  · show (M.nums ++ [x]).length = _
    rw [List.length_append, List.length_append, h.l1]
    rfl
  · rw [List.length_append, List.length_append, h.l2]
    rfl
  · obtain ⟨j, y, e1, e2⟩ := h.src q hq
    refine ⟨j, y, ?_, e2⟩
    show (M.nums ++ [x])[j]? = some y
    rw [List.getElem?_append_left (List.getElem?_eq_some_iff.mp e1).1]
    exact e1
  · show ∃ y V, (M.nums ++ [x])[j]? = some y ∧ _
    rcases Nat.lt_or_ge j ns.length with z | z
    · rw [List.getElem?_append_left z] at e
      obtain ⟨y, V, e1, e2, p⟩ := h.nums j m e
      refine ⟨y, V, ?_, ?_, p⟩
      · rw [List.getElem?_append_left (by rw [h.l1]; exact z)]
        exact e1
      · rw [List.getElem?_append_left (by rw [h.l2]; exact z)]
        exact e2
    · have hj : j = ns.length := by
        have := (List.getElem?_eq_some_iff.mp e).1
        rw [List.length_append] at this
        simp at this
        omega
      subst hj
      rw [List.getElem?_append_right (Nat.le_refl _), Nat.sub_self] at e
      obtain rfl : n = m := Option.some.inj e
      refine ⟨x, W, ?_, ?_, q⟩
      · rw [List.getElem?_append_right (by rw [h.l1]; exact Nat.le_refl _), h.l1, Nat.sub_self]
        rfl
      · rw [List.getElem?_append_right (by rw [h.l2]; exact Nat.le_refl _), h.l2, Nat.sub_self]
        rfl
theorem map_lift_at {M : Lk.Made} {j : Nat} {x : Lk.Num} (h : M.nums[j]? = some x) : (M.nums.map Lk.lift)[j]? = some (Lk.lift x) := by
  rw [List.getElem?_map, h]
  rfl
/-- all numbers lifted -/
theorem jr_lift {F L : Type} [Rr.OF F] [Rr.OF L] (f : Rr.Emb F L) {ρ σ : List F} {M : Lk.Made} {τ : List (List Int)} {ns : List Rr.PN} {ws : List Nat} {r : Nat} (h : JR F ρ σ M τ ns ws r) {c : Lk.Num} {r' : L} {σ' : List L} {τ' : List (List Int)}
    (hR : Rr.Roots (r' :: ρ.map f.f) (c :: M.t)) (hP : Rr.PRoots σ' τ') (hc : ∃ (j : Nat) (x : Lk.Num), M.nums[j]? = some x ∧ Rr.Fits M.t.length x ∧ r' * r' = f.f (Rr.val ρ x)) (hfit : ∀ (j : Nat) (x : Lk.Num), M.nums[j]? = some x → Rr.Fits M.t.length x) (hs : ∀ s ∈ σ', ∃ q ∈ r' :: ρ.map f.f, 0 < q ∧ q ≤ s ∧ s ≤ q * (((2 ^ 2317160 : Nat) : Int) : L)) (hz : RSz τ') (ht : τ'.length ≤ r + 1) (hn : ∀ W n x, Rr.JN ρ σ M.t τ W n x → Rr.JN (r' :: ρ.map f.f) σ' (c :: M.t) τ' W n (Lk.lift x)) :
    JR L (r' :: ρ.map f.f) σ' ⟨c :: M.t, M.nums.map Lk.lift⟩ τ' ns ws (r + 1) := by
  have l : (ρ.map f.f).length = M.t.length := by rw [List.length_map]; exact h.R.len
  have lv : ∀ x, Rr.Fits M.t.length x → Rr.val (r' :: ρ.map f.f) (Lk.lift x) = f.f (Rr.val ρ x) := fun x hx => by rw [Rr.val_lift (by rw [l]; exact hx), f.val]
  refine ⟨hR, hP, ?_, h.l2, ht, fun q hq => ?_, hs, hz, fun j n e => ?_⟩
  · show (M.nums.map Lk.lift).length = _
    rw [List.length_map]
    exact h.l1
  · rcases List.mem_cons.mp hq with rfl | hq
    · obtain ⟨j, x, e1, e2, e3⟩ := hc
      exact ⟨j, Lk.lift x, map_lift_at e1, by rw [lv x e2]; exact e3⟩
    · obtain ⟨q0, h0, rfl⟩ := List.mem_map.mp hq
      obtain ⟨j, x, e1, e2⟩ := h.src q0 h0
      exact ⟨j, Lk.lift x, map_lift_at e1, by rw [lv x (hfit j x e1), ← e2, f.mul]⟩
  · obtain ⟨x, W, e1, e2, q⟩ := h.nums j n e
    exact ⟨Lk.lift x, W, map_lift_at e1, e2, hn W n x q⟩
theorem weight_ge {ws : List Nat} {F : Type} [Rr.OF F] {ρ σ : List F} {t : Lk.Tower} {τ : List (List Int)} {W : Nat} {n : Rr.PN} {x : Lk.Num} (h : Rr.JN ρ σ t τ W n x) : 32 ≤ W := by
  obtain ⟨l, h1, h2, ⟨h3, _⟩ | ⟨h3, _, h5, _⟩⟩ := h.sz
  · omega
  · omega
theorem j_step {M : Lk.Made} {τ : List (List Int)} {ns : List Rr.PN} {ws : List Nat} {r B : Nat} (hB : Big B) (J : JX M τ ns ws r) (s : Lk.Step) (hf : s.fine ns.length = true) (hr : (if s.op = 5 then r + 1 else r) ≤ 3) (hw : Lk.weight ws s ≤ 256) :
    (s.op = 4 → ∃ n, ns[s.b]? = some n ∧ SgPre B τ n) ∧ (s.op = 5 → ∃ n, ns[s.a]? = some n ∧ SgPre B τ n) ∧
    (∀ e, M.step s = .error e → why τ ns s = e ∧ e ≠ 0) ∧
    (∀ M', M.step s = .ok M' → why τ ns s = 0 ∧ StepPre B τ ns s ∧ JX M' (mstep τ ns s).2 (ns ++ [(mstep τ ns s).1]) (ws ++ [Lk.weight ws s]) (if s.op = 5 then r + 1 else r)) := by
  obtain ⟨F, iF, ρ, σ, h⟩ := J
  have f5 : s.op ≤ 5 := Classical.byContradiction fun z => by rw [fine_big (by omega)] at hf; cases hf
  obtain ⟨op, a, b, v⟩ := s
  dsimp only at *
  have hτ : τ.length ≤ 3 := by
    have := h.tr
    split at hr <;> omega
  rcases (show op = 0 ∨ op = 1 ∨ op = 2 ∨ op = 3 ∨ op = 4 ∨ op = 5 by omega) with rfl | rfl | rfl | rfl | rfl | rfl
  · -- a whole number
    rw [fine_whole rfl, Bool.and_eq_true, Bool.and_eq_true, Bool.and_eq_true] at hf
    have v1 := of_decide_eq_true hf.2.2.1
    have v2 := of_decide_eq_true hf.2.2.2
    dsimp only at v1 v2
    refine ⟨fun z => absurd z (by decide), fun z => absurd z (by decide), fun e he => (by cases he), fun M' hM => ?_⟩
    have eM : M' = { M with nums := M.nums ++ [Lk.ofRat M.t (v : Rat)] } := (Except.ok.inj hM).symm
    subst eM
    refine ⟨rfl, ⟨by show 0 ≤ 5; decide, fun z => absurd z (by show ¬ 0 = 5; decide), fun z => absurd z (by show ¬ (0 = 1 ∨ 0 = 2); decide), fun z => absurd z (by show ¬ 0 = 3; decide), fun z => absurd z (by show ¬ 0 = 4; decide)⟩, F, iF, ρ, σ, ?_⟩
    exact jr_push h (Nat.le_refl _) (Rr.jn_whole h.R h.P (v := v) (show v.natAbs ≤ 2 ^ 31 by omega) (Nat.le_refl 32))
  · -- a sum
    rw [fine_two (by show 1 ≤ 5; decide) (by show 1 ≠ 0; decide) (by show 1 ≠ 5; decide), Bool.and_eq_true, Bool.and_eq_true] at hf
    have fa := of_decide_eq_true hf.2.1
    have fb := of_decide_eq_true hf.2.2
    obtain ⟨n, x, V, n1, x1, v1, nx, nv, ja⟩ := h.at fa
    obtain ⟨m, y, W, m1, y1, w1, my, mw, jb⟩ := h.at fb
    dsimp only at *
    refine ⟨fun z => absurd z (by decide), fun z => absurd z (by decide), fun e he => (by cases he), fun M' hM => ?_⟩
    have eM : M' = { M with nums := M.nums ++ [Lk.plus (M.num a) (M.num b)] } := (Except.ok.inj hM).symm
    subst eM
    refine ⟨rfl, ⟨by show 1 ≤ 5; decide, fun z => absurd z (by show ¬ 1 = 5; decide), fun _ => ⟨n, m, n1, m1, jn_pair hB hτ ja jb⟩, fun z => absurd z (by show ¬ 1 = 3; decide), fun z => absurd z (by show ¬ 1 = 4; decide)⟩, F, iF, ρ, σ, ?_⟩
    have e1 : mstep τ ns ⟨1, a, b, v⟩ = (Rr.mplus n m, τ) := by
      show (Rr.mplus (ns.getD a nx0) (ns.getD b nx0), τ) = _
      rw [getD_of n1, getD_of m1]
    have e2 : Lk.weight ws ⟨1, a, b, v⟩ = V + W + 1 := by
      show ws.getD a 0 + ws.getD b 0 + 1 = _
      rw [nv, mw]
    rw [e1, nx, my]
    rw [e2] at hw ⊢
    exact jr_push h (Nat.le_refl _) (Rr.jn_plus h.R h.P ja jb rfl hw)
  · -- a difference
    rw [fine_two (by show 2 ≤ 5; decide) (by show 2 ≠ 0; decide) (by show 2 ≠ 5; decide), Bool.and_eq_true, Bool.and_eq_true] at hf
    have fa := of_decide_eq_true hf.2.1
    have fb := of_decide_eq_true hf.2.2
    obtain ⟨n, x, V, n1, x1, v1, nx, nv, ja⟩ := h.at fa
    obtain ⟨m, y, W, m1, y1, w1, my, mw, jb⟩ := h.at fb
    dsimp only at *
    refine ⟨fun z => absurd z (by decide), fun z => absurd z (by decide), fun e he => (by cases he), fun M' hM => ?_⟩
    have eM : M' = { M with nums := M.nums ++ [Lk.minus (M.num a) (M.num b)] } := (Except.ok.inj hM).symm
    subst eM
    refine ⟨rfl, ⟨by show 2 ≤ 5; decide, fun z => absurd z (by show ¬ 2 = 5; decide), fun _ => ⟨n, m, n1, m1, jn_pair hB hτ ja jb⟩, fun z => absurd z (by show ¬ 2 = 3; decide), fun z => absurd z (by show ¬ 2 = 4; decide)⟩, F, iF, ρ, σ, ?_⟩
    have e1 : mstep τ ns ⟨2, a, b, v⟩ = (Rr.mminus n m, τ) := by
      show (Rr.mminus (ns.getD a nx0) (ns.getD b nx0), τ) = _
      rw [getD_of n1, getD_of m1]
    have e2 : Lk.weight ws ⟨2, a, b, v⟩ = V + W + 1 := by
      show ws.getD a 0 + ws.getD b 0 + 1 = _
      rw [nv, mw]
    rw [e1, nx, my]
    rw [e2] at hw ⊢
    exact jr_push h (Nat.le_refl _) (Rr.jn_minus h.R h.P ja jb rfl hw)
  · -- a product
    rw [fine_two (by show 3 ≤ 5; decide) (by show 3 ≠ 0; decide) (by show 3 ≠ 5; decide), Bool.and_eq_true, Bool.and_eq_true] at hf
    have fa := of_decide_eq_true hf.2.1
    have fb := of_decide_eq_true hf.2.2
    obtain ⟨n, x, V, n1, x1, v1, nx, nv, ja⟩ := h.at fa
    obtain ⟨m, y, W, m1, y1, w1, my, mw, jb⟩ := h.at fb
    dsimp only at *
    refine ⟨fun z => absurd z (by decide), fun z => absurd z (by decide), fun e he => (by cases he), fun M' hM => ?_⟩
    have eM : M' = { M with nums := M.nums ++ [Lk.mul M.t (M.num a) (M.num b)] } := (Except.ok.inj hM).symm
    subst eM
    have tp : TPair B τ n m := ⟨Rr.PRoots.rts h.P, hτ, ja.ok.pre, jb.ok.pre, two_mul_le hB ja.sz.cr.nm jb.sz.cr.nm (by decide), two_mul_le hB ja.sz.cr.un jb.sz.cr.un (by decide)⟩
    refine ⟨rfl, ⟨by show 3 ≤ 5; decide, fun z => absurd z (by show ¬ 3 = 5; decide), fun z => absurd z (by show ¬ (3 = 1 ∨ 3 = 2); decide), fun _ => ⟨n, m, n1, m1, tp⟩, fun z => absurd z (by show ¬ 3 = 4; decide)⟩, F, iF, ρ, σ, ?_⟩
    have e1 : mstep τ ns ⟨3, a, b, v⟩ = (Rr.mtimes τ n m, τ) := by
      show (Rr.mtimes τ (ns.getD a nx0) (ns.getD b nx0), τ) = _
      rw [getD_of n1, getD_of m1]
    have e2 : Lk.weight ws ⟨3, a, b, v⟩ = V + W := by
      show ws.getD a 0 + ws.getD b 0 = _
      rw [nv, mw]
    rw [e1, nx, my]
    rw [e2] at hw ⊢
    exact jr_push h (Nat.le_refl _) (Rr.jn_times h.R h.P ja jb rfl hw)
  · -- a quotient
    rw [fine_two (by show 4 ≤ 5; decide) (by show 4 ≠ 0; decide) (by show 4 ≠ 5; decide), Bool.and_eq_true, Bool.and_eq_true] at hf
    have fa := of_decide_eq_true hf.2.1
    have fb := of_decide_eq_true hf.2.2
    obtain ⟨n, x, V, n1, x1, v1, nx, nv, ja⟩ := h.at fa
    obtain ⟨m, y, W, m1, y1, w1, my, mw, jb⟩ := h.at fb
    dsimp only at *
    have sg := JN.psg h.R h.P jb
    have st : M.step ⟨4, a, b, v⟩ = if Lk.sign M.t y = 0 then .error (-2) else .ok { M with nums := M.nums ++ [Lk.mul M.t x (Lk.inverse M.t y)] } := by
      rw [← nx, ← my]
      rfl
    have ew : why τ ns ⟨4, a, b, v⟩ = if Lk.sign M.t y = 0 then -2 else 0 := by
      unfold why
      dsimp only
      rw [getD_of m1, sg, if_neg (show ¬ ((4 : Nat) = 5 ∧ _) by omega)]
      by_cases z : Lk.sign M.t y = 0
      · rw [if_pos ⟨rfl, z⟩, if_pos z]
      · rw [if_neg (fun q => z q.2), if_neg z]
    refine ⟨fun _ => ⟨m, m1, JN.sgpre hB hτ jb⟩, fun z => absurd z (by decide), fun e he => ?_, fun M' hM => ?_⟩
    · rw [st] at he
      rw [ew]
      split at he
      · rename_i z
        rw [if_pos z]
        obtain rfl := Except.error.inj he
        exact ⟨rfl, by decide⟩
      · cases he
    · rw [st] at hM
      rw [ew]
      split at hM
      · cases hM
      · rename_i z
        rw [if_neg z]
        have eM : M' = { M with nums := M.nums ++ [Lk.mul M.t x (Lk.inverse M.t y)] } := (Except.ok.inj hM).symm
        subst eM
        have hv : Rr.val ρ y ≠ 0 := fun q => z (by rw [Rr.sign_val h.R jb.fit, q, Rr.sg_zero])
        have hv' : Rr.valp τ σ (Rr.el τ m.parts) ≠ 0 := by
          rw [← jb.val]
          intro q
          rcases Rr.mul_z q with q | q
          · exact hv q
          · exact jb.nz q
        have e2 : Lk.weight ws ⟨4, a, b, v⟩ = V + W := by
          show ws.getD a 0 + ws.getD b 0 = _
          rw [nv, mw]
        rw [e2] at hw ⊢
        obtain ⟨o1, ⟨S, o2, o3, o4⟩, o5⟩ := Rr.szd_over h.P hτ ja.ok.pre jb.ok hv' ja.sz jb.sz rfl hw
        have mi := (Rr.minv_ok h.P jb.ok hv').1
        have tp : TPair B τ n (Rr.minv τ m) := ⟨Rr.PRoots.rts h.P, hτ, ja.ok.pre, mi.pre, two_mul_le hB ja.sz.cr.nm o5.nm (by decide), two_mul_le hB ja.sz.cr.un o5.un (by decide)⟩
        refine ⟨rfl, ⟨by show 4 ≤ 5; decide, fun z => absurd z (by show ¬ 4 = 5; decide), fun z => absurd z (by show ¬ (4 = 1 ∨ 4 = 2); decide), fun z => absurd z (by show ¬ 4 = 3; decide), fun _ => ⟨n, m, n1, m1, S, F, iF, σ, hτ, h.P, jb.ok, hv', o4, o2, hB _ ?_, tp⟩⟩, F, iF, ρ, σ, ?_⟩
        · have : 25 * 2 ^ 3 * S ≤ 200 * 289640 := by omega
          omega
        have e1 : mstep τ ns ⟨4, a, b, v⟩ = (Rr.mover τ n m, τ) := by
          show (Rr.mover τ (ns.getD a nx0) (ns.getD b nx0), τ) = _
          rw [getD_of n1, getD_of m1]
        rw [e1]
        exact jr_push h (Nat.le_refl _) (Rr.jn_over h.R h.P hτ ja jb hv rfl hw)
  · -- a root
    rw [fine_root rfl, Bool.and_eq_true, Bool.and_eq_true] at hf
    have fa := of_decide_eq_true hf.2.1
    obtain ⟨n, x, V, n1, x1, v1, nx, nv, ja⟩ := h.at fa
    dsimp only at *
    rw [if_pos rfl] at hr ⊢
    have sg := JN.psg h.R h.P ja
    have st : M.step ⟨5, a, b, v⟩ = if Lk.sign M.t x < 0 then .error (-3) else .ok ⟨x :: M.t, M.nums.map Lk.lift ++ [Lk.newest M.t]⟩ := by
      rw [← nx]
      rfl
    have ew : why τ ns ⟨5, a, b, v⟩ = if Lk.sign M.t x < 0 then -3 else 0 := by
      unfold why
      dsimp only
      rw [getD_of n1, sg, if_neg (show ¬ ((5 : Nat) = 4 ∧ _) by omega)]
      by_cases z : Lk.sign M.t x < 0
      · rw [if_pos ⟨rfl, z⟩, if_pos z]
      · rw [if_neg (fun q => z q.2), if_neg z]
    refine ⟨fun z => absurd z (by decide), fun _ => ⟨n, n1, JN.sgpre hB hτ ja⟩, fun e he => ?_, fun M' hM => ?_⟩
    · rw [st] at he
      rw [ew]
      split at he
      · rename_i z
        rw [if_pos z]
        obtain rfl := Except.error.inj he
        exact ⟨rfl, by decide⟩
      · cases he
    · rw [st] at hM
      rw [ew]
      split at hM
      · cases hM
      · rename_i z
        rw [if_neg z]
        have eM : M' = ⟨x :: M.t, M.nums.map Lk.lift ++ [Lk.newest M.t]⟩ := (Except.ok.inj hM).symm
        subst eM
        have c := ja.sz.cr
        have rp : RootPre B τ n := ⟨Rr.PRoots.rts h.P, by have := h.tr; omega, ja.ok.sub, (JN.sgpre hB hτ ja).sg, fun c' hc => two_mul_le hB (Nat.le_trans (Rr.part_le ja.ok.sub c' hc) c.nm) c.un (by decide)⟩
        refine ⟨rfl, ⟨Nat.le_refl _, fun _ => ⟨n, n1, rp⟩, fun z => absurd z (by show ¬ (5 = 1 ∨ 5 = 2); decide), fun z => absurd z (by show ¬ 5 = 3; decide), fun z => absurd z (by show ¬ 5 = 4; decide)⟩, ?_⟩
        have e2 : Lk.weight ws ⟨5, a, b, v⟩ = V := by
          show ws.getD a 0 = _
          rw [nv]
        rw [e2] at hw ⊢
        have sv := Rr.sign_val h.R ja.fit
        rw [sv] at z sg
        have nn : 0 ≤ Rr.val ρ x := Rr.sg_nn_iff.mp (by omega)
        obtain ⟨L, iL, f, r', hr1, hr2⟩ := Rr.ext_root F (Rr.val ρ x) nn
        have hR : Rr.Roots (r' :: ρ.map f.f) (x :: M.t) := ⟨hr1, by rw [hr2, f.val], ja.fit, f.roots h.R⟩
        have hP := f.proots h.P
        have W32 := weight_ge (ws := ws) ja
        have hsrc : ∃ (j : Nat) (y : Lk.Num), M.nums[j]? = some y ∧ Rr.Fits M.t.length y ∧ r' * r' = f.f (Rr.val ρ y) := ⟨a, x, x1, ja.fit, hr2⟩
        have hfit : ∀ (j : Nat) (y : Lk.Num), M.nums[j]? = some y → Rr.Fits M.t.length y := fun j y e => by
          have hj := (List.getElem?_eq_some_iff.mp e).1
          rw [h.l1] at hj
          obtain ⟨n', y', W', _, e2, _, _, _, q⟩ := h.at hj
          rw [e] at e2
          obtain rfl := Option.some.inj e2
          exact q.fit
        have hrel : ∀ s ∈ σ.map f.f, ∃ q ∈ r' :: ρ.map f.f, 0 < q ∧ q ≤ s ∧ s ≤ q * (((2 ^ 2317160 : Nat) : Int) : L) := fun s hs => by
          obtain ⟨s0, h0, rfl⟩ := List.mem_map.mp hs
          obtain ⟨q, hq, q1, q2, q3⟩ := h.rel s0 h0
          refine ⟨f.f q, List.mem_cons_of_mem _ (List.mem_map.mpr ⟨q, hq, rfl⟩), f.ps q1, ?_, ?_⟩
          · have := f.nn _ (show 0 ≤ s0 - q by grind)
            rw [show s0 - q = s0 + -q by grind, f.add, f.neg] at this
            grind
          · rw [← f.int, ← f.mul]
            generalize (((2 ^ 2317160 : Nat) : Int) : F) = k at *
            have := f.nn _ (show 0 ≤ q * k - s0 by grind)
            rw [show q * k - s0 = q * k + -s0 by grind, f.add, f.neg] at this
            grind
        by_cases zz : Rr.sg (Rr.val ρ x) = 0
        · -- the root of 0
          have e1 : mstep τ ns ⟨5, a, b, v⟩ = (Rr.mwhole 0, τ) := by
            show (if psg τ (ns.getD a nx0) = 0 then _ else _) = _
            rw [getD_of n1, if_pos (by rw [sg]; exact zz)]
          rw [e1]
          have v0 : Rr.val ρ x = 0 := Rr.sg_zero_iff.mp zz
          have r0 : r' = 0 := Rr.sq_z (by rw [hr2, v0, f.zero])
          have jl := jr_lift f h (c := x) (r' := r') (σ' := σ.map f.f) (τ' := τ) hR hP hsrc hfit hrel h.rsz (by have := h.tr; omega) (fun W n x q => q.lift0 f h.R r' _)
          refine ⟨L, iL, r' :: ρ.map f.f, σ.map f.f, jr_push jl (Nat.le_refl _) (W := V) ?_⟩
          have jw := Rr.jn_whole (ρ := r' :: ρ.map f.f) (σ := σ.map f.f) (τ := τ) hR hP (v := 0) (by decide) W32
          refine ⟨Rr.fits_newest M.t, jw.ok, ?_, jw.sz⟩
          rw [← jw.val]
          congr 1
          have l : (ρ.map f.f).length = M.t.length := by rw [List.length_map]; exact h.R.len
          rw [Rr.val_newest l, r0, Rr.val_ofRat _ (x :: M.t) (by rw [List.length_cons, List.length_cons, l])]
          show (0 : L) = Rr.rc ((0 : Int) : Rat)
          rw [Rr.rc_int, Rr.ic_zero]
        · -- a new root
          have e1 : mstep τ ns ⟨5, a, b, v⟩ = (Rr.mroot τ n, Rr.mrad τ n :: τ) := by
            show (if psg τ (ns.getD a nx0) = 0 then _ else _) = _
            rw [getD_of n1, if_neg (by rw [sg]; exact zz)]
          rw [e1]
          have hv : Rr.val ρ x ≠ 0 := fun q => zz (Rr.sg_zero_iff.mpr q)
          have ps : 0 < Rr.val ρ x := by
            rcases Rr.sg_three (Rr.val ρ x) with q | q | q
            · omega
            · exact absurd q.1 hv
            · exact q.1
          have hv' : Rr.valp τ σ (Rr.el τ n.parts) ≠ 0 := by
            rw [← ja.val]
            intro q
            rcases Rr.mul_z q with q | q
            · exact hv q
            · exact ja.nz q
          have un : (0 : L) < (n.under : L) := Rr.ic_ps ja.ok.pos
          have rpos : (0 : L) < r' := by
            have fp := f.ps ps
            rw [← hr2] at fp
            rcases (show r' = 0 ∨ 0 < r' by grind) with q | q
            · rw [q] at fp
              grind
            · exact q
          have hrz : Rr.sz τ (Rr.mrad τ n) ≤ 2 ^ 4634320 := by
            unfold Rr.sz
            rw [(Rr.mrad_pit ja.ok.sub).2, (Rr.lv τ).nm_int]
            refine Nat.le_trans (Nat.mul_le_mul c.un c.nm) ?_
            rw [← Nat.pow_add]
            exact Rr.two_le (by decide)
          have hPn : Rr.PRoots (((n.under : Int) : L) * r' :: σ.map f.f) (Rr.mrad τ n :: τ) := by
            refine ⟨Rr.mul_ps un rpos, ?_, (Rr.mrad_pit ja.ok.sub).1, hP⟩
            rw [(Rr.mrad_pit ja.ok.sub).2, Rr.valp_cst hP, ← f.valp, ← ja.val, f.mul, f.int, ← hr2]
            grind
          have jl := jr_lift f h (c := x) (r' := r') (σ' := ((n.under : Int) : L) * r' :: σ.map f.f) (τ' := Rr.mrad τ n :: τ) hR hPn hsrc hfit (fun s hs => by
            rcases List.mem_cons.mp hs with rfl | hs
            · refine ⟨r', List.mem_cons_self .., rpos, ?_, ?_⟩
              · have o1 : (1 : L) ≤ ((n.under : Int) : L) := by
                  have := Rr.ic_le (K := L) (show (1 : Int) ≤ n.under by have := ja.ok.pos; omega)
                  rw [Rr.ic_one] at this
                  exact this
                have := Rr.mul_nn (show (0 : L) ≤ ((n.under : Int) : L) - 1 by grind) (show (0 : L) ≤ r' by grind)
                grind
              · have o2 : ((n.under : Int) : L) ≤ (((2 ^ 2317160 : Nat) : Int) : L) := Rr.ic_le (le_of_abs c.un)
                generalize (((2 ^ 2317160 : Nat) : Int) : L) = k at *
                have := Rr.mul_nn (show (0 : L) ≤ k - ((n.under : Int) : L) by grind) (show (0 : L) ≤ r' by grind)
                grind
            · exact hrel s hs) ⟨hrz, h.rsz⟩ (by rw [List.length_cons]; have := h.tr; omega) (fun W n' x' q => q.lift1 f h.R r' _ _ _)
          refine ⟨L, iL, r' :: ρ.map f.f, _, jr_push jl (Nat.le_refl _) (W := V) ?_⟩
          refine ⟨Rr.fits_newest M.t, Rr.root_ok ja.ok _, ?_, Rr.szd_root h.P ja.ok hv' ja.sz⟩
          have l : (ρ.map f.f).length = M.t.length := by rw [List.length_map]; exact h.R.len
          rw [Rr.val_newest l, (Rr.mroot_el (Rr.mrad τ n)).2]
          show r' * ((n.under : Int) : L) = Rr.valp (Rr.mrad τ n :: τ) (((n.under : Int) : L) * r' :: σ.map f.f) (⟨0, 1⟩ : (Rr.lv τ).E (Rr.mrad τ n))
          rw [Rr.valp_cons, Rr.valp_zero, Rr.valp_one]
          grind
end Wk
end
section
set_option Elab.async false
set_option linter.all false
set_option maxRecDepth 100000
set_option maxHeartbeats 2000000
namespace Wk
open PySem PySem.Spec PyProof.Rows L2
/-! ### what a change leaves -/
theorem NAt.keep {C : Addr} {H H' : Hp} {x d : Addr} {n : Rr.PN} (h : NAt C H x n) {o : HO} (hd : H d = some o) (h1 : ∀ dx fs, o ≠ .ins C dx fs) (h2 : o ≠ .lst (n.parts.map V.int)) (k : ∀ b o, H b = some o → b ≠ d → H' b = some o) : NAt C H' x n := by
  obtain ⟨dx, pa, a, b⟩ := h
  exact ⟨dx, pa, k _ _ a (ne_of a hd fun q => h1 _ _ q.symm), k _ _ b (ne_of b hd fun q => h2 q.symm)⟩
theorem NsAt.dict {C : Addr} {H H' : Hp} {l d : Addr} {ns : List Rr.PN} {kvs : List (Key × V)} (h : NsAt C H l ns) (hd : H d = some (.dK kvs)) (k : ∀ b o, H b = some o → b ≠ d → H' b = some o) : NsAt C H' l ns := by
  obtain ⟨xs, a, b, c⟩ := h
  exact ⟨xs, k _ _ a (ne_of a hd (by intro q; cases q)), b, fun j x n e1 e2 => (c j x n e1 e2).keep hd (by intro _ _ q; cases q) (by intro q; cases q) k⟩
theorem RtsAt.keepL {H H' : Hp} {kvs : List (Key × V)} {l : Addr} {xs : List Addr} (hl : H l = some (.lst (xs.map V.ref))) (k : ∀ b o, H b = some o → b ≠ l → H' b = some o) : ∀ {τ : List (List Int)}, Rr.Rts τ → RtsAt H kvs τ → RtsAt H' kvs τ
  | [], _, _ => trivial
  | r :: τ, R, ⟨⟨a, h1, h2⟩, h3⟩ => by
    refine ⟨⟨a, h1, k _ _ h2 (ne_of h2 hl (lst_ne ?_ xs))⟩, RtsAt.keepL hl k R.2 h3⟩
    intro z
    have h4 : r.length = 2 ^ τ.length := R.1
    have h5 := Rr.two_pos τ.length
    rw [z] at h4
    have h6 : (0 : Nat) = 2 ^ τ.length := h4
    omega
/-- a number more -/
theorem ns_push {C : Addr} {H : Hp} {l z : Addr} {ns : List Rr.PN} {xs : List Addr} {n : Rr.PN} (hl : H l = some (.lst (xs.map V.ref))) (hx : xs.length = ns.length) (hn : ∀ (j : Nat) (x : Addr) (m : Rr.PN), xs[j]? = some x → ns[j]? = some m → NAt C H x m) (hp : ∀ m ∈ ns, m.parts ≠ []) (hz : NAt C H z n) (hzp : n.parts ≠ []) :
    NsAt C (upd H l (.lst (xs.map V.ref ++ [.ref z]))) l (ns ++ [n]) := by
  have kp : ∀ b o, H b = some o → b ≠ l → upd H l (.lst (xs.map V.ref ++ [.ref z])) b = some o := fun b o e hb => by rw [upd_ne hb]; exact e
  refine ⟨xs ++ [z], ?_, by rw [List.length_append, List.length_append, hx]; rfl, fun j x m e1 e2 => ?_⟩
  · rw [upd_same, List.map_append]
    rfl
  · rcases Nat.lt_or_ge j xs.length with q | q
    · rw [List.getElem?_append_left q] at e1
      rw [List.getElem?_append_left (by omega)] at e2
      exact (hn j x m e1 e2).keep hl (by intro _ _ q; cases q) (fun q => lst_ne (hp m (List.mem_of_getElem? e2)) xs q.symm) kp
    · have hj : j = xs.length := by
        have := (List.getElem?_eq_some_iff.mp e1).1
        rw [List.length_append] at this
        simp at this
        omega
      subst hj
      rw [List.getElem?_append_right (Nat.le_refl _), Nat.sub_self] at e1
      rw [hx, List.getElem?_append_right (Nat.le_refl _), Nat.sub_self] at e2
      obtain rfl : z = x := Option.some.inj e1
      obtain rfl : n = m := Option.some.inj e2
      exact hz.keep hl (by intro _ _ q; cases q) (fun q => lst_ne hzp xs q.symm) kp
theorem JX.parts {M : Lk.Made} {τ : List (List Int)} {ns : List Rr.PN} {ws : List Nat} {r : Nat} (J : JX M τ ns ws r) : Rr.Rts τ ∧ ws.length = ns.length ∧ M.nums.length = ns.length ∧ τ.length ≤ r ∧ ∀ m ∈ ns, m.parts ≠ [] := by
  obtain ⟨F, iF, ρ, σ, h⟩ := J
  refine ⟨Rr.PRoots.rts h.P, h.l2, h.l1, h.tr, fun m hm => ?_⟩
  obtain ⟨j, hj⟩ := List.getElem?_of_mem hm
  obtain ⟨x, W, _, _, q⟩ := h.nums j m hj
  intro z
  have := q.ok.sub.pos
  rw [z] at this
  simp at this
/-- a row object tells what was made -/
def RowIs (C R : Addr) (H : Hp) (x : Addr) (res : Except (Int × Nat) Lk.Made) : Prop := ∃ (dx pf pn pr : Addr), H x = some (.ins R dx (rf (.ref pf) (.ref pn) (.ref pr))) ∧
  match res with
  | .error e => IL H pf (LkANeutral.shown (LkA.faulted e))
  | .ok M => IL H pf [] ∧ ∃ (τ : List (List Int)) (ns : List Rr.PN) (ws : List Nat) (r : Nat), NsAt C H pn ns ∧ RFul H pr τ ∧ JX M τ ns ws r ∧ r ≤ 3
section
variable {P : Program} {w : World} {K : PySem.W.Frag} {mg : Str → Option Value} {base : Heap}
def spMade (C R : Addr) : Sp := fun vs H Q _ => ∃ (l : Addr) (st : List Lk.Step), vs = [.ref l] ∧ StAt H l st ∧ st.length ≤ 100 ∧ Lk.wrong st = none ∧ ∀ (H' : Hp) (x : Addr), Same H H' → RowIs C R H' x (Lk.makeFrom st 0 ⟨[], []⟩) → Q (.ref x) H'
theorem scMade : FnScope ["steps", "numbers", "roots", "k", "refusal"] ["steps"] (defScope sMade) := ⟨rfl, rfl, rfl, by decide +kernel, rfl, by decide +kernel, by decide +kernel⟩
theorem makeFrom_cons (s : Lk.Step) (r : List Lk.Step) (i : Nat) (M : Lk.Made) : Lk.makeFrom (s :: r) i M = match M.step s with
    | .error e => .error (e, i)
    | .ok k => Lk.makeFrom r (i + 1) k := rfl
theorem shown_fault {e : Int} (h : e ≠ -7) (i : Nat) : LkANeutral.shown (LkA.faulted (e, i)) = [e, 1, (i : Int)] := by
  unfold LkA.faulted
  rw [if_neg h]
  rfl
theorem step_err {M : Lk.Made} {s : Lk.Step} {e : Int} (h : M.step s = .error e) : e = -2 ∨ e = -3 := by
  unfold Lk.Made.step at h
  dsimp only at h
  split at h
  · cases h
  · cases h
  · cases h
  · cases h
  · split at h
    · exact .inl (Except.error.inj h).symm
    · cases h
  · split at h
    · exact .inr (Except.error.inj h).symm
    · cases h
theorem ok_made {C R : Addr} {B : Nat} (hB : Big B) (T : Blt mg) (N : RCl P w K mg base R) (wy : Dn P w K mg base "why_it_cannot_be" 8 ["step", "numbers", "roots"] (spWhy C B)) (no : Dn P w K mg base "number_of" 40 ["step", "numbers", "roots"] (spNumberOf C B)) (d : Df K mg "made" sMade ["steps"]) :
    Dn P w K mg base "made" 41 ["steps"] (spMade C R) := by
  refine d.dn scMade (fun vs H Q E h => ?_) (fun f cdv A outer s H vs Q E hr h => ?_)
  · obtain ⟨l, st, rfl, _⟩ := h
    rfl
  · obtain ⟨l, st, rfl, hl, hlen, hwr0, k⟩ := h
    have hr2 : Room 2 _ := hr.mono (by omega)
    have hr8 : Room 8 _ := hr.mono (by omega)
    refine ⟨_, pss_cons (ps_set (i := 1) scMade.nd rfl (Or.inl rfl) (pe_lst pa_nil)) (pss_cons (ps_set (i := 2) scMade.nd rfl (Or.inl rfl) pe_dnewK)
      (pss_cons (ps_for PassesOwn.never rfl (pi_range1 rfl T.rng (pa_cons (pe_callB call_len_seq (by rfl) T.len PySem.boot_len (pa_cons (pv 0) pa_nil)) pa_nil)) (pg_name (i := 3) scMade.nd rfl (Or.inl rfl))
        (pss_cons (ps_set (i := 4) scMade.nd rfl (Or.inl rfl) (pe_cd wy hr8 (by rfl) (pa_cons (pe_ix ix_list (pv 0) (pv 3) (fun _ _ => rfl)) (pa_cons (pv 1) (pa_cons (pv 2) pa_nil)))))
        (pss_cons (ps_if (pt_cmpR op_ne (pv 4) pe_int (nomark _)) (pss_one (ps_ret (pe_mkR N hr2 (by rfl) (pa_cons (pe_lst (pa_cons (pv 4) (pa_cons pe_int (pa_cons (pv 3) pa_nil)))) (pa_cons (pv 1) (pa_cons (pv 2) pa_nil)))))) pss_nil)
        (pss_one (ps_expr (pe_bm PySem.F.plainAttrs_list PySem.F.slot_list_append PySem.F.type_list_append mt_append (pv 1) (pa_cons (pe_cd no hr (by rfl) (pa_cons (pe_ix ix_list (pv 0) (pv 3) (fun _ _ => rfl)) (pa_cons (pv 1) (pa_cons (pv 2) pa_nil)))) pa_nil)))))))
      (pss_one (ps_ret (pe_mkR N hr2 (by rfl) (pa_cons (pe_lst pa_nil) (pa_cons (pv 1) (pa_cons (pv 2) pa_nil)))))))), ?_⟩
    refine ⟨Nat.zero_le _, fun nl hnl => ?_⟩
    have s1 := same_new (o := .lst []) hnl
    have g1 : upd H nl (.lst []) nl = some (.lst (([] : List Addr).map V.ref)) := upd_same
    generalize upd H nl (.lst []) = H1 at s1 g1
    intro dd hdd
    have s2 := same_new (o := .dK []) hdd
    have g2 : upd H1 dd (.dK []) dd = some (.dK []) := upd_same
    have g12 := s2 _ _ g1
    generalize upd H1 dd (.dK []) = H2 at s2 g2 g12
    have s02 := s1.trans s2
    have hdd0 : H dd = none := s1.free hdd
    obtain ⟨as, hla, hal, hat⟩ := hl
    refine ⟨_, rfl, l, _, rfl, .inl (SqL.of (s02 _ _ hla)), _, rfl, ?_, ?_, ?_⟩
    · rw [List.length_map]; omega
    · rw [List.length_map]; omega
    have e1 : (((as.map V.ref).length : Nat) : Int).toNat = st.length := by rw [List.length_map, hal]; rfl
    rw [e1]
    refine for_range (n := st.length) (fun i σ H' => ∃ (M : Lk.Made) (τ : List (List Int)) (ns : List Rr.PN) (ws : List Nat) (r : Nat) (a b : Option V), σ = [some (.ref l), some (.ref nl), some (.ref dd), a, b] ∧ NsAt C H' nl ns ∧ RFul H' dd τ ∧ JX M τ ns ws r ∧ ns.length = i ∧ r ≤ 3 ∧ Same H H' ∧
      Lk.makeFrom st 0 ⟨[], []⟩ = Lk.makeFrom (st.drop i) i M ∧ Lk.wrongFrom (st.drop i) i ws r = none)
      ⟨⟨[], []⟩, [], [], [], 0, none, none, rfl, ⟨[], g12, rfl, fun j x n e => by simp at e⟩, ⟨[], g2, trivial, rfl, (fun j _ => rfl), rfl⟩, jx_start, rfl, by decide, s02, rfl, hwr0⟩ ?_ ?_
    · rintro i σ H' hi ⟨M, τ, ns, ws, r, a, b, rfl, hns, hrt, J, hni, hr3, s3, hmk, hwr⟩
      obtain ⟨t, ht⟩ : ∃ t, st[i]? = some t := ⟨_, List.getElem?_eq_getElem hi⟩
      obtain ⟨x, hx⟩ : ∃ x, as[i]? = some x := ⟨_, List.getElem?_eq_getElem (by omega)⟩
      have gx := s3 _ _ (hat i x t hx ht)
      obtain ⟨jR, jw, jm, jt, jp⟩ := J.parts
      rw [drop_at ht, wrongFrom_cons] at hwr
      rw [drop_at ht, makeFrom_cons] at hmk
      have hc : ¬ (t.fine i = false ∨ Lk.ROOTS < (if t.op = 5 then r + 1 else r) ∨ Lk.WEIGHT < Lk.weight ws t) := fun z => by
        rw [if_pos z] at hwr
        cases hwr
      rw [if_neg hc] at hwr
      have hf : t.fine ns.length = true := by
        rw [hni]
        cases q : t.fine i with
        | true => rfl
        | false => exact absurd (Or.inl q) hc
      have hro : (if t.op = 5 then r + 1 else r) ≤ 3 := Nat.le_of_not_lt fun z => hc (Or.inr (Or.inl z))
      have hwe : Lk.weight ws t ≤ 256 := Nat.le_of_not_lt fun z => hc (Or.inr (Or.inr z))
      obtain ⟨w4, w5, we, wk⟩ := j_step hB J t hf hro hwe
      have stx : (as.map V.ref)[i]? = some (.ref x) := by rw [List.getElem?_map, hx]; rfl
      refine ⟨_, rfl, _, rfl, l, _, _, _, rfl, rfl, SqL.of (s3 _ _ hla), at_of (j := i) (by omega) stx, _, rfl, _, rfl, x, nl, dd, t, ns, τ, rfl, gx, hns, hrt.at, by omega, jR, w4, w5, fun H4 s4 => ?_⟩
      have s04 := s3.trans s4
      cases hst : M.step t with
      | error e =>
        rw [hst] at hmk
        dsimp only at hmk
        obtain ⟨ew, ene⟩ := we e hst
        rw [ew]
        refine ⟨_, rfl, rfl, _, rfl, ite2 (fun c => ?_) (fun c => absurd (vnn c) ene)⟩
        refine ⟨_, rfl, _, rfl, (by show 3 ≤ sizeLine; decide), fun p hp => ?_⟩
        have s5 := same_new (o := .lst [V.int e, V.int 1, V.int (0 + (i : Int))]) hp
        refine ⟨_, rfl, _, rfl, ?_⟩
        intro z dz nz ndz nez
        refine ⟨z, dz, _, _, _, rfl, upd_same, fun H6 hz kp => ⟨rfl, ?_⟩⟩
        have s6 := Same.made nz ndz kp
        refine k H6 z ((s04.trans s5).trans s6) ⟨dz, p, nl, dd, hz, ?_⟩
        rw [hmk]
        show H6 p = _
        rw [shown_fault (by rcases step_err hst with q | q <;> omega), s6 _ _ upd_same, Int.zero_add]
        rfl
      | ok M' =>
        rw [hst] at hmk
        dsimp only at hmk
        obtain ⟨ew, pre, J'⟩ := wk M' hst
        rw [ew]
        refine ⟨_, rfl, rfl, _, rfl, ite2 (fun c => absurd rfl (vn c)) (fun c => ?_)⟩
        have hns4 := hns.same s4
        have hrt4 := hrt.same s4
        obtain ⟨xs4, hxs4, hxl4, hxn4⟩ := hns4
        refine ⟨_, rfl, .inl ⟨rfl, _, SqL.of hxs4⟩, _, rfl, _, rfl, l, _, _, _, rfl, rfl, SqL.of (s04 _ _ hla), at_of (j := i) (by omega) stx, _, rfl, _, rfl, x, nl, dd, t, ns, τ, rfl, s4 _ _ gx, ⟨xs4, hxs4, hxl4, hxn4⟩, hrt4, pre, fun H5 z k5 r5 n5 => ?_⟩
        obtain ⟨kvs, hk4, _⟩ := hrt4
        have hns5 : NsAt C H5 nl ns := NsAt.dict ⟨xs4, hxs4, hxl4, hxn4⟩ hk4 k5
        obtain ⟨xs5, hxs5, hxl5, hxn5⟩ := hns5
        refine ⟨nl, _, _, rfl, rfl, hxs5, ?_, ?_⟩
        · rw [List.length_map]
          exact small1000 (by omega)
        obtain ⟨jR', jw', jm', jt', jp'⟩ := J'.parts
        have zp : (mstep τ ns t).1.parts ≠ [] := jp' _ (List.mem_append_right _ (List.mem_singleton.mpr rfl))
        obtain ⟨kvs5, hk5, hts5, hkl5, hno5⟩ := r5
        have dn : dd ≠ nl := ne_of hk5 hxs5 (by intro q; cases q)
        refine ⟨M', (mstep τ ns t).2, ns ++ [(mstep τ ns t).1], ws ++ [Lk.weight ws t], _, _, _, rfl, ns_push hxs5 hxl5 hxn5 jp n5 zp, ⟨kvs5, ?_, RtsAt.keepL hxs5 (fun b o e hb => by rw [upd_ne hb]; exact e) jR' hts5, hkl5, hno5⟩, J', by rw [List.length_append, hni]; rfl, hro, fun b o e => ?_, hmk, hwr⟩
        · rw [upd_ne dn]
          exact hk5
        · rw [upd_ne (ne_of_none e hnl)]
          exact k5 _ _ (s04 _ _ e) (ne_of_none e hdd0)
    · rintro σ H' ⟨M, τ, ns, ws, r, a, b, rfl, hns, hrt, J, hni, hr3, s3, hmk, hwr⟩
      rw [List.drop_of_length_le (Nat.le_refl _)] at hmk
      refine ⟨Nat.zero_le _, fun p hp => ?_⟩
      have s5 := same_new (o := .lst []) hp
      refine ⟨_, rfl, _, rfl, ?_⟩
      intro z dz nz ndz nez
      refine ⟨z, dz, _, _, _, rfl, upd_same, fun H6 hz kp => ⟨rfl, ?_⟩⟩
      have s6 := Same.made nz ndz kp
      refine k H6 z ((s3.trans s5).trans s6) ⟨dz, p, nl, dd, hz, ?_⟩
      rw [hmk]
      exact ⟨s6 _ _ upd_same, τ, ns, ws, r, (hns.same s5).same s6, (hrt.same s5).same s6, J, hr3⟩
end
end Wk
end
section
set_option Elab.async false
set_option linter.all false
set_option maxRecDepth 100000
set_option maxHeartbeats 2000000
namespace Wk
open PySem PySem.Spec PyProof.Rows L2
theorem shaped1 (a : Int) : SeqAt.shaped (.list [.int a]) = true := by rfl
theorem shaped3 (a b c : Int) : SeqAt.shaped (.list [.int a, .int b, .int c]) = true := by rfl
theorem shaped0 : SeqAt.shaped (.list []) = true := by rfl
/-- a refusal is [-7], or three numbers -/
theorem shown_two (e : Int × Nat) : LkANeutral.shown (LkA.faulted e) = [-7] ∨ ∃ a b c : Int, LkANeutral.shown (LkA.faulted e) = [a, b, c] := by
  unfold LkA.faulted
  split
  · exact .inl rfl
  · exact .inr ⟨e.1, 1, e.2, rfl⟩
section
variable {P : Program} {w : World} {K : PySem.W.Frag} {mg : Str → Option Value} {base : Heap}
/-! ### row_of -/
def spRowOf (K : PySem.W.Frag) (C R : Addr) : Sp := fun vs H Q _ => ∃ (a : Addr) (st : List Lk.Step), vs = [.ref a] ∧ SqL K H a ((st.map q4).flatten.map V.int) ∧ st.length ≤ 100 ∧ ∀ (H' : Hp) (x : Addr), Same H H' → RowIs C R H' x (Lk.make st) → Q (.ref x) H'
theorem scRowOf : FnScope ["p", "steps", "wrong"] ["p"] (defScope sRowOf) := ⟨rfl, rfl, rfl, by decide +kernel, rfl, by decide +kernel, by decide +kernel⟩
theorem ok_rowof {C R : Addr} (T : Blt mg) (Q : Cst mg) (N : RCl P w K mg base R) (so : Dn P w K mg base "steps_of" 1 ["p"] (spStepsOf K)) (fw : Dn P w K mg base "first_wrong" 2 ["steps"] spFirst) (md : Dn P w K mg base "made" 41 ["steps"] (spMade C R)) (d : Df K mg "row_of" sRowOf ["p"]) :
    Dn P w K mg base "row_of" 42 ["p"] (spRowOf K C R) := by
  refine d.dn scRowOf (fun vs H Q E h => ?_) (fun f cdv A outer s H vs Q' E hr h => ?_)
  · obtain ⟨a, st, rfl, _⟩ := h
    rfl
  · obtain ⟨a, st, rfl, ha, hl, k⟩ := h
    have hr1 : Room 1 _ := hr.mono (by omega)
    have hr2 : Room 2 _ := hr.mono (by omega)
    refine ⟨_, pss_cons (ps_set (i := 1) scRowOf.nd rfl (Or.inl rfl) (pe_cd so hr1 (by rfl) (pa_cons (pv 0) pa_nil)))
      (pss_cons (ps_if (PW.pt (pw_or (pt_cmpR op_lt (pe_callB call_len_seq (by rfl) T.len PySem.boot_len (pa_cons (pv 1) pa_nil)) pe_int (nomark _)) (pw_or1 (pt_cmpR op_gt (pe_callB call_len_seq (by rfl) T.len PySem.boot_len (pa_cons (pv 1) pa_nil)) (pe_k Q.steps (by rfl)) (nomark _)))))
        (pss_one (ps_ret (pe_mkR N hr2 (by rfl) (pa_cons (pe_lst (pa_cons (pe_un un_neg pe_int) pa_nil)) (pa_cons (pe_lst pa_nil) (pa_cons pe_dnewK pa_nil)))))) pss_nil)
      (pss_cons (ps_set (i := 2) scRowOf.nd rfl (Or.inl rfl) (pe_cd fw hr2 (by rfl) (pa_cons (pv 1) pa_nil)))
      (pss_cons (ps_if (pt_cmp (pc_notN (pv 2))) (pss_one (ps_ret (pe_mkR N hr2 (by rfl) (pa_cons (pe_lst (pa_cons (pe_un un_neg pe_int) (pa_cons pe_int (pa_cons (pv 2) pa_nil)))) (pa_cons (pe_lst pa_nil) (pa_cons pe_dnewK pa_nil)))))) pss_nil)
      (pss_one (ps_ret (pe_cd md hr (by rfl) (pa_cons (pv 1) pa_nil))))))), ?_⟩
    refine ⟨_, rfl, a, st, rfl, ha, hl, fun H1 l s1 hst => ?_⟩
    have hst' := hst
    obtain ⟨as, hla, hal, hat⟩ := hst
    have mk7 : (st = [] ∨ Lk.STEPS < st.length) → ∀ (H2 : Hp), Same H H2 → tMake R (spRInit R) [] E0 (tCons (tLst (tCons (tUn (rU fun i => V.int (-i)) (tC (V.int 7))) tNil)) (tCons (tLst tNil) (tCons tDNewK tNil))) [some (.ref a), some (.ref l), none] H2 Q' := fun hz H2 s2 => by
      refine ⟨_, rfl, (by show 1 ≤ sizeLine; decide), fun p hp => ?_⟩
      have t1 := same_new (o := .lst [V.int (-7)]) hp
      refine ⟨Nat.zero_le _, fun p2 hp2 => ?_⟩
      have t2 := same_new (o := .lst []) hp2
      intro p3 hp3
      have t3 := same_new (o := .dK []) hp3
      intro z dz nz ndz nez
      refine ⟨z, dz, _, _, _, rfl, upd_same, fun H6 hz6 kp => ⟨rfl, ?_⟩⟩
      have s6 := Same.made nz ndz kp
      refine k H6 z ((((s2.trans t1).trans t2).trans t3).trans s6) ⟨dz, p, p2, p3, hz6, ?_⟩
      have e : Lk.make st = .error (-7, 0) := by
        unfold Lk.make
        rw [if_pos hz]
      rw [e]
      exact s6 _ _ (t3 _ _ (t2 _ _ upd_same))
    refine ⟨_, rfl, l, _, rfl, .inl (SqL.of hla), _, _, rfl, rfl, _, rfl, ite2 (fun c => iteT ?_) (fun c => ?_)⟩
    · have c1 : ((((as.map V.ref).length : Nat) : Int)) < 1 := of_decide_eq_true c
      rw [List.length_map, hal] at c1
      exact mk7 (.inl (List.eq_nil_of_length_eq_zero (by omega))) H1 s1
    have c1 : ¬ ((((as.map V.ref).length : Nat) : Int)) < 1 := fun z => c (decide_eq_true z)
    rw [List.length_map, hal] at c1
    refine ⟨_, rfl, l, _, rfl, .inl (SqL.of hla), _, _, rfl, rfl, _, rfl, ite2 (fun c => ?_) (fun c => ?_)⟩
    · have c2 : (32 : Int) < (((as.map V.ref).length : Nat) : Int) := of_decide_eq_true c
      rw [List.length_map, hal] at c2
      exact mk7 (.inr (by unfold Lk.STEPS; omega)) H1 s1
    have c2 : ¬ (32 : Int) < (((as.map V.ref).length : Nat) : Int) := fun z => c (decide_eq_true z)
    rw [List.length_map, hal] at c2
    have em : Lk.make st = match Lk.wrong st with
        | some i => .error (-1, i)
        | none => Lk.makeFrom st 0 ⟨[], []⟩ := by
      have nn : ¬ (st = [] ∨ Lk.STEPS < st.length) := by
        rintro (z | z)
        · rw [z] at c1
          exact c1 (by decide)
        · unfold Lk.STEPS at z
          omega
      unfold Lk.make
      rw [if_neg nn]
      cases Lk.wrong st <;> rfl
    refine ⟨_, rfl, l, st, rfl, hst', hl, fun H2 s2 => ?_⟩
    have s02 := s1.trans s2
    cases hw : Lk.wrong st with
    | some i =>
      rw [hw] at em
      dsimp only at em
      refine ⟨_, rfl, _, rfl, ite2 (fun _ => ?_) (fun c => absurd rfl c)⟩
      refine ⟨_, rfl, _, rfl, (by show 3 ≤ sizeLine; decide), fun p hp => ?_⟩
      have t1 := same_new (o := .lst [V.int (-1), V.int 1, V.int (i : Int)]) hp
      refine ⟨Nat.zero_le _, fun p2 hp2 => ?_⟩
      have t2 := same_new (o := .lst []) hp2
      intro p3 hp3
      have t3 := same_new (o := .dK []) hp3
      intro z dz nz ndz nez
      refine ⟨z, dz, _, _, _, rfl, upd_same, fun H6 hz6 kp => ⟨rfl, ?_⟩⟩
      have s6 := Same.made nz ndz kp
      refine k H6 z ((((s02.trans t1).trans t2).trans t3).trans s6) ⟨dz, p, p2, p3, hz6, ?_⟩
      rw [em]
      exact s6 _ _ (t3 _ _ (t2 _ _ upd_same))
    | none =>
      rw [hw] at em
      dsimp only at em
      refine ⟨_, rfl, _, rfl, ite2 (fun c => absurd c (by decide)) (fun _ => ?_)⟩
      refine ⟨_, rfl, l, st, rfl, hst'.same s2, hl, hw, fun H3 x s3 g3 => ?_⟩
      refine k H3 x (s02.trans s3) ?_
      rw [em]
      exact g3
theorem last_at {α : Type} {l : List α} (h : l ≠ []) : ∃ m x, l = m ++ [x] := ⟨l.dropLast, l.getLast h, (List.dropLast_concat_getLast h).symm⟩
theorem make_len {st : List Lk.Step} : ∀ {i : Nat} {M M' : Lk.Made}, Lk.makeFrom st i M = .ok M' → M'.nums.length = M.nums.length + st.length := by
  induction st with
  | nil =>
    intro i M M' h
    obtain rfl := Except.ok.inj h
    rfl
  | cons s r ih =>
    intro i M M' h
    rw [makeFrom_cons] at h
    cases hs : M.step s with
    | error e => rw [hs] at h; cases h
    | ok k =>
      rw [hs] at h
      have e := ih h
      have e2 : k.nums.length = M.nums.length + 1 := by
        unfold Lk.Made.step at hs
        dsimp only at hs
        split at hs
        · obtain rfl := Except.ok.inj hs
          show (M.nums ++ [_]).length = _
          rw [List.length_append]; rfl
        · obtain rfl := Except.ok.inj hs
          show (M.nums ++ [_]).length = _
          rw [List.length_append]; rfl
        · obtain rfl := Except.ok.inj hs
          show (M.nums ++ [_]).length = _
          rw [List.length_append]; rfl
        · obtain rfl := Except.ok.inj hs
          show (M.nums ++ [_]).length = _
          rw [List.length_append]; rfl
        · split at hs
          · cases hs
          · obtain rfl := Except.ok.inj hs
            show (M.nums ++ [_]).length = _
            rw [List.length_append]; rfl
        · split at hs
          · cases hs
          · obtain rfl := Except.ok.inj hs
            show (M.nums.map Lk.lift ++ [_]).length = _
            rw [List.length_append, List.length_map]; rfl
      rw [e, e2, List.length_cons]
      omega
theorem make_ok {st : List Lk.Step} {M : Lk.Made} (h : Lk.make st = .ok M) : st ≠ [] ∧ M.nums.length = st.length := by
  unfold Lk.make at h
  split at h
  · cases h
  · rename_i z
    split at h
    · cases h
    · have e := make_len h
      refine ⟨fun q => z (.inl q), ?_⟩
      rw [e]
      show 0 + _ = _
      omega
/-! ### what is handed in -/
theorem fours : ∀ p : List Int, LkANeutral.foursRight p = true → ∃ st, LkANeutral.stepsOf p = some st ∧ (st.map q4).flatten = p
  | [], _ => ⟨[], rfl, rfl⟩
  | x :: a :: b :: v :: r, h => by
    unfold LkANeutral.foursRight LkANeutral.natural at h
    simp only [Bool.and_eq_true, decide_eq_true_eq] at h
    obtain ⟨⟨⟨⟨⟨⟨h1, _⟩, h2, _⟩, h3, _⟩, _⟩, _⟩, hr⟩ := h
    obtain ⟨st, e1, e2⟩ := fours r hr
    refine ⟨⟨x.toNat, a.toNat, b.toNat, v⟩ :: st, ?_, ?_⟩
    · unfold LkANeutral.stepsOf
      rw [if_pos (by unfold LkANeutral.whole; simp [h1, h2, h3]), e1]
      rfl
    · rw [List.map_cons, List.flatten_cons, e2]
      show [((x.toNat : Nat) : Int), ((a.toNat : Nat) : Int), ((b.toNat : Nat) : Int), v] ++ r = _
      rw [Int.toNat_of_nonneg h1, Int.toNat_of_nonneg h2, Int.toNat_of_nonneg h3]
      rfl
  | [_], h => by cases h
  | [_, _], h => by cases h
  | [_, _, _], h => by cases h
end
end Wk
end
section
set_option Elab.async false
set_option linter.all false
set_option maxRecDepth 100000
set_option maxHeartbeats 2000000
namespace Wk
open PySem PySem.Spec PyProof.Rows L2
open PySem.W (Codec)
/-! ### all that the top has written -/
structure CF (K : PySem.W.Frag) (mg : Str → Option Value) (x q : Str) (st : Stmt) (ps : List Str) (C : Addr) : Prop where
  cl : Cls K C
  mgC : mg x = some (.ref C)
  ini : ∃ (f : Addr) (fd : FuncData), Mk K C f ∧ Fun K "__init__" q st f fd ∧ Binds K fd ps []
structure Tx (K : PySem.W.Frag) (mg : Str → Option Value) (C R : Addr) : Prop where
  blt : Blt mg
  cst : Cst mg
  num : CF K mg "Number" "Number.__init__" sNInit ["self", "parts", "under"] C
  nP : NoAttr K C "parts"
  nU : NoAttr K C "under"
  row : CF K mg "Row" "Row.__init__" sRInit ["self", "refusal", "numbers", "roots"] R
  r1 : NoAttr K R "refusal"
  r2 : NoAttr K R "numbers"
  r3 : NoAttr K R "roots"
  d_whole : Df K mg "whole" sWhole ["v"]
  d_common_divisor : Df K mg "common_divisor" sGcd ["m", "n"]
  d_reduced : Df K mg "reduced" sReduced ["parts", "under"]
  d_widened : Df K mg "widened" sWidened ["parts", "size"]
  d_scaled : Df K mg "scaled" sScaled ["parts", "factor"]
  d_parts_sum : Df K mg "parts_sum" sSum ["u", "v"]
  d_parts_product : Df K mg "parts_product" sProd ["u", "v", "roots"]
  d_parts_norm : Df K mg "parts_norm" sNorm ["parts", "roots"]
  d_whole_sign : Df K mg "whole_sign" sWsign ["n"]
  d_parts_sign : Df K mg "parts_sign" sPsign ["parts", "roots"]
  d_sign_of : Df K mg "sign_of" sSignOf ["x", "roots"]
  d_plus : Df K mg "plus" sPlus ["x", "y"]
  d_minus : Df K mg "minus" sMinus ["x", "y"]
  d_times : Df K mg "times" sTimes ["x", "y", "roots"]
  d_inverse : Df K mg "inverse" sInverse ["x", "roots"]
  d_over : Df K mg "over" sOver ["x", "y", "roots"]
  d_root : Df K mg "root" sRoot ["x", "roots"]
  d_steps_of : Df K mg "steps_of" sStepsOf ["p"]
  d_first_wrong : Df K mg "first_wrong" sFirstWrong ["steps"]
  d_fields_wrong : Df K mg "fields_wrong" sFieldsWrong ["step", "k"]
  d_weight_of : Df K mg "weight_of" sWeightOf ["step", "weights"]
  d_row_of : Df K mg "row_of" sRowOf ["p"]
  d_made : Df K mg "made" sMade ["steps"]
  d_why_it_cannot_be : Df K mg "why_it_cannot_be" sWhy ["step", "numbers", "roots"]
  d_number_of : Df K mg "number_of" sNumberOf ["step", "numbers", "roots"]
theorem Tx.ncl {P : Program} {w : World} {K : PySem.W.Frag} {mg : Str → Option Value} {base : Heap} {C R : Addr} (T : Tx K mg C R) : NCl P w K mg base C := by
  obtain ⟨f, fd, m, F, b⟩ := T.num.ini
  exact ⟨T.num.cl, T.nP, T.nU, T.num.mgC, f, fd, m, b, ok_ninit F T.num.cl T.nP T.nU⟩
theorem Tx.rcl {P : Program} {w : World} {K : PySem.W.Frag} {mg : Str → Option Value} {base : Heap} {C R : Addr} (T : Tx K mg C R) : RCl P w K mg base R := by
  obtain ⟨f, fd, m, F, b⟩ := T.row.ini
  exact ⟨T.row.cl, T.r1, T.r2, T.r3, T.row.mgC, f, fd, m, b, ok_rinit F T.row.cl T.r1 T.r2 T.r3⟩
theorem top_ex : ∃ B, Big B ∧ Goes B := by
  refine ⟨2 ^ 134217726, fun a h => Rr.two_le h, fun x y h => ?_⟩
  by_cases hx : x = 0
  · subst hx
    exact IntMulOk.of_left (by decide)
  by_cases hy : y = 0
  · subst hy
    exact IntMulOk.of_right (by decide)
  have nx : x.natAbs ≠ 0 := by omega
  have ny : y.natAbs ≠ 0 := by omega
  have m1 := Nat.mul_le_mul (Nat.log2_self_le nx) (Nat.log2_self_le ny)
  rw [← Nat.pow_add] at m1
  have m2 := (Nat.pow_le_pow_iff_right (a := 2) (by decide)).mp (Nat.le_trans m1 h)
  refine IntMulOk.of_le (m := x.natAbs.log2 + 1) (n := y.natAbs.log2 + 1) (intBits_le_iff.mpr ?_) (intBits_le_iff.mpr ?_) (by omega)
  · exact Nat.lt_log2_self
  · exact Nat.lt_log2_self
/-- the defs of the tower and of the rows, all together -/
structure Rows (P : Program) (w : World) (K : PySem.W.Frag) (mg : Str → Option Value) (base : Heap) (C R : Addr) (B : Nat) : Prop where
  row : Dn P w K mg base "row_of" 42 ["p"] (spRowOf K C R)
  sgn : Dn P w K mg base "sign_of" 7 ["x", "roots"] (spSignOf C B)
  mins : Dn P w K mg base "minus" 35 ["x", "y"] (spPlus C B Rr.mminus)
  wdn : Dn P w K mg base "widened" 1 ["parts", "size"] spWidened
  scl : Dn P w K mg base "scaled" 1 ["parts", "factor"] spScaled
  smm : Dn P w K mg base "parts_sum" 1 ["u", "v"] spSum
  psn : ∀ n, n ≤ 5 → Dn P w K mg base "parts_sign" (n + 3) ["parts", "roots"] (spPsign B n)
theorem rows_ok {P : Program} {w : World} {K : PySem.W.Frag} {mg : Str → Option Value} {base : Heap} {C R : Addr} {B : Nat} (hB : Big B) (hG : Goes B) (T : Tx K mg C R) (hse : base.NoSeer) (htr : P.given.tree = none) : Rows P w K mg base C R B := by
  have N : NCl P w K mg base C := T.ncl
  have Q : RCl P w K mg base R := T.rcl
  have wh := ok_whole N T.d_whole
  have gc := ok_gcd (P := P) (w := w) (base := base) T.d_common_divisor
  have rd := ok_reduced T.blt N hse htr gc T.d_reduced
  have wd := ok_widened (P := P) (w := w) (base := base) T.blt T.d_widened
  have sc := ok_scaled (P := P) (w := w) (base := base) T.d_scaled
  have sm := ok_sum (P := P) (w := w) (base := base) T.blt T.d_parts_sum
  have pp := ok_prod hG T.blt sm T.d_parts_product
  have nm : ∀ n, n ≤ 4 → Dn P w K mg base "parts_norm" (n + 3) ["parts", "roots"] (spNorm B n) := fun n hn => ok_norm hn T.blt sm sc (pp n (by omega)) T.d_parts_norm
  have ws := ok_wsign (P := P) (w := w) (base := base) T.d_whole_sign
  have ps := ok_psign T.blt ws nm T.d_parts_sign
  have sg := ok_signof N (ps 3 (by decide)) T.d_sign_of
  have pl := ok_plus hG T.blt N sc wd sm rd T.d_plus
  have mi := ok_minus N sc pl T.d_minus
  have tm := ok_times hG T.blt N wd (pp 3 (by decide)) rd T.d_times
  have iv := ok_inverse T.blt N sc nm ps rd tm T.d_inverse
  have ov := ok_over (iv 3 (by decide)) tm T.d_over
  have rt := ok_root hG T.blt N sg wh sc wd T.d_root
  have so := ok_stepsof (P := P) (w := w) (base := base) T.blt T.d_steps_of
  have fw := ok_fields (P := P) (w := w) (base := base) T.cst T.d_fields_wrong
  have wo := ok_weight (P := P) (w := w) (base := base) T.cst T.d_weight_of
  have fi := ok_first T.blt T.cst fw wo T.d_first_wrong
  have wy := ok_why T.cst sg T.d_why_it_cannot_be
  have no := ok_numberof T.cst wh rt pl mi tm ov T.d_number_of
  have md := ok_made hB T.blt Q wy no T.d_made
  exact ⟨ok_rowof T.blt T.cst Q so fi md T.d_row_of, sg, mi, wd, sc, sm, ps⟩
theorem df_mk {K : PySem.W.Frag} {h : Heap} {mg : Str → Option Value} {x : Str} {st : Stmt} {ps : List Str} {f : Addr} {oc : Value} {od an : Option Addr} {osl : Array (Option Value)} {kV doc pm cdv ct : Value} (X : K.In h) (G : h.Ns mainGlobals mg)
    (a : PySem.W.nsIn K mainGlobals x = some (some (.ref f))) (l : K.lookup f = some ⟨oc, od, .func (PySem.W.fnOf x x (defArgs st) (defBody st) (defScope st) .none kV doc pm an cdv ct), osl⟩) (c : PySem.W.codeIn K cdv x = true) (k : PySem.W.keepIn K (.ref f) = true)
    (hb : ∀ (kV doc pm : Value) (an : Option Addr) (cdv ct : Value) (us : List Value), us.length = ps.length → bindArgs (PySem.W.fnOf x x (defArgs st) (defBody st) (defScope st) .none kV doc pm an cdv ct) ⟨us, []⟩ = pure (ps.zip us)) : Df K mg x st ps :=
  ⟨f, _, fun_mk l c k, PySem.W.mg_of X G a, (fun_mk l c k).binds hb⟩
theorem cf_mk {K : PySem.W.Frag} {h : Heap} {mg : Str → Option Value} {x q : Str} {st : Stmt} {ps : List Str} {C f : Addr} {oc : Value} {od an : Option Addr} {osl : Array (Option Value)} {kV doc pm cdv ct : Value} (X : K.In h) (G : h.Ns mainGlobals mg)
    (aC : PySem.W.nsIn K mainGlobals x = some (some (.ref C))) (a : PySem.W.findIn K (.ref C) "__init__" = some (some (.ref f))) (i : PySem.W.isFn K (.ref f) = true) (l : K.lookup f = some ⟨oc, od, .func (PySem.W.fnOf "__init__" q (defArgs st) (defBody st) (defScope st) .none kV doc pm an cdv ct), osl⟩) (c : PySem.W.codeIn K cdv q = true) (k : PySem.W.keepIn K (.ref f) = true)
    (pg : PySem.W.plainGet K C Str.empty = true) (hd : PySem.W.hasDictIn K C = true) (po : PySem.W.plainOver K C = true) (sa : PySem.W.findIn K (.ref C) "__setattr__" = some (some (.builtin "object.__setattr__"))) (mk : PySem.W.makesIn K C = true) (kc : PySem.W.keepIn K (.ref C) = true)
    (hb : ∀ (kV doc pm : Value) (an : Option Addr) (cdv ct : Value) (us : List Value), us.length = ps.length → bindArgs (PySem.W.fnOf "__init__" q (defArgs st) (defBody st) (defScope st) .none kV doc pm an cdv ct) ⟨us, []⟩ = pure (ps.zip us)) : CF K mg x q st ps C :=
  ⟨⟨pg, hd, po, sa⟩, PySem.W.mg_of X G aC, f, _, ⟨mk, a, i, kc⟩, fun_mk l c k, (fun_mk l c k).binds hb⟩
theorem k_mk {K : PySem.W.Frag} {h : Heap} {mg : Str → Option Value} {x : Str} {i : Int} {t : Tok} (X : K.In h) (G : h.Ns mainGlobals mg) (a : PySem.W.nsIn K mainGlobals x = some (some (.int i t))) : ∃ t, mg x = some (.int i t) := ⟨t, PySem.W.mg_of X G a⟩
end Wk
end
section
set_option Elab.async false
set_option linter.all false
set_option maxRecDepth 100000
set_option maxHeartbeats 2000000
/-! own rules, more: shifts of large numbers, bit_length, sorted(dict) -/
namespace L2
open PySem PySem.Spec PyProof.Rows
section
variable {X : Cx}
theorem op_shlB : OpR X (binaryOp .LShift) (rI (fun i j => 0 ≤ j ∧ (Builtin.Int.intBits i : Int) + j ≤ 2 ^ 27) fun i j => .int (i * 2 ^ j.toNat)) := opI fun _ _ _ _ _ _ _ hc q => lshift_int hc.1 hc.2 q
def rBits : V → List V → Hp → VK → Prop := fun x xs H Q => ∃ i : Int, x = .int i ∧ xs = [] ∧ Q (.int ((Builtin.Int.intBits i : Nat) : Int)) H
theorem mt_bits : MtR X "int.bit_length" rBits := by
  intro pins s σ H x xs v us Q I rx rxs h
  obtain ⟨i, rfl, rfl, q⟩ := h
  obtain ⟨t, rfl⟩ := rx
  cases rxs
  exact call_int_bit_length ⟨.int _, H, I.tok _, ⟨_, rfl⟩, q⟩
theorem vals_keys {P : Program} {w : World} : ∀ {kvs : List (Key × V)} {vs : List (Key × Value)} {ks : List Int} {us : List Value}, KV kvs vs → kvs.map (·.1) = ks.map (Sum.inl : Int → Key) → us.length = vs.length →
    (∀ (j : Nat) (u : Value), us[j]? = some u → ∃ k x, vs[j]? = some (k, x) ∧ (mixKind P w).is k u = true) → IntsAre us ks
  | [], _, ks, us, r, e, hl, _ => by
    cases r
    cases ks with
    | nil =>
      cases us with
      | nil => exact .nil
      | cons a b => cases hl
    | cons a b => cases e
  | kv :: kvs, _, ks, us, r, e, hl, h => by
    cases r with
    | cons h1 h2 =>
      rename_i q qs
      cases ks with
      | nil => cases e
      | cons k ks =>
        have e' : kv.1 :: kvs.map (·.1) = Sum.inl k :: ks.map (Sum.inl : Int → Key) := e
        have e1 := (List.cons.inj e').1
        have e2 := (List.cons.inj e').2
        cases us with
        | nil => cases hl
        | cons u us =>
          obtain ⟨k', x, hx, hk⟩ := h 0 u rfl
          have hq : q = (k', x) := Option.some.inj hx
          have hkk : k' = Sum.inl k := by
            have := h1.1
            rw [hq] at this
            rw [← e1]
            exact this.symm
          subst hkk
          have sh := keyIs_shape (show keyIs (Sum.inl k) u = true from hk)
          rcases sh with ⟨i, t, h3, h4⟩ | ⟨y, t, h3, h4⟩
          · have : k = i := Sum.inl.inj h3
            subst this
            subst h4
            exact .cons k t (vals_keys h2 e2 (by simpa using hl) fun j u' hj => h (j + 1) u' hj)
          · cases h3
/-- sorted(d), the keys whole numbers, few -/
def rSortedD : List V → Hp → VK → Prop := fun vs H Q => ∃ (a : Addr) (kvs : List (Key × V)) (ks : List Int), vs = [V.ref a] ∧ H a = some (.dK kvs) ∧ kvs.map (·.1) = ks.map (Sum.inl : Int → Key) ∧ ks.length < 64 ∧
  ∀ (ns' : List Int) (p : Addr), ns'.Perm ks → ns'.Pairwise (· ≤ ·) → H p = none → Q (.ref p) (upd H p (.lst (ns'.map V.int)))
theorem cr_sortedD (hc : X.calm = true) : CallR X (.builtin "sorted") rSortedD := by
  intro pins s σ H vs us Q I r h
  obtain ⟨a, kvs, ks, rfl, ha, hks, h64, q⟩ := h
  rw [Vals.ref1 r]
  obtain ⟨hz, hS, vs, rv, hD⟩ := dk_of I.hok ha
  obtain ⟨ep, hat⟩ := hD.dictAt
  have hh : X.A.in1.handled = none := I.ok.hd hc
  have hlen : kvs.length = ks.length := by
    have := congrArg List.length hks
    simpa using this
  have hvl : vs.length = ks.length := by rw [← hlen]; exact rv.length.symm
  have hsz : vs.length ≤ sizeLine := by rw [hvl]; exact small64 h64
  refine Calls.call_function_entry kind_sorted plain_sorted entry_sorted (args_sorted1 _) ?_
  unfold Builtin.«sorted»
  refine wpAny_bind (m := checkCount "sorted" 1 1 _) (wpAny_pure ?_)
  refine wpAny_bind (PySem.W.kdu_collect (A := X.A.in1) (PySem.W.kdl_dict (knd := mixKind X.prog X.w) (kvs := vs) (ep := ep) hS) hh hat hsz fun h' tk acc hk hacc => ?_)
  have hl : acc.toList.length = vs.length := by rw [Array.length_toList]; exact hacc.1
  have hI : IntsAre acc.toList ks := vals_keys (P := X.prog) (w := X.w) rv hks hl fun j u e => by
    have e' : acc[j]? = some u := by rw [← Array.getElem?_toList]; exact e
    exact hacc.2 j u e'
  refine wpAny_bind (wpAny_newList ?_ (by rw [hl]; exact hsz))
  have hoL : (h'.push { cls := .type "list", data := .seq acc.toList.toArray }).get? h'.objs.size = some (seqObj "list" acc.toList.toArray 0) := Heap.get?_push_size _ rfl
  refine wpAny_bind (wpAny_holding (wpAny_call_entry slot_list_sort ⟨_, hoL, rfl⟩ entry_list_sort (list_sort_tree hoL hI (by rw [hI.length]; exact h64) fun out ns' a1 a2 a3 => ⟨_, rfl, ?_⟩) (args_list_sort _)))
  refine wpAny_pure ⟨_, rfl, ?_⟩
  obtain ⟨ep', he'⟩ := sortedHeap_at (vs := acc.toList) (out := out) hoL
  have I1 : Inv X pins σ H { s with heap := h', toks := tk } := I.kept hk
  have hl2 : (ns'.map V.int).length ≤ sizeLine := by rw [List.length_map, a2.length_eq]; exact small64 h64
  refine ⟨.ref _, upd H h'.objs.size (.lst (ns'.map V.int)), I1.laid (t' := tk) (fun b o e => ?_) (Nat.le_refl _) ⟨hl2, out.toList, ep', vals_of_ints a1, he'⟩, rfl, q ns' _ a2 a3 (I1.hok.fresh (Nat.le_refl _))⟩
  have lt : b < h'.objs.size := Heap.lt_size e
  rw [sortedHeap_old (Nat.ne_of_lt lt) (by rw [size_push']; exact Nat.lt_succ_of_lt lt)]
  exact Heap.get?_push_of_some _ e
end
end L2
end
section
set_option Elab.async false
set_option linter.all false
set_option maxRecDepth 100000
set_option maxHeartbeats 2000000
namespace Wk
open PySem PySem.Spec PyProof.Rows L2
abbrev sWroot : Stmt := top 21
abbrev sRspan : Stmt := top 22
abbrev sSprod : Stmt := top 23
abbrev T2 (H : Hp) (a : Addr) (x y : Int) : Prop := H a = some (.tup [.int x, .int y])
theorem bits_of {x : Int} {m : Nat} (h : x.natAbs ≤ 2 ^ m) : Builtin.Int.intBits x ≤ m + 1 := intBits_le_iff.mpr (by
  rw [Nat.pow_succ]
  have := Rr.two_pos m
  omega)
theorem mul_bits {x y : Int} {m n : Nat} (hx : x.natAbs ≤ 2 ^ m) (hy : y.natAbs ≤ 2 ^ n) (h : m + n ≤ 134217726) : IntMulOk x y := IntMulOk.of_le (bits_of hx) (bits_of hy) (by omega)
theorem two_up (b : Nat) : (2 : Int) ^ ((b : Int)).toNat = Rr.up b := by
  rw [Int.toNat_natCast]
  show (2 : Int) ^ b = ((2 ^ b : Nat) : Int)
  simp
section
variable {P : Program} {w : World} {K : PySem.W.Frag} {mg : Str → Option Value} {base : Heap}
/-! ### whole_root -/
def spWroot : Sp := fun vs H Q _ => ∃ n : Int, vs = [.int n] ∧ 0 ≤ n ∧ n.natAbs ≤ 2 ^ 134217700 ∧ ∀ r : Int, 0 ≤ r → r * r ≤ n → n < (r + 1) * (r + 1) → Q (.int r) H
theorem scWroot : FnScope ["n", "guess", "better"] ["n"] (defScope sWroot) := ⟨rfl, rfl, rfl, by decide +kernel, rfl, by decide +kernel, by decide +kernel⟩
/-- a better guess is never too small -/
theorem newton {n g : Int} (hg : 0 < g) (hn : 0 ≤ n) : n < ((g + n / g) / 2 + 1) * ((g + n / g) / 2 + 1) := by
  have e := Int.emod_add_mul_ediv n g
  have r0 := Int.emod_nonneg n (show g ≠ 0 by omega)
  have r1 := Int.emod_lt_of_pos n hg
  generalize n / g = q at *
  generalize n % g = r at *
  have t : g + q + 1 ≤ 2 * ((g + q) / 2 + 1) := by omega
  generalize (g + q) / 2 + 1 = u at *
  have q0 : 0 ≤ q := by
    apply Classical.byContradiction
    intro z
    have := Int.mul_le_mul_of_nonneg_left (show q ≤ -1 by omega) (Int.le_of_lt hg)
    omega
  have m := Int.mul_le_mul t t (by omega) (by omega)
  have s := Int.mul_nonneg (show 0 ≤ (g - q - 1) * (g - q - 1) from by
    rcases (show 0 ≤ g - q - 1 ∨ 0 ≤ -(g - q - 1) by omega) with z | z
    · exact Int.mul_nonneg z z
    · have := Int.mul_nonneg z z
      rw [Int.neg_mul_neg] at this
      exact this) (show (0 : Int) ≤ 1 by decide)
  have i1 : (g + q + 1) * (g + q + 1) = (g - q - 1) * (g - q - 1) * 1 + 4 * (g * q + g) := by grind
  have i2 : 2 * u * (2 * u) = 4 * (u * u) := by grind
  omega
theorem guess_end {n g : Int} (hg : 0 < g) (hn : 0 ≤ n) (h : g ≤ (g + n / g) / 2) : g * g ≤ n := by
  have e := Int.emod_add_mul_ediv n g
  have r0 := Int.emod_nonneg n (show g ≠ 0 by omega)
  have q : g ≤ n / g := by omega
  have := Int.mul_le_mul_of_nonneg_left q (Int.le_of_lt hg)
  omega
theorem guess_pos {n g : Int} (hg : 0 < g) (hn : 0 < n) (hng : n < (g + 1) * (g + 1)) : 0 < (g + n / g) / 2 := by
  have q0 : 0 ≤ n / g := Int.ediv_nonneg (by omega) (by omega)
  rcases (show 2 ≤ g ∨ g = 1 by omega) with z | z
  · omega
  · subst z
    rw [Int.ediv_one]
    omega
theorem ok_wroot (hse : base.NoSeer) (htr : P.given.tree = none) (d : Df K mg "whole_root" sWroot ["n"]) : Dn P w K mg base "whole_root" 33 ["n"] spWroot := by
  refine d.dn scWroot (fun vs H Q E h => ?_) (fun f cdv A outer s H vs Q E hr h => ?_)
  · obtain ⟨n, rfl, _⟩ := h
    rfl
  · obtain ⟨n, rfl, hn0, hnz, k⟩ := h
    have cm : Calm (cxOf CX0 P w K mg base ["n", "guess", "better"] "whole_root" (defScope sWroot) f cdv A outer s H E).nox := ⟨hse, htr, ⟨_, _, rfl, rfl, rfl, rfl, rfl⟩, by have := hr.dp; show (A.deeper _).depth + 100 < _; omega⟩
    refine ⟨_, pss_cons (ps_if (pt_cmpR op_eq (pv 0) pe_int (nomark _)) (pss_one (ps_ret pe_int)) pss_nil)
      (pss_cons (ps_set (i := 1) scWroot.nd rfl (Or.inl rfl) (pe_op op_shlB pe_int (pe_op op_fdiv (pe_op op_add (pe_bm0 PySem.F.plainAttrs_int slot_int_bit_length type_int_bit_length mt_bits (pv 0)) pe_int) pe_int)))
      (pss_cons (ps_set (i := 2) scWroot.nd rfl (Or.inl rfl) (pe_op op_fdiv (pe_op op_add (pv 1) (pe_op (op_fdivB cm) (pv 0) (pv 1))) pe_int))
      (pss_cons (ps_while PassesOwn.never (pt_cmpR op_lt (pv 2) (pv 1) (nomark _)) (pss_cons (ps_set (i := 1) scWroot.nd rfl (Or.inl rfl) (pv 2)) (pss_one (ps_set (i := 2) scWroot.nd rfl (Or.inl rfl) (pe_op op_fdiv (pe_op op_add (pv 1) (pe_op (op_fdivB cm) (pv 0) (pv 1))) pe_int)))))
      (pss_one (ps_ret (pv 1)))))), ?_⟩
    refine ⟨_, rfl, rfl, _, rfl, ite2 (fun c => ?_) (fun c => ?_)⟩
    · have c1 : n = 0 := V.int.inj (of_decide_eq_true c)
      subst c1
      exact k 0 (by decide) (by decide) (by decide)
    have c1 : n ≠ 0 := vin c
    have hb := bits_of hnz
    have hbl : n < ((2 ^ (Builtin.Int.intBits n) : Nat) : Int) := by
      have := (intBits_le_iff (x := n)).mp (Nat.le_refl _)
      omega
    refine ⟨_, rfl, rfl, _, rfl, rfl, _, _, rfl, rfl, _, _, rfl, rfl, ⟨by decide, by decide⟩, _, _, rfl, rfl, ⟨by omega, ?_⟩, ?_⟩
    · have : Builtin.Int.intBits 1 = 1 := by decide
      rw [this]
      omega
    have e1 : ((1 : Int) * 2 ^ ((((Builtin.Int.intBits n : Nat) : Int) + 1) / 2).toNat) = Rr.up ((Builtin.Int.intBits n + 1) / 2) := by
      have e2 : (((Builtin.Int.intBits n : Nat) : Int) + 1) / 2 = (((Builtin.Int.intBits n + 1) / 2 : Nat) : Int) := by omega
      rw [e2, two_up, Int.one_mul]
    have gp := Rr.up_pos ((Builtin.Int.intBits n + 1) / 2)
    have gn : n < (Rr.up ((Builtin.Int.intBits n + 1) / 2) + 1) * (Rr.up ((Builtin.Int.intBits n + 1) / 2) + 1) := by
      have i1 : Rr.up (Builtin.Int.intBits n) ≤ Rr.up ((Builtin.Int.intBits n + 1) / 2) * Rr.up ((Builtin.Int.intBits n + 1) / 2) := by
        rw [← Rr.up_add]
        exact Rr.up_le (by omega)
      have i2 : (Rr.up ((Builtin.Int.intBits n + 1) / 2) + 1) * (Rr.up ((Builtin.Int.intBits n + 1) / 2) + 1) = Rr.up ((Builtin.Int.intBits n + 1) / 2) * Rr.up ((Builtin.Int.intBits n + 1) / 2) + 2 * Rr.up ((Builtin.Int.intBits n + 1) / 2) + 1 := by grind
      have i3 : n < Rr.up (Builtin.Int.intBits n) := hbl
      omega
    generalize Rr.up ((Builtin.Int.intBits n + 1) / 2) = g0 at e1 gp gn
    have ep : V.int ((1 : Int) * 2 ^ ((((Builtin.Int.intBits n : Nat) : Int) + 1) / 2).toNat) = V.int g0 := congrArg V.int e1
    refine ⟨_, rfl, _, rfl, _, rfl, _, _, rfl, ep, gp, _, _, ep, rfl, _, _, rfl, rfl, ⟨by decide, by decide⟩, ?_⟩
    refine while_fin (fun t σ H' => ∃ g : Int, σ = [some (.int n), some (.int g), some (.int ((g + n / g) / 2))] ∧ H' = H ∧ 0 < g ∧ n < (g + 1) * (g + 1) ∧ t = g.toNat)
      (fun σ H' => ∃ g : Int, σ = [some (.int n), some (.int g), some (.int ((g + n / g) / 2))] ∧ H' = H ∧ 0 < g ∧ n < (g + 1) * (g + 1) ∧ g ≤ (g + n / g) / 2) ⟨_, g0, ?_, rfl, gp, gn, rfl⟩ ?_ (fun fin => ?_)
    · show [some (V.int n), some (V.int _), some (V.int _)] = _
      rw [e1]
    · rintro σ H' ⟨g, rfl, rfl, h1, h2, h3⟩
      exact ⟨_, rfl, k g (by omega) (guess_end h1 hn0 h3) h2⟩
    · rintro t σ H' ⟨g, rfl, rfl, h1, h2, rfl⟩
      refine ⟨_, rfl, _, rfl, _, _, rfl, rfl, _, rfl, ite2 (fun c => ?_) (fun c => ?_)⟩
      · have c2 : (g + n / g) / 2 < g := of_decide_eq_true c
        have bp := guess_pos h1 (by omega) h2
        have nw := newton h1 hn0
        refine ⟨fun σ' H2 => ∃ g', σ' = [some (.int n), some (.int g'), some (.int ((g' + n / g') / 2))] ∧ H2 = H' ∧ g' = (g + n / g) / 2, fun σ' H2 ⟨g', e1, e2, e3⟩ => ?_, ?_⟩
        · subst e3
          exact ⟨_, by omega, _, e1, e2, bp, nw, rfl⟩
        · exact ⟨_, rfl, _, rfl, _, rfl, _, rfl, _, _, rfl, rfl, bp, _, _, rfl, rfl, _, _, rfl, rfl, ⟨by decide, by decide⟩, _, rfl, rfl, rfl⟩
      · have c2 : ¬ (g + n / g) / 2 < g := fun z => c (decide_eq_true z)
        exact fin _ _ ⟨g, rfl, rfl, h1, h2, by omega⟩
end
end Wk
end
section
set_option Elab.async false
set_option linter.all false
set_option maxRecDepth 100000
set_option maxHeartbeats 2000000
namespace Wk
open PySem PySem.Spec PyProof.Rows L2
abbrev sPspan : Stmt := top 24
theorem t2_0 {H : Hp} {a : Addr} {x y : Int} {K : PySem.W.Frag} (h : T2 H a x y) : SqT K H a [.int x, .int y] := SqT.of h
section
variable {P : Program} {w : World} {K : PySem.W.Frag} {mg : Str → Option Value} {base : Heap}
/-! ### root_span -/
def spRspan : Sp := fun vs H Q _ => ∃ (a : Addr) (b m : Nat) (lo hi : Int), vs = [.ref a, .int b] ∧ T2 H a lo hi ∧ 0 ≤ hi ∧ lo.natAbs ≤ 2 ^ m ∧ hi.natAbs ≤ 2 ^ m ∧ m + b ≤ 134217000 ∧
  ∀ (H' : Hp) (t : Addr) (p q : Int), Same H H' → T2 H' t p (q + 1) → 0 ≤ p → p * p ≤ max lo 0 * Rr.up b → max lo 0 * Rr.up b < (p + 1) * (p + 1) → 0 ≤ q → q * q ≤ hi * Rr.up b → hi * Rr.up b < (q + 1) * (q + 1) → Q (.ref t) H'
theorem scRspan : FnScope ["span", "bits"] ["span", "bits"] (defScope sRspan) := ⟨rfl, rfl, rfl, by decide +kernel, rfl, by decide +kernel, by decide +kernel⟩
theorem max_eq (x : Int) : (if (0 : Int) > x then 0 else x) = max x 0 := by split <;> omega
theorem ok_rspan (T : Blt mg) (wr : Dn P w K mg base "whole_root" 33 ["n"] spWroot) (d : Df K mg "root_span" sRspan ["span", "bits"]) : Dn P w K mg base "root_span" 34 ["span", "bits"] spRspan := by
  refine d.dn scRspan (fun vs H Q E h => ?_) (fun f cdv A outer s H vs Q E hr h => ?_)
  · obtain ⟨a, b, m, lo, hi, rfl, _⟩ := h
    rfl
  · obtain ⟨a, b, m, lo, hi, rfl, ha, h0, hlo, hhi, hm, k⟩ := h
    refine ⟨_, pss_one (ps_ret (pe_tup (pa_cons (pe_cd wr hr (by rfl) (pa_cons (pe_op op_shlB (pe_callB (call_max2 rfl) (by rfl) T.max PyProof.Rows.boot_max (pa_cons (pe_ix ix_tup (pv 0) pe_int (fun _ _ => rfl)) (pa_cons pe_int pa_nil))) (pv 1)) pa_nil))
      (pa_cons (pe_op op_add (pe_cd wr hr (by rfl) (pa_cons (pe_op op_shlB (pe_ix ix_tup (pv 0) pe_int (fun _ _ => rfl)) (pv 1)) pa_nil)) pe_int) pa_nil)))), ?_⟩
    have u0 := Rr.up_pos b
    have sz : ∀ x : Int, x.natAbs ≤ 2 ^ m → (x * Rr.up b).natAbs ≤ 2 ^ 134217700 := fun x hx => by
      rw [Int.natAbs_mul]
      have e : (Rr.up b).natAbs = 2 ^ b := Int.natAbs_natCast _
      rw [e]
      refine Nat.le_trans (Nat.mul_le_mul_right _ hx) ?_
      rw [← Nat.pow_add]
      exact Rr.two_le (by omega)
    have hx0 : (max lo 0).natAbs ≤ 2 ^ m := by
      have := Rr.two_pos m
      omega
    refine ⟨_, rfl, a, _, _, _, rfl, rfl, t2_0 ha, at_of (j := 0) rfl rfl, _, _, rfl, _, rfl, _, _, rfl, rfl, ⟨by omega, ?_⟩, _, rfl, ?_, ?_, fun p p0 p1 p2 => ?_⟩
    · show ((Builtin.Int.intBits (if (0 : Int) > lo then 0 else lo) : Nat) : Int) + b ≤ _
      rw [max_eq]
      have := bits_of hx0
      omega
    · show 0 ≤ (if (0 : Int) > lo then 0 else lo) * 2 ^ ((b : Int)).toNat
      rw [max_eq, two_up]
      exact Int.mul_nonneg (by omega) (by omega)
    · show ((if (0 : Int) > lo then 0 else lo) * 2 ^ ((b : Int)).toNat).natAbs ≤ _
      rw [max_eq, two_up]
      exact sz _ hx0
    have p1' : p * p ≤ (if (0 : Int) > lo then 0 else lo) * 2 ^ ((b : Int)).toNat := p1
    have p2' : (if (0 : Int) > lo then 0 else lo) * 2 ^ ((b : Int)).toNat < (p + 1) * (p + 1) := p2
    rw [max_eq, two_up] at p1' p2'
    refine ⟨_, rfl, a, _, _, _, rfl, rfl, t2_0 ha, at_of (j := 1) rfl rfl, _, rfl, _, _, rfl, rfl, ⟨by omega, ?_⟩, _, rfl, ?_, ?_, fun q q0 q1 q2 => ?_⟩
    · have := bits_of hhi
      omega
    · show 0 ≤ hi * 2 ^ ((b : Int)).toNat
      rw [two_up]
      exact Int.mul_nonneg h0 (by omega)
    · show (hi * 2 ^ ((b : Int)).toNat).natAbs ≤ _
      rw [two_up]
      exact sz _ hhi
    have q1' : q * q ≤ hi * 2 ^ ((b : Int)).toNat := q1
    have q2' : hi * 2 ^ ((b : Int)).toNat < (q + 1) * (q + 1) := q2
    rw [two_up] at q1' q2'
    refine ⟨_, _, rfl, rfl, (by show 2 ≤ sizeLine; decide), fun t ht => ?_⟩
    exact k _ t p q (same_new ht) upd_same p0 p1' p2' q0 q1' q2'
/-! ### span_product -/
def spSprod : Sp := fun vs H Q _ => ∃ (a c : Addr) (b m n : Nat) (l h p q : Int), vs = [.ref a, .ref c, .int b] ∧ T2 H a l h ∧ T2 H c p q ∧ l.natAbs ≤ 2 ^ m ∧ h.natAbs ≤ 2 ^ m ∧ p.natAbs ≤ 2 ^ n ∧ q.natAbs ≤ 2 ^ n ∧ m + n ≤ 134217700 ∧
  ∀ (H' : Hp) (t : Addr) (lo hi : Int), Same H H' → T2 H' t lo hi → Rr.PrS b l h p q lo hi → Q (.ref t) H'
theorem scSprod : FnScope ["span", "factor", "bits", "low", "high"] ["span", "factor", "bits"] (defScope sSprod) := ⟨rfl, rfl, rfl, by decide +kernel, rfl, by decide +kernel, by decide +kernel⟩
theorem pe_imp {X : Cx} {e : Expr} {t t' : TE} (h : PE X e t) (hi : ∀ σ H Q, t' σ H Q → t σ H Q) : PE X e t' := fun pins s σ H Q I q => h pins s σ H Q I (hi σ H Q q)
/-- span[i] times the factor's one end or the other -/
def tEnd (K : PySem.W.Frag) (i : Nat) (g : Int → Int → Int → Int) : TE := fun σ H Q => ∃ (a c : Addr) (l h p q : Int), σ[0]? = some (some (.ref a)) ∧ σ[1]? = some (some (.ref c)) ∧ T2 H a l h ∧ T2 H c p q ∧ IntMulOk (if i = 0 then l else h) (g (if i = 0 then l else h) p q) ∧ Q (.int ((if i = 0 then l else h) * g (if i = 0 then l else h) p q)) H
theorem ok_sprod (d : Df K mg "span_product" sSprod ["span", "factor", "bits"]) : Dn P w K mg base "span_product" 1 ["span", "factor", "bits"] spSprod := by
  refine d.dn scSprod (fun vs H Q E h => ?_) (fun f cdv A outer s H vs Q E hr h => ?_)
  · obtain ⟨a, c, b, m, n, l, h, p, q, rfl, _⟩ := h
    rfl
  · obtain ⟨a, c, b, m, n, l, h, p, q, rfl, ha, hc, hl, hh, hp, hq, hmn, k⟩ := h
    refine ⟨_, pss_cons (ps_set (i := 3) scSprod.nd rfl (Or.inl rfl) (pe_imp (t' := tEnd K 0 fun l p q => if 0 ≤ l then p else q) (pe_op op_mulB (pe_ix ix_tup (pv 0) pe_int (fun _ _ => rfl)) (pe_ifExp (pt_cmpR op_ge (pe_ix ix_tup (pv 0) pe_int (fun _ _ => rfl)) pe_int (nomark _)) (pe_ix ix_tup (pv 1) pe_int (fun _ _ => rfl)) (pe_ix ix_tup (pv 1) pe_int (fun _ _ => rfl)))) ?e1))
      (pss_cons (ps_set (i := 4) scSprod.nd rfl (Or.inl rfl) (pe_imp (t' := tEnd K 1 fun l p q => if 0 ≤ l then q else p) (pe_op op_mulB (pe_ix ix_tup (pv 0) pe_int (fun _ _ => rfl)) (pe_ifExp (pt_cmpR op_ge (pe_ix ix_tup (pv 0) pe_int (fun _ _ => rfl)) pe_int (nomark _)) (pe_ix ix_tup (pv 1) pe_int (fun _ _ => rfl)) (pe_ix ix_tup (pv 1) pe_int (fun _ _ => rfl)))) ?e2))
      (pss_one (ps_ret (pe_tup (pa_cons (pe_op op_shr (pv 3) (pv 2)) (pa_cons (pe_un un_neg (pe_op op_shr (pe_un un_neg (pv 4)) (pv 2))) pa_nil)))))), ?_⟩
    case e1 =>
      rintro σ H' Q' ⟨a, c, l, h, p, q, s0, s1, ha, hc, ho, k'⟩
      refine ⟨_, s0, a, _, _, _, rfl, rfl, t2_0 ha, at_of (j := 0) rfl rfl, _, s0, a, _, _, _, rfl, rfl, t2_0 ha, at_of (j := 0) rfl rfl, _, _, rfl, rfl, _, rfl, ite2 (fun cc => ?_) (fun cc => ?_)⟩
      · have c' : 0 ≤ l := of_decide_eq_true cc
        have e : (if 0 ≤ l then p else q) = p := if_pos c'
        rw [if_pos rfl] at ho k'
        dsimp only at ho k'
        rw [e] at ho k'
        exact ⟨_, s1, c, _, _, _, rfl, rfl, t2_0 hc, at_of (j := 0) rfl rfl, _, _, rfl, rfl, ho, k'⟩
      · have c' : ¬ 0 ≤ l := fun z => cc (decide_eq_true z)
        have e : (if 0 ≤ l then p else q) = q := if_neg c'
        rw [if_pos rfl] at ho k'
        dsimp only at ho k'
        rw [e] at ho k'
        exact ⟨_, s1, c, _, _, _, rfl, rfl, t2_0 hc, at_of (j := 1) rfl rfl, _, _, rfl, rfl, ho, k'⟩
    case e2 =>
      rintro σ H' Q' ⟨a, c, l, h, p, q, s0, s1, ha, hc, ho, k'⟩
      refine ⟨_, s0, a, _, _, _, rfl, rfl, t2_0 ha, at_of (j := 1) rfl rfl, _, s0, a, _, _, _, rfl, rfl, t2_0 ha, at_of (j := 1) rfl rfl, _, _, rfl, rfl, _, rfl, ite2 (fun cc => ?_) (fun cc => ?_)⟩
      · have c' : 0 ≤ h := of_decide_eq_true cc
        have e : (if 0 ≤ h then q else p) = q := if_pos c'
        rw [if_neg (by decide)] at ho k'
        dsimp only at ho k'
        rw [e] at ho k'
        exact ⟨_, s1, c, _, _, _, rfl, rfl, t2_0 hc, at_of (j := 1) rfl rfl, _, _, rfl, rfl, ho, k'⟩
      · have c' : ¬ 0 ≤ h := fun z => cc (decide_eq_true z)
        have e : (if 0 ≤ h then q else p) = p := if_neg c'
        rw [if_neg (by decide)] at ho k'
        dsimp only at ho k'
        rw [e] at ho k'
        exact ⟨_, s1, c, _, _, _, rfl, rfl, t2_0 hc, at_of (j := 0) rfl rfl, _, _, rfl, rfl, ho, k'⟩
    have u0 := Rr.up_pos b
    have fl : (if 0 ≤ l then p else q).natAbs ≤ 2 ^ n := by split <;> assumption
    have fh : (if 0 ≤ h then q else p).natAbs ≤ 2 ^ n := by split <;> assumption
    refine ⟨a, c, l, h, p, q, rfl, rfl, ha, hc, mul_bits hl fl (by omega), ?_⟩
    refine ⟨a, c, l, h, p, q, rfl, rfl, ha, hc, mul_bits hh fh (by omega), ?_⟩
    refine ⟨_, rfl, _, rfl, _, _, rfl, rfl, (by show (0 : Int) ≤ (b : Int); omega), _, rfl, _, rfl, _, rfl, _, _, rfl, rfl, (by show (0 : Int) ≤ (b : Int); omega), _, rfl, (by show 2 ≤ sizeLine; decide), fun t ht => ?_⟩
    have e1 : ∀ z : Int, z / 2 ^ ((b : Int)).toNat = z / Rr.up b := fun z => by rw [two_up]
    refine k _ t _ _ (same_new ht) upd_same ⟨?_, ?_, ?_, ?_⟩
    · show (l * (if 0 ≤ l then p else q)) / 2 ^ ((b : Int)).toNat * Rr.up b ≤ _
      rw [e1]
      exact Int.ediv_mul_le _ (by omega)
    · show _ < ((l * (if 0 ≤ l then p else q)) / 2 ^ ((b : Int)).toNat + 1) * Rr.up b
      rw [e1]
      exact Int.lt_ediv_add_one_mul_self _ u0
    · show _ ≤ -(-(h * (if 0 ≤ h then q else p)) / 2 ^ ((b : Int)).toNat) * Rr.up b
      rw [e1, Int.neg_mul]
      have := Int.ediv_mul_le (-(h * (if 0 ≤ h then q else p))) (show Rr.up b ≠ 0 by omega)
      omega
    · show (-(-(h * (if 0 ≤ h then q else p)) / 2 ^ ((b : Int)).toNat) - 1) * Rr.up b < _
      rw [e1]
      have := Int.lt_ediv_add_one_mul_self (-(h * (if 0 ≤ h then q else p))) u0
      have e2 : (-(-(h * (if 0 ≤ h then q else p)) / Rr.up b) - 1) * Rr.up b = -((-(h * (if 0 ≤ h then q else p)) / Rr.up b + 1) * Rr.up b) := by grind
      rw [e2]
      omega
end
end Wk
end
section
set_option Elab.async false
set_option linter.all false
set_option maxRecDepth 100000
set_option maxHeartbeats 2000000
namespace Wk
open PySem PySem.Spec PyProof.Rows L2
/-- the dict of the spans -/
def SpsAt (H : Hp) (kvs : List (Key × V)) : List (Int × Int) → Prop
  | [] => True
  | pq :: r => (∃ t, valV kvs (Sum.inl ((2 ^ r.length : Nat) : Int)) = some (.ref t) ∧ T2 H t pq.1 pq.2) ∧ SpsAt H kvs r
theorem SpsAt.same {H H' : Hp} {kvs : List (Key × V)} (s : Same H H') : ∀ {τ : List (Int × Int)}, SpsAt H kvs τ → SpsAt H' kvs τ
  | [], _ => trivial
  | r :: τ, ⟨⟨a, h1, h2⟩, h3⟩ => ⟨⟨a, h1, s _ _ h2⟩, SpsAt.same s h3⟩
def DAt (H : Hp) (d : Addr) (sps : List (Int × Int)) : Prop := ∃ kvs, H d = some (.dK kvs) ∧ SpsAt H kvs sps
theorem DAt.same {H H' : Hp} {d : Addr} {sps : List (Int × Int)} (h : DAt H d sps) (s : Same H H') : DAt H' d sps := by
  obtain ⟨kvs, a, b⟩ := h
  exact ⟨kvs, s _ _ a, b.same s⟩
theorem DAt.tail {H : Hp} {d : Addr} {r : Int × Int} {τ : List (Int × Int)} (h : DAt H d (r :: τ)) : DAt H d τ := by
  obtain ⟨kvs, a, b⟩ := h
  exact ⟨kvs, a, b.2⟩
theorem DAt.get {H : Hp} {d : Addr} {pq : Int × Int} {τ : List (Int × Int)} (h : DAt H d (pq :: τ)) {z : Int} (hz : z = ((2 ^ τ.length : Nat) : Int)) : ∃ a, DGet H d (.int z) (some (.ref a)) ∧ T2 H a pq.1 pq.2 := by
  obtain ⟨kvs, a, ⟨b, h1, h2⟩, h3⟩ := h
  subst hz
  refine ⟨b, ?_, h2⟩
  have := DGet.k (k := Sum.inl ((2 ^ τ.length : Nat) : Int)) a
  rw [h1] at this
  exact this
section
variable {P : Program} {w : World} {K : PySem.W.Frag} {mg : Str → Option Value} {base : Heap}
/-! ### parts_span -/
structure PsPre (F : Type) [Rr.OF F] (n b S M Y : Nat) (big : Prop) (τ : List (List Int)) (σ : List F) (sps : List (Int × Int)) (es ws : List Nat) (l : List Int) : Prop where
  len : τ.length ≤ n
  P : Rr.PRoots σ τ
  pit : Rr.Pit τ l
  z1 : Rr.sz τ l ≤ 2 ^ M
  z2 : Rr.sz τ l ≤ Y
  so : Rr.SO b big S σ sps es ws
  bw : big → ((Rr.wd S Y ws : Nat) : Int) ≤ Rr.up b
  room : 2 * b + Rr.gE M es ≤ 134217000
def spPspan (n : Nat) : Sp := fun vs H Q _ => ∃ (a d : Addr) (b S M Y : Nat) (big : Prop) (l : List Int) (F : Type) (_ : Rr.OF F) (τ : List (List Int)) (σ : List F) (sps : List (Int × Int)) (es ws : List Nat), vs = [.ref a, .ref d, .int b] ∧ IL H a l ∧ DAt H d sps ∧ PsPre F n b S M Y big τ σ sps es ws l ∧
  ∀ (H' : Hp) (t : Addr) (lo hi : Int), Same H H' → T2 H' t lo hi → Rr.SpR b big S M Y es ws l (Rr.valp τ σ ((Rr.lv τ).ofL l)) lo hi → Q (.ref t) H'
theorem scPspan : FnScope ["parts", "spans", "bits", "half", "first", "second"] ["parts", "spans", "bits"] (defScope sPspan) := ⟨rfl, rfl, rfl, by decide +kernel, rfl, by decide +kernel, by decide +kernel⟩
def spPspanR : Nat → Sp
  | 0 => fun _ _ _ _ => False
  | n + 1 => spPspan n
theorem pspan_turn (T : Blt mg) (sp : Dn P w K mg base "span_product" 1 ["span", "factor", "bits"] spSprod) (d : Df K mg "parts_span" sPspan ["parts", "spans", "bits"]) (n : Nat) (hn5 : n ≤ 5) (rc : Dn P w K mg base "parts_span" (n + 1) ["parts", "spans", "bits"] (spPspanR n)) :
    Dn P w K mg base "parts_span" (n + 2) ["parts", "spans", "bits"] (spPspan n) := by
  refine d.dn scPspan (fun vs H Q E h => ?_) (fun f cdv A outer s H vs Q E hr h => ?_)
  · obtain ⟨a, d, b, S, M, Y, big, l, F, iF, τ, σ, sps, es, ws, rfl, _⟩ := h
    rfl
  · obtain ⟨a, d, b, S, M, Y, big, l, F, iF, τ, σ, sps, es, ws, rfl, ha, hd, pre, k⟩ := h
    have hr1 : Room 1 _ := hr.mono (by omega)
    have hU := hu_of hr
    refine ⟨_, pss_cons (ps_set (i := 3) scPspan.nd rfl (Or.inl rfl) (pe_op op_fdiv (pe_callB call_len_seq (by rfl) T.len PySem.boot_len (pa_cons (pv 0) pa_nil)) pe_int))
      (pss_cons (ps_if (pt_cmpR op_eq (pv 3) pe_int (nomark _)) (pss_one (ps_ret (pe_tup (pa_cons (pe_op op_shlB (pe_ix ix_list (pv 0) pe_int (fun _ _ => rfl)) (pv 2)) (pa_cons (pe_op op_shlB (pe_ix ix_list (pv 0) pe_int (fun _ _ => rfl)) (pv 2)) pa_nil))))) pss_nil)
      (pss_cons (ps_set (i := 4) scPspan.nd rfl (Or.inl rfl) (pe_cd rc hr (by rfl) (pa_cons (pe_slice sl_list (pv 0) po_none (po_some (pv 3))) (pa_cons (pv 1) (pa_cons (pv 2) pa_nil)))))
      (pss_cons (ps_set (i := 5) scPspan.nd rfl (Or.inl rfl) (pe_cd sp hr1 (by rfl) (pa_cons (pe_cd rc hr (by rfl) (pa_cons (pe_slice sl_list (pv 0) (po_some (pv 3)) po_none) (pa_cons (pv 1) (pa_cons (pv 2) pa_nil)))) (pa_cons (pe_dget hU (pv 1) (pv 3) (fun _ _ => rfl)) (pa_cons (pv 2) pa_nil)))))
      (pss_one (ps_ret (pe_tup (pa_cons (pe_op op_add (pe_ix ix_tup (pv 4) pe_int (fun _ _ => rfl)) (pe_ix ix_tup (pv 5) pe_int (fun _ _ => rfl))) (pa_cons (pe_op op_add (pe_ix ix_tup (pv 4) pe_int (fun _ _ => rfl)) (pe_ix ix_tup (pv 5) pe_int (fun _ _ => rfl))) pa_nil)))))))), ?_⟩
    refine ⟨_, rfl, a, _, rfl, .inl (SqL.of ha), _, _, rfl, rfl, ⟨by decide, by decide⟩, _, rfl, rfl, _, rfl, ?_⟩
    obtain ⟨hlen, hP, pit, z1, z2, so, bw, room⟩ := pre
    match τ, σ, sps, es, ws, hlen, hP, pit, z1, z2, so, bw, room, hd, k with
    | [], [], [], [], [], hlen, hP, pit, z1, z2, so, bw, room, hd, k =>
      obtain ⟨c, rfl⟩ : ∃ c, l = [c] := List.length_eq_one_iff.mp pit
      have zc : c.natAbs ≤ 2 ^ M := z1
      have room' : 2 * b + M ≤ 134217000 := room
      refine ite2 (fun _ => ?_) (fun c3 => (c3 (decide_eq_true (by show V.int (((1 : Nat) : Int) / 2) = V.int 0; decide))).elim)
      have bt := bits_of zc
      refine ⟨_, rfl, a, _, _, _, rfl, rfl, SqL.of ha, at_of (j := 0) rfl rfl, _, rfl, _, _, rfl, rfl, ⟨by omega, by omega⟩, _, rfl, a, _, _, _, rfl, rfl, SqL.of ha, at_of (j := 0) rfl rfl, _, rfl, _, _, rfl, rfl, ⟨by omega, by omega⟩, (by show 2 ≤ sizeLine; decide), fun t ht => ?_⟩
      refine k _ t (c * Rr.up b) (c * Rr.up b) (same_new ht) ?_ (Rr.spr_nil b big S M Y zc)
      show upd _ t _ t = _
      rw [upd_same]
      show some (HO.tup [V.int (c * 2 ^ ((b : Int)).toNat), V.int (c * 2 ^ ((b : Int)).toNat)]) = _
      rw [two_up]
    | r :: τ, s :: σ, pq :: sps, e :: es, w' :: ws, hlen, hP, pit, z1, z2, so, bw, room, hd, k =>
      obtain ⟨n, rfl⟩ : ∃ m, n = m + 1 := ⟨n - 1, by rw [List.length_cons] at hlen; omega⟩
      have hn2 : τ.length ≤ n := by simpa using hlen
      have hul : l.length ≤ 32 := by rw [show l.length = 2 ^ (r :: τ).length from pit]; exact pow32 (by omega)
      have hp0 := Rr.two_pos τ.length
      have hh : l.length / 2 = 2 ^ τ.length := pit.half
      have h2 := half_eq l
      have ne0 : ¬ ((((l.map V.int).length : Nat) : Int) / 2 = 0) := by rw [h2]; omega
      have sl : sps.length = τ.length := by rw [so.2.len, hP.2.2.2.len]
      refine ite2 (fun c3 => absurd (V.int.inj (of_decide_eq_true c3)) ne0) (fun _ => ?_)
      obtain ⟨y1, y2⟩ := Rr.sz_half pit
      have bw' : big → ((Rr.wd S Y ws : Nat) : Int) ≤ Rr.up b := fun hb => by
        have := bw hb
        have e4 : Rr.wd S Y ws ≤ Rr.wd S Y (w' :: ws) := Nat.le_add_right _ _
        omega
      have room' : 2 * b + Rr.gE M es + e + 2 ≤ 134217000 := by
        have : 2 * b + (Rr.gE M es + e + 2) ≤ 134217000 := room
        omega
      refine ⟨_, rfl, _, rfl, _, rfl, a, _, rfl, SqL.of ha, fun pa hpa => ?_⟩
      rw [cut_lo h2 (by omega)]
      have s1 := same_new (o := .lst ((l.take (l.length / 2)).map V.int)) hpa
      have ga : IL (upd H pa _) pa (l.take (l.length / 2)) := upd_same
      generalize upd H pa _ = H1 at s1 ga
      refine ⟨_, rfl, _, rfl, pa, d, b, S, M, Y, big, _, F, iF, τ, σ, sps, es, ws, rfl, ga, (hd.same s1).tail, ⟨hn2, hP.2.2.2, pit.lo, Nat.le_trans y1 z1, Nat.le_trans y1 z2, so.2, bw', by omega⟩, fun H2 t2 la ha' s2 g2 R2 => ?_⟩
      have s02 := s1.trans s2
      refine ⟨_, rfl, _, rfl, _, rfl, a, _, rfl, SqL.of (s02 _ _ ha), fun pb hpb => ?_⟩
      rw [cut_hi h2 (by omega)]
      have s3 := same_new (o := .lst ((l.drop (l.length / 2)).map V.int)) hpb
      have gb : IL (upd H2 pb _) pb (l.drop (l.length / 2)) := upd_same
      generalize upd H2 pb _ = H3 at s3 gb
      have s03 := s02.trans s3
      refine ⟨_, rfl, _, rfl, pb, d, b, S, M, Y, big, _, F, iF, τ, σ, sps, es, ws, rfl, gb, (hd.same s03).tail, ⟨hn2, hP.2.2.2, pit.hi, Nat.le_trans y2 z1, Nat.le_trans y2 z2, so.2, bw', by omega⟩, fun H4 t4 lb hb' s4 g4 R4 => ?_⟩
      have s04 := s03.trans s4
      obtain ⟨tr, dg, gr⟩ := (hd.same s04).get (z := ((l.map V.int).length : Int) / 2) (by rw [h2, hh, sl])
      obtain ⟨o1, o2, o3, o4, o5, o6, o7⟩ := so.1
      refine ⟨_, rfl, _, rfl, d, _, rfl, dg, _, rfl, t4, tr, b, b + Rr.gE M es, b + e, lb, hb', pq.1, pq.2, rfl, g4, gr, R4.m1, R4.m2, o5, o6, by omega, fun H5 t5 lo hi s5 g5 R5 => ?_⟩
      have g25 := s5 _ _ (s4 _ _ (s3 _ _ g2))
      refine ⟨_, rfl, t2, _, _, _, rfl, rfl, t2_0 g25, at_of (j := 0) rfl rfl, _, rfl, t5, _, _, _, rfl, rfl, t2_0 g5, at_of (j := 0) rfl rfl, _, _, rfl, rfl, _, rfl, t2, _, _, _, rfl, rfl, t2_0 g25, at_of (j := 1) rfl rfl, _, rfl, t5, _, _, _, rfl, rfl, t2_0 g5, at_of (j := 1) rfl rfl, _, _, rfl, rfl, (by show 2 ≤ sizeLine; decide), fun t ht => ?_⟩
      refine k _ t (la + lo) (ha' + hi) ((s04.trans s5).trans (same_new ht)) upd_same ?_
      have ev : Rr.valp (r :: τ) (s :: σ) ((Rr.lv (r :: τ)).ofL l) = Rr.valp τ σ ((Rr.lv τ).ofL (l.take (l.length / 2))) + s * Rr.valp τ σ ((Rr.lv τ).ofL (l.drop (l.length / 2))) := by
        rw [Rr.ofL_cons pit]
        rfl
      rw [ev]
      refine Rr.spr_cons (n := l.length / 2) (by omega) (by omega) R2 R4 o1 o2 ?_ o3 o4 o5 o6 o7 bw' R5
      exact (Rr.valp_wi hP.2.2.2 _).mono (Nat.le_trans y2 z2)
theorem ok_pspan (T : Blt mg) (sp : Dn P w K mg base "span_product" 1 ["span", "factor", "bits"] spSprod) (d : Df K mg "parts_span" sPspan ["parts", "spans", "bits"]) : ∀ n, n ≤ 5 → Dn P w K mg base "parts_span" (n + 2) ["parts", "spans", "bits"] (spPspan n) := by
  intro n hn
  induction n with
  | zero => exact pspan_turn T sp d 0 hn (d.dn scPspan (k := 0) (fun vs H Q E h => h.elim) (fun f cdv A outer s H vs Q E hr h => h.elim))
  | succ n ih => exact pspan_turn T sp d (n + 1) hn (ih (by omega))
end
end Wk
end
section
set_option Elab.async false
set_option linter.all false
set_option maxRecDepth 100000
set_option maxHeartbeats 2000000
namespace Rr
open Lean.Grind Std
def eL : Nat → List Nat
  | 0 => []
  | k + 1 => (gE 4634320 (eL k) / 2 + 2) :: eL k
def wL (S : Nat) : Nat → List Nat
  | 0 => []
  | k + 1 => (wd S (2 ^ 4634320) (wL S k) * 2 ^ 1028 + 2) :: wL S k
theorem PRoots.drop {F : Type} [OF F] : ∀ {σ : List F} {τ : List (List Int)} (n : Nat), PRoots σ τ → PRoots (σ.drop n) (τ.drop n)
  | _, _, 0, h => h
  | [], [], n + 1, h => h
  | s :: σ, r :: τ, n + 1, h => PRoots.drop n h.2.2.2
end Rr
namespace Wk
open PySem PySem.Spec PyProof.Rows L2
abbrev sRspans : Stmt := top 25
theorem RSz.drop : ∀ {τ : List (List Int)} (n : Nat), RSz τ → RSz (τ.drop n)
  | _, 0, h => h
  | [], n + 1, h => h
  | r :: τ, n + 1, h => RSz.drop n h.2
theorem RAt.drop {H : Hp} {d : Addr} : ∀ {τ : List (List Int)} (n : Nat), RAt H d τ → RAt H d (τ.drop n)
  | _, 0, h => h
  | [], n + 1, h => h
  | r :: τ, n + 1, h => RAt.drop n h.tail
theorem SpsAt.put {H : Hp} {d : Addr} {kvs : List (Key × V)} {v : V} {o : HO} {n : Nat} (hd : H d = some (.dK kvs)) : ∀ {τ : List (Int × Int)}, τ.length ≤ n → SpsAt H kvs τ → SpsAt (upd H d o) (putK kvs (Sum.inl ((2 ^ n : Nat) : Int)) v) τ
  | [], _, _ => trivial
  | r :: τ, hl, ⟨⟨a, h1, h2⟩, h3⟩ => by
    rw [List.length_cons] at hl
    refine ⟨⟨a, ?_, ?_⟩, SpsAt.put hd (by omega) h3⟩
    · rw [valV_put, if_neg (fun q => ?_)]
      · exact h1
      · have := pow_inj (Sum.inl.inj q)
        omega
    · show upd H d o a = _
      rw [upd_ne (ne_of h2 hd (by intro q; cases q))]
      exact h2
/-- two lists in order that have the same items are one -/
theorem sorted_one : ∀ {a b : List Int}, a.Perm b → a.Pairwise (· ≤ ·) → b.Pairwise (· ≤ ·) → a = b
  | [], b, p, _, _ => (List.nil_perm.mp p).symm
  | x :: a, [], p, _, _ => by
    have := p.length_eq
    simp at this
  | x :: a, y :: b, p, ha, hb => by
    have hx : x ∈ y :: b := p.mem_iff.mp (List.mem_cons_self ..)
    have hy : y ∈ x :: a := p.mem_iff.mpr (List.mem_cons_self ..)
    have e : x = y := by
      rcases List.mem_cons.mp hx with q | q
      · exact q
      · rcases List.mem_cons.mp hy with z | z
        · exact z.symm
        · have h1 := (List.pairwise_cons.mp hb).1 x q
          have h2 := (List.pairwise_cons.mp ha).1 y z
          omega
    subst e
    rw [sorted_one (List.Perm.cons_inv p) (List.pairwise_cons.mp ha).2 (List.pairwise_cons.mp hb).2]
theorem pows_sorted (k : Nat) : ((List.range k).map fun i => ((2 ^ i : Nat) : Int)).Pairwise (· ≤ ·) := by
  rw [List.pairwise_map]
  refine List.Pairwise.imp (fun {a b} h => ?_) List.pairwise_lt_range
  have := Rr.two_le (Nat.le_of_lt h)
  omega
section
variable {P : Program} {w : World} {K : PySem.W.Frag} {mg : Str → Option Value} {base : Heap}
/-- what the roots' spans ask -/
structure RsPre (F : Type) [Rr.OF F] (b S : Nat) (big : Prop) (τ : List (List Int)) (σ : List F) : Prop where
  len : τ.length ≤ 3
  P : Rr.PRoots σ τ
  sz : RSz τ
  wi : ∀ s ∈ σ, Rr.Wi s S
  far : ∀ s ∈ σ, (1 : F) ≤ s * ((((2 ^ 1028 : Nat) : Int)) : F)
  bw : big → ∀ k, k ≤ 3 → ((Rr.wd S (2 ^ 4634320) (Rr.wL S k) : Nat) : Int) ≤ Rr.up b ∧ ∀ w ∈ Rr.wL S k, (w : Int) ≤ Rr.up b
  room : ∀ k, k ≤ 3 → 2 * b + Rr.gE 4634320 (Rr.eL k) ≤ 134217000
def spRspans : Sp := fun vs H Q _ => ∃ (d : Addr) (b S : Nat) (big : Prop) (F : Type) (_ : Rr.OF F) (τ : List (List Int)) (σ : List F), vs = [.ref d, .int b] ∧ RFul H d τ ∧ RsPre F b S big τ σ ∧
  ∀ (H' : Hp) (t : Addr) (sps : List (Int × Int)), Same H H' → DAt H' t sps → Rr.SO b big S σ sps (Rr.eL τ.length) (Rr.wL S τ.length) → Q (.ref t) H'
theorem scRspans : FnScope ["roots", "bits", "spans", "half"] ["roots", "bits"] (defScope sRspans) := ⟨rfl, rfl, rfl, by decide +kernel, rfl, by decide +kernel, by decide +kernel⟩
theorem ok_rspans (hs : mg "sorted" = none) (rs : Dn P w K mg base "root_span" 34 ["span", "bits"] spRspan) (ps : Dn P w K mg base "parts_span" 5 ["parts", "spans", "bits"] (spPspan 3)) (d : Df K mg "root_spans" sRspans ["roots", "bits"]) : Dn P w K mg base "root_spans" 35 ["roots", "bits"] spRspans := by
  refine d.dn scRspans (fun vs H Q E h => ?_) (fun f cdv A outer s H vs Q E hr h => ?_)
  · obtain ⟨d, b, S, big, F, iF, τ, σ, rfl, _⟩ := h
    rfl
  · obtain ⟨d, b, S, big, F, iF, τ, σ, rfl, hd, pre, k⟩ := h
    have hr5 : Room 5 _ := hr.mono (by omega)
    have hU := hu_of hr
    refine ⟨_, pss_cons (ps_set (i := 2) scRspans.nd rfl (Or.inl rfl) pe_dnewK)
      (pss_cons (ps_for PassesOwn.never rfl (pi_list (pe_callB (cr_sortedD rfl) (by rfl) hs (by decide +kernel) (pa_cons (pv 0) pa_nil))) (pg_name (i := 3) scRspans.nd rfl (Or.inl rfl))
        (pss_one (ps_dput hU (pv 2) (pv 3) (pe_cd rs hr (by rfl) (pa_cons (pe_cd ps hr5 (by rfl) (pa_cons (pe_dget hU (pv 0) (pv 3) (fun _ _ => rfl)) (pa_cons (pv 2) (pa_cons (pv 1) pa_nil)))) (pa_cons (pv 1) pa_nil))) rfl)))
      (pss_one (ps_ret (pv 2)))), ?_⟩
    intro sd hsd
    have s1 := same_new (o := .dK []) hsd
    have g1 : upd H sd (.dK []) sd = some (.dK []) := upd_same
    generalize upd H sd (.dK []) = H1 at s1 g1
    have hd1 := hd.same s1
    obtain ⟨kvs, hk, hts, hkl, hno, hky⟩ := hd1
    have lk := pre.len
    have σl : σ.length = τ.length := pre.P.len
    refine ⟨_, rfl, d, kvs, _, rfl, hk, hky, ?_, fun ns' p pm so hp => ?_⟩
    · rw [List.length_map, List.length_range]; omega
    have ens := sorted_one pm so (pows_sorted τ.length)
    subst ens
    have s2 := same_new (o := .lst ((((List.range τ.length).map fun i => ((2 ^ i : Nat) : Int))).map V.int)) hp
    have g2 : upd H1 p (.lst ((((List.range τ.length).map fun i => ((2 ^ i : Nat) : Int))).map V.int)) p = some (.lst ((((List.range τ.length).map fun i => ((2 ^ i : Nat) : Int))).map V.int)) := upd_same
    have g12 := s2 _ _ g1
    generalize upd H1 p _ = H2 at s2 g2 g12
    have s02 := s1.trans s2
    have pl : (((List.range τ.length).map fun i => ((2 ^ i : Nat) : Int)).map V.int).length = τ.length := by rw [List.length_map, List.length_map, List.length_range]
    have psd : p ≠ sd := fun q => by rw [q] at g2; rw [g12] at g2; cases g2
    refine ⟨p, rfl, ⟨_, SqL.of g2⟩, for_list (K := K) (a := p) (xs := ((List.range τ.length).map fun i => ((2 ^ i : Nat) : Int)).map V.int) (fun i σ' H' => ∃ (kv : List (Key × V)) (sps : List (Int × Int)) (z : Option V), σ' = [some (.ref d), some (.int b), some (.ref sd), z] ∧ H' sd = some (.dK kv) ∧ SpsAt H' kv sps ∧
      Rr.SO b big S (σ.drop (τ.length - i)) sps (Rr.eL i) (Rr.wL S i) ∧ kv.length ≤ i ∧ H' p = some (.lst (((List.range τ.length).map fun i => ((2 ^ i : Nat) : Int)).map V.int)) ∧ Same H H')
      ⟨[], [], none, rfl, g12, trivial, ?_, Nat.le_refl _, g2, s02⟩ (fun i σ' H' _ ⟨_, _, _, _, _, _, _, _, gp, _⟩ => SqL.of gp) ?_ ?_⟩
    · rw [Nat.sub_zero, ← σl, List.drop_length]
      trivial
    · rintro i x σ' H' hi ⟨kv, sps, z, rfl, hkv, hsp, hso, hkl2, gp, s3⟩
      have hik : i < τ.length := by
        have := (List.getElem?_eq_some_iff.mp hi).1
        omega
      obtain ⟨m, hm, rfl⟩ := mapI_get hi
      have em : m = ((2 ^ i : Nat) : Int) := by
        rw [List.getElem?_map, List.getElem?_range hik] at hm
        exact (Option.some.inj hm).symm
      subst em
      -- the level
      obtain ⟨r, er⟩ : ∃ r, τ.drop (τ.length - (i + 1)) = r :: τ.drop (τ.length - i) := by
        have hlt : τ.length - (i + 1) < τ.length := by omega
        refine ⟨τ[τ.length - (i + 1)], ?_⟩
        rw [List.drop_eq_getElem_cons hlt]
        congr 2
        omega
      obtain ⟨sr, es⟩ : ∃ sr, σ.drop (τ.length - (i + 1)) = sr :: σ.drop (τ.length - i) := by
        have hlt : τ.length - (i + 1) < σ.length := by omega
        refine ⟨σ[τ.length - (i + 1)], ?_⟩
        rw [List.drop_eq_getElem_cons hlt]
        congr 2
        omega
      have P1 := pre.P.drop (τ.length - (i + 1))
      rw [er, es] at P1
      have Z1 := pre.sz.drop (τ.length - (i + 1))
      rw [er] at Z1
      have R1 := ((hd.same s3).at).drop (τ.length - (i + 1))
      rw [er] at R1
      have tl : (τ.drop (τ.length - i)).length = i := by rw [List.length_drop]; omega
      have spl : sps.length = i := by rw [hso.len, List.length_drop]; omega
      have ms : sr ∈ σ := List.mem_of_mem_drop (by rw [es]; exact List.mem_cons_self ..)
      obtain ⟨ra, dg, gr⟩ := R1.get (z := ((2 ^ i : Nat) : Int)) (by rw [tl])
      have room := pre.room i (by omega)
      refine ⟨_, rfl, _, rfl, d, _, rfl, dg, _, rfl, _, rfl, ra, sd, b, S, 4634320, 2 ^ 4634320, big, r, F, iF, τ.drop (τ.length - i), σ.drop (τ.length - i), sps, Rr.eL i, Rr.wL S i, rfl, gr, ⟨kv, hkv, hsp⟩, ⟨by omega, P1.2.2.2, P1.2.2.1, Z1.1, Z1.1, hso, fun hb => (pre.bw hb i (by omega)).1, room⟩, fun H4 t4 lo hi s4 g4 R4 => ?_⟩
      have ys : sr * sr = Rr.valp (τ.drop (τ.length - i)) (σ.drop (τ.length - i)) ((Rr.lv (τ.drop (τ.length - i))).ofL r) := P1.2.1
      rw [← ys] at R4
      have sp0 : 0 < sr := P1.1
      have hi0 : 0 ≤ hi := by
        have h1 := R4.spn.2
        have h2 := Rr.mul_ps (Rr.mul_ps sp0 sp0) (Rr.upF_pos (F := F) b)
        have h3 : ((0 : Int) : F) ≤ (hi : F) := by rw [Rr.ic_zero]; grind
        exact (Rr.ic_le_iff (K := F)).mp h3
      refine ⟨_, rfl, t4, b, b + Rr.gE 4634320 (Rr.eL i), lo, hi, rfl, g4, hi0, R4.m1, R4.m2, by omega, fun H5 t5 p5 q5 s5 g5 p0 p1 p2 q0 q1 q2 => ?_⟩
      have s35 := s4.trans s5
      have sn := Rr.root_spn R4.spn sp0 p0 p1 q0 q2
      have hiup : hi ≤ Rr.up (b + Rr.gE 4634320 (Rr.eL i)) := by
        have := R4.m2
        show hi ≤ ((2 ^ (b + Rr.gE 4634320 (Rr.eL i)) : Nat) : Int)
        omega
      have mg1 := Rr.root_mag hiup q0 q1
      have pq := sn.le
      have e2 : 2 ^ (b + (Rr.gE 4634320 (Rr.eL i) / 2 + 2)) = 2 ^ (b + Rr.gE 4634320 (Rr.eL i) / 2 + 2) := by congr 1
      have mg1' : q5 + 1 ≤ ((2 ^ (b + Rr.gE 4634320 (Rr.eL i) / 2 + 2) : Nat) : Int) := mg1
      refine ⟨_, rfl, _, rfl, sd, upd H5 sd (.dK (putK kv (Sum.inl ((2 ^ i : Nat) : Int)) (.ref t5))), rfl, DPut.k (k := Sum.inl ((2 ^ i : Nat) : Int)) (v := .ref t5) (s35 _ _ hkv) (small1000 (by omega)), ?_⟩
      have t5d : t5 ≠ sd := ne_of g5 (s35 _ _ hkv) (by intro q; cases q)
      refine ⟨putK kv (Sum.inl ((2 ^ i : Nat) : Int)) (.ref t5), (p5, q5 + 1) :: sps, _, rfl, upd_same, ⟨⟨t5, ?_, ?_⟩, ?_⟩, ?_, ?_, ?_, fun b' o e => ?_⟩
      · rw [valV_put, if_pos (by rw [spl])]
      · show upd _ sd _ t5 = _
        rw [upd_ne t5d]
        exact g5
      · exact SpsAt.put (s35 _ _ hkv) (by omega) (hsp.same s35)
      · rw [es]
        refine ⟨⟨sp0, pre.wi sr ms, sn, p0, ?_, ?_, fun hb => ?_⟩, hso⟩
        · show p5.natAbs ≤ 2 ^ (b + (Rr.gE 4634320 (Rr.eL i) / 2 + 2))
          rw [e2]
          omega
        · show (q5 + 1).natAbs ≤ 2 ^ (b + (Rr.gE 4634320 (Rr.eL i) / 2 + 2))
          rw [e2]
          omega
        · have b1 := pre.bw hb (i + 1) (by omega)
          refine ⟨?_, b1.2 _ (List.mem_cons_self ..)⟩
          have rw1 := Rr.root_wid (w := ((Rr.wd S (2 ^ 4634320) (Rr.wL S i) : Nat) : Int)) (k := ((2 ^ 1028 : Nat) : Int)) R4.spn sp0 p0 p2 q0 q2 q1 (R4.wid hb) (Rr.up_pos 1028) (pre.far sr ms)
          show q5 + 1 - p5 ≤ ((Rr.wd S (2 ^ 4634320) (Rr.wL S i) * 2 ^ 1028 + 2 : Nat) : Int)
          have e4 : ((Rr.wd S (2 ^ 4634320) (Rr.wL S i) * 2 ^ 1028 + 2 : Nat) : Int) = ((Rr.wd S (2 ^ 4634320) (Rr.wL S i) : Nat) : Int) * ((2 ^ 1028 : Nat) : Int) + 2 := by
            rw [Int.natCast_add, Int.natCast_mul]
            rfl
          rw [e4]
          exact rw1
      · exact Nat.le_trans (length_putK _ _ _) (by omega)
      · rw [upd_ne psd]
        exact s35 _ _ gp
      · rw [upd_ne (ne_of_none e hsd)]
        exact s35 _ _ (s3 _ _ e)
    · rintro σ' H' ⟨kv, sps, z, rfl, hkv, hsp, hso, hkl2, gp, s3⟩
      rw [pl, Nat.sub_self] at hso
      exact ⟨_, rfl, k H' sd sps s3 ⟨kv, hkv, hsp⟩ hso⟩
end
end Wk
end
section
set_option Elab.async false
set_option linter.all false
set_option maxRecDepth 100000
set_option maxHeartbeats 2000000
namespace Rr
open Lean.Grind Std
theorem low_drop : ∀ (τ : List (List Int)) (n : Nat), low τ n = τ.drop (τ.length - (low τ n).length)
  | [], _ => rfl
  | r :: τ, n => by
    by_cases q : n ≤ 2 ^ τ.length
    · rw [low_short q]
      have h := low_length τ n
      rw [List.length_cons, show τ.length + 1 - (low τ n).length = (τ.length - (low τ n).length) + 1 by omega, List.drop_succ_cons]
      exact low_drop τ n
    · rw [low_full q, Nat.sub_self, List.drop_zero]
theorem SO.drop1 {F : Type} [OF F] {b : Nat} {big : Prop} {S : Nat} : ∀ {k : Nat} {σ : List F} {sps : List (Int × Int)}, SO b big S σ sps (eL k) (wL S k) → ∀ m, m ≤ k → SO b big S (σ.drop m) (sps.drop m) (eL (k - m)) (wL S (k - m))
  | k, σ, sps, h, 0, _ => by simpa using h
  | 0, σ, sps, h, m + 1, hm => by omega
  | k + 1, [], [], h, m + 1, hm => (show False from h).elim
  | k + 1, [], a :: c, h, m + 1, hm => (show False from h).elim
  | k + 1, s :: σ, [], h, m + 1, hm => (show False from h).elim
  | k + 1, s :: σ, pq :: sps, h, m + 1, hm => by
    rw [show k + 1 - (m + 1) = k - m by omega]
    exact SO.drop1 h.2 m (by omega)
theorem ofL_one {τ : List (List Int)} {n : Nat} (hn : n = 2 ^ τ.length) (c : Int) : (lv τ).ofL (widen [c] n) = ((c : Int) : (lv τ).A) ∧ Pit τ (widen [c] n) := by
  subst hn
  obtain ⟨h1, h2⟩ := el_widen_full (sub_one τ c)
  refine ⟨?_, h2⟩
  rw [← el_pit h2, h1, el_one]
theorem widen_tail (c : Int) (n : Nat) : ∀ z ∈ (widen [c] n).drop 1, z = 0 := fun z hz => by
  unfold widen at hz
  have e : ([c] ++ List.replicate (n - [c].length) 0).drop 1 = List.replicate (n - [c].length) 0 := rfl
  rw [e] at hz
  exact (List.mem_replicate.mp hz).2
section
variable {F : Type} [OF F]
/-- the ends of a quotient -/
theorem ends_ok {b : Nat} {o0 o1 c lo hi : Int} {y : F} (a : Spn b o0 o1 y) (hc : 0 < c) (hlo : lo = o0 / (c * up b)) (hhi : hi = o1 / (c * up b)) : (lo : F) * (c : F) ≤ y ∧ y < ((hi + 1 : Int) : F) * (c : F) := by
  have U := upF_pos (F := F) b
  have u := up_pos b
  have cu : 0 < c * up b := Int.mul_pos hc u
  unfold Spn at a
  have i1 : lo * (c * up b) ≤ o0 := by rw [hlo]; exact Int.ediv_mul_le _ (by omega)
  have i2 : o1 < (hi + 1) * (c * up b) := by rw [hhi]; exact Int.lt_ediv_add_one_mul_self _ cu
  have f1 := ic_le (K := F) i1
  have f2 := ic_lt (K := F) i2
  rw [ic_mul, ic_mul] at f1 f2
  constructor
  · apply Classical.byContradiction
    intro z
    have := mul_ps (show (0 : F) < (lo : F) * (c : F) - y by grind) U
    grind
  · apply Classical.byContradiction
    intro z
    have := mul_nn (show (0 : F) ≤ y - ((hi + 1 : Int) : F) * (c : F) by grind) (show (0 : F) ≤ (up b : F) by grind)
    grind
theorem ends_wid {b : Nat} {o0 o1 c : Int} (hc : 0 < c) (h : o1 - o0 ≤ up b) : o1 / (c * up b) - o0 / (c * up b) ≤ 1 := by
  have u := up_pos b
  have cu : 0 < c * up b := Int.mul_pos hc u
  have h1 : up b ≤ c * up b := by
    have := Int.mul_le_mul_of_nonneg_right (show 1 ≤ c by omega) (Int.le_of_lt u)
    rw [Int.one_mul] at this
    exact this
  have h2 : o1 ≤ o0 + c * up b := by omega
  have h3 := Int.ediv_le_ediv cu h2
  have h4 : (o0 + c * up b) / (c * up b) = o0 / (c * up b) + 1 := by
    rw [Int.add_ediv_of_dvd_right (Int.dvd_refl _), Int.ediv_self (by omega)]
  omega
end
end Rr
namespace Wk
open PySem PySem.Spec PyProof.Rows L2
abbrev sFends : Stmt := top 26
abbrev sRestOf : Stmt := top 27
theorem DAt.drop {H : Hp} {d : Addr} : ∀ {τ : List (Int × Int)} (n : Nat), DAt H d τ → DAt H d (τ.drop n)
  | _, 0, h => h
  | [], n + 1, h => h
  | r :: τ, n + 1, h => DAt.drop n h.tail
section
variable {P : Program} {w : World} {K : PySem.W.Frag} {mg : Str → Option Value} {base : Heap}
/-! ### rest_of -/
def spRestOf : Sp := fun vs H Q _ => ∃ (a c : Addr) (u v : List Int) (n : Int), vs = [.ref a, .ref c, .int n] ∧ IL H a u ∧ IL H c v ∧ u.length = v.length ∧ u.length ≤ 1000 ∧ (∀ c ∈ v, IntMulOk c (-n)) ∧ ∀ (H' : Hp) (p : Addr), Same H H' → IL H' p (Rr.psum u (Rr.pscale v (-n))) → Q (.ref p) H'
theorem scRestOf : FnScope ["u", "v", "n"] ["u", "v", "n"] (defScope sRestOf) := ⟨rfl, rfl, rfl, by decide +kernel, rfl, by decide +kernel, by decide +kernel⟩
theorem ok_restof (sm : Dn P w K mg base "parts_sum" 1 ["u", "v"] spSum) (sc : Dn P w K mg base "scaled" 1 ["parts", "factor"] spScaled) (d : Df K mg "rest_of" sRestOf ["u", "v", "n"]) : Dn P w K mg base "rest_of" 2 ["u", "v", "n"] spRestOf := by
  refine d.dn scRestOf (fun vs H Q E h => ?_) (fun f cdv A outer s H vs Q E hr h => ?_)
  · obtain ⟨a, c, u, v, n, rfl, _⟩ := h
    rfl
  · obtain ⟨a, c, u, v, n, rfl, ha, hc, hl, h1000, hm, k⟩ := h
    refine ⟨_, pss_one (ps_ret (pe_cd sm hr (by rfl) (pa_cons (pv 0) (pa_cons (pe_cd sc hr (by rfl) (pa_cons (pv 1) (pa_cons (pe_un un_neg (pv 2)) pa_nil))) pa_nil)))), ?_⟩
    refine ⟨_, rfl, _, rfl, _, rfl, _, rfl, c, v, -n, rfl, hc, by omega, hm, fun H1 p1 s1 g1 => ?_⟩
    refine ⟨a, p1, u, _, rfl, s1 _ _ ha, g1, ?_, h1000, fun H2 p2 s2 g2 => k H2 p2 (s1.trans s2) g2⟩
    unfold Rr.pscale
    rw [List.length_map]
    exact hl
/-! ### floor_ends -/
structure FePre (F : Type) [Rr.OF F] (b S M : Nat) (big : Prop) (τ : List (List Int)) (σ : List F) (j : Nat) (u : List Int) (c : Int) : Prop where
  rs : RsPre F b S big τ σ
  jl : j ≤ τ.length
  pit : Rr.Pit (τ.drop (τ.length - j)) u
  z : Rr.sz (τ.drop (τ.length - j)) u ≤ 2 ^ M
  bw : big → ((Rr.wd S (2 ^ M) (Rr.wL S j) : Nat) : Int) ≤ Rr.up b
  room : 2 * b + Rr.gE M (Rr.eL j) ≤ 134217000
  c0 : 0 < c
  cM : c.natAbs ≤ 2 ^ M
def spFends : Sp := fun vs H Q _ => ∃ (a e d : Addr) (b S M j : Nat) (big : Prop) (F : Type) (_ : Rr.OF F) (τ : List (List Int)) (σ : List F) (u : List Int) (c : Int), vs = [.ref a, .ref e, .ref d, .int b] ∧ IL H a u ∧ IL H e (Rr.widen [c] u.length) ∧ RFul H d τ ∧ FePre F b S M big τ σ j u c ∧
  ∀ (H' : Hp) (t : Addr) (lo hi : Int), Same H H' → T2 H' t lo hi → (lo : F) * (c : F) ≤ Rr.valp (τ.drop (τ.length - j)) (σ.drop (τ.length - j)) ((Rr.lv (τ.drop (τ.length - j))).ofL u) → Rr.valp (τ.drop (τ.length - j)) (σ.drop (τ.length - j)) ((Rr.lv (τ.drop (τ.length - j))).ofL u) < ((hi + 1 : Int) : F) * (c : F) → (big → hi - lo ≤ 1) → Q (.ref t) H'
theorem scFends : FnScope ["u", "v", "roots", "bits", "spans", "over", "under", "low", "high"] ["u", "v", "roots", "bits"] (defScope sFends) := ⟨rfl, rfl, rfl, by decide +kernel, rfl, by decide +kernel, by decide +kernel⟩
/-- over[i] // (under[..] if over[i] >= 0 else under[..]), both ends of under the same -/
def tQuo (i : Nat) : TE := fun σ H Q => ∃ (a e : Addr) (x y m : Int), σ[5]? = some (some (.ref a)) ∧ σ[6]? = some (some (.ref e)) ∧ T2 H a x y ∧ T2 H e m m ∧ 0 < m ∧ Q (.int ((if i = 0 then x else y) / m)) H
theorem ok_fends (hse : base.NoSeer) (htr : P.given.tree = none) (rs : Dn P w K mg base "root_spans" 35 ["roots", "bits"] spRspans) (ps : Dn P w K mg base "parts_span" 5 ["parts", "spans", "bits"] (spPspan 3)) (d : Df K mg "floor_ends" sFends ["u", "v", "roots", "bits"]) : Dn P w K mg base "floor_ends" 36 ["u", "v", "roots", "bits"] spFends := by
  refine d.dn scFends (fun vs H Q E h => ?_) (fun f cdv A outer s H vs Q E hr h => ?_)
  · obtain ⟨a, e, d, b, S, M, j, big, F, iF, τ, σ, u, c, rfl, _⟩ := h
    rfl
  · obtain ⟨a, e, d, b, S, M, j, big, F, iF, τ, σ, u, c, rfl, ha, he, hd, pre, k⟩ := h
    have hr5 : Room 5 _ := hr.mono (by omega)
    have cm : Calm (cxOf CX0 P w K mg base ["u", "v", "roots", "bits", "spans", "over", "under", "low", "high"] "floor_ends" (defScope sFends) f cdv A outer s H E).nox := ⟨hse, htr, ⟨_, _, rfl, rfl, rfl, rfl, rfl⟩, by have := hr.dp; show (A.deeper _).depth + 100 < _; omega⟩
    refine ⟨_, pss_cons (ps_set (i := 4) scFends.nd rfl (Or.inl rfl) (pe_cd rs hr (by rfl) (pa_cons (pv 2) (pa_cons (pv 3) pa_nil))))
      (pss_cons (ps_set (i := 5) scFends.nd rfl (Or.inl rfl) (pe_cd ps hr5 (by rfl) (pa_cons (pv 0) (pa_cons (pv 4) (pa_cons (pv 3) pa_nil)))))
      (pss_cons (ps_set (i := 6) scFends.nd rfl (Or.inl rfl) (pe_cd ps hr5 (by rfl) (pa_cons (pv 1) (pa_cons (pv 4) (pa_cons (pv 3) pa_nil)))))
      (pss_cons (ps_if (pt_cmpR op_le (pe_ix ix_tup (pv 6) pe_int (fun _ _ => rfl)) pe_int (nomark _)) (pss_one (ps_ret pe_non)) pss_nil)
      (pss_cons (ps_set (i := 7) scFends.nd rfl (Or.inl rfl) (pe_imp (t' := tQuo 0) (pe_op (op_fdivB cm) (pe_ix ix_tup (pv 5) pe_int (fun _ _ => rfl)) (pe_ifExp (pt_cmpR op_ge (pe_ix ix_tup (pv 5) pe_int (fun _ _ => rfl)) pe_int (nomark _)) (pe_ix ix_tup (pv 6) pe_int (fun _ _ => rfl)) (pe_ix ix_tup (pv 6) pe_int (fun _ _ => rfl)))) ?e1))
      (pss_cons (ps_set (i := 8) scFends.nd rfl (Or.inl rfl) (pe_imp (t' := tQuo 1) (pe_op (op_fdivB cm) (pe_ix ix_tup (pv 5) pe_int (fun _ _ => rfl)) (pe_ifExp (pt_cmpR op_ge (pe_ix ix_tup (pv 5) pe_int (fun _ _ => rfl)) pe_int (nomark _)) (pe_ix ix_tup (pv 6) pe_int (fun _ _ => rfl)) (pe_ix ix_tup (pv 6) pe_int (fun _ _ => rfl)))) ?e2))
      (pss_one (ps_ret (pe_tup (pa_cons (pv 7) (pa_cons (pv 8) pa_nil)))))))))), ?_⟩
    case e1 =>
      rintro σ' H' Q' ⟨a, e, x, y, m, s0, s1, ha, he, m0, k'⟩
      rw [if_pos rfl] at k'
      refine ⟨_, s0, a, _, _, _, rfl, rfl, t2_0 ha, at_of (j := 0) rfl rfl, _, s0, a, _, _, _, rfl, rfl, t2_0 ha, at_of (j := 0) rfl rfl, _, _, rfl, rfl, _, rfl, ite2 (fun cc => ?_) (fun cc => ?_)⟩
      · exact ⟨_, s1, e, _, _, _, rfl, rfl, t2_0 he, at_of (j := 1) rfl rfl, _, _, rfl, rfl, m0, k'⟩
      · exact ⟨_, s1, e, _, _, _, rfl, rfl, t2_0 he, at_of (j := 0) rfl rfl, _, _, rfl, rfl, m0, k'⟩
    case e2 =>
      rintro σ' H' Q' ⟨a, e, x, y, m, s0, s1, ha, he, m0, k'⟩
      rw [if_neg (by decide)] at k'
      refine ⟨_, s0, a, _, _, _, rfl, rfl, t2_0 ha, at_of (j := 1) rfl rfl, _, s0, a, _, _, _, rfl, rfl, t2_0 ha, at_of (j := 1) rfl rfl, _, _, rfl, rfl, _, rfl, ite2 (fun cc => ?_) (fun cc => ?_)⟩
      · exact ⟨_, s1, e, _, _, _, rfl, rfl, t2_0 he, at_of (j := 0) rfl rfl, _, _, rfl, rfl, m0, k'⟩
      · exact ⟨_, s1, e, _, _, _, rfl, rfl, t2_0 he, at_of (j := 1) rfl rfl, _, _, rfl, rfl, m0, k'⟩
    have jl := pre.jl
    have l3 := pre.rs.len
    refine ⟨_, rfl, _, rfl, d, b, S, big, F, iF, τ, σ, rfl, hd, pre.rs, fun H1 sd sps s1 g1 so => ?_⟩
    have σl : σ.length = τ.length := pre.rs.P.len
    have so' := Rr.SO.drop1 so (τ.length - j) (by omega)
    rw [show τ.length - (τ.length - j) = j by omega] at so'
    have tl : (τ.drop (τ.length - j)).length = j := by rw [List.length_drop]; omega
    have P' := pre.rs.P.drop (τ.length - j)
    have g1' := g1.drop (τ.length - j)
    obtain ⟨ov, pv'⟩ := Rr.ofL_one (τ := τ.drop (τ.length - j)) (n := u.length) pre.pit c
    have zv : Rr.sz (τ.drop (τ.length - j)) (Rr.widen [c] u.length) = c.natAbs := by
      unfold Rr.sz
      rw [ov]
      exact Rr.Lv.nm_cst _ c
    have mk : ∀ l, Rr.Pit (τ.drop (τ.length - j)) l → Rr.sz (τ.drop (τ.length - j)) l ≤ 2 ^ M → PsPre F 3 b S M (2 ^ M) big (τ.drop (τ.length - j)) (σ.drop (τ.length - j)) (sps.drop (τ.length - j)) (Rr.eL j) (Rr.wL S j) l := fun l hp hz => ⟨by omega, P', hp, hz, hz, so', pre.bw, pre.room⟩
    refine ⟨_, rfl, _, rfl, _, rfl, a, sd, b, S, M, 2 ^ M, big, u, F, iF, _, _, _, _, _, rfl, s1 _ _ ha, g1', mk u pre.pit pre.z, fun H2 t2 o0 o1 s2 g2 R2 => ?_⟩
    have s02 := s1.trans s2
    refine ⟨_, rfl, _, rfl, _, rfl, e, sd, b, S, M, 2 ^ M, big, _, F, iF, _, _, _, _, _, rfl, s02 _ _ he, g1'.same s2, mk _ pv' (by rw [zv]; exact pre.cM), fun H3 t3 n0 n1 s3 g3 R3 => ?_⟩
    obtain ⟨x0, x1⟩ := R3.ex (Rr.widen_tail c u.length)
    have w0 : (Rr.widen [c] u.length).getD 0 0 = c := rfl
    rw [w0] at x0 x1
    subst x0 x1
    have u0 := Rr.up_pos b
    have m0 : 0 < c * Rr.up b := Int.mul_pos pre.c0 u0
    have s03 := s02.trans s3
    refine ⟨_, rfl, t3, _, _, _, rfl, rfl, t2_0 g3, at_of (j := 0) rfl rfl, _, _, rfl, rfl, _, rfl, ite2 (fun cc => ?_) (fun _ => ?_)⟩
    · have : c * Rr.up b ≤ 0 := of_decide_eq_true cc
      omega
    refine ⟨t2, t3, o0, o1, c * Rr.up b, rfl, rfl, s3 _ _ g2, g3, m0, ?_⟩
    refine ⟨t2, t3, o0, o1, c * Rr.up b, rfl, rfl, s3 _ _ g2, g3, m0, ?_⟩
    refine ⟨_, rfl, _, rfl, (by show 2 ≤ sizeLine; decide), fun t ht => ?_⟩
    obtain ⟨q1, q2⟩ := Rr.ends_ok R2.spn pre.c0 (lo := o0 / (c * Rr.up b)) (hi := o1 / (c * Rr.up b)) rfl rfl
    refine k _ t _ _ (s03.trans (same_new ht)) upd_same q1 q2 fun hb => ?_
    have w1 := R2.wid hb
    have w2 := pre.bw hb
    exact Rr.ends_wid pre.c0 (by omega)
end
end Wk
end
section
set_option Elab.async false
set_option linter.all false
set_option maxRecDepth 100000
set_option maxHeartbeats 2000000
namespace Wk
open PySem PySem.Spec PyProof.Rows L2
abbrev sFover : Stmt := top 28
section
variable {P : Program} {w : World} {K : PySem.W.Frag} {mg : Str → Option Value} {base : Heap}
/-- what u is worth, at its own level -/
noncomputable abbrev wth {F : Type} [Rr.OF F] (τ : List (List Int)) (σ : List F) (j : Nat) (u : List Int) : F := Rr.valp (τ.drop (τ.length - j)) (σ.drop (τ.length - j)) ((Rr.lv (τ.drop (τ.length - j))).ofL u)
structure FoPre (F : Type) [Rr.OF F] (S M N0 Kb : Nat) (τ : List (List Int)) (σ : List F) (j : Nat) (u : List Int) (c : Int) : Prop where
  fe : ∀ b, b ≤ 2 * N0 → FePre F b S M (N0 ≤ b) τ σ j u c
  n64 : 64 ≤ N0
  n1 : -(((2 ^ Kb : Nat) : Int) : F) * (c : F) ≤ wth τ σ j u
  n2 : wth τ σ j u ≤ (((2 ^ Kb : Nat) : Int) : F) * (c : F)
  room : 8 * (M + Kb + 3) ≤ 134217000
def spFover : Sp := fun vs H Q _ => ∃ (a e d : Addr) (S M N0 Kb j : Nat) (F : Type) (_ : Rr.OF F) (τ : List (List Int)) (σ : List F) (u : List Int) (c : Int), vs = [.ref a, .ref e, .ref d] ∧ IL H a u ∧ IL H e (Rr.widen [c] u.length) ∧ RFul H d τ ∧ FoPre F S M N0 Kb τ σ j u c ∧
  ∀ (H' : Hp) (n : Int), Same H H' → (n : F) * (c : F) ≤ wth τ σ j u → wth τ σ j u < ((n + 1 : Int) : F) * (c : F) → Q (.int n) H'
theorem scFover : FnScope ["u", "v", "roots", "bits", "ends"] ["u", "v", "roots"] (defScope sFover) := ⟨rfl, rfl, rfl, by decide +kernel, rfl, by decide +kernel, by decide +kernel⟩
theorem ok_fover {B : Nat} (hB : Big B) (cst : ∃ t, mg "FIRST_BITS" = some (.int 64 t)) (fe : Dn P w K mg base "floor_ends" 36 ["u", "v", "roots", "bits"] spFends) (ro : Dn P w K mg base "rest_of" 2 ["u", "v", "n"] spRestOf) (ps : Dn P w K mg base "parts_sign" 6 ["parts", "roots"] (spPsign B 3)) (d : Df K mg "floor_over" sFover ["u", "v", "roots"]) :
    Dn P w K mg base "floor_over" 37 ["u", "v", "roots"] spFover := by
  refine d.dn scFover (fun vs H Q E h => ?_) (fun f cdv A outer s H vs Q E hr h => ?_)
  · obtain ⟨a, e, d, S, M, N0, Kb, j, F, iF, τ, σ, u, c, rfl, _⟩ := h
    rfl
  · obtain ⟨a, e, d, S, M, N0, Kb, j, F, iF, τ, σ, u, c, rfl, ha, he, hd, pre, k⟩ := h
    have hr2 : Room 2 _ := hr.mono (by omega)
    have hr6 : Room 6 _ := hr.mono (by omega)
    refine ⟨_, pss_cons (ps_set (i := 3) scFover.nd rfl (Or.inl rfl) (pe_k cst (by rfl)))
      (pss_cons (ps_set (i := 4) scFover.nd rfl (Or.inl rfl) (pe_cd fe hr (by rfl) (pa_cons (pv 0) (pa_cons (pv 1) (pa_cons (pv 2) (pa_cons (pv 3) pa_nil))))))
      (pss_cons (ps_while PassesOwn.never (PW.pt (pw_or (pt_cmp (pc_isN (pv 4))) (pw_or1 (pt_cmpR op_gt (pe_op op_sub (pe_ix ix_tup (pv 4) pe_int (fun _ _ => rfl)) (pe_ix ix_tup (pv 4) pe_int (fun _ _ => rfl))) pe_int (nomark _)))))
        (pss_cons (ps_set (i := 3) scFover.nd rfl (Or.inl rfl) (pe_op op_mul pe_int (pv 3))) (pss_one (ps_set (i := 4) scFover.nd rfl (Or.inl rfl) (pe_cd fe hr (by rfl) (pa_cons (pv 0) (pa_cons (pv 1) (pa_cons (pv 2) (pa_cons (pv 3) pa_nil)))))))))
      (pss_cons (ps_if (PW.pt (pw_and (pt_cmpR op_lt (pe_ix ix_tup (pv 4) pe_int (fun _ _ => rfl)) (pe_ix ix_tup (pv 4) pe_int (fun _ _ => rfl)) (nomark _)) (pw_and1 (pt_cmpR op_lt (pe_cd ps hr6 (by rfl) (pa_cons (pe_cd ro hr2 (by rfl) (pa_cons (pv 0) (pa_cons (pv 1) (pa_cons (pe_ix ix_tup (pv 4) pe_int (fun _ _ => rfl)) pa_nil)))) (pa_cons (pv 2) pa_nil))) pe_int (nomark _))))) (pss_one (ps_ret (pe_ix ix_tup (pv 4) pe_int (fun _ _ => rfl)))) pss_nil)
      (pss_one (ps_ret (pe_ix ix_tup (pv 4) pe_int (fun _ _ => rfl))))))), ?_⟩
    have n64 := pre.n64
    have p64 := pre.fe 64 (by omega)
    have jl := p64.jl
    have l3 := p64.rs.len
    refine ⟨_, rfl, _, rfl, _, rfl, _, rfl, a, e, d, 64, S, M, j, N0 ≤ 64, F, iF, τ, σ, u, c, rfl, ha, he, hd, p64, fun H1 t1 lo1 hi1 s1 g1 q1 q2 q3 => ?_⟩
    refine while_fin (fun m σ' H' => ∃ (b : Nat) (t : Addr) (lo hi : Int), σ' = [some (.ref a), some (.ref e), some (.ref d), some (.int b), some (.ref t)] ∧ T2 H' t lo hi ∧ (lo : F) * (c : F) ≤ wth τ σ j u ∧ wth τ σ j u < ((hi + 1 : Int) : F) * (c : F) ∧ (N0 ≤ b → hi - lo ≤ 1) ∧ 64 ≤ b ∧ b ≤ 2 * N0 ∧ Same H H' ∧ m = 2 * N0 - b)
      (fun σ' H' => ∃ (b : Nat) (t : Addr) (lo hi : Int), σ' = [some (.ref a), some (.ref e), some (.ref d), some (.int b), some (.ref t)] ∧ T2 H' t lo hi ∧ (lo : F) * (c : F) ≤ wth τ σ j u ∧ wth τ σ j u < ((hi + 1 : Int) : F) * (c : F) ∧ hi - lo ≤ 1 ∧ Same H H')
      ⟨_, 64, t1, lo1, hi1, rfl, g1, q1, q2, q3, Nat.le_refl _, by omega, s1, rfl⟩ ?_ (fun fin => ?_)
    · rintro σ' H' ⟨b, t, lo, hi, rfl, gt, h1, h2, h3, s2⟩
      have c0 : (0 : F) < (c : F) := Rr.ic_ps p64.c0
      have lohi : lo ≤ hi := by
        apply Classical.byContradiction
        intro z
        have z1 : ((hi + 1 : Int) : F) ≤ (lo : F) := Rr.ic_le (by omega)
        have := Rr.mul_nn (show (0 : F) ≤ (lo : F) - ((hi + 1 : Int) : F) by grind) (show (0 : F) ≤ (c : F) by grind)
        grind
      refine ⟨_, rfl, t, _, _, _, rfl, rfl, t2_0 gt, at_of (j := 0) rfl rfl, _, rfl, t, _, _, _, rfl, rfl, t2_0 gt, at_of (j := 1) rfl rfl, _, _, rfl, rfl, _, rfl, ite2 (fun cc => ?_) (fun cc => iteF ?_)⟩
      · have c1 : lo < hi := of_decide_eq_true cc
        -- the rest
        have hhi : hi.natAbs ≤ 2 ^ (Kb + 1) := by
          have tp := Rr.two_pos Kb
          have b1 : lo ≤ ((2 ^ Kb : Nat) : Int) := by
            apply Classical.byContradiction
            intro z
            have z1 : (((2 ^ Kb : Nat) : Int) : F) < (lo : F) := Rr.ic_lt (by omega)
            have := Rr.mul_ps (show (0 : F) < (lo : F) - (((2 ^ Kb : Nat) : Int) : F) by grind) c0
            have := pre.n2
            grind
          have b2 : -((2 ^ Kb : Nat) : Int) ≤ hi + 1 := by
            apply Classical.byContradiction
            intro z
            have z1 : ((hi + 1 : Int) : F) < ((-((2 ^ Kb : Nat) : Int) : Int) : F) := Rr.ic_lt (by omega)
            rw [Rr.ic_neg] at z1
            have := Rr.mul_ps (show (0 : F) < -(((2 ^ Kb : Nat) : Int) : F) - ((hi + 1 : Int) : F) by grind) c0
            have := pre.n1
            grind
          have e2 : 2 ^ (Kb + 1) = 2 * 2 ^ Kb := by rw [Nat.pow_succ]; omega
          omega
        have rm := pre.room
        obtain ⟨ov, pv'⟩ := Rr.ofL_one (τ := τ.drop (τ.length - j)) (n := u.length) p64.pit c
        have tl : (τ.drop (τ.length - j)).length = j := by rw [List.length_drop]; omega
        have ul : u.length = 2 ^ j := by have := p64.pit; unfold Rr.Pit at this; rw [tl] at this; exact this
        have ul8 : u.length ≤ 32 := by rw [ul]; exact pow32 (by omega)
        have P' := p64.rs.P.drop (τ.length - j)
        have R' := Rr.PRoots.rts P'
        have lw : (Rr.widen [c] u.length).length = u.length := by rw [show _ = _ from pv', ← show _ = _ from p64.pit]
        refine ⟨_, rfl, _, rfl, _, rfl, t, _, _, _, rfl, rfl, t2_0 gt, at_of (j := 1) rfl rfl, a, e, u, Rr.widen [c] u.length, hi, rfl, s2 _ _ ha, s2 _ _ he, lw.symm, by omega, fun z hz => ?_, fun H3 p3 s3 g3 => ?_⟩
        · rcases widen_mem hz with q | q
          · rw [List.mem_singleton.mp q]
            exact mul_bits p64.cM (show (-hi).natAbs ≤ 2 ^ (Kb + 1) by omega) (by omega)
          · rw [q]
            exact IntMulOk.of_left (by decide)
        have pitR : Rr.Pit (τ.drop (τ.length - j)) (Rr.psum u (Rr.pscale (Rr.widen [c] u.length) (-hi))) := p64.pit.sum (pv'.scale _)
        have ofR : (Rr.lv (τ.drop (τ.length - j))).ofL (Rr.psum u (Rr.pscale (Rr.widen [c] u.length) (-hi))) = (Rr.lv (τ.drop (τ.length - j))).ofL u + ((-hi : Int) : (Rr.lv (τ.drop (τ.length - j))).A) * ((c : Int) : (Rr.lv (τ.drop (τ.length - j))).A) := by
          rw [Rr.ofL_psum p64.pit (pv'.scale _), Rr.ofL_scale pv', ov]
        have szR : Rr.sz (τ.drop (τ.length - j)) (Rr.psum u (Rr.pscale (Rr.widen [c] u.length) (-hi))) ≤ 2 ^ (M + Kb + 2) := by
          unfold Rr.sz
          rw [ofR]
          refine Nat.le_trans ((Rr.lv _).nm_add _ _) ?_
          rw [(Rr.lv _).nm_int, Rr.Lv.nm_cst]
          have z1 := p64.z
          unfold Rr.sz at z1
          have z2 := Nat.mul_le_mul (show (-hi).natAbs ≤ 2 ^ (Kb + 1) by omega) p64.cM
          rw [← Nat.pow_add] at z2
          have z3 : 2 ^ M ≤ 2 ^ (Kb + 1 + M) := Rr.two_le (by omega)
          have z4 : 2 ^ (M + Kb + 2) = 2 * 2 ^ (Kb + 1 + M) := by rw [show M + Kb + 2 = (Kb + 1 + M) + 1 by omega, Nat.pow_succ]; omega
          omega
        have vR : Rr.valp (τ.drop (τ.length - j)) (σ.drop (τ.length - j)) ((Rr.lv (τ.drop (τ.length - j))).ofL (Rr.psum u (Rr.pscale (Rr.widen [c] u.length) (-hi)))) = wth τ σ j u - (hi : F) * (c : F) := by
          rw [ofR, Rr.valp_add, Rr.valp_cst P', Rr.valp_int, Rr.ic_neg]
          grind
        refine ⟨_, rfl, p3, d, _, τ.drop (τ.length - j), rfl, g3, ((hd.same s2).same s3).at.drop _, by omega, R', pitR, ?_, fun H4 s4 => ?_⟩
        · refine Rr.pow_le_of szR ?_
          rw [← Nat.pow_mul]
          refine hB _ ?_
          have := Rr.pow_four (show (τ.drop (τ.length - j)).length ≤ 3 by omega)
          have := Nat.mul_le_mul_left (M + Kb + 2) this
          omega
        rw [Rr.psign_val P' pitR, vR]
        have s24 := (s2.trans s3).trans s4
        have gt4 := s4 _ _ (s3 _ _ gt)
        have e1 : hi = lo + 1 := by omega
        refine ⟨_, _, rfl, rfl, _, rfl, ite2 (fun c2 => ?_) (fun c2 => ?_)⟩
        · have c3 := Rr.sg_neg_iff.mp (show Rr.sg (wth τ σ j u - (hi : F) * (c : F)) < 0 from of_decide_eq_true c2)
          refine ⟨_, rfl, t, _, _, _, rfl, rfl, t2_0 gt4, at_of (j := 0) rfl rfl, k _ lo s24 h1 ?_⟩
          rw [← e1]
          grind
        · have c3 : ¬ wth τ σ j u - (hi : F) * (c : F) < 0 := fun z => c2 (decide_eq_true (Rr.sg_neg_iff.mpr z))
          exact ⟨_, rfl, t, _, _, _, rfl, rfl, t2_0 gt4, at_of (j := 1) rfl rfl, k _ hi s24 (by grind) h2⟩
      · have c1 : ¬ lo < hi := fun z => cc (decide_eq_true z)
        have e1 : lo = hi := by omega
        subst e1
        exact ⟨_, rfl, t, _, _, _, rfl, rfl, t2_0 gt, at_of (j := 1) rfl rfl, k _ lo s2 h1 h2⟩
    · rintro m σ' H' ⟨b, t, lo, hi, rfl, gt, h1, h2, h3, h4, h5, s2, rfl⟩
      refine ⟨_, rfl, _, rfl, iteF ?_⟩
      refine ⟨_, rfl, t, _, _, _, rfl, rfl, t2_0 gt, at_of (j := 1) rfl rfl, _, rfl, t, _, _, _, rfl, rfl, t2_0 gt, at_of (j := 0) rfl rfl, _, _, rfl, rfl, _, _, rfl, rfl, _, rfl, ite2 (fun cc => ?_) (fun cc => ?_)⟩
      · have c1 : (1 : Int) < hi - lo := of_decide_eq_true cc
        have bN : b < N0 := Nat.lt_of_not_le fun z => by have := h3 z; omega
        have e2 : (2 : Int) * (b : Int) = ((2 * b : Nat) : Int) := by omega
        refine ⟨fun σ2 H2 => ∃ (t' : Addr) (lo' hi' : Int), σ2 = [some (.ref a), some (.ref e), some (.ref d), some (.int ((2 * b : Nat) : Int)), some (.ref t')] ∧ T2 H2 t' lo' hi' ∧ (lo' : F) * (c : F) ≤ wth τ σ j u ∧ wth τ σ j u < ((hi' + 1 : Int) : F) * (c : F) ∧ (N0 ≤ 2 * b → hi' - lo' ≤ 1) ∧ Same H H2, fun σ2 H2 ⟨t', lo', hi', e3, g3, r1, r2, r3, s3⟩ => ?_, ?_⟩
        · exact ⟨_, by omega, 2 * b, t', lo', hi', e3, g3, r1, r2, r3, by omega, by omega, s3, rfl⟩
        · refine ⟨_, rfl, _, _, rfl, rfl, .inl ⟨by decide, by decide⟩, ?_⟩
          refine ⟨_, rfl, _, rfl, _, rfl, _, rfl, a, e, d, 2 * b, S, M, j, N0 ≤ 2 * b, F, iF, τ, σ, u, c, congrArg (fun z => [V.ref a, V.ref e, V.ref d, V.int z]) e2, s2 _ _ ha, s2 _ _ he, hd.same s2, pre.fe (2 * b) (by omega), fun H3 t3 lo3 hi3 s3 g3 r1 r2 r3 => ?_⟩
          refine ⟨t3, lo3, hi3, ?_, g3, r1, r2, r3, s2.trans s3⟩
          show [_, _, _, some (V.int ((2 : Int) * (b : Int))), _] = _
          rw [e2]
      · have c1 : ¬ (1 : Int) < hi - lo := fun z => cc (decide_eq_true z)
        exact fin _ _ ⟨b, t, lo, hi, rfl, gt, h1, h2, by omega, s2⟩
end
end Wk
end
section
set_option Elab.async false
set_option linter.all false
set_option maxRecDepth 100000
set_option maxHeartbeats 2000000
namespace Rr
open Lean.Grind Std
theorem wd_mono {S Y Z : Nat} (h : Y ≤ Z) : ∀ ws, wd S Y ws ≤ wd S Z ws
  | [] => Nat.le_refl _
  | w :: ws => by
    have ih := wd_mono (S := S) h ws
    have h1 := Nat.mul_le_mul_right (S + 1) ih
    have h2 := Nat.mul_le_mul_right w (show Y + 1 ≤ Z + 1 by omega)
    show wd S Y ws + (wd S Y ws * (S + 1) + (Y + 1) * w + 2) ≤ wd S Z ws + (wd S Z ws * (S + 1) + (Z + 1) * w + 2)
    omega
theorem wd_up (S Y w : Nat) (ws : List Nat) : wd S Y ws ≤ wd S Y (w :: ws) := Nat.le_add_right _ _
theorem wd_mem {S Y : Nat} : ∀ {ws : List Nat} {w : Nat}, w ∈ ws → w ≤ wd S Y ws
  | x :: ws, w, h => by
    rcases List.mem_cons.mp h with q | q
    · subst q
      have h2 := Nat.mul_le_mul_right w (show 1 ≤ Y + 1 by omega)
      show w ≤ wd S Y ws + (wd S Y ws * (S + 1) + (Y + 1) * w + 2)
      omega
    · exact Nat.le_trans (wd_mem q) (wd_up S Y x ws)
theorem wL_sub (S : Nat) : ∀ {k : Nat}, k ≤ 3 → (∀ w ∈ wL S k, w ∈ wL S 3) ∧ ∀ Y, wd S Y (wL S k) ≤ wd S Y (wL S 3) := by
  intro k hk
  rcases (show k = 0 ∨ k = 1 ∨ k = 2 ∨ k = 3 by omega) with rfl | rfl | rfl | rfl
  · exact ⟨(fun w h => by cases h), fun Y => Nat.zero_le _⟩
  · exact ⟨fun w h => List.mem_cons_of_mem _ (List.mem_cons_of_mem _ h), fun Y => Nat.le_trans (wd_up S Y _ _) (wd_up S Y _ _)⟩
  · exact ⟨fun w h => List.mem_cons_of_mem _ h, fun Y => wd_up S Y _ _⟩
  · exact ⟨fun w h => h, fun Y => Nat.le_refl _⟩
theorem wd_num {a k S w1 w2 w3 d1 d2 d3 : Nat} (ha : 1 ≤ a) (hk : 1 ≤ k) (hS : S ≤ a) (h1 : w1 = 2) (e1 : d1 = (a + 1) * w1 + 2) (h2 : w2 = d1 * k + 2) (e2 : d2 = d1 + (d1 * (S + 1) + (a + 1) * w2 + 2)) (h3 : w3 = d2 * k + 2) (e3 : d3 = d2 + (d2 * (S + 1) + (a + 1) * w3 + 2)) :
    d3 ≤ 512 * (a * a * a * (k * k)) := by
  have S1 : S + 1 ≤ 2 * a := by omega
  have a1 : a + 1 ≤ 2 * a := by omega
  have x1 : d1 ≤ 8 * a := by subst h1; omega
  have aa : a ≤ a * a := by have := Nat.mul_le_mul_left a ha; omega
  have aa1 : 1 ≤ a * a := Nat.mul_le_mul ha ha
  have ak : 1 ≤ a * k := Nat.mul_le_mul ha hk
  have x2 : w2 ≤ 16 * (a * k) := by
    have := Nat.mul_le_mul_right k x1
    rw [Nat.mul_assoc] at this
    omega
  have aak : a * a ≤ a * a * k := by have := Nat.mul_le_mul_left (a * a) hk; omega
  have x3 : d2 ≤ 64 * (a * a * k) := by
    have m1 := Nat.mul_le_mul x1 S1
    have m2 := Nat.mul_le_mul a1 x2
    have f1 : 8 * a * (2 * a) = 16 * (a * a) := by grind
    have f2 : 2 * a * (16 * (a * k)) = 32 * (a * a * k) := by grind
    rw [f1] at m1
    rw [f2] at m2
    omega
  have kk : 1 ≤ k * k := Nat.mul_le_mul hk hk
  have x4 : w3 ≤ 128 * (a * a * (k * k)) := by
    have m1 := Nat.mul_le_mul_right k x3
    have f1 : 64 * (a * a * k) * k = 64 * (a * a * (k * k)) := by grind
    rw [f1] at m1
    have m2 : 1 ≤ a * a * (k * k) := Nat.mul_le_mul aa1 kk
    omega
  have m1 := Nat.mul_le_mul x3 S1
  have m2 := Nat.mul_le_mul a1 x4
  have f1 : 64 * (a * a * k) * (2 * a) = 128 * (a * a * a * k) := by grind
  have f2 : 2 * a * (128 * (a * a * (k * k))) = 256 * (a * a * a * (k * k)) := by grind
  rw [f1] at m1
  rw [f2] at m2
  have g1 : a * a * a * k ≤ a * a * a * (k * k) := Nat.mul_le_mul_left _ (by have := Nat.mul_le_mul_left k hk; omega)
  have g2 : a * a * k ≤ a * a * a * (k * k) := Nat.mul_le_mul (by have := Nat.mul_le_mul_left (a * a) ha; omega) (by have := Nat.mul_le_mul_left k hk; omega)
  have g3 : 1 ≤ a * a * a * (k * k) := Nat.mul_le_mul (Nat.mul_le_mul aa1 ha) kk
  omega
def wLg (a k S : Nat) : Nat → List Nat
  | 0 => []
  | n + 1 => (wd S a (wLg a k S n) * k + 2) :: wLg a k S n
theorem wL_eq (S : Nat) : ∀ n, wL S n = wLg (2 ^ 4634320) (2 ^ 1028) S n
  | 0 => rfl
  | n + 1 => by
    unfold wL wLg
    rw [wL_eq S n]
theorem wd_gen {a k S : Nat} (ha : 1 ≤ a) (hk : 1 ≤ k) (hS : S ≤ a) : wd S a (wLg a k S 3) ≤ 512 * (a * a * a * (k * k)) := by
  have e0 : wd S a (wLg a k S 0) = 0 := rfl
  refine wd_num ha hk hS (w1 := wd S a (wLg a k S 0) * k + 2) (by rw [e0, Nat.zero_mul]) (d1 := wd S a (wLg a k S 1)) ?_ rfl (d2 := wd S a (wLg a k S 2)) rfl rfl rfl
  show wd S a (wLg a k S 0) + (wd S a (wLg a k S 0) * (S + 1) + (a + 1) * (wd S a (wLg a k S 0) * k + 2) + 2) = _
  rw [e0, Nat.zero_mul, Nat.zero_add, Nat.zero_add]
theorem pow_five (R k : Nat) : 512 * (2 ^ R * 2 ^ R * 2 ^ R * (2 ^ k * 2 ^ k)) = 2 ^ (9 + (R + R + R + (k + k))) := by
  rw [show (512 : Nat) = 2 ^ 9 from rfl, ← Nat.pow_add, ← Nat.pow_add, ← Nat.pow_add, ← Nat.pow_add, ← Nat.pow_add]
theorem wd_top : wd (2 ^ 2318200) (2 ^ 4634320) (wL (2 ^ 2318200) 3) ≤ 2 ^ 13906000 := by
  rw [wL_eq]
  have h := wd_gen (a := 2 ^ 4634320) (k := 2 ^ 1028) (S := 2 ^ 2318200) (two_pos _) (two_pos _) (two_le (by decide))
  rw [pow_five] at h
  exact Nat.le_trans h (two_le (by decide))
theorem gE_mono {M N : Nat} (h : M ≤ N) : ∀ es, gE M es ≤ gE N es
  | [] => h
  | e :: es => by
    have := gE_mono h es
    show gE M es + e + 2 ≤ gE N es + e + 2
    omega
theorem gE_top {M k : Nat} (hM : M ≤ 4634320) (hk : k ≤ 3) : gE M (eL k) ≤ 15640849 := by
  refine Nat.le_trans (gE_mono hM _) ?_
  rcases (show k = 0 ∨ k = 1 ∨ k = 2 ∨ k = 3 by omega) with rfl | rfl | rfl | rfl <;> decide +kernel
/-- what a list is worth at its own level -/
theorem valp_low {F : Type} [OF F] : ∀ {τ : List (List Int)} {σ : List F} {l : List Int}, PRoots σ τ → Sub τ l → valp (τ.drop (τ.length - (low τ l.length).length)) (σ.drop (τ.length - (low τ l.length).length)) ((lv (τ.drop (τ.length - (low τ l.length).length))).ofL l) = valp τ σ (el τ l)
  | [], σ, l, R, h => by
    match σ, R with
    | [], _ => rfl
  | r :: τ, σ, l, R, h => by
    by_cases q : l.length ≤ 2 ^ τ.length
    · obtain ⟨s, σ', rfl, _, _, _, R'⟩ := R.cons
      rw [low_short q, el_short q, valp_emb]
      have e : (r :: τ).length - (low τ l.length).length = (τ.length - (low τ l.length).length) + 1 := by
        have := low_length τ l.length
        rw [List.length_cons]
        omega
      rw [e]
      exact valp_low R' (h.short q)
    · rw [low_full q, Nat.sub_self]
      show valp (r :: τ) σ ((lv (r :: τ)).ofL l) = _
      rw [el_pit (h.full q)]
end Rr
namespace Wk
open PySem PySem.Spec PyProof.Rows L2
/-- a row's last number, ready for its floor -/
theorem fo_pre {st : List Lk.Step} {M : Lk.Made} (hm : Lk.make st = .ok M) {F : Type} [Rr.OF F] {ρ σ : List F} {τ : List (List Int)} {ns : List Rr.PN} {ws : List Nat} {r : Nat} (hJ : JR F ρ σ M τ ns ws r) (hr3 : r ≤ 3) {W : Nat} {n : Rr.PN} {y : Lk.Num} {i : Nat} (hy : M.nums[i]? = some y) (jn : Rr.JN ρ σ M.t τ W n y)
    {X Kb : Nat} {u : List Int} (hX : X ≤ 2000) (hu : ∃ g : Int, u = Rr.pscale n.parts g ∧ g.natAbs ≤ 2 ^ X) (n1 : -(((2 ^ Kb : Nat) : Int) : F) * (n.under : F) ≤ wth τ σ (Rr.low τ n.parts.length).length u) (n2 : wth τ σ (Rr.low τ n.parts.length).length u ≤ (((2 ^ Kb : Nat) : Int) : F) * (n.under : F)) (hK : Kb ≤ 10000) :
    FoPre F (2 ^ 2318200) (2317160 + X) 13906000 Kb τ σ (Rr.low τ n.parts.length).length u n.under := by
  have hτ : τ.length ≤ 3 := Nat.le_trans hJ.tr hr3
  have ld := Rr.low_drop τ n.parts.length
  have ll := Rr.low_length τ n.parts.length
  have cr := jn.sz.cr
  obtain ⟨g, rfl, hg⟩ := hu
  have root : ∀ s ∈ σ, Rr.Wi s (2 ^ 2318200) ∧ (1 : F) ≤ s * ((((2 ^ 1028 : Nat) : Int)) : F) := fun s hs => by
    obtain ⟨q, hq, q0, q1, q2⟩ := hJ.rel s hs
    obtain ⟨k, x, e1, e2⟩ := hJ.src q hq
    obtain ⟨b1, b2⟩ := Rr.num_near hm hJ.R e1
    rw [← e2] at b1 b2
    have qq : q * q ≠ 0 := Rr.nz2 (by grind) (by grind)
    have pw : (((2 ^ (1028 + 1028) : Nat) : Int) : F) = (((2 ^ 1028 : Nat) : Int) : F) * (((2 ^ 1028 : Nat) : Int) : F) := by
      rw [← Rr.ic_mul]
      exact congrArg (fun z : Int => (z : F)) (Rr.up_add 1028 1028)
    have p5 : (((2 ^ 2055 : Nat) : Int) : F) ≤ (((2 ^ (1028 + 1028) : Nat) : Int) : F) := Rr.le_c (Rr.two_le (by decide))
    have p28 : (0 : F) < (((2 ^ 1028 : Nat) : Int) : F) := Rr.ic_ps (Rr.up_pos 1028)
    have ql : q ≤ (((2 ^ 1028 : Nat) : Int) : F) := by
      refine Rr.le_of_sq (by grind) ?_
      have := b1.2
      grind
    have qf : (1 : F) ≤ q * (((2 ^ 1028 : Nat) : Int) : F) := by
      refine Rr.le_of_sq (Rr.mul_nn (by grind) (by grind)) ?_
      have f := b2 qq
      unfold Rr.Fa at f
      have m0 := Rr.mul_nn (show (0 : F) ≤ q * q from Rr.mul_nn (by grind) (by grind)) (show (0 : F) ≤ (((2 ^ 2055 : Nat) : Int) : F) from Rr.nn_c _)
      have m1 := Rr.mul_nn (show (0 : F) ≤ q * q from Rr.mul_nn (by grind) (by grind)) (show (0 : F) ≤ (((2 ^ (1028 + 1028) : Nat) : Int) : F) - (((2 ^ 2055 : Nat) : Int) : F) by grind)
      rcases f with f | f
      · grind
      · grind
    constructor
    · have e : (((2 ^ (1028 + 2317160) : Nat) : Int) : F) = (((2 ^ 1028 : Nat) : Int) : F) * (((2 ^ 2317160 : Nat) : Int) : F) := by
        rw [← Rr.ic_mul]
        exact congrArg (fun z : Int => (z : F)) (Rr.up_add 1028 2317160)
      have pK : (0 : F) ≤ (((2 ^ 2317160 : Nat) : Int) : F) := Rr.nn_c _
      have sl : Rr.Wi s (2 ^ (1028 + 2317160)) := by
        unfold Rr.Wi
        rw [e]
        generalize (((2 ^ 2317160 : Nat) : Int) : F) = k at *
        generalize (((2 ^ 1028 : Nat) : Int) : F) = c at *
        have m := Rr.mul_nn (show (0 : F) ≤ c - q by grind) pK
        have m2 := Rr.mul_nn (show (0 : F) ≤ c by grind) pK
        constructor <;> grind
      exact sl.mono (Rr.two_le (by decide))
    · have m := Rr.mul_nn (show (0 : F) ≤ s - q by grind) (show (0 : F) ≤ (((2 ^ 1028 : Nat) : Int) : F) by grind)
      grind
  have big : ∀ b : Nat, 13906000 ≤ b → ((Rr.wd (2 ^ 2318200) (2 ^ 4634320) (Rr.wL (2 ^ 2318200) 3) : Nat) : Int) ≤ Rr.up b := fun b hb => by
    have h1 := Nat.le_trans Rr.wd_top (Rr.two_le hb)
    show _ ≤ ((2 ^ b : Nat) : Int)
    omega
  refine ⟨fun b hb => ⟨⟨hτ, hJ.P, hJ.rsz, fun s hs => (root s hs).1, fun s hs => (root s hs).2, fun hbig k hk => ?_, fun k hk => ?_⟩, ll, ?_, ?_, fun hbig => ?_, ?_, jn.ok.pos, ?_⟩, by decide, n1, n2, ?_⟩
  · have b1 := big b hbig
    obtain ⟨m1, m2⟩ := Rr.wL_sub (2 ^ 2318200) hk
    have m3 := m2 (2 ^ 4634320)
    refine ⟨by omega, fun w hw => ?_⟩
    have := Rr.wd_mem (S := 2 ^ 2318200) (Y := 2 ^ 4634320) (m1 w hw)
    omega
  · have := Rr.gE_top (M := 4634320) (Nat.le_refl _) hk
    omega
  · rw [← ld]
    exact (Rr.low_pit jn.ok.sub).scale g
  · rw [← ld]
    have p0 := Rr.low_pit jn.ok.sub
    unfold Rr.sz
    rw [Rr.ofL_scale p0, (Rr.lv _).nm_int]
    have z := Rr.sz_low jn.ok.sub
    unfold Rr.sz at z
    rw [z, Nat.add_comm, Nat.pow_add]
    exact Nat.mul_le_mul hg cr.nm
  · have b1 := big b hbig
    obtain ⟨m1, m2⟩ := Rr.wL_sub (2 ^ 2318200) (Nat.le_trans ll hτ)
    have m3 := m2 (2 ^ (2317160 + X))
    have m4 := Rr.wd_mono (S := 2 ^ 2318200) (Rr.two_le (show 2317160 + X ≤ 4634320 by omega)) (Rr.wL (2 ^ 2318200) 3)
    omega
  · have := Rr.gE_top (M := 2317160 + X) (by omega) (Nat.le_trans ll hτ)
    omega
  · exact Nat.le_trans cr.un (Rr.two_le (by omega))
  · omega
end Wk
end
section
set_option Elab.async false
set_option linter.all false
set_option maxRecDepth 100000
set_option maxHeartbeats 2000000
namespace Wk
open PySem PySem.Spec PyProof.Rows L2
/-- what the text of near.py has written -/
structure Tn (K : PySem.W.Frag) (mg : Str → Option Value) : Prop where
  srt : mg "sorted" = none
  bits : ∃ t, mg "FIRST_BITS" = some (.int 64 t)
  d_whole_root : Df K mg "whole_root" sWroot ["n"]
  d_root_span : Df K mg "root_span" sRspan ["span", "bits"]
  d_span_product : Df K mg "span_product" sSprod ["span", "factor", "bits"]
  d_parts_span : Df K mg "parts_span" sPspan ["parts", "spans", "bits"]
  d_root_spans : Df K mg "root_spans" sRspans ["roots", "bits"]
  d_floor_ends : Df K mg "floor_ends" sFends ["u", "v", "roots", "bits"]
  d_rest_of : Df K mg "rest_of" sRestOf ["u", "v", "n"]
  d_floor_over : Df K mg "floor_over" sFover ["u", "v", "roots"]
theorem near_ok {P : Program} {w : World} {K : PySem.W.Frag} {mg : Str → Option Value} {base : Heap} {C R : Addr} {B : Nat} (hB : Big B) (T : Tx K mg C R) (N : Tn K mg) (r : Rows P w K mg base C R B) (hse : base.NoSeer) (htr : P.given.tree = none) :
    Dn P w K mg base "floor_over" 37 ["u", "v", "roots"] spFover ∧ Dn P w K mg base "rest_of" 2 ["u", "v", "n"] spRestOf := by
  have wr := ok_wroot (P := P) (w := w) hse htr N.d_whole_root
  have rs := ok_rspan T.blt wr N.d_root_span
  have sp := ok_sprod (P := P) (w := w) (base := base) N.d_span_product
  have ps := ok_pspan T.blt sp N.d_parts_span
  have rr := ok_rspans N.srt rs (ps 3 (by decide)) N.d_root_spans
  have fe := ok_fends hse htr rr (ps 3 (by decide)) N.d_floor_ends
  have ro := ok_restof r.smm r.scl N.d_rest_of
  exact ⟨ok_fover hB N.bits fe ro (r.psn 3 (by decide)) N.d_floor_over, ro⟩
end Wk
end
section
set_option Elab.async false
set_option linter.all false
set_option maxRecDepth 100000
set_option maxHeartbeats 2000000
namespace Wk
open PySem PySem.Spec PyProof.Rows L2
abbrev sOddF : Stmt := top 29
theorem or_one {f : Int} (h : 0 ≤ f) : Builtin.bitOr f 1 = 2 * (f / 2) + 1 := by
  have ev : ∀ m : Int, 0 ≤ m → Builtin.bitOr (m * 2 ^ 1) 1 = 1 + m * 2 ^ 1 := fun m hm => Bits.bitOr_join' (k := 1) (by decide) (by decide) hm
  rcases (show f % 2 = 0 ∨ f % 2 = 1 by omega) with q | q
  · have e := ev (f / 2) (by omega)
    rw [show f / 2 * 2 ^ 1 = f by omega] at e
    rw [e]
    omega
  · have e := ev (f / 2) (by omega)
    have e2 : f = Builtin.bitOr (f / 2 * 2 ^ 1) 1 := by
      rw [e]
      omega
    have a : Builtin.bitOr f 1 = f := by
      have b := Bits.bitOr_pp (x := f / 2 * 2 ^ 1) (y := 1) (by omega) (by decide)
      rw [← e2] at b
      rw [Bits.bitOr_pp h (by decide)]
      have t : f.toNat = (f / 2 * 2 ^ 1).toNat ||| (1 : Int).toNat := by omega
      rw [t, Nat.or_assoc, Nat.or_self, ← b]
    rw [a]
    omega
section
variable {P : Program} {w : World} {K : PySem.W.Frag} {mg : Str → Option Value} {base : Heap}
/-- x / c itself where it's whole, else the odd one beside it -/
def Odd {F : Type} [Rr.OF F] (x c : F) (z : Int) : Prop := ∃ f : Int, (f : F) * c ≤ x ∧ x < ((f + 1 : Int) : F) * c ∧ (((f : F) * c = x ∧ z = f) ∨ ((f : F) * c ≠ x ∧ z = Builtin.bitOr f 1))
def spOddF : Sp := fun vs H Q _ => ∃ (a e d : Addr) (S M N0 Kb j : Nat) (F : Type) (_ : Rr.OF F) (τ : List (List Int)) (σ : List F) (u : List Int) (c : Int), vs = [.ref a, .ref e, .ref d] ∧ IL H a u ∧ IL H e (Rr.widen [c] u.length) ∧ RFul H d τ ∧ FoPre F S M N0 Kb τ σ j u c ∧
  ∀ (H' : Hp) (z : Int), Same H H' → Odd (wth τ σ j u) (c : F) z → Q (.int z) H'
theorem scOddF : FnScope ["u", "v", "roots", "n"] ["u", "v", "roots"] (defScope sOddF) := ⟨rfl, rfl, rfl, by decide +kernel, rfl, by decide +kernel, by decide +kernel⟩
theorem ok_oddf {B : Nat} (hB : Big B) (fo : Dn P w K mg base "floor_over" 37 ["u", "v", "roots"] spFover) (ro : Dn P w K mg base "rest_of" 2 ["u", "v", "n"] spRestOf) (ps : Dn P w K mg base "parts_sign" 6 ["parts", "roots"] (spPsign B 3)) (d : Df K mg "odd_floor_over" sOddF ["u", "v", "roots"]) :
    Dn P w K mg base "odd_floor_over" 38 ["u", "v", "roots"] spOddF := by
  refine d.dn scOddF (fun vs H Q E h => ?_) (fun f cdv A outer s H vs Q E hr h => ?_)
  · obtain ⟨a, e, d, S, M, N0, Kb, j, F, iF, τ, σ, u, c, rfl, _⟩ := h
    rfl
  · obtain ⟨a, e, d, S, M, N0, Kb, j, F, iF, τ, σ, u, c, rfl, ha, he, hd, pre, k⟩ := h
    have hr2 : Room 2 _ := hr.mono (by omega)
    have hr6 : Room 6 _ := hr.mono (by omega)
    refine ⟨_, pss_cons (ps_set (i := 3) scOddF.nd rfl (Or.inl rfl) (pe_cd fo hr (by rfl) (pa_cons (pv 0) (pa_cons (pv 1) (pa_cons (pv 2) pa_nil)))))
      (pss_cons (ps_if (pt_cmpR op_eq (pe_cd ps hr6 (by rfl) (pa_cons (pe_cd ro hr2 (by rfl) (pa_cons (pv 0) (pa_cons (pv 1) (pa_cons (pv 3) pa_nil)))) (pa_cons (pv 2) pa_nil))) pe_int (nomark _)) (pss_one (ps_ret (pv 3))) pss_nil)
      (pss_one (ps_ret (pe_op op_or (pv 3) pe_int)))), ?_⟩
    have n64 := pre.n64
    have p64 := pre.fe 64 (by omega)
    have jl := p64.jl
    have l3 := p64.rs.len
    refine ⟨_, rfl, _, rfl, _, rfl, a, e, d, S, M, N0, Kb, j, F, iF, τ, σ, u, c, rfl, ha, he, hd, pre, fun H1 z s1 z1 z2 => ?_⟩
    have c0 : (0 : F) < (c : F) := Rr.ic_ps p64.c0
    have hz : z.natAbs ≤ 2 ^ (Kb + 1) := by
      have tp := Rr.two_pos Kb
      have b1 : z ≤ ((2 ^ Kb : Nat) : Int) := by
        apply Classical.byContradiction
        intro q
        have q1 : (((2 ^ Kb : Nat) : Int) : F) < (z : F) := Rr.ic_lt (by omega)
        have := Rr.mul_ps (show (0 : F) < (z : F) - (((2 ^ Kb : Nat) : Int) : F) by grind) c0
        have := pre.n2
        grind
      have b2 : -((2 ^ Kb : Nat) : Int) ≤ z + 1 := by
        apply Classical.byContradiction
        intro q
        have q1 : ((z + 1 : Int) : F) < ((-((2 ^ Kb : Nat) : Int) : Int) : F) := Rr.ic_lt (by omega)
        rw [Rr.ic_neg] at q1
        have := Rr.mul_ps (show (0 : F) < -(((2 ^ Kb : Nat) : Int) : F) - ((z + 1 : Int) : F) by grind) c0
        have := pre.n1
        grind
      have e2 : 2 ^ (Kb + 1) = 2 * 2 ^ Kb := by rw [Nat.pow_succ]; omega
      omega
    have rm := pre.room
    obtain ⟨ov, pv'⟩ := Rr.ofL_one (τ := τ.drop (τ.length - j)) (n := u.length) p64.pit c
    have tl : (τ.drop (τ.length - j)).length = j := by rw [List.length_drop]; omega
    have ul : u.length = 2 ^ j := by have := p64.pit; unfold Rr.Pit at this; rw [tl] at this; exact this
    have ul8 : u.length ≤ 32 := by rw [ul]; exact pow32 (by omega)
    have P' := p64.rs.P.drop (τ.length - j)
    have R' := Rr.PRoots.rts P'
    have lw : (Rr.widen [c] u.length).length = u.length := by rw [show _ = _ from pv', ← show _ = _ from p64.pit]
    refine ⟨_, rfl, _, rfl, _, rfl, a, e, u, Rr.widen [c] u.length, z, rfl, s1 _ _ ha, s1 _ _ he, lw.symm, by omega, fun y hy => ?_, fun H3 p3 s3 g3 => ?_⟩
    · rcases widen_mem hy with q | q
      · rw [List.mem_singleton.mp q]
        exact mul_bits p64.cM (show (-z).natAbs ≤ 2 ^ (Kb + 1) by omega) (by omega)
      · rw [q]
        exact IntMulOk.of_left (by decide)
    have pitR : Rr.Pit (τ.drop (τ.length - j)) (Rr.psum u (Rr.pscale (Rr.widen [c] u.length) (-z))) := p64.pit.sum (pv'.scale _)
    have ofR : (Rr.lv (τ.drop (τ.length - j))).ofL (Rr.psum u (Rr.pscale (Rr.widen [c] u.length) (-z))) = (Rr.lv (τ.drop (τ.length - j))).ofL u + ((-z : Int) : (Rr.lv (τ.drop (τ.length - j))).A) * ((c : Int) : (Rr.lv (τ.drop (τ.length - j))).A) := by
      rw [Rr.ofL_psum p64.pit (pv'.scale _), Rr.ofL_scale pv', ov]
    have szR : Rr.sz (τ.drop (τ.length - j)) (Rr.psum u (Rr.pscale (Rr.widen [c] u.length) (-z))) ≤ 2 ^ (M + Kb + 2) := by
      unfold Rr.sz
      rw [ofR]
      refine Nat.le_trans ((Rr.lv _).nm_add _ _) ?_
      rw [(Rr.lv _).nm_int, Rr.Lv.nm_cst]
      have y1 := p64.z
      unfold Rr.sz at y1
      have y2 := Nat.mul_le_mul (show (-z).natAbs ≤ 2 ^ (Kb + 1) by omega) p64.cM
      rw [← Nat.pow_add] at y2
      have y3 : 2 ^ M ≤ 2 ^ (Kb + 1 + M) := Rr.two_le (by omega)
      have y4 : 2 ^ (M + Kb + 2) = 2 * 2 ^ (Kb + 1 + M) := by rw [show M + Kb + 2 = (Kb + 1 + M) + 1 by omega, Nat.pow_succ]; omega
      omega
    have vR : Rr.valp (τ.drop (τ.length - j)) (σ.drop (τ.length - j)) ((Rr.lv (τ.drop (τ.length - j))).ofL (Rr.psum u (Rr.pscale (Rr.widen [c] u.length) (-z)))) = wth τ σ j u - (z : F) * (c : F) := by
      rw [ofR, Rr.valp_add, Rr.valp_cst P', Rr.valp_int, Rr.ic_neg]
      grind
    refine ⟨_, rfl, p3, d, _, τ.drop (τ.length - j), rfl, g3, ((hd.same s1).same s3).at.drop _, by omega, R', pitR, ?_, fun H4 s4 => ?_⟩
    · refine Rr.pow_le_of szR ?_
      rw [← Nat.pow_mul]
      refine hB _ ?_
      have := Rr.pow_four (show (τ.drop (τ.length - j)).length ≤ 3 by omega)
      have := Nat.mul_le_mul_left (M + Kb + 2) this
      omega
    rw [Rr.psign_val P' pitR, vR]
    have s14 := (s1.trans s3).trans s4
    refine ⟨rfl, _, rfl, ite2 (fun cc => ?_) (fun cc => ?_)⟩
    · have c2 : Rr.sg (wth τ σ j u - (z : F) * (c : F)) = 0 := V.int.inj (of_decide_eq_true cc)
      have c3 := Rr.sg_zero_iff.mp c2
      exact ⟨_, rfl, k _ z s14 ⟨z, z1, z2, .inl ⟨by grind, rfl⟩⟩⟩
    · have c3 : wth τ σ j u - (z : F) * (c : F) ≠ 0 := fun q => cc (decide_eq_true (congrArg V.int (Rr.sg_zero_iff.mpr q)))
      exact ⟨_, rfl, _, _, rfl, rfl, k _ _ s14 ⟨z, z1, z2, .inr ⟨by grind, rfl⟩⟩⟩
end
end Wk
end
section
set_option Elab.async false
set_option linter.all false
namespace Rr
open Lean.Grind Std
/-! ### the least, and no less -/
theorem leastFrom_min (ok : Nat → Bool) : ∀ (k z : Nat), 1 ≤ z → ok (z - 1) = false → 1 ≤ Lk.leastFrom ok k z ∧ ok (Lk.leastFrom ok k z - 1) = false
  | 0, z, h1, h => ⟨h1, h⟩
  | k + 1, z, h1, h => by
    unfold Lk.leastFrom
    split
    · exact leastFrom_min ok k z h1 h
    · rename_i q
      have := two_pos k
      exact leastFrom_min ok k (z + 2 ^ k) (by omega) (by simpa using q)
theorem least_min (ok : Nat → Bool) (h : Lk.least ok ≠ 0) : ok (Lk.least ok - 1) = false := by
  unfold Lk.least at h ⊢
  split
  · rename_i q
    rw [if_pos q] at h
    exact absurd rfl h
  · rename_i q
    exact (leastFrom_min ok _ 1 (Nat.le_refl _) (by simpa using q)).2
section
variable {F : Type} [OF F] {ρ : List F} {t : Lk.Tower}
/-! ### a number by mode -/
theorem rc_half : (rc (1 / 2 : Rat) : F) + rc (1 / 2 : Rat) = 1 := by
  rw [← rc_add, show (1 / 2 : Rat) + 1 / 2 = 1 by decide +kernel]
  exact rc_one
open Classical in
/-- the whole number by mode of a value with floor f -/
noncomputable def byMode (mode : Nat) (v : F) (f : Int) : Int :=
  if mode = 0 then (if v + v < ((2 * f + 1 : Int) : F) then f else if ((2 * f + 1 : Int) : F) < v + v then f + 1 else if f % 2 = 0 then f else f + 1)
  else if mode = 1 then f else if mode = 2 then (if v = (f : F) then f else f + 1) else if 0 ≤ f then f else (if v = (f : F) then f else f + 1)
open Classical in
theorem wholeBy_val (R : Roots ρ t) {x : Lk.Num} (hx : Fits t.length x) {K : Nat} (hK : K < 4096) (h : Wi (val ρ x) (2 ^ K)) (mode : Nat) {f : Int} (hf : Fls (val ρ x) f) : Lk.wholeBy mode t x = byMode mode (val ρ x) f := by
  have e := (floor_ok R hx hK h).uniq hf
  have hh := rc_half (F := F)
  unfold Lk.wholeBy Lk.nearest byMode
  dsimp only
  rw [e, against_sg R hx, against_sg R hx, rc_int, rc_add, rc_int]
  have ez : sg (val ρ x - (f : F)) = 0 ↔ val ρ x = (f : F) := by rw [sg_zero_iff]; constructor <;> (intro h; grind)
  have e2 : ((2 * f + 1 : Int) : F) = (f : F) + (f : F) + 1 := by rw [show 2 * f + 1 = f + f + 1 by omega, ic_add, ic_add, ic_one]
  rw [e2]
  have en : sg (val ρ x - ((f : F) + rc (1 / 2 : Rat))) < 0 ↔ val ρ x + val ρ x < (f : F) + (f : F) + 1 := by rw [sg_neg_iff]; constructor <;> (intro h; grind)
  have ep : 0 < sg (val ρ x - ((f : F) + rc (1 / 2 : Rat))) ↔ (f : F) + (f : F) + 1 < val ρ x + val ρ x := by rw [sg_pos_iff]; constructor <;> (intro h; grind)
  simp only [ez, en, ep]
/-- whether a size goes up -/
def Ups (mode : Nat) (k : Int) (y : F) : Prop := (mode = 0 ∧ (((2 * k + 1 : Int) : F) < y + y ∨ (((2 * k + 1 : Int) : F) = y + y ∧ k % 2 = 1))) ∨ (mode = 2 ∧ (k : F) ≠ y)
/-- what a mode asks of the size of a number below 0 -/
def turned (mode : Nat) : Nat := if mode = 1 then 2 else if mode = 2 then 1 else mode
open Classical in
theorem by_pos {mode : Nat} {v : F} {k : Int} (hm : mode ≤ 3) (h0 : 0 ≤ v) (hk : Fls v k) : byMode mode v k = k + (if Ups mode k v then 1 else 0) := by
  unfold Fls at hk
  have k0 : 0 ≤ k := by
    apply Classical.byContradiction
    intro z
    have := ic_le (K := F) (show k + 1 ≤ 0 by omega)
    rw [ic_zero] at this
    grind
  unfold byMode Ups
  rcases (show mode = 0 ∨ mode = 1 ∨ mode = 2 ∨ mode = 3 by omega) with rfl | rfl | rfl | rfl
  · simp only [if_pos, true_and, show (0 : Nat) ≠ 2 by decide, false_and, or_false]
    by_cases c1 : v + v < ((2 * k + 1 : Int) : F)
    · rw [if_pos c1, if_neg (by intro q; rcases q with q | ⟨q, _⟩ <;> grind)]
      omega
    · rw [if_neg c1]
      by_cases c2 : ((2 * k + 1 : Int) : F) < v + v
      · rw [if_pos c2, if_pos (Or.inl c2)]
      · rw [if_neg c2]
        by_cases c3 : k % 2 = 0
        · rw [if_pos c3, if_neg (by
            intro q
            rcases q with q | ⟨_, q⟩
            · exact c2 q
            · omega)]
          omega
        · rw [if_neg c3, if_pos (Or.inr ⟨by grind, by omega⟩)]
  · simp
  · simp only [show (2 : Nat) ≠ 0 by decide, show (2 : Nat) ≠ 1 by decide, if_false, if_pos, false_and, false_or, true_and]
    by_cases c : v = (k : F)
    · rw [if_pos c, if_neg (by intro q; exact q c.symm)]
      omega
    · rw [if_neg c, if_pos (fun q => c q.symm)]
  · simp [k0]
open Classical in
theorem by_neg {mode : Nat} {v : F} {f k : Int} (hm : mode ≤ 3) (h0 : v < 0) (hf : Fls v f) (hk : Fls (-v) k) : byMode mode v f = -(k + (if Ups (turned mode) k (-v) then 1 else 0)) := by
  unfold Fls at hk hf
  have i1 : ((k + 1 : Int) : F) = (k : F) + 1 := by rw [ic_add, ic_one]
  have i2 : ((f + 1 : Int) : F) = (f : F) + 1 := by rw [ic_add, ic_one]
  have fn : f < 0 := by
    apply Classical.byContradiction
    intro z
    have := ic_le (K := F) (show 0 ≤ f by omega)
    rw [ic_zero] at this
    grind
  have e2 : ((2 * f + 1 : Int) : F) = (f : F) + (f : F) + 1 := by rw [show 2 * f + 1 = f + f + 1 by omega, ic_add, ic_add, ic_one]
  have e3 : ((2 * k + 1 : Int) : F) = (k : F) + (k : F) + 1 := by rw [show 2 * k + 1 = k + k + 1 by omega, ic_add, ic_add, ic_one]
  by_cases c : v = (f : F)
  · have fk : f = -k := by
      have : Fls (-v) (-f) := by
        unfold Fls
        rw [show -f + 1 = -f + 1 from rfl, ic_add, ic_neg, ic_one]
        constructor <;> grind
      have := this.uniq hk
      omega
    have nu : ∀ m, ¬ Ups m k (-v) := by
      intro m q
      unfold Ups at q
      have kv : (k : F) = -v := by
        have : (f : F) = -(k : F) := by rw [fk, ic_neg]
        grind
      rw [e3] at q
      have one : (0 : F) < 1 := by have := ic_ps (K := F) (show (0 : Int) < 1 by decide); rw [ic_one] at this; exact this
      rcases q with ⟨_, q | ⟨q, _⟩⟩ | ⟨_, q⟩ <;> grind
    rw [if_neg (nu _)]
    have one : (0 : F) < 1 := by have := ic_ps (K := F) (show (0 : Int) < 1 by decide); rw [ic_one] at this; exact this
    unfold byMode
    rw [e2, if_pos (show v + v < (f : F) + (f : F) + 1 by grind), if_pos c, if_neg (show ¬ 0 ≤ f by omega)]
    split
    · omega
    · split
      · omega
      · split <;> omega
  · have fk : f = -k - 1 := by
      have : Fls (-v) (-f - 1) := by
        unfold Fls
        rw [show -f - 1 + 1 = -f by omega, show -f - 1 = -(f + 1) by omega, ic_neg, ic_neg, i2]
        constructor <;> grind
      have := this.uniq hk
      omega
    have fkF : (f : F) = -(k : F) - 1 := by rw [fk, ic_sub, ic_neg, ic_one]
    unfold byMode Ups turned
    rw [e2, e3, if_neg c, if_neg (show ¬ 0 ≤ f by omega)]
    rcases (show mode = 0 ∨ mode = 1 ∨ mode = 2 ∨ mode = 3 by omega) with rfl | rfl | rfl | rfl
    · simp only [if_pos, show (0 : Nat) ≠ 1 by decide, show (0 : Nat) ≠ 2 by decide, if_false, true_and, false_and, or_false]
      by_cases c1 : v + v < (f : F) + (f : F) + 1
      · rw [if_pos c1, if_pos (Or.inl (by grind))]
        omega
      · rw [if_neg c1]
        by_cases c2 : (f : F) + (f : F) + 1 < v + v
        · rw [if_pos c2, if_neg (by intro q; rcases q with q | ⟨q, _⟩ <;> grind)]
          omega
        · rw [if_neg c2]
          by_cases c3 : f % 2 = 0
          · rw [if_pos c3, if_pos (Or.inr ⟨by grind, by omega⟩)]
            omega
          · rw [if_neg c3, if_neg (by
              intro q
              rcases q with q | ⟨_, q⟩
              · grind
              · omega)]
            omega
    · have : (k : F) ≠ -v := by grind
      simp [this]
      omega
    · simp
      omega
    · simp
      omega
end
end Rr
end
section
set_option Elab.async false
set_option linter.all false
namespace Rr
open Lean.Grind Std
theorem up_s (s : Nat) : up (s + 1) = 2 * up s := by
  show ((2 ^ (s + 1) : Nat) : Int) = 2 * ((2 ^ s : Nat) : Int)
  rw [Nat.pow_succ]
  omega
section
variable {F : Type} [OF F] {ρ : List F} {t : Lk.Tower}
theorem lt_mul_iff {a b c : F} (h : 0 < c) : a * c < b * c ↔ a < b := by
  constructor
  · intro q
    apply Classical.byContradiction
    intro z
    have := mul_nn (show (0 : F) ≤ a - b by grind) (show (0 : F) ≤ c by grind)
    grind
  · intro q
    have := mul_ps (show (0 : F) < b - a by grind) h
    grind
theorem up53 : up 53 = 9007199254740992 := by decide +kernel
theorem up52 : up 52 = 4503599627370496 := by decide +kernel
theorem le_of_ps {a : F} (h : 0 < a) : 0 ≤ a := by grind
theorem ps_of_mul {a u w : F} (h : a * u = w) (hu : 0 < u) (hw : 0 < w) : 0 < a := by
  apply Classical.byContradiction
  intro c
  have b := mul_nn (show (0 : F) ≤ -a by grind) (show (0 : F) ≤ u by grind)
  grind
theorem wi_of {p v y a : F} (hy : y = v ∨ y = -v) (h0 : 0 ≤ p * y) (h1 : p * y < a) {n : Nat} (h2 : a ≤ ((n : Int) : F)) : Wi (p * v) n := by
  unfold Wi
  rcases hy with q | q
  · rw [q] at h0 h1
    constructor <;> grind
  · rw [q] at h0 h1
    constructor <;> grind
/-- z lies to the even whole numbers as q does -/
def Ev (q : F) (z : Int) : Prop := ∀ n : Int, (q < ((2 * n : Int) : F) ↔ z < 2 * n) ∧ (((2 * n : Int) : F) < q ↔ 2 * n < z)
theorem Ev.of {q : F} {f z : Int} (hf : Fls q f) (h : ((f : F) = q ∧ z = f) ∨ ((f : F) ≠ q ∧ z = 2 * (f / 2) + 1)) : Ev q z := by
  intro n
  unfold Fls at hf
  rcases h with ⟨h, rfl⟩ | ⟨h, rfl⟩
  · rw [← h]
    exact ⟨ic_lt_iff, ic_lt_iff⟩
  · have a : q < ((2 * n : Int) : F) ↔ f + 1 ≤ 2 * n := by
      constructor
      · intro c
        have := ic_lt_iff.mp (show (f : F) < ((2 * n : Int) : F) by grind)
        omega
      · intro c
        have := ic_le (K := F) c
        grind
    have b : ((2 * n : Int) : F) < q ↔ 2 * n ≤ f := by
      constructor
      · intro c
        have := ic_lt_iff.mp (show ((2 * n : Int) : F) < ((f + 1 : Int) : F) by grind)
        omega
      · intro c
        have := ic_le (K := F) c
        grind
    rw [a, b]
    constructor <;> constructor <;> (intro; omega)
theorem Ev.lt {q : F} {z n m : Int} (h : Ev q z) (e : m = 2 * n) : q < (m : F) ↔ z < m := by rw [e]; exact (h n).1
theorem Ev.gt {q : F} {z n m : Int} (h : Ev q z) (e : m = 2 * n) : (m : F) < q ↔ m < z := by rw [e]; exact (h n).2
theorem Ev.eq {q : F} {z n m : Int} (h : Ev q z) (e : m = 2 * n) : (m : F) = q ↔ m = z := by
  have a := h.lt e
  have b := h.gt e
  constructor
  · intro c
    have : ¬ q < (m : F) := by grind
    have : ¬ (m : F) < q := by grind
    rw [a] at *
    rw [b] at *
    omega
  · intro c
    have : ¬ z < m := by omega
    have : ¬ m < z := by omega
    rw [← a] at *
    rw [← b] at *
    grind
theorem pow2_up {e : Int} {s m : Nat} (h : e + s = m) : (rc (Lk.pow2 e) : F) * (up s : F) = (up m : F) := by
  unfold Lk.pow2
  by_cases c : 0 ≤ e
  · rw [if_pos c, rc_nat, show m = e.toNat + s by omega, up_add, ic_mul]
  · rw [if_neg c, show s = (-e).toNat + m by omega, up_add, ic_mul]
    have := rc_part (F := F) (m := 2 ^ (-e).toNat) (two_pos _)
    have e2 : (1 / ((2 ^ (-e).toNat : Nat) : Rat)) = 1 / (((2 ^ (-e).toNat : Nat) : Int) : Rat) := rfl
    rw [e2]
    generalize (rc (1 / (((2 ^ (-e).toNat : Nat) : Int) : Rat)) : F) = a at *
    show a * ((((2 ^ (-e).toNat : Nat) : Int) : F) * _) = _
    grind
theorem below_size (R : Roots ρ t) {x : Lk.Num} (hx : Fits t.length x) {y : F} (hy : y = val ρ x ∨ y = -val ρ x) (y0 : 0 ≤ y) (q : Rat) : Lk.below t x q = true ↔ y < rc q := by
  rw [below_iff R hx]
  rcases hy with rfl | rfl
  · constructor
    · intro h
      exact h.1
    · intro h
      constructor <;> grind
  · constructor
    · intro h
      grind
    · intro h
      constructor <;> grind
theorem place_ok (R : Roots ρ t) {x : Lk.Num} (hx : Fits t.length x) {y : F} (hy : y = val ρ x ∨ y = -val ρ x) (y0 : 0 ≤ y) (hw : y ≤ (up 2055 : F)) {z : Int} (ev : Ev (y * (up 1076 : F)) z) {s : Nat} (h1 : z < up (s + 55)) (h2 : s = 0 ∨ up (s + 54) ≤ z) : Lk.double.place t x = (s : Int) - 1074 := by
  have U := upF_pos (F := F) 1076
  have ok : ∀ n : Nat, Lk.below t x (Lk.pow2 (((53 : Nat) : Int) + (-1074) + (n : Int))) = true ↔ z < up (n + 55) := fun n => by
    rw [below_size R hx hy y0, ← lt_mul_iff U, pow2_up (m := n + 55) (by omega)]
    exact ev.lt (n := up (n + 54)) (up_s (n + 54))
  unfold Lk.Format.place
  have lo := least_ok (fun (n : Nat) => Lk.below t x (Lk.pow2 (((53 : Nat) : Int) + (-1074) + (n : Int)))) (j := 12) (by decide) (by
    rw [below_size R hx hy y0, ← lt_mul_iff U, pow2_up (m := 2 ^ 12 + 55) (by omega)]
    have a : y * (up 1076 : F) ≤ (up 2055 : F) * (up 1076 : F) := by
      have := mul_nn (show (0 : F) ≤ (up 2055 : F) - y by grind) (show (0 : F) ≤ (up 1076 : F) by grind)
      grind
    rw [← ic_mul, ← up_add] at a
    have b : up (2055 + 1076) < up (2 ^ 12 + 55) := Int.ofNat_lt.mpr (Nat.pow_lt_pow_right (by decide) (by decide))
    have := ic_lt (K := F) b
    grind)
  have lm := least_min (fun (n : Nat) => Lk.below t x (Lk.pow2 (((53 : Nat) : Int) + (-1074) + (n : Int))))
  show (-1074 : Int) + ((Lk.least (fun (n : Nat) => Lk.below t x (Lk.pow2 (((53 : Nat) : Int) + (-1074) + (n : Int)))) : Nat) : Int) = _
  generalize Lk.least (fun (n : Nat) => Lk.below t x (Lk.pow2 (((53 : Nat) : Int) + (-1074) + (n : Int)))) = L at *
  rw [ok] at lo
  have e : L = s := by
    rcases Nat.lt_trichotomy L s with c | c | c
    · exfalso
      rcases h2 with h2 | h2
      · omega
      · have := up_le (show L + 55 ≤ s + 54 by omega)
        omega
    · exact c
    · exfalso
      have a := lm (by omega)
      have b : ¬ z < up (L - 1 + 55) := fun q => by
        rw [(ok (L - 1)).mpr q] at a
        cases a
      have := up_le (show s + 55 ≤ L - 1 + 55 by omega)
      omega
  rw [e]
  omega
/-- whether z's kept part goes up: there are s + 2 bits to spare -/
def Zu (mode s : Nat) (z k : Int) : Prop := (mode = 0 ∧ (up (s + 1) < z - k * up (s + 2) ∨ (z - k * up (s + 2) = up (s + 1) ∧ k % 2 = 1))) ∨ (mode = 2 ∧ 0 < z - k * up (s + 2))
theorem kept_ok {Y q : F} {z : Int} {s : Nat} (ev : Ev q z) (hY : Y * (up (s + 2) : F) = q) : Fls Y (z / up (s + 2)) := by
  have U := upF_pos (F := F) (s + 2)
  have u := up_pos (s + 2)
  have i1 : z / up (s + 2) * up (s + 2) ≤ z := Int.ediv_mul_le _ (by omega)
  have i2 : z < (z / up (s + 2) + 1) * up (s + 2) := Int.lt_ediv_add_one_mul_self _ u
  generalize z / up (s + 2) = k at *
  have e1 : k * up (s + 2) = 2 * (k * up (s + 1)) := by rw [up_s]; grind
  have e2 : (k + 1) * up (s + 2) = 2 * ((k + 1) * up (s + 1)) := by rw [up_s]; grind
  constructor
  · apply Classical.byContradiction
    intro c
    have c1 : Y < (k : F) := by grind
    rw [← lt_mul_iff U, hY, ← ic_mul, ev.lt e1] at c1
    omega
  · rw [← lt_mul_iff U, hY, ← ic_mul, ev.lt e2]
    exact i2
theorem ups_iff {Y q : F} {z k : Int} {s mode : Nat} (ev : Ev q z) (hY : Y * (up (s + 2) : F) = q) (hk : k * up (s + 2) ≤ z) : Ups mode k Y ↔ Zu mode s z k := by
  have U := upF_pos (F := F) (s + 1)
  have U2 := upF_pos (F := F) (s + 2)
  have e0 : up (s + 2) = 2 * up (s + 1) := up_s (s + 1)
  have e1 : (2 * k + 1) * up (s + 1) = 2 * ((2 * k + 1) * up s) := by rw [up_s]; grind
  have e2 : k * up (s + 2) = 2 * (k * up (s + 1)) := by rw [e0]; grind
  have eY : (Y + Y) * (up (s + 1) : F) = q := by
    rw [← hY, e0, ic_mul]
    have : ((2 : Int) : F) = 1 + 1 := by rw [show (2 : Int) = 1 + 1 from rfl, ic_add, ic_one]
    rw [this]
    grind
  have a1 : ((2 * k + 1 : Int) : F) < Y + Y ↔ up (s + 1) < z - k * up (s + 2) := by
    rw [← lt_mul_iff U, eY, ← ic_mul, ev.gt e1]
    have : (2 * k + 1) * up (s + 1) = k * up (s + 2) + up (s + 1) := by rw [e0]; grind
    omega
  have a0 : Y + Y < ((2 * k + 1 : Int) : F) ↔ z - k * up (s + 2) < up (s + 1) := by
    rw [← lt_mul_iff U, eY, ← ic_mul, ev.lt e1]
    have : (2 * k + 1) * up (s + 1) = k * up (s + 2) + up (s + 1) := by rw [e0]; grind
    omega
  have a2 : ((2 * k + 1 : Int) : F) = Y + Y ↔ z - k * up (s + 2) = up (s + 1) := by
    constructor
    · intro c
      have b1 : ¬ ((2 * k + 1 : Int) : F) < Y + Y := by grind
      have b0 : ¬ Y + Y < ((2 * k + 1 : Int) : F) := by grind
      rw [a1] at b1
      rw [a0] at b0
      omega
    · intro c
      have b1 : ¬ up (s + 1) < z - k * up (s + 2) := by omega
      have b0 : ¬ z - k * up (s + 2) < up (s + 1) := by omega
      rw [← a1] at b1
      rw [← a0] at b0
      grind
  have a3 : (k : F) ≠ Y ↔ 0 < z - k * up (s + 2) := by
    have b : (k : F) < Y ↔ k * up (s + 2) < z := by
      rw [← lt_mul_iff U2, hY, ← ic_mul]
      exact ev.gt e2
    have b' : Y < (k : F) ↔ z < k * up (s + 2) := by
      rw [← lt_mul_iff U2, hY, ← ic_mul]
      exact ev.lt e2
    constructor
    · intro c
      apply Classical.byContradiction
      intro c2
      have d1 : ¬ (k : F) < Y := fun d => by have := b.mp d; omega
      have d2 : ¬ Y < (k : F) := fun d => by have := b'.mp d; omega
      exact c (by grind)
    · intro c d
      have := b.mpr (by omega)
      grind
  unfold Ups Zu
  rw [a1, a2, a3]
theorem bits_fin {neg : Bool} {mode mode' s kn m u : Nat} (hu : u ≤ 1) (hm : m = kn + u) (h53 : kn < 9007199254740992) (h52 : s = 0 ∨ 4503599627370496 ≤ kn) (hmode : mode ≤ 3) (hmm : mode' = if neg = true then turned mode else mode) (hup : u = 1 → mode' = 0 ∨ mode' = 2) :
    Lk.doubleBits (if Lk.double.high < (if m = 2 ^ Lk.double.p then (2 ^ (Lk.double.p - 1), (s : Int) - 1074 + 1) else (m, (s : Int) - 1074)).2 then (neg, if mode = 0 ∨ (mode = 1 ∧ neg = true) ∨ (mode = 2 ∧ neg = false) then none else some (2 ^ Lk.double.p - 1, Lk.double.high)) else (neg, some (if m = 2 ^ Lk.double.p then (2 ^ (Lk.double.p - 1), (s : Int) - 1074 + 1) else (m, (s : Int) - 1074))))
      = (if neg = true then 9223372036854775808 else 0) + (if 9218868437227405312 ≤ s * 4503599627370496 + kn then (if mode' = 1 ∨ mode' = 3 then 9218868437227405311 else 9218868437227405312) else s * 4503599627370496 + kn + u) := by
  have p53 : 2 ^ Lk.double.p = 9007199254740992 := by decide +kernel
  have p52 : 2 ^ (Lk.double.p - 1) = 4503599627370496 := by decide +kernel
  have hh : Lk.double.high = 971 := rfl
  have b63 : (2 ^ 63 : Nat) = 9223372036854775808 := by decide +kernel
  have b52 : (2 ^ 52 : Nat) = 4503599627370496 := by decide +kernel
  have nc : (mode = 0 ∨ (mode = 1 ∧ neg = true) ∨ (mode = 2 ∧ neg = false)) ↔ ¬ (mode' = 1 ∨ mode' = 3) := by
    rw [hmm]
    rcases (show mode = 0 ∨ mode = 1 ∨ mode = 2 ∨ mode = 3 by omega) with rfl | rfl | rfl | rfl <;> cases neg <;> simp [turned]
  rw [p53, p52, hh]
  have over : Lk.doubleBits (neg, if mode = 0 ∨ (mode = 1 ∧ neg = true) ∨ (mode = 2 ∧ neg = false) then none else some (9007199254740992 - 1, 971)) = (if neg = true then 9223372036854775808 else 0) + (if mode' = 1 ∨ mode' = 3 then 9218868437227405311 else 9218868437227405312) := by
    by_cases c : mode' = 1 ∨ mode' = 3
    · rw [if_neg (fun q => nc.mp q c), if_pos c]
      cases neg <;> decide +kernel
    · rw [if_pos (nc.mpr c), if_neg c]
      cases neg <;> decide +kernel
  have some1 : ∀ (a : Nat) (e : Int), Lk.doubleBits (neg, some (a, e)) = (if neg = true then 9223372036854775808 else 0) + (if a < 4503599627370496 then a else (e + 1074).toNat * 4503599627370496 + a) := fun a e => by
    unfold Lk.doubleBits
    dsimp only
  clear p53 p52 hh b63 b52 hmm nc
  generalize (if neg = true then 9223372036854775808 else 0 : Nat) = g at *
  by_cases c : m = 9007199254740992
  · rw [if_pos c]
    have u1 : u = 1 := by omega
    have m' := hup u1
    dsimp only
    by_cases c2 : 2045 ≤ s
    · rw [if_pos (show (971 : Int) < (s : Int) - 1074 + 1 by omega), over, if_neg (show ¬ (mode' = 1 ∨ mode' = 3) by omega)]
      clear over some1
      refine congrArg (fun q => g + q) ?_
      by_cases c3 : 9218868437227405312 ≤ s * 4503599627370496 + kn
      · rw [if_pos c3]
      · rw [if_neg c3]
        omega
    · rw [if_neg (show ¬ (971 : Int) < (s : Int) - 1074 + 1 by omega), if_neg (show ¬ 9218868437227405312 ≤ s * 4503599627370496 + kn by omega), some1, show ((s : Int) - 1074 + 1 + 1074).toNat = s + 1 by omega]
      clear over some1
      refine congrArg (fun q => g + q) ?_
      rw [if_neg (Nat.lt_irrefl _)]
      omega
  · rw [if_neg c]
    dsimp only
    by_cases c2 : 2046 ≤ s
    · rw [if_pos (show (971 : Int) < (s : Int) - 1074 by omega), over, if_pos (show 9218868437227405312 ≤ s * 4503599627370496 + kn by omega)]
    · rw [if_neg (show ¬ (971 : Int) < (s : Int) - 1074 by omega), if_neg (show ¬ 9218868437227405312 ≤ s * 4503599627370496 + kn by omega), some1, show ((s : Int) - 1074 + 1074).toNat = s by omega]
      clear over some1
      refine congrArg (fun q => g + q) ?_
      by_cases c3 : m < 4503599627370496
      · rw [if_pos c3]
        omega
      · rw [if_neg c3]
        omega
theorem cast_bits (neg : Bool) (md s kn u : Nat) : (((if neg = true then 9223372036854775808 else 0) + (if 9218868437227405312 ≤ s * 4503599627370496 + kn then (if md = 1 ∨ md = 3 then 9218868437227405311 else 9218868437227405312) else s * 4503599627370496 + kn + u) : Nat) : Int) = (if neg = true then 9223372036854775808 else 0) + (if 9218868437227405312 ≤ (s : Int) * 4503599627370496 + (kn : Int) then (if md = 1 ∨ md = 3 then 9218868437227405311 else 9218868437227405312) else (s : Int) * 4503599627370496 + (kn : Int) + (u : Int)) := by
  rw [Int.natCast_add]
  refine congr (congrArg (fun a b : Int => a + b) ?_) ?_
  · cases neg <;> rfl
  · by_cases c : 9218868437227405312 ≤ s * 4503599627370496 + kn
    · rw [if_pos c, if_pos (show 9218868437227405312 ≤ (s : Int) * 4503599627370496 + (kn : Int) by omega)]
      by_cases d : md = 1 ∨ md = 3
      · rw [if_pos d, if_pos d]
        rfl
      · rw [if_neg d, if_neg d]
        rfl
    · rw [if_neg c, if_neg (show ¬ 9218868437227405312 ≤ (s : Int) * 4503599627370496 + (kn : Int) by omega)]
      omega
open Classical in
/-- a size's bits -/
noncomputable def sbits (mode s : Nat) (z : Int) : Int :=
  if 9218868437227405312 ≤ (s : Int) * 4503599627370496 + z / up (s + 2) then (if mode = 1 ∨ mode = 3 then 9218868437227405311 else 9218868437227405312)
  else (s : Int) * 4503599627370496 + z / up (s + 2) + (if Zu mode s z (z / up (s + 2)) then 1 else 0)
open Classical in
theorem round_ok (R : Roots ρ t) {x : Lk.Num} (hx : Fits t.length x) {neg : Bool} (hn : neg = decide (val ρ x < 0)) {y : F} (hy : y = if neg = true then -val ρ x else val ρ x) (hw : y ≤ (up 2055 : F)) {z : Int} (z0 : 0 ≤ z) (ev : Ev (y * (up 1076 : F)) z) {s : Nat} (h1 : z < up (s + 55)) (h2 : s = 0 ∨ up (s + 54) ≤ z) {mode : Nat} (hm : mode ≤ 3) :
    ((Lk.doubleBits (Lk.double.round mode t x) : Nat) : Int) = (if neg = true then 9223372036854775808 else 0) + sbits (if neg = true then turned mode else mode) s z := by
  have y0 : 0 ≤ y := by
    rw [hy]
    cases neg with
    | true =>
      have := _root_.of_decide_eq_true hn.symm
      rw [if_pos rfl]
      grind
    | false =>
      have := _root_.of_decide_eq_false hn.symm
      rw [if_neg (by decide)]
      grind
  have hy' : y = val ρ x ∨ y = -val ρ x := by
    rw [hy]
    cases neg with
    | true => exact .inr rfl
    | false => exact .inl rfl
  have pl := place_ok R hx hy' y0 hw ev h1 h2
  have sx : decide (Lk.sign t x < 0) = neg := by
    rw [hn, sign_val R hx]
    exact decide_eq_decide.mpr sg_neg_iff
  have hY : ∀ v : F, rc (Lk.pow2 (-((s : Int) - 1074))) * v * (up (s + 2) : F) = v * (up 1076 : F) := fun v => by
    have := pow2_up (F := F) (e := -((s : Int) - 1074)) (s := s + 2) (m := 1076) (by omega)
    rw [← this]
    grind
  have u2 := up_pos (s + 2)
  have fx : Fits t.length (Lk.times (Lk.pow2 (-((s : Int) - 1074))) x) := fits_times _ hx
  have vx : val ρ (Lk.times (Lk.pow2 (-((s : Int) - 1074))) x) = rc (Lk.pow2 (-((s : Int) - 1074))) * val ρ x := val_times _ (by rw [R.len]; exact hx)
  have hYy := hY y
  have kf := kept_ok ev hYy
  have uf := fun mode => ups_iff (mode := mode) ev hYy (show z / up (s + 2) * up (s + 2) ≤ z from Int.ediv_mul_le _ (by omega))
  have k0 : 0 ≤ z / up (s + 2) := Int.ediv_nonneg z0 (by omega)
  have k53 : z / up (s + 2) < 9007199254740992 := by
    refine Int.ediv_lt_of_lt_mul u2 ?_
    have : up (53 + (s + 2)) = up 53 * up (s + 2) := up_add _ _
    rw [up53, show 53 + (s + 2) = s + 55 by omega] at this
    omega
  have k52 : s = 0 ∨ 4503599627370496 ≤ z / up (s + 2) := by
    rcases h2 with h2 | h2
    · exact .inl h2
    · right
      refine (Int.le_ediv_iff_mul_le u2).mpr ?_
      have : up (52 + (s + 2)) = up 52 * up (s + 2) := up_add _ _
      rw [up52, show 52 + (s + 2) = s + 54 by omega] at this
      omega
  have pp : (0 : F) < rc (Lk.pow2 (-((s : Int) - 1074))) := by
    exact ps_of_mul (pow2_up (F := F) (e := -((s : Int) - 1074)) (s := s + 2) (m := 1076) (by omega)) (upF_pos _) (upF_pos _)
  have wi : Wi (val ρ (Lk.times (Lk.pow2 (-((s : Int) - 1074))) x)) (2 ^ 53) := by
    rw [vx]
    have a := kf.2
    have b := ic_le (K := F) (show z / up (s + 2) + 1 ≤ up 53 by rw [up53]; omega)
    have c := mul_nn (show (0 : F) ≤ rc (Lk.pow2 (-((s : Int) - 1074))) from le_of_ps pp) y0
    exact wi_of hy' c a b
  have m : ((Lk.wholeBy mode t (Lk.times (Lk.pow2 (-((s : Int) - 1074))) x)).natAbs : Int) = z / up (s + 2) + (if Zu (if neg = true then turned mode else mode) s z (z / up (s + 2)) then 1 else 0) := by
    have nn : 0 ≤ z / up (s + 2) + (if Zu (if neg = true then turned mode else mode) s z (z / up (s + 2)) then 1 else 0) := by
      split <;> omega
    cases neg with
    | false =>
      rw [if_neg (by decide)] at hy
      rw [hy] at kf uf y0
      rw [← vx] at kf uf
      have v0 : 0 ≤ val ρ (Lk.times (Lk.pow2 (-((s : Int) - 1074))) x) := by
        rw [vx]
        exact mul_nn (by grind) y0
      rw [wholeBy_val R fx (by decide) wi mode kf, by_pos hm v0 kf, propext (uf mode)]
      rw [if_neg (show ¬ false = true by decide)] at nn ⊢
      omega
    | true =>
      rw [if_pos rfl] at hy
      have v0' : val ρ x < 0 := _root_.of_decide_eq_true hn.symm
      have v0 : val ρ (Lk.times (Lk.pow2 (-((s : Int) - 1074))) x) < 0 := by
        rw [vx]
        have := mul_ps pp (show (0 : F) < -val ρ x by grind)
        grind
      have ff := floor_ok R fx (K := 53) (by decide) wi
      have ey : rc (Lk.pow2 (-((s : Int) - 1074))) * y = -val ρ (Lk.times (Lk.pow2 (-((s : Int) - 1074))) x) := by
        rw [vx, hy]
        grind
      rw [ey] at kf uf
      rw [wholeBy_val R fx (by decide) wi mode ff, by_neg hm v0 ff kf, propext (uf (turned mode))]
      rw [if_pos rfl] at nn ⊢
      omega
  unfold Lk.Format.round
  dsimp only
  rw [pl, sx]
  have up1 : Zu (if neg = true then turned mode else mode) s z (z / up (s + 2)) → ((if neg = true then turned mode else mode) = 0 ∨ (if neg = true then turned mode else mode) = 2) := fun q => by
    unfold Zu at q
    rcases q with ⟨q, _⟩ | ⟨q, _⟩
    · exact .inl q
    · exact .inr q
  unfold sbits
  generalize emd : (if neg = true then turned mode else mode) = md at *
  generalize (Lk.wholeBy mode t (Lk.times (Lk.pow2 (-((s : Int) - 1074))) x)).natAbs = mm at *
  generalize z / up (s + 2) = k at *
  obtain ⟨kn, rfl⟩ := Int.eq_ofNat_of_zero_le k0
  have fin : ∀ u : Nat, u ≤ 1 → (mm : Int) = (kn : Int) + (u : Int) → (u = 1 → md = 0 ∨ md = 2) → ((Lk.doubleBits (if Lk.double.high < (if mm = 2 ^ Lk.double.p then (2 ^ (Lk.double.p - 1), (s : Int) - 1074 + 1) else (mm, (s : Int) - 1074)).2 then (neg, if mode = 0 ∨ (mode = 1 ∧ neg = true) ∨ (mode = 2 ∧ neg = false) then none else some (2 ^ Lk.double.p - 1, Lk.double.high)) else (neg, some (if mm = 2 ^ Lk.double.p then (2 ^ (Lk.double.p - 1), (s : Int) - 1074 + 1) else (mm, (s : Int) - 1074)))) : Nat) : Int) = (if neg = true then 9223372036854775808 else 0) + (if 9218868437227405312 ≤ (s : Int) * 4503599627370496 + (kn : Int) then (if md = 1 ∨ md = 3 then 9218868437227405311 else 9218868437227405312) else (s : Int) * 4503599627370496 + (kn : Int) + (u : Int)) := fun u hu e hp => by
    rw [bits_fin (neg := neg) (mode := mode) (mode' := md) (s := s) (kn := kn) (m := mm) (u := u) hu (by omega) (by omega) (by omega) hm emd.symm hp]
    exact cast_bits neg md s kn u
  by_cases cu : Zu md s z (kn : Int)
  · rw [if_pos cu] at m ⊢
    exact fin 1 (Nat.le_refl _) m (fun _ => up1 cu)
  · rw [if_neg cu] at m ⊢
    exact fin 0 (by decide) m (fun q => absurd q (by decide))
end
end Rr
end
section
set_option Elab.async false
set_option linter.all false
set_option maxRecDepth 100000
set_option maxHeartbeats 2000000
namespace Wk
open PySem PySem.Spec PyProof.Rows L2
abbrev sModeOf : Stmt := top 41
abbrev sSizeBits : Stmt := top 42
abbrev sGoesUp : Stmt := top 43
/-- the numbers that doubles.py names -/
structure Cd (mg : Str → Option Value) : Prop where
  near : ∃ t, mg "NEAREST" = some (.int 0 t)
  above : ∃ t, mg "NOT_ABOVE" = some (.int 1 t)
  below : ∃ t, mg "NOT_BELOW" = some (.int 2 t)
  zero : ∃ t, mg "TO_ZERO" = some (.int 3 t)
  behind : ∃ t, mg "BITS_BEHIND" = some (.int 1076 t)
  spare : ∃ t, mg "BITS_TO_SPARE" = some (.int 2 t)
  exact : ∃ t, mg "EXACT_BITS" = some (.int 53 t)
  inf : ∃ t, mg "INFINITE" = some (.int 9218868437227405312 t)
  neg : ∃ t, mg "BELOW_ZERO" = some (.int 9223372036854775808 t)
section
variable {P : Program} {w : World} {K : PySem.W.Frag} {mg : Str → Option Value} {base : Heap}
def Gup (mode : Nat) (k r m : Int) : Prop := (mode = 0 ∧ (m < r ∨ (r = m ∧ k % 2 = 1))) ∨ (mode = 2 ∧ 0 < r)
def spGoesUp : Sp := fun vs H Q _ => ∃ (mode : Nat) (k r m : Int), vs = [.int mode, .int k, .int r, .int m] ∧ ∀ b : Bool, (b = true ↔ Gup mode k r m) → Q (.bl b) H
theorem scGoesUp : FnScope ["mode", "kept", "rest", "middle"] ["mode", "kept", "rest", "middle"] (defScope sGoesUp) := ⟨rfl, rfl, rfl, by decide +kernel, rfl, by decide +kernel, by decide +kernel⟩
theorem ok_goesup (C : Cd mg) (d : Df K mg "goes_up" sGoesUp ["mode", "kept", "rest", "middle"]) : Dn P w K mg base "goes_up" 1 ["mode", "kept", "rest", "middle"] spGoesUp := by
  refine d.dn scGoesUp (fun vs H Q E h => ?_) (fun f cdv A outer s H vs Q E hr h => ?_)
  · obtain ⟨mode, k, r, m, rfl, _⟩ := h
    rfl
  · obtain ⟨mode, k, r, m, rfl, q⟩ := h
    refine ⟨_, pss_cons (ps_if (pt_cmpR op_eq (pv 0) (pe_k C.near (by rfl)) (nomark _)) (pss_one (ps_ret (pe_or (pe_cmpR op_gt (pv 2) (pv 3) (nomark _)) (pe_one (pe_and (pe_cmpR op_eq (pv 2) (pv 3) (nomark _)) (pe_one (pe_cmpR op_eq (pe_op op_mod (pv 1) pe_int) pe_int (nomark _)))))))) pss_nil)
      (pss_one (ps_ret (pe_and (pe_cmpR op_eq (pv 0) (pe_k C.below (by rfl)) (nomark _)) (pe_one (pe_cmpR op_gt (pv 2) pe_int (nomark _)))))), ?_⟩
    refine ⟨_, rfl, rfl, _, rfl, ite2 (fun c => ?_) (fun c => ?_)⟩
    · have c0 : mode = 0 := by have : (mode : Int) = 0 := V.int.inj (of_decide_eq_true c); omega
      refine ⟨_, rfl, _, rfl, _, _, rfl, rfl, _, rfl, ite2 (fun c => ?_) (fun c => ?_)⟩
      · have c1 : m < r := of_decide_eq_true c
        exact q true ⟨fun _ => .inl ⟨c0, .inl c1⟩, fun _ => rfl⟩
      have c1 : ¬ m < r := fun z => c (decide_eq_true z)
      refine ⟨_, rfl, _, rfl, rfl, _, rfl, ite2 (fun c => ?_) (fun c => ?_)⟩
      · have c2 : r = m := V.int.inj (of_decide_eq_true c)
        refine ⟨_, rfl, _, _, rfl, rfl, (by show (0 : Int) < 2; decide), rfl, ?_⟩
        refine q _ ⟨fun z => .inl ⟨c0, .inr ⟨c2, V.int.inj (of_decide_eq_true z)⟩⟩, fun z => ?_⟩
        refine decide_eq_true (congrArg V.int ?_)
        rcases z with ⟨_, z | ⟨_, z⟩⟩ | ⟨z, _⟩
        · exact absurd z c1
        · exact z
        · omega
      · have c2 : r ≠ m := fun z => c (decide_eq_true (congrArg V.int z))
        refine q false ⟨fun z => (by cases z), fun z => ?_⟩
        rcases z with ⟨_, z | ⟨z, _⟩⟩ | ⟨z, _⟩
        · exact absurd z c1
        · exact absurd z c2
        · omega
    · have c0 : mode ≠ 0 := fun z => c (decide_eq_true (congrArg V.int (by omega)))
      refine ⟨_, rfl, rfl, _, rfl, ite2 (fun c => ?_) (fun c => ?_)⟩
      · have c2 : mode = 2 := by have : (mode : Int) = 2 := V.int.inj (of_decide_eq_true c); omega
        refine ⟨_, rfl, _, _, rfl, rfl, ?_⟩
        refine q _ ⟨fun z => .inr ⟨c2, of_decide_eq_true z⟩, fun z => ?_⟩
        refine decide_eq_true ?_
        rcases z with ⟨z, _⟩ | ⟨_, z⟩
        · omega
        · exact z
      · have c2 : mode ≠ 2 := fun z => c (decide_eq_true (congrArg V.int (by omega)))
        refine q false ⟨fun z => (by cases z), fun z => ?_⟩
        rcases z with ⟨z, _⟩ | ⟨z, _⟩
        · omega
        · omega
def spModeOf : Sp := fun vs H Q _ => ∃ mode : Nat, vs = [.int mode] ∧ Q (.int (Rr.turned mode)) H
theorem scModeOf : FnScope ["mode"] ["mode"] (defScope sModeOf) := ⟨rfl, rfl, rfl, by decide +kernel, rfl, by decide +kernel, by decide +kernel⟩
theorem ok_modeof (C : Cd mg) (d : Df K mg "mode_of_size" sModeOf ["mode"]) : Dn P w K mg base "mode_of_size" 1 ["mode"] spModeOf := by
  refine d.dn scModeOf (fun vs H Q E h => ?_) (fun f cdv A outer s H vs Q E hr h => ?_)
  · obtain ⟨mode, rfl, _⟩ := h
    rfl
  · obtain ⟨mode, rfl, q⟩ := h
    unfold Rr.turned at q
    refine ⟨_, pss_cons (ps_if (pt_cmpR op_eq (pv 0) (pe_k C.above (by rfl)) (nomark _)) (pss_one (ps_ret (pe_k C.below (by rfl)))) pss_nil)
      (pss_cons (ps_if (pt_cmpR op_eq (pv 0) (pe_k C.below (by rfl)) (nomark _)) (pss_one (ps_ret (pe_k C.above (by rfl)))) pss_nil)
      (pss_one (ps_ret (pv 0)))), ?_⟩
    refine ⟨_, rfl, rfl, _, rfl, ite2 (fun c => ?_) (fun c => ?_)⟩
    · have c0 : mode = 1 := by have : (mode : Int) = 1 := V.int.inj (of_decide_eq_true c); omega
      rw [if_pos c0] at q
      exact q
    have c0 : mode ≠ 1 := fun z => c (decide_eq_true (congrArg V.int (by omega)))
    rw [if_neg c0] at q
    refine ⟨_, rfl, rfl, _, rfl, ite2 (fun c => ?_) (fun c => ?_)⟩
    · have c1 : mode = 2 := by have : (mode : Int) = 2 := V.int.inj (of_decide_eq_true c); omega
      rw [if_pos c1] at q
      exact q
    have c1 : mode ≠ 2 := fun z => c (decide_eq_true (congrArg V.int (by omega)))
    rw [if_neg c1] at q
    exact ⟨_, rfl, q⟩
end
end Wk
end
section
set_option Elab.async false
set_option linter.all false
set_option maxRecDepth 100000
set_option maxHeartbeats 2000000
namespace Wk
open PySem PySem.Spec PyProof.Rows L2
section
variable {P : Program} {w : World} {K : PySem.W.Frag} {mg : Str → Option Value} {base : Heap}
/-- how many bits there are to spare beyond two -/
theorem spare_of {z : Int} (z0 : 0 ≤ z) {b : Nat} (hb : Builtin.Int.intBits z = b) : ∃ s : Nat, (if (2 : Int) > (b : Int) - 53 then 2 else (b : Int) - 53) = ((s + 2 : Nat) : Int) ∧ s ≤ b ∧ z < Rr.up (s + 55) ∧ (s = 0 ∨ Rr.up (s + 54) ≤ z) := by
  have h1 : z.natAbs < 2 ^ b := intBits_le_iff.mp (by omega)
  refine ⟨b - 55, ?_, by omega, ?_, ?_⟩
  · split <;> omega
  · have := Rr.two_le (show b ≤ b - 55 + 55 by omega)
    show z < ((2 ^ (b - 55 + 55) : Nat) : Int)
    omega
  · by_cases c : b - 55 = 0
    · exact .inl c
    · right
      have : ¬ z.natAbs < 2 ^ (b - 1) := fun q => by
        have := intBits_le_iff.mpr q
        omega
      show ((2 ^ (b - 55 + 54) : Nat) : Int) ≤ z
      rw [show b - 55 + 54 = b - 1 by omega]
      omega
def spSizeBits : Sp := fun vs H Q _ => ∃ (mode : Nat) (z : Int), vs = [.int mode, .int z] ∧ 0 ≤ z ∧ z.natAbs ≤ 2 ^ 100000 ∧ ∀ s : Nat, z < Rr.up (s + 55) → (s = 0 ∨ Rr.up (s + 54) ≤ z) → Q (.int (Rr.sbits mode s z)) H
theorem scSizeBits : FnScope ["mode", "size", "spare", "kept", "bits"] ["mode", "size"] (defScope sSizeBits) := ⟨rfl, rfl, rfl, by decide +kernel, rfl, by decide +kernel, by decide +kernel⟩
theorem ok_sizebits (T : Blt mg) (C : Cd mg) (gu : Dn P w K mg base "goes_up" 1 ["mode", "kept", "rest", "middle"] spGoesUp) (d : Df K mg "size_bits" sSizeBits ["mode", "size"]) : Dn P w K mg base "size_bits" 2 ["mode", "size"] spSizeBits := by
  refine d.dn scSizeBits (fun vs H Q E h => ?_) (fun f cdv A outer s H vs Q E hr h => ?_)
  · obtain ⟨mode, z, rfl, _⟩ := h
    rfl
  · obtain ⟨mode, z, rfl, z0, hz, q⟩ := h
    obtain ⟨n, n1, n2, n3, n4⟩ := spare_of z0 rfl
    have hb := bits_of hz
    have q := q n n3 n4
    have k0 : 0 ≤ z / Rr.up (n + 2) := Int.ediv_nonneg z0 (Int.le_of_lt (Rr.up_pos _))
    have kz : z / Rr.up (n + 2) ≤ z := Int.ediv_le_self _ z0
    refine ⟨_, pss_cons (ps_set (i := 2) scSizeBits.nd rfl (Or.inl rfl) (pe_imp (t' := fun σ H Q => σ[1]? = some (some (V.int z)) ∧ Q (.int ((n + 2 : Nat) : Int)) H) (pe_callB (call_max2 rfl) (by rfl) T.max PyProof.Rows.boot_max (pa_cons (pe_op op_sub (pe_bm0 PySem.F.plainAttrs_int slot_int_bit_length type_int_bit_length mt_bits (pv 1)) (pe_k C.exact (by rfl))) (pa_cons (pe_k C.spare (by rfl)) pa_nil))) ?e1))
      (pss_cons (ps_set (i := 3) scSizeBits.nd rfl (Or.inl rfl) (pe_imp (t' := fun σ H Q => σ[1]? = some (some (V.int z)) ∧ σ[2]? = some (some (V.int ((n + 2 : Nat) : Int))) ∧ Q (.int (z / Rr.up (n + 2))) H) (pe_op op_shr (pv 1) (pv 2)) ?e2))
      (pss_cons (ps_set (i := 4) scSizeBits.nd rfl (Or.inl rfl) (pe_imp (t' := fun σ H Q => σ[2]? = some (some (V.int ((n + 2 : Nat) : Int))) ∧ σ[3]? = some (some (V.int (z / Rr.up (n + 2)))) ∧ Q (.int ((n : Int) * 4503599627370496 + z / Rr.up (n + 2))) H) (pe_op op_add (pe_op op_shlB (pe_op op_sub (pv 2) (pe_k C.spare (by rfl))) (pe_op op_sub (pe_k C.exact (by rfl)) pe_int)) (pv 3)) ?e3))
      (pss_cons (ps_if (pt_cmpR op_ge (pv 4) (pe_k C.inf (by rfl)) (nomark _)) (pss_one (ps_ret (pe_ifExp (PW.pt (pw_or (pt_cmpR op_eq (pv 0) (pe_k C.above (by rfl)) (nomark _)) (pw_or1 (pt_cmpR op_eq (pv 0) (pe_k C.zero (by rfl)) (nomark _))))) (pe_op op_sub (pe_k C.inf (by rfl)) pe_int) (pe_k C.inf (by rfl))))) pss_nil)
      (pss_cons (ps_if (pt_val (pe_imp (t' := fun σ H Q => σ[0]? = some (some (V.int mode)) ∧ σ[1]? = some (some (V.int z)) ∧ σ[2]? = some (some (V.int ((n + 2 : Nat) : Int))) ∧ σ[3]? = some (some (V.int (z / Rr.up (n + 2)))) ∧ ∀ b : Bool, (b = true ↔ Rr.Zu mode n z (z / Rr.up (n + 2))) → Q (.bl b) H) (pe_cd gu hr (by rfl) (pa_cons (pv 0) (pa_cons (pv 3) (pa_cons (pe_op op_sub (pv 1) (pe_op op_shlB (pv 3) (pv 2))) (pa_cons (pe_op op_shlB pe_int (pe_op op_sub (pv 2) pe_int)) pa_nil))))) ?e4)) (pss_one (ps_ret (pe_op op_add (pv 4) pe_int))) pss_nil)
      (pss_one (ps_ret (pv 4))))))), ?_⟩
    case e1 =>
      rintro σ H' Q' ⟨s1, k⟩
      refine ⟨_, s1, rfl, _, rfl, rfl, _, _, rfl, rfl, _, _, rfl, ?_⟩
      rw [← n1] at k
      exact k
    case e2 =>
      rintro σ H' Q' ⟨s1, s2, k⟩
      refine ⟨_, s1, _, s2, _, _, rfl, rfl, (by omega), ?_⟩
      rw [← two_up] at k
      exact k
    case e3 =>
      rintro σ H' Q' ⟨s2, s3, k⟩
      refine ⟨_, s2, _, _, rfl, rfl, _, _, rfl, rfl, _, _, rfl, rfl, ⟨by omega, ?_⟩, _, s3, _, _, rfl, rfl, ?_⟩
      · have e : ((n + 2 : Nat) : Int) - 2 = (n : Int) := by omega
        show ((Builtin.Int.intBits (((n + 2 : Nat) : Int) - 2) : Nat) : Int) + (53 - 1) ≤ _
        rw [e]
        have := bits_of (x := (n : Int)) (m := n) (by have := Nat.lt_two_pow_self (n := n); omega)
        omega
      · show Q' (.int ((((n + 2 : Nat) : Int) - 2) * 2 ^ ((53 : Int) - 1).toNat + _)) _
        rw [show ((n + 2 : Nat) : Int) - 2 = (n : Int) by omega, show (2 : Int) ^ ((53 : Int) - 1).toNat = 4503599627370496 by decide +kernel]
        exact k
    case e4 =>
      rintro σ H' Q' ⟨s0, s1, s2, s3, k⟩
      refine ⟨_, s0, _, s3, _, s1, _, s3, _, s2, _, _, rfl, rfl, ⟨by omega, ?_⟩, _, _, rfl, rfl, _, s2, _, _, rfl, rfl, _, _, rfl, rfl, ⟨by omega, ?_⟩, mode, z / Rr.up (n + 2), z - z / Rr.up (n + 2) * Rr.up (n + 2), Rr.up (n + 1), ?_, k⟩
      · have := bits_of (x := z / Rr.up (n + 2)) (m := 100000) (by omega)
        omega
      · have : Builtin.Int.intBits 1 = 1 := by decide +kernel
        show ((Builtin.Int.intBits 1 : Nat) : Int) + (((n + 2 : Nat) : Int) - 1) ≤ _
        omega
      · show [V.int mode, V.int (z / Rr.up (n + 2)), V.int (z - z / Rr.up (n + 2) * 2 ^ (((n + 2 : Nat) : Int)).toNat), V.int (1 * 2 ^ (((n + 2 : Nat) : Int) - 1).toNat)] = _
        rw [two_up, show (((n + 2 : Nat) : Int) - 1) = ((n + 1 : Nat) : Int) by omega, two_up, Int.one_mul]
    unfold Rr.sbits at q
    refine ⟨rfl, rfl, rfl, rfl, rfl, ?_⟩
    refine ⟨_, rfl, _, _, rfl, rfl, _, rfl, ite2 (fun c => ?_) (fun c => ?_)⟩
    · have c1 : 9218868437227405312 ≤ (n : Int) * 4503599627370496 + z / Rr.up (n + 2) := of_decide_eq_true c
      rw [if_pos c1] at q
      refine ⟨_, rfl, rfl, _, rfl, ite2 (fun c => ?_) (fun c => ?_)⟩
      · have c2 : mode = 1 := by have : (mode : Int) = 1 := V.int.inj (of_decide_eq_true c); omega
        rw [if_pos (.inl c2)] at q
        exact ⟨_, _, rfl, rfl, q⟩
      have c2 : mode ≠ 1 := fun z => c (decide_eq_true (congrArg V.int (by omega)))
      refine ⟨_, rfl, rfl, _, rfl, ite2 (fun c => ?_) (fun c => ?_)⟩
      · have c3 : mode = 3 := by have : (mode : Int) = 3 := V.int.inj (of_decide_eq_true c); omega
        rw [if_pos (.inr c3)] at q
        exact ⟨_, _, rfl, rfl, q⟩
      · have c3 : mode ≠ 3 := fun z => c (decide_eq_true (congrArg V.int (by omega)))
        rw [if_neg (by omega)] at q
        exact q
    · have c1 : ¬ 9218868437227405312 ≤ (n : Int) * 4503599627370496 + z / Rr.up (n + 2) := fun z => c (decide_eq_true z)
      rw [if_neg c1] at q
      refine ⟨rfl, rfl, rfl, rfl, fun b hb => ⟨_, rfl, ite2 (fun c => ?_) (fun c => ?_)⟩⟩
      · rw [if_pos (hb.mp c)] at q
        exact ⟨_, rfl, _, _, rfl, rfl, q⟩
      · rw [if_neg (fun w => c (hb.mpr w)), Int.add_zero] at q
        exact ⟨_, rfl, q⟩
end
end Wk
end
section
set_option Elab.async false
set_option linter.all false
set_option maxRecDepth 100000
set_option maxHeartbeats 2000000
namespace Rr
open Lean.Grind Std
theorem odd_ev {F : Type} [OF F] {q u : F} {f z : Int} (u0 : 0 < u) (q0 : 0 ≤ q) (h1 : (f : F) * u ≤ q * u) (h2 : q * u < ((f + 1 : Int) : F) * u) (h : ((f : F) * u = q * u ∧ z = f) ∨ ((f : F) * u ≠ q * u ∧ (0 ≤ f → z = 2 * (f / 2) + 1))) : Fls q f ∧ 0 ≤ f ∧ Ev q z := by
  have fl : Fls q f := by
    constructor
    · apply Classical.byContradiction
      intro c
      have := (lt_mul_iff (a := q) (b := (f : F)) u0).mpr (by grind)
      grind
    · exact (lt_mul_iff u0).mp h2
  have f0 : 0 ≤ f := by
    apply Classical.byContradiction
    intro c
    have a := ic_le (K := F) (show f + 1 ≤ 0 by omega)
    rw [ic_zero] at a
    have := fl.2
    grind
  refine ⟨fl, f0, Ev.of fl ?_⟩
  rcases h with ⟨a, b⟩ | ⟨a, b⟩
  · left
    refine ⟨?_, b⟩
    apply Classical.byContradiction
    intro c
    have : (f : F) < q := by have := fl.1; grind
    have := (lt_mul_iff u0).mpr this
    grind
  · right
    refine ⟨fun c => a (by rw [c]), b f0⟩
end Rr
namespace Wk
open PySem PySem.Spec PyProof.Rows L2
theorem wth_scale {F : Type} [Rr.OF F] {ρ σ : List F} {t : Lk.Tower} {τ : List (List Int)} {W : Nat} {n : Rr.PN} {y : Lk.Num} (P : Rr.PRoots σ τ) (jn : Rr.JN ρ σ t τ W n y) (g : Int) : wth τ σ (Rr.low τ n.parts.length).length (Rr.pscale n.parts g) = (g : F) * (Rr.val ρ y * (n.under : F)) := by
  have p0 := Rr.low_pit jn.ok.sub
  have ld := Rr.low_drop τ n.parts.length
  rw [jn.val, ← Rr.valp_low P jn.ok.sub]
  unfold wth
  rw [← Rr.valp_cst (P.drop _)]
  rw [ld] at p0
  rw [Rr.ofL_scale p0]
theorem sized {st : List Lk.Step} {M : Lk.Made} (hm : Lk.make st = .ok M) {F : Type} [Rr.OF F] {ρ σ : List F} {τ : List (List Int)} {ns : List Rr.PN} {ws : List Nat} {r : Nat} (hJ : JR F ρ σ M τ ns ws r) (hr3 : r ≤ 3) {W : Nat} {n : Rr.PN} {y : Lk.Num} {i : Nat} (hy : M.nums[i]? = some y) (jn : Rr.JN ρ σ M.t τ W n y)
    {X : Nat} (hX : X ≤ 2000) {G sd : Int} (g0 : 0 < G) (gX : G.natAbs ≤ 2 ^ X) (hs : sd = Lk.sign M.t y) :
    FoPre F (2 ^ 2318200) (2317160 + X) 13906000 (2055 + X) τ σ (Rr.low τ n.parts.length).length (Rr.pscale n.parts (sd * G)) n.under ∧
    (0 : F) ≤ (sd : F) * Rr.val ρ y ∧ (sd : F) * Rr.val ρ y ≤ (Rr.up 2055 : F) ∧
    ∀ z, Odd (wth τ σ (Rr.low τ n.parts.length).length (Rr.pscale n.parts (sd * G))) (n.under : F) z → Rr.Ev ((sd : F) * Rr.val ρ y * (G : F)) z ∧ 0 ≤ z ∧ z.natAbs ≤ 2 ^ (2056 + X) := by
  have up' : (0 : F) < (n.under : F) := jn.un
  obtain ⟨nb, _⟩ := Rr.num_near hm hJ.R hy
  unfold Rr.Wi at nb
  have es : sd = Rr.sg (Rr.val ρ y) := by rw [hs, Rr.sign_val hJ.R jn.fit]
  have s3 := Rr.sg_three (Rr.val ρ y)
  rw [← es] at s3
  have sa : sd.natAbs ≤ 1 := by rcases s3 with ⟨_, q⟩ | ⟨_, q⟩ | ⟨_, q⟩ <;> rw [q] <;> decide
  have a01 : (0 : F) ≤ (sd : F) * Rr.val ρ y ∧ (sd : F) * Rr.val ρ y ≤ (Rr.up 2055 : F) := by
    show _ ∧ _ ≤ (((2 ^ 2055 : Nat) : Int) : F)
    generalize (((2 ^ 2055 : Nat) : Int) : F) = b at *
    generalize Rr.val ρ y = v at *
    rcases s3 with ⟨q, e⟩ | ⟨q, e⟩ | ⟨q, e⟩
    · rw [e, Rr.ic_neg, Rr.ic_one]
      constructor <;> grind
    · rw [e, Rr.ic_zero]
      constructor <;> grind
    · rw [e, Rr.ic_one]
      constructor <;> grind
  obtain ⟨a0, a1⟩ := a01
  have ws' := wth_scale hJ.P jn (sd * G)
  have we : wth τ σ (Rr.low τ n.parts.length).length (Rr.pscale n.parts (sd * G)) = (sd : F) * Rr.val ρ y * (G : F) * (n.under : F) := by
    rw [ws', Rr.ic_mul]
    grind
  have gF : (0 : F) < (G : F) := Rr.ic_ps g0
  have gU : (G : F) ≤ (Rr.up X : F) := Rr.ic_le (by show G ≤ ((2 ^ X : Nat) : Int); omega)
  have pX : (Rr.up (2055 + X) : F) = (Rr.up 2055 : F) * (Rr.up X : F) := by rw [Rr.up_add, Rr.ic_mul]
  have q0 : (0 : F) ≤ (sd : F) * Rr.val ρ y * (G : F) := Rr.mul_nn a0 (by grind)
  have q1 : (sd : F) * Rr.val ρ y * (G : F) ≤ (Rr.up (2055 + X) : F) := by
    rw [pX]
    have m1 := Rr.mul_nn (show (0 : F) ≤ (Rr.up 2055 : F) - (sd : F) * Rr.val ρ y by grind) (show (0 : F) ≤ (G : F) by grind)
    have m2 := Rr.mul_nn (show (0 : F) ≤ (Rr.up 2055 : F) by have := Rr.upF_pos (F := F) 2055; grind) (show (0 : F) ≤ (Rr.up X : F) - (G : F) by grind)
    generalize (Rr.up 2055 : F) = b at *
    generalize (Rr.up X : F) = c at *
    generalize (sd : F) * Rr.val ρ y = v at *
    grind
  refine ⟨fo_pre hm hJ hr3 hy jn (X := X) (Kb := 2055 + X) hX ⟨sd * G, rfl, ?_⟩ ?_ ?_ (by omega), a0, a1, fun z hz => ?_⟩
  · rw [Int.natAbs_mul]
    have := Nat.mul_le_mul sa gX
    omega
  · rw [we]
    show -(Rr.up (2055 + X) : F) * _ ≤ _
    have u := Rr.upF_pos (F := F) (2055 + X)
    have := Rr.mul_nn (show (0 : F) ≤ (sd : F) * Rr.val ρ y * (G : F) + (Rr.up (2055 + X) : F) by grind) (show (0 : F) ≤ (n.under : F) by grind)
    generalize (Rr.up (2055 + X) : F) = b at *
    generalize (sd : F) * Rr.val ρ y * (G : F) = v at *
    grind
  · rw [we]
    show _ ≤ (Rr.up (2055 + X) : F) * _
    have := Rr.mul_nn (show (0 : F) ≤ (Rr.up (2055 + X) : F) - (sd : F) * Rr.val ρ y * (G : F) by grind) (show (0 : F) ≤ (n.under : F) by grind)
    generalize (Rr.up (2055 + X) : F) = b at *
    generalize (sd : F) * Rr.val ρ y * (G : F) = v at *
    grind
  · obtain ⟨f, h1, h2, h3⟩ := hz
    rw [we] at h1 h2 h3
    obtain ⟨fl, f0, ev⟩ := Rr.odd_ev up' q0 h1 h2 (z := z) (by
      rcases h3 with ⟨a, b⟩ | ⟨a, b⟩
      · exact .inl ⟨a, b⟩
      · exact .inr ⟨a, fun c => by rw [b]; exact or_one c⟩)
    have fb : f ≤ Rr.up (2055 + X) := Rr.ic_le_iff.mp (show (f : F) ≤ (Rr.up (2055 + X) : F) by have := fl.1; grind)
    have zf : z = f ∨ z = 2 * (f / 2) + 1 := by
      rcases h3 with ⟨_, b⟩ | ⟨_, b⟩
      · exact .inl b
      · exact .inr (by rw [b]; exact or_one f0)
    refine ⟨ev, by omega, ?_⟩
    have e : 2 ^ (2056 + X) = 2 * 2 ^ (2055 + X) := by rw [show 2056 + X = (2055 + X) + 1 by omega, Nat.pow_succ]; omega
    have := Rr.two_pos (2055 + X)
    have fb' : f ≤ ((2 ^ (2055 + X) : Nat) : Int) := fb
    omega
/-- a row's number at x, with its roots at d -/
def RowNum (C : Addr) (H : Hp) (x d : Addr) (M : Lk.Made) (y : Lk.Num) : Prop := ∃ (st : List Lk.Step) (F : Type) (_ : Rr.OF F) (ρ σ : List F) (τ : List (List Int)) (ns : List Rr.PN) (ws : List Nat) (r W i : Nat) (n : Rr.PN), Lk.make st = .ok M ∧ JR F ρ σ M τ ns ws r ∧ r ≤ 3 ∧ M.nums[i]? = some y ∧ Rr.JN ρ σ M.t τ W n y ∧ NAt C H x n ∧ RFul H d τ
end Wk
end
section
set_option Elab.async false
set_option linter.all false
set_option maxRecDepth 100000
set_option maxHeartbeats 2000000
namespace Wk
open PySem PySem.Spec PyProof.Rows L2
abbrev sDblOf : Stmt := top 40
section
variable {P : Program} {w : World} {K : PySem.W.Frag} {mg : Str → Option Value} {base : Heap}
def spDblOf (C : Addr) : Sp := fun vs H Q _ => ∃ (mode : Nat) (x d : Addr) (M : Lk.Made) (y : Lk.Num), vs = [.int mode, .ref x, .ref d] ∧ mode ≤ 3 ∧ RowNum C H x d M y ∧ ∀ H' : Hp, Same H H' → Q (.int ((Lk.doubleBits (Lk.double.round mode M.t y) : Nat) : Int)) H'
theorem scDblOf : FnScope ["mode", "x", "roots", "side", "u", "size"] ["mode", "x", "roots"] (defScope sDblOf) := ⟨rfl, rfl, rfl, by decide +kernel, rfl, by decide +kernel, by decide +kernel⟩
theorem ok_dblof {C : Addr} {B : Nat} (hB : Big B) (T : Blt mg) (Nn : NCl P w K mg base C) (D : Cd mg) (sg : Dn P w K mg base "sign_of" 7 ["x", "roots"] (spSignOf C B)) (sc : Dn P w K mg base "scaled" 1 ["parts", "factor"] spScaled) (wd : Dn P w K mg base "widened" 1 ["parts", "size"] spWidened) (of : Dn P w K mg base "odd_floor_over" 38 ["u", "v", "roots"] spOddF) (sb : Dn P w K mg base "size_bits" 2 ["mode", "size"] spSizeBits) (mo : Dn P w K mg base "mode_of_size" 1 ["mode"] spModeOf) (d : Df K mg "double_of" sDblOf ["mode", "x", "roots"]) :
    Dn P w K mg base "double_of" 39 ["mode", "x", "roots"] (spDblOf C) := by
  refine d.dn scDblOf (fun vs H Q E h => ?_) (fun f cdv A outer s H vs Q E hr h => ?_)
  · obtain ⟨mode, x, d, M, y, rfl, _⟩ := h
    rfl
  · obtain ⟨mode, x, d, M, y, rfl, hmode, ⟨st, F, iF, ρ, σ, τ, ns, ws, r, W, i, n, hm, hJ, hr3, hy, jn, ⟨dx, pa, hx, hp⟩, hd⟩, k⟩ := h
    have hr1 : Room 1 _ := hr.mono (by omega)
    have hr2 : Room 2 _ := hr.mono (by omega)
    have hr7 : Room 7 _ := hr.mono (by omega)
    refine ⟨_, pss_cons (ps_set (i := 3) scDblOf.nd rfl (Or.inl rfl) (pe_cd sg hr7 (by rfl) (pa_cons (pv 1) (pa_cons (pv 2) pa_nil))))
      (pss_cons (ps_set (i := 4) scDblOf.nd rfl (Or.inl rfl) (pe_cd sc hr1 (by rfl) (pa_cons (pe_fld (pv 1) rfl) (pa_cons (pe_op op_shlB (pv 3) (pe_k D.behind (by rfl))) pa_nil))))
      (pss_cons (ps_set (i := 5) scDblOf.nd rfl (Or.inl rfl) (pe_cd of hr (by rfl) (pa_cons (pv 4) (pa_cons (pe_cd wd hr1 (by rfl) (pa_cons (pe_lst (pa_cons (pe_fld (pv 1) rfl) pa_nil)) (pa_cons (pe_callB call_len_seq (by rfl) T.len PySem.boot_len (pa_cons (pv 4) pa_nil)) pa_nil))) (pa_cons (pv 2) pa_nil)))))
      (pss_cons (ps_if (pt_cmpR op_lt (pv 3) pe_int (nomark _)) (pss_one (ps_ret (pe_op op_add (pe_k D.neg (by rfl)) (pe_cd sb hr2 (by rfl) (pa_cons (pe_cd mo hr1 (by rfl) (pa_cons (pv 0) pa_nil)) (pa_cons (pv 5) pa_nil)))))) pss_nil)
      (pss_one (ps_ret (pe_cd sb hr2 (by rfl) (pa_cons (pv 0) (pa_cons (pv 5) pa_nil)))))))), ?_⟩
    have hτ : τ.length ≤ 3 := Nat.le_trans hJ.tr hr3
    have lp := sub_len jn.ok.sub hτ
    have ps := JN.sgpre hB hτ jn
    have R' := Rr.PRoots.rts hJ.P
    have cr := jn.sz.cr
    refine ⟨_, rfl, _, rfl, x, d, n, Rr.low τ n.parts.length, rfl, ⟨dx, pa, hx, hp⟩, hd.at.low _, Nat.le_trans (Rr.low_length _ _) hτ, Rr.low_rts _ R', Rr.low_pit ps.sub, ps.sg, fun H1 s1 => ?_⟩
    have e1 : Rr.psign (Rr.low τ n.parts.length) n.parts = Lk.sign M.t y := JN.psg hJ.R hJ.P jn
    rw [e1]
    generalize hsd : Lk.sign M.t y = sd at *
    have es : sd = Rr.sg (Rr.val ρ y) := by rw [← hsd, Rr.sign_val hJ.R jn.fit]
    have sa : sd.natAbs ≤ 2 ^ 0 := by
      have s3 := Rr.sg_three (Rr.val ρ y)
      rw [← es] at s3
      rcases s3 with ⟨_, q⟩ | ⟨_, q⟩ | ⟨_, q⟩ <;> rw [q] <;> decide
    obtain ⟨fp, a0, a1, ev⟩ := sized hm hJ hr3 hy jn (X := 1076) (by decide) (G := Rr.up 1076) (sd := sd) (Rr.up_pos _) (Nat.le_of_eq (Int.natAbs_natCast _)) hsd.symm
    have e2 : sd * 2 ^ ((1076 : Int)).toNat = sd * Rr.up 1076 := by rw [show (1076 : Int) = ((1076 : Nat) : Int) from rfl, two_up]
    have gb : (sd * Rr.up 1076).natAbs ≤ 2 ^ 1076 := by
      rw [Int.natAbs_mul]
      have := Nat.mul_le_mul sa (Nat.le_of_eq (Int.natAbs_natCast (2 ^ 1076)))
      rw [Nat.pow_zero, Nat.one_mul] at this
      exact this
    refine ⟨_, rfl, x, C, dx, _, _, rfl, s1 _ _ hx, Nn.cl, Nn.nP, nf_parts _ _, _, rfl, _, _, rfl, rfl, ⟨by decide, ?_⟩, pa, n.parts, sd * Rr.up 1076, ?_, s1 _ _ hp, by omega, fun c hc => ?_, fun H2 p2 s2 g2 => ?_⟩
    · have := bits_of sa
      omega
    · show [V.ref pa, V.int (sd * 2 ^ ((1076 : Int)).toNat)] = _
      rw [e2]
    · exact mul_bits (Nat.le_trans (Rr.part_le jn.ok.sub c hc) cr.nm) gb (by decide)
    have s12 := s1.trans s2
    have lps : (Rr.pscale n.parts (sd * Rr.up 1076)).length = n.parts.length := by unfold Rr.pscale; rw [List.length_map]
    refine ⟨_, rfl, _, rfl, x, C, dx, _, _, rfl, s12 _ _ hx, Nn.cl, Nn.nU, nf_under _ _, (by show 1 ≤ sizeLine; decide), fun q1 hq1 => ?_⟩
    have t2 := same_new (o := .lst [V.int n.under]) hq1
    refine ⟨_, rfl, p2, _, rfl, .inl (SqL.of (t2 _ _ g2)), q1, [n.under], n.parts.length, ?_, upd_same, (by show 1 ≤ 100; decide), by omega, fun H3 q3 s3 g3 => ?_⟩
    · show [V.ref q1, V.int ((((Rr.pscale n.parts (sd * Rr.up 1076)).map V.int).length : Nat) : Int)] = _
      rw [List.length_map, lps]
    have t13 := t2.trans s3
    refine ⟨_, rfl, p2, q3, d, _, _, _, _, _, F, iF, τ, σ, Rr.pscale n.parts (sd * Rr.up 1076), n.under, rfl, t13 _ _ g2, (by rw [lps]; exact g3), (hd.same s12).same t13, fp, fun H4 z s4 oz => ?_⟩
    have sf := (s12.trans t13).trans s4
    obtain ⟨evz, z0, zb⟩ := ev z oz
    have zb' : z.natAbs ≤ 2 ^ 100000 := Nat.le_trans zb (Rr.two_le (by decide))
    refine ⟨_, rfl, _, _, rfl, rfl, _, rfl, ite2 (fun c => ?_) (fun c => ?_)⟩
    · have c1 : sd < 0 := of_decide_eq_true c
      have v0 : Rr.val ρ y < 0 := by rw [es] at c1; exact Rr.sg_neg_iff.mp c1
      have e3 : sd = -1 := by rw [es, Rr.sg_ng v0]
      have ea : (sd : F) * Rr.val ρ y = -Rr.val ρ y := by rw [e3, Rr.ic_neg, Rr.ic_one]; grind
      refine ⟨_, rfl, mode, rfl, _, rfl, Rr.turned mode, z, rfl, z0, zb', fun s h1 h2 => ?_⟩
      refine ⟨_, _, rfl, rfl, ?_⟩
      rw [ea] at evz a1
      have rk := Rr.round_ok hJ.R jn.fit (neg := true) (@decide_eq_true _ (Classical.propDecidable _) v0).symm (y := -Rr.val ρ y) (by rw [if_pos rfl]) a1 z0 evz h1 h2 hmode
      rw [if_pos rfl, if_pos rfl] at rk
      have kk := k _ sf
      rw [rk] at kk
      exact kk
    · have c1 : ¬ sd < 0 := fun z => c (decide_eq_true z)
      have v0 : ¬ Rr.val ρ y < 0 := fun q => by rw [es] at c1; exact c1 (Rr.sg_neg_iff.mpr q)
      have ea : (sd : F) * Rr.val ρ y = Rr.val ρ y := by
        rcases (show Rr.val ρ y = 0 ∨ 0 < Rr.val ρ y by grind) with q | q
        · rw [q]
          grind
        · rw [es, Rr.sg_ps q, Rr.ic_one]
          grind
      refine ⟨_, rfl, _, rfl, mode, z, rfl, z0, zb', fun s h1 h2 => ?_⟩
      rw [ea] at evz a1
      have rk := Rr.round_ok hJ.R jn.fit (neg := false) (@decide_eq_false _ (Classical.propDecidable _) v0).symm (y := Rr.val ρ y) (by rw [if_neg (by decide)]) a1 z0 evz h1 h2 hmode
      rw [if_neg (by decide), if_neg (by decide), Int.zero_add] at rk
      have kk := k _ sf
      rw [rk] at kk
      exact kk
end
end Wk
end
section
set_option Elab.async false
set_option linter.all false
set_option maxRecDepth 100000
set_option maxHeartbeats 2000000
namespace Wk
open PySem PySem.Spec PyProof.Rows L2
open PySem.W (Codec)
abbrev sDouble : Stmt := top 62
section
variable {P : Program} {w : World} {K : PySem.W.Frag} {mg : Str → Option Value} {base : Heap}
def spDouble (K : PySem.W.Frag) : Sp := fun vs H Q _ => ∃ (a : Addr) (mode : Nat) (st : List Lk.Step), vs = [.int mode, .ref a] ∧ SqL K H a ((st.map q4).flatten.map V.int) ∧ st.length ≤ 100 ∧ ∀ (H' : Hp) (p : Addr), IL H' p (LkANeutral.shown (LkA.answer (.double st mode))) → Q (.ref p) H'
theorem scDouble : FnScope ["mode", "p", "row"] ["mode", "p"] (defScope sDouble) := ⟨rfl, rfl, rfl, by decide +kernel, rfl, by decide +kernel, by decide +kernel⟩
theorem ok_double {C R : Addr} {f : Addr} {fd : FuncData} (LM : ∃ t, mg "LAST_MODE" = some (.int 3 t)) (Nn : NCl P w K mg base C) (N : RCl P w K mg base R) (ro : Dn P w K mg base "row_of" 42 ["p"] (spRowOf K C R)) (db : Dn P w K mg base "double_of" 39 ["mode", "x", "roots"] (spDblOf C)) (F : Fun K "double" "double" sDouble f fd) :
    FnOk P w K mg base CX0 43 f fd ["mode", "p"] (spDouble K) := by
  refine F.ok scDouble (fun vs H Q E h => ?_) (fun cdv A outer s H vs Q E hr h => ?_)
  · obtain ⟨a, mode, st, rfl, _⟩ := h
    rfl
  · obtain ⟨a, mode, st, rfl, ha, hl, k⟩ := h
    have hr39 : Room 39 _ := hr.mono (by omega)
    refine ⟨_, pss_cons (ps_set (i := 2) scDouble.nd rfl (Or.inl rfl) (pe_cd ro hr (by rfl) (pa_cons (pv 1) pa_nil)))
      (pss_cons (ps_if (pt_cmpR (op_neD hr.units) (pe_fld (pv 2) rfl) (pe_lst pa_nil) (nomark _)) (pss_one (ps_ret (pe_fld (pv 2) rfl))) pss_nil)
      (pss_cons (ps_if (pt_cmpR op_gt (pv 0) (pe_k LM (by rfl)) (nomark _)) (pss_one (ps_ret (pe_lst (pa_cons (pe_un un_neg pe_int) pa_nil)))) pss_nil)
      (pss_one (ps_ret (pe_lst (pa_cons pe_int (pa_cons pe_int (pa_cons (pe_cd db hr39 (by rfl) (pa_cons (pv 0) (pa_cons (pe_ix ix_list (pe_fld (pv 2) rfl) (pe_un un_neg pe_int) (fun _ _ => rfl)) (pa_cons (pe_fld (pv 2) rfl) pa_nil)))) pa_nil)))))))), ?_⟩
    refine ⟨_, rfl, a, st, rfl, ha, hl, fun H1 x s1 g1 => ?_⟩
    obtain ⟨dx, pf, pn, pr, hx, g1⟩ := g1
    refine ⟨_, rfl, x, R, dx, _, _, rfl, hx, N.cl, N.n1, rf_ref _ _ _, Nat.zero_le _, fun e0 he0 => ?_⟩
    have t1 := same_new (o := .lst []) he0
    have he : SqL K (upd H1 e0 (.lst [])) e0 [] := SqL.of upd_same
    unfold LkA.answer LkA.ofRow at k
    dsimp only at k
    cases hm : Lk.make st with
    | error e =>
      rw [hm] at g1 k
      dsimp only at g1 k
      rcases shown_two e with q | ⟨b1, b2, b3, q⟩
      · refine ⟨.list [.int (-7)], .list [], .lst (SqL.of (t1 _ _ g1)) (by rw [q]; exact .cons (.int _) .nil), .lst he .nil, shaped1 _, shaped0, _, rfl, ite2 (fun _ => ?_) (fun c => absurd rfl c)⟩
        exact ⟨_, rfl, x, R, dx, _, _, rfl, t1 _ _ hx, N.cl, N.n1, rf_ref _ _ _, k _ _ (t1 _ _ g1)⟩
      · refine ⟨.list [.int b1, .int b2, .int b3], .list [], .lst (SqL.of (t1 _ _ g1)) (by rw [q]; exact .cons (.int _) (.cons (.int _) (.cons (.int _) .nil))), .lst he .nil, shaped3 _ _ _, shaped0, _, rfl, ite2 (fun _ => ?_) (fun c => absurd rfl c)⟩
        exact ⟨_, rfl, x, R, dx, _, _, rfl, t1 _ _ hx, N.cl, N.n1, rf_ref _ _ _, k _ _ (t1 _ _ g1)⟩
    | ok M =>
      rw [hm] at g1 k
      dsimp only at g1 k
      obtain ⟨gf, τ, ns, ws, r, hns, hrt, J, hr3⟩ := g1
      obtain ⟨jR, jw, jm, jt, jp⟩ := J.parts
      obtain ⟨m1, m2⟩ := make_ok hm
      have hsl : 0 < st.length := List.length_pos_iff.mpr m1
      refine ⟨.list [], .list [], .lst (SqL.of (t1 _ _ gf)) .nil, .lst he .nil, shaped0, shaped0, _, rfl, ite2 (fun c => absurd c (by decide)) (fun _ => ?_)⟩
      refine ⟨_, rfl, _, _, rfl, rfl, _, rfl, ite2 (fun c => ?_) (fun c => ?_)⟩
      · have c1 : (3 : Int) < (mode : Int) := of_decide_eq_true c
        rw [if_pos (show 3 < mode by omega)] at k
        refine ⟨_, rfl, (by show 1 ≤ sizeLine; decide), fun p hp => ?_⟩
        refine k _ p ?_
        show upd _ p _ p = _
        rw [upd_same]
        rfl
      have c1 : ¬ 3 < mode := fun z => c (decide_eq_true (show (3 : Int) < (mode : Int) by omega))
      rw [if_neg c1] at k
      obtain ⟨F', iF, ρ, σ, hJ⟩ := J
      obtain ⟨n, y, W, n1, y1, w1, ny, _, jn⟩ := hJ.at (j := ns.length - 1) (by omega)
      obtain ⟨xs, hxs, hxl, hxn⟩ := hns.same t1
      obtain ⟨xm, xz, exs⟩ := last_at (l := xs) (fun q => by rw [q] at hxl; simp at hxl; omega)
      have exl : xm.length = ns.length - 1 := by
        rw [exs, List.length_append] at hxl
        simp at hxl
        omega
      have nz := hxn (ns.length - 1) xz n (by rw [exs, ← exl, List.getElem?_append_right (Nat.le_refl _), Nat.sub_self]; rfl) n1
      have hx1 := t1 _ _ hx
      refine ⟨_, rfl, _, rfl, x, R, dx, _, _, rfl, hx1, N.cl, N.n2, rf_num _ _ _, _, rfl, pn, _, _, _, rfl, rfl, SqL.of hxs, (by rw [exs, List.map_append]; exact atI_last _ _), _, rfl, x, R, dx, _, _, rfl, hx1, N.cl, N.n3, rf_roots _ _ _, mode, xz, pr, M, y, rfl, by omega, ⟨st, F', iF, ρ, σ, τ, ns, ws, r, W, _, n, hm, hJ, hr3, y1, jn, nz, hrt.same t1⟩, fun H4 s4 => ?_⟩
      refine ⟨(by show 3 ≤ sizeLine; decide), fun p hp => ?_⟩
      refine k _ p ?_
      show upd _ p _ p = _
      rw [upd_same]
      unfold LkA.last
      rw [jm, ny]
      rfl
theorem double_is {p : List Int} {i : Int} {st : List Lk.Step} (hi : 0 ≤ i) (h : LkANeutral.stepsOf p = some st) : PyWqapbq.double i p = LkANeutral.shown (LkA.answer (.double st i.toNat)) := by
  have e : LkANeutral.callOf [[3, i], p] = if LkANeutral.whole [i] = true then (LkANeutral.stepsOf p).map (fun (l : List Lk.Step) => .double l i.toNat) else none := rfl
  unfold PyWqapbq.double LkANeutral.step
  rw [e, h, if_pos (by unfold LkANeutral.whole; simp [hi])]
  rfl
end
/-- what the text of doubles.py has written -/
structure Td (K : PySem.W.Frag) (mg : Str → Option Value) : Prop where
  cd : Cd mg
  last : ∃ t, mg "LAST_MODE" = some (.int 3 t)
  d_odd_floor_over : Df K mg "odd_floor_over" sOddF ["u", "v", "roots"]
  d_double_of : Df K mg "double_of" sDblOf ["mode", "x", "roots"]
  d_mode_of_size : Df K mg "mode_of_size" sModeOf ["mode"]
  d_size_bits : Df K mg "size_bits" sSizeBits ["mode", "size"]
  d_goes_up : Df K mg "goes_up" sGoesUp ["mode", "kept", "rest", "middle"]
/-- the row's def, from all of it -/
theorem fin_mk {P : Program} {w : World} {K : PySem.W.Frag} {h : Heap} {mg : Str → Option Value} {fa f C R : Addr} {oc : Value} {od an : Option Addr} {osl : Array (Option Value)} {kV doc pm cdv ct : Value} (X : K.In h) (G : h.Ns mainGlobals mg) (htr : P.given.tree = none) (hfa : mg "double" = some (.ref fa)) (T : Tx K mg C R) (Nr : Tn K mg) (Nd : Td K mg)
    (a : PySem.W.nsIn K mainGlobals "double" = some (some (.ref f))) (l : K.lookup f = some ⟨oc, od, .func (PySem.W.fnOf "double" "double" (defArgs sDouble) (defBody sDouble) (defScope sDouble) .none kV doc pm an cdv ct), osl⟩) (c : PySem.W.codeIn K cdv "double" = true) (k : PySem.W.keepIn K (.ref f) = true) :
    ∃ fd : FuncData, (∀ (s : Shared) (us : List Value), us.length = (["mode", "p"] : List Str).length → BindsTo s fd ⟨us, []⟩ ((["mode", "p"] : List Str).zip us)) ∧ ∀ base : Heap, K.In base → base.Ns mainGlobals mg → base.NoSeer → base.NoDigits → FnOk P w K mg base CX0 43 fa fd ["mode", "p"] (spDouble K) := by
  have e := hfa.symm.trans (PySem.W.mg_of X G a)
  cases e
  exact ⟨PySem.W.fnOf "double" "double" (defArgs sDouble) (defBody sDouble) (defScope sDouble) .none kV doc pm an cdv ct, fun s us hu => match us, hu with | [_, _], _ => .of_eq rfl, fun base _ _ hse _ => by
    obtain ⟨B, hB, hG⟩ := top_ex
    have r := rows_ok (P := P) (w := w) hB hG T hse htr
    have no := near_ok hB T Nr r hse htr
    have od := ok_oddf hB no.1 no.2 (r.psn 3 (by decide)) Nd.d_odd_floor_over
    have gu := ok_goesup (P := P) (w := w) (base := base) Nd.cd Nd.d_goes_up
    have mo := ok_modeof (P := P) (w := w) (base := base) Nd.cd Nd.d_mode_of_size
    have sb := ok_sizebits T.blt Nd.cd gu Nd.d_size_bits
    have db := ok_dblof hB T.blt T.ncl Nd.cd r.sgn r.scl r.wdn od sb mo Nd.d_double_of
    exact ok_double Nd.last T.ncl T.rcl r.row db (fun_mk (st := sDouble) l c k)⟩
end Wk
/-- taken names: the head's tactic lays no twin where its name is taken (those twins' equations are most of the compiled size) -/
def PySem.W.Fast.tw11723208084747544937 : Unit := ()
def PySem.W.Fast.tw15336642642234878563 : Unit := ()
def PySem.W.Fast.tw13146078563461849194 : Unit := ()
def PySem.W.Fast.tw12189523518636294505 : Unit := ()
def PySem.W.Fast.tw13599180575148426113 : Unit := ()
def PySem.W.Fast.tw14781373043617463161 : Unit := ()
def PySem.W.Fast.tw16367835182265023458 : Unit := ()
def PySem.W.Fast.tw15887180832794076221 : Unit := ()
def PySem.W.Fast.tw13869096134366517574 : Unit := ()
def PySem.W.Fast.tw9579657735176252541 : Unit := ()
def PySem.W.Fast.tw2919297478831429782 : Unit := ()
def PySem.W.Fast.tw3894410280966823537 : Unit := ()
open PySem PySem.W PyProof.Rows
set_option maxRecDepth 100000 in
set_option maxHeartbeats 0 in
theorem PySem.Challenge.cw_ruledroots_s04_double_holds : PySem.Challenge.rw_ruledroots_s04_double.Holds := by
  w_on; k_headS; (case hw => exact ⟨[.int 0, .list []], by decide +kernel, by decide +kernel⟩)
  k_fillS
  refine L2.walk_specK (r := PySem.Challenge.rw_ruledroots_s04_double) (k := 43) (CX := L2.CX0) (ps := ["mode", "p"]) (sp := Wk.spDouble) (by decide +kernel) (by decide +kernel) rfl rfl ⟨rfl, by decide, by decide⟩ (fun w h Y => PySem.W.kIn_of Y) ?F ?S (fun _ _ _ _ z => z)
  case F =>
    intro w mg fa h Y KX G hmg
    have B : Wk.Blt mg := ⟨PySem.W.mg_none_of KX G (by k_is), PySem.W.mg_none_of KX G (by k_is), PySem.W.mg_none_of KX G (by k_is), PySem.W.mg_none_of KX G (by k_is), PySem.W.mg_none_of KX G (by k_is)⟩
    have Q : Wk.Cst mg := by
      refine' ⟨Wk.k_mk KX G ?q1, Wk.k_mk KX G ?q2, Wk.k_mk KX G ?q3, Wk.k_mk KX G ?q4, Wk.k_mk KX G ?q5, Wk.k_mk KX G ?q6, Wk.k_mk KX G ?q7, Wk.k_mk KX G ?q8, Wk.k_mk KX G ?q9, Wk.k_mk KX G ?q10, Wk.k_mk KX G ?q11⟩
      (case q1 => k_is); (case q2 => k_is); (case q3 => k_is); (case q4 => k_is); (case q5 => k_is); (case q6 => k_is); (case q7 => k_is); (case q8 => k_is); (case q9 => k_is); (case q10 => k_is); (case q11 => k_is)
    have CN : ∃ C, Wk.CF (L2.KOf KX) mg "Number" "Number.__init__" Wk.sNInit ["self", "parts", "under"] C ∧ L2.NoAttr (L2.KOf KX) C "parts" ∧ L2.NoAttr (L2.KOf KX) C "under" := by
      dsimp only [L2.KOf]
      refine' ⟨_, Wk.cf_mk KX G ?aC ?a ?i ?l ?c ?k ?pg ?hd ?po ?sa ?mk ?kc (fun _ _ _ _ _ _ us hl => match us, hl with | [_, _, _], _ => rfl), ?n1, ?n2⟩
      (case aC => k_is); (case a => k_is); (case i => k_is); (case l => k_is); (case c => k_is); (case k => k_is); (case pg => k_is); (case hd => k_is); (case po => k_is); (case sa => k_is); (case mk => k_is); (case kc => k_is); (case n1 => unfold L2.NoAttr; k_is); (case n2 => unfold L2.NoAttr; k_is)
    have CR : ∃ R, Wk.CF (L2.KOf KX) mg "Row" "Row.__init__" Wk.sRInit ["self", "refusal", "numbers", "roots"] R ∧ L2.NoAttr (L2.KOf KX) R "refusal" ∧ L2.NoAttr (L2.KOf KX) R "numbers" ∧ L2.NoAttr (L2.KOf KX) R "roots" := by
      dsimp only [L2.KOf]
      refine' ⟨_, Wk.cf_mk KX G ?aC ?a ?i ?l ?c ?k ?pg ?hd ?po ?sa ?mk ?kc (fun _ _ _ _ _ _ us hl => match us, hl with | [_, _, _, _], _ => rfl), ?n1, ?n2, ?n3⟩
      (case aC => k_is); (case a => k_is); (case i => k_is); (case l => k_is); (case c => k_is); (case k => k_is); (case pg => k_is); (case hd => k_is); (case po => k_is); (case sa => k_is); (case mk => k_is); (case kc => k_is); (case n1 => unfold L2.NoAttr; k_is); (case n2 => unfold L2.NoAttr; k_is); (case n3 => unfold L2.NoAttr; k_is)
    obtain ⟨C, hC, hP, hU⟩ := CN
    obtain ⟨R, hR, h1, h2, h3⟩ := CR
    have D_whole : Wk.Df (L2.KOf KX) mg "whole" Wk.sWhole ["v"] := by
      dsimp only [L2.KOf]
      refine' Wk.df_mk KX G ?a ?l ?c ?k (fun _ _ _ _ _ _ us hl => match us, hl with | [_], _ => rfl)
      (case a => k_is); (case l => k_is); (case c => k_is); (case k => k_is)
    have D_common_divisor : Wk.Df (L2.KOf KX) mg "common_divisor" Wk.sGcd ["m", "n"] := by
      dsimp only [L2.KOf]
      refine' Wk.df_mk KX G ?a ?l ?c ?k (fun _ _ _ _ _ _ us hl => match us, hl with | [_, _], _ => rfl)
      (case a => k_is); (case l => k_is); (case c => k_is); (case k => k_is)
    have D_reduced : Wk.Df (L2.KOf KX) mg "reduced" Wk.sReduced ["parts", "under"] := by
      dsimp only [L2.KOf]
      refine' Wk.df_mk KX G ?a ?l ?c ?k (fun _ _ _ _ _ _ us hl => match us, hl with | [_, _], _ => rfl)
      (case a => k_is); (case l => k_is); (case c => k_is); (case k => k_is)
    have D_widened : Wk.Df (L2.KOf KX) mg "widened" Wk.sWidened ["parts", "size"] := by
      dsimp only [L2.KOf]
      refine' Wk.df_mk KX G ?a ?l ?c ?k (fun _ _ _ _ _ _ us hl => match us, hl with | [_, _], _ => rfl)
      (case a => k_is); (case l => k_is); (case c => k_is); (case k => k_is)
    have D_scaled : Wk.Df (L2.KOf KX) mg "scaled" Wk.sScaled ["parts", "factor"] := by
      dsimp only [L2.KOf]
      refine' Wk.df_mk KX G ?a ?l ?c ?k (fun _ _ _ _ _ _ us hl => match us, hl with | [_, _], _ => rfl)
      (case a => k_is); (case l => k_is); (case c => k_is); (case k => k_is)
    have D_parts_sum : Wk.Df (L2.KOf KX) mg "parts_sum" Wk.sSum ["u", "v"] := by
      dsimp only [L2.KOf]
      refine' Wk.df_mk KX G ?a ?l ?c ?k (fun _ _ _ _ _ _ us hl => match us, hl with | [_, _], _ => rfl)
      (case a => k_is); (case l => k_is); (case c => k_is); (case k => k_is)
    have D_parts_product : Wk.Df (L2.KOf KX) mg "parts_product" Wk.sProd ["u", "v", "roots"] := by
      dsimp only [L2.KOf]
      refine' Wk.df_mk KX G ?a ?l ?c ?k (fun _ _ _ _ _ _ us hl => match us, hl with | [_, _, _], _ => rfl)
      (case a => k_is); (case l => k_is); (case c => k_is); (case k => k_is)
    have D_parts_norm : Wk.Df (L2.KOf KX) mg "parts_norm" Wk.sNorm ["parts", "roots"] := by
      dsimp only [L2.KOf]
      refine' Wk.df_mk KX G ?a ?l ?c ?k (fun _ _ _ _ _ _ us hl => match us, hl with | [_, _], _ => rfl)
      (case a => k_is); (case l => k_is); (case c => k_is); (case k => k_is)
    have D_whole_sign : Wk.Df (L2.KOf KX) mg "whole_sign" Wk.sWsign ["n"] := by
      dsimp only [L2.KOf]
      refine' Wk.df_mk KX G ?a ?l ?c ?k (fun _ _ _ _ _ _ us hl => match us, hl with | [_], _ => rfl)
      (case a => k_is); (case l => k_is); (case c => k_is); (case k => k_is)
    have D_parts_sign : Wk.Df (L2.KOf KX) mg "parts_sign" Wk.sPsign ["parts", "roots"] := by
      dsimp only [L2.KOf]
      refine' Wk.df_mk KX G ?a ?l ?c ?k (fun _ _ _ _ _ _ us hl => match us, hl with | [_, _], _ => rfl)
      (case a => k_is); (case l => k_is); (case c => k_is); (case k => k_is)
    have D_sign_of : Wk.Df (L2.KOf KX) mg "sign_of" Wk.sSignOf ["x", "roots"] := by
      dsimp only [L2.KOf]
      refine' Wk.df_mk KX G ?a ?l ?c ?k (fun _ _ _ _ _ _ us hl => match us, hl with | [_, _], _ => rfl)
      (case a => k_is); (case l => k_is); (case c => k_is); (case k => k_is)
    have D_plus : Wk.Df (L2.KOf KX) mg "plus" Wk.sPlus ["x", "y"] := by
      dsimp only [L2.KOf]
      refine' Wk.df_mk KX G ?a ?l ?c ?k (fun _ _ _ _ _ _ us hl => match us, hl with | [_, _], _ => rfl)
      (case a => k_is); (case l => k_is); (case c => k_is); (case k => k_is)
    have D_minus : Wk.Df (L2.KOf KX) mg "minus" Wk.sMinus ["x", "y"] := by
      dsimp only [L2.KOf]
      refine' Wk.df_mk KX G ?a ?l ?c ?k (fun _ _ _ _ _ _ us hl => match us, hl with | [_, _], _ => rfl)
      (case a => k_is); (case l => k_is); (case c => k_is); (case k => k_is)
    have D_times : Wk.Df (L2.KOf KX) mg "times" Wk.sTimes ["x", "y", "roots"] := by
      dsimp only [L2.KOf]
      refine' Wk.df_mk KX G ?a ?l ?c ?k (fun _ _ _ _ _ _ us hl => match us, hl with | [_, _, _], _ => rfl)
      (case a => k_is); (case l => k_is); (case c => k_is); (case k => k_is)
    have D_inverse : Wk.Df (L2.KOf KX) mg "inverse" Wk.sInverse ["x", "roots"] := by
      dsimp only [L2.KOf]
      refine' Wk.df_mk KX G ?a ?l ?c ?k (fun _ _ _ _ _ _ us hl => match us, hl with | [_, _], _ => rfl)
      (case a => k_is); (case l => k_is); (case c => k_is); (case k => k_is)
    have D_over : Wk.Df (L2.KOf KX) mg "over" Wk.sOver ["x", "y", "roots"] := by
      dsimp only [L2.KOf]
      refine' Wk.df_mk KX G ?a ?l ?c ?k (fun _ _ _ _ _ _ us hl => match us, hl with | [_, _, _], _ => rfl)
      (case a => k_is); (case l => k_is); (case c => k_is); (case k => k_is)
    have D_root : Wk.Df (L2.KOf KX) mg "root" Wk.sRoot ["x", "roots"] := by
      dsimp only [L2.KOf]
      refine' Wk.df_mk KX G ?a ?l ?c ?k (fun _ _ _ _ _ _ us hl => match us, hl with | [_, _], _ => rfl)
      (case a => k_is); (case l => k_is); (case c => k_is); (case k => k_is)
    have D_steps_of : Wk.Df (L2.KOf KX) mg "steps_of" Wk.sStepsOf ["p"] := by
      dsimp only [L2.KOf]
      refine' Wk.df_mk KX G ?a ?l ?c ?k (fun _ _ _ _ _ _ us hl => match us, hl with | [_], _ => rfl)
      (case a => k_is); (case l => k_is); (case c => k_is); (case k => k_is)
    have D_first_wrong : Wk.Df (L2.KOf KX) mg "first_wrong" Wk.sFirstWrong ["steps"] := by
      dsimp only [L2.KOf]
      refine' Wk.df_mk KX G ?a ?l ?c ?k (fun _ _ _ _ _ _ us hl => match us, hl with | [_], _ => rfl)
      (case a => k_is); (case l => k_is); (case c => k_is); (case k => k_is)
    have D_fields_wrong : Wk.Df (L2.KOf KX) mg "fields_wrong" Wk.sFieldsWrong ["step", "k"] := by
      dsimp only [L2.KOf]
      refine' Wk.df_mk KX G ?a ?l ?c ?k (fun _ _ _ _ _ _ us hl => match us, hl with | [_, _], _ => rfl)
      (case a => k_is); (case l => k_is); (case c => k_is); (case k => k_is)
    have D_weight_of : Wk.Df (L2.KOf KX) mg "weight_of" Wk.sWeightOf ["step", "weights"] := by
      dsimp only [L2.KOf]
      refine' Wk.df_mk KX G ?a ?l ?c ?k (fun _ _ _ _ _ _ us hl => match us, hl with | [_, _], _ => rfl)
      (case a => k_is); (case l => k_is); (case c => k_is); (case k => k_is)
    have D_row_of : Wk.Df (L2.KOf KX) mg "row_of" Wk.sRowOf ["p"] := by
      dsimp only [L2.KOf]
      refine' Wk.df_mk KX G ?a ?l ?c ?k (fun _ _ _ _ _ _ us hl => match us, hl with | [_], _ => rfl)
      (case a => k_is); (case l => k_is); (case c => k_is); (case k => k_is)
    have D_made : Wk.Df (L2.KOf KX) mg "made" Wk.sMade ["steps"] := by
      dsimp only [L2.KOf]
      refine' Wk.df_mk KX G ?a ?l ?c ?k (fun _ _ _ _ _ _ us hl => match us, hl with | [_], _ => rfl)
      (case a => k_is); (case l => k_is); (case c => k_is); (case k => k_is)
    have D_why_it_cannot_be : Wk.Df (L2.KOf KX) mg "why_it_cannot_be" Wk.sWhy ["step", "numbers", "roots"] := by
      dsimp only [L2.KOf]
      refine' Wk.df_mk KX G ?a ?l ?c ?k (fun _ _ _ _ _ _ us hl => match us, hl with | [_, _, _], _ => rfl)
      (case a => k_is); (case l => k_is); (case c => k_is); (case k => k_is)
    have D_number_of : Wk.Df (L2.KOf KX) mg "number_of" Wk.sNumberOf ["step", "numbers", "roots"] := by
      dsimp only [L2.KOf]
      refine' Wk.df_mk KX G ?a ?l ?c ?k (fun _ _ _ _ _ _ us hl => match us, hl with | [_, _, _], _ => rfl)
      (case a => k_is); (case l => k_is); (case c => k_is); (case k => k_is)
    have T : Wk.Tx (L2.KOf KX) mg C R := ⟨B, Q, hC, hP, hU, hR, h1, h2, h3, D_whole, D_common_divisor, D_reduced, D_widened, D_scaled, D_parts_sum, D_parts_product, D_parts_norm, D_whole_sign, D_parts_sign, D_sign_of, D_plus, D_minus, D_times, D_inverse, D_over, D_root, D_steps_of, D_first_wrong, D_fields_wrong, D_weight_of, D_row_of, D_made, D_why_it_cannot_be, D_number_of⟩
    have D_whole_root : Wk.Df (L2.KOf KX) mg "whole_root" Wk.sWroot ["n"] := by
      dsimp only [L2.KOf]
      refine' Wk.df_mk KX G ?a ?l ?c ?k (fun _ _ _ _ _ _ us hl => match us, hl with | [_], _ => rfl)
      (case a => k_is); (case l => k_is); (case c => k_is); (case k => k_is)
    have D_root_span : Wk.Df (L2.KOf KX) mg "root_span" Wk.sRspan ["span", "bits"] := by
      dsimp only [L2.KOf]
      refine' Wk.df_mk KX G ?a ?l ?c ?k (fun _ _ _ _ _ _ us hl => match us, hl with | [_, _], _ => rfl)
      (case a => k_is); (case l => k_is); (case c => k_is); (case k => k_is)
    have D_span_product : Wk.Df (L2.KOf KX) mg "span_product" Wk.sSprod ["span", "factor", "bits"] := by
      dsimp only [L2.KOf]
      refine' Wk.df_mk KX G ?a ?l ?c ?k (fun _ _ _ _ _ _ us hl => match us, hl with | [_, _, _], _ => rfl)
      (case a => k_is); (case l => k_is); (case c => k_is); (case k => k_is)
    have D_parts_span : Wk.Df (L2.KOf KX) mg "parts_span" Wk.sPspan ["parts", "spans", "bits"] := by
      dsimp only [L2.KOf]
      refine' Wk.df_mk KX G ?a ?l ?c ?k (fun _ _ _ _ _ _ us hl => match us, hl with | [_, _, _], _ => rfl)
      (case a => k_is); (case l => k_is); (case c => k_is); (case k => k_is)
    have D_root_spans : Wk.Df (L2.KOf KX) mg "root_spans" Wk.sRspans ["roots", "bits"] := by
      dsimp only [L2.KOf]
      refine' Wk.df_mk KX G ?a ?l ?c ?k (fun _ _ _ _ _ _ us hl => match us, hl with | [_, _], _ => rfl)
      (case a => k_is); (case l => k_is); (case c => k_is); (case k => k_is)
    have D_floor_ends : Wk.Df (L2.KOf KX) mg "floor_ends" Wk.sFends ["u", "v", "roots", "bits"] := by
      dsimp only [L2.KOf]
      refine' Wk.df_mk KX G ?a ?l ?c ?k (fun _ _ _ _ _ _ us hl => match us, hl with | [_, _, _, _], _ => rfl)
      (case a => k_is); (case l => k_is); (case c => k_is); (case k => k_is)
    have D_rest_of : Wk.Df (L2.KOf KX) mg "rest_of" Wk.sRestOf ["u", "v", "n"] := by
      dsimp only [L2.KOf]
      refine' Wk.df_mk KX G ?a ?l ?c ?k (fun _ _ _ _ _ _ us hl => match us, hl with | [_, _, _], _ => rfl)
      (case a => k_is); (case l => k_is); (case c => k_is); (case k => k_is)
    have D_floor_over : Wk.Df (L2.KOf KX) mg "floor_over" Wk.sFover ["u", "v", "roots"] := by
      dsimp only [L2.KOf]
      refine' Wk.df_mk KX G ?a ?l ?c ?k (fun _ _ _ _ _ _ us hl => match us, hl with | [_, _, _], _ => rfl)
      (case a => k_is); (case l => k_is); (case c => k_is); (case k => k_is)
    have NB : ∃ t, mg "FIRST_BITS" = some (.int 64 t) := by
      refine' Wk.k_mk KX G ?q1
      (case q1 => k_is)
    have Nr : Wk.Tn (L2.KOf KX) mg := ⟨PySem.W.mg_none_of KX G (by k_is), NB, D_whole_root, D_root_span, D_span_product, D_parts_span, D_root_spans, D_floor_ends, D_rest_of, D_floor_over⟩
    have D_odd_floor_over : Wk.Df (L2.KOf KX) mg "odd_floor_over" Wk.sOddF ["u", "v", "roots"] := by
      dsimp only [L2.KOf]
      refine' Wk.df_mk KX G ?a ?l ?c ?k (fun _ _ _ _ _ _ us hl => match us, hl with | [_, _, _], _ => rfl)
      (case a => k_is); (case l => k_is); (case c => k_is); (case k => k_is)
    have D_double_of : Wk.Df (L2.KOf KX) mg "double_of" Wk.sDblOf ["mode", "x", "roots"] := by
      dsimp only [L2.KOf]
      refine' Wk.df_mk KX G ?a ?l ?c ?k (fun _ _ _ _ _ _ us hl => match us, hl with | [_, _, _], _ => rfl)
      (case a => k_is); (case l => k_is); (case c => k_is); (case k => k_is)
    have D_mode_of_size : Wk.Df (L2.KOf KX) mg "mode_of_size" Wk.sModeOf ["mode"] := by
      dsimp only [L2.KOf]
      refine' Wk.df_mk KX G ?a ?l ?c ?k (fun _ _ _ _ _ _ us hl => match us, hl with | [_], _ => rfl)
      (case a => k_is); (case l => k_is); (case c => k_is); (case k => k_is)
    have D_size_bits : Wk.Df (L2.KOf KX) mg "size_bits" Wk.sSizeBits ["mode", "size"] := by
      dsimp only [L2.KOf]
      refine' Wk.df_mk KX G ?a ?l ?c ?k (fun _ _ _ _ _ _ us hl => match us, hl with | [_, _], _ => rfl)
      (case a => k_is); (case l => k_is); (case c => k_is); (case k => k_is)
    have D_goes_up : Wk.Df (L2.KOf KX) mg "goes_up" Wk.sGoesUp ["mode", "kept", "rest", "middle"] := by
      dsimp only [L2.KOf]
      refine' Wk.df_mk KX G ?a ?l ?c ?k (fun _ _ _ _ _ _ us hl => match us, hl with | [_, _, _, _], _ => rfl)
      (case a => k_is); (case l => k_is); (case c => k_is); (case k => k_is)
    have CD : Wk.Cd mg := by
      refine' ⟨Wk.k_mk KX G ?q1, Wk.k_mk KX G ?q2, Wk.k_mk KX G ?q3, Wk.k_mk KX G ?q4, Wk.k_mk KX G ?q5, Wk.k_mk KX G ?q6, Wk.k_mk KX G ?q7, Wk.k_mk KX G ?q8, Wk.k_mk KX G ?q9⟩
      (case q1 => k_is); (case q2 => k_is); (case q3 => k_is); (case q4 => k_is); (case q5 => k_is); (case q6 => k_is); (case q7 => k_is); (case q8 => k_is); (case q9 => k_is)
    have LM : ∃ t, mg "LAST_MODE" = some (.int 3 t) := by
      refine' Wk.k_mk KX G ?q1
      (case q1 => k_is)
    have Nd : Wk.Td (L2.KOf KX) mg := ⟨CD, LM, D_odd_floor_over, D_double_of, D_mode_of_size, D_size_bits, D_goes_up⟩
    refine' Wk.fin_mk KX G (by rfl) hmg T Nr Nd ?a ?l ?c ?k
    (case a => k_is); (case l => k_is); (case c => k_is); (case k => k_is)
  case S =>
    intro K H xs a hO hwi hask hx
    obtain ⟨i, p, u⟩ := a
    cases hx with
    | cons h1 h2 =>
      cases h2 with
      | cons h3 h4 =>
        cases h4
        cases h1
        cases h3 with
        | lst hs ha =>
          have e := L2.ints_dw p _ ha
          subst e
          have q : (Codec.inInt 0 9223372036854775807 i && ((Codec.inLen 0 160 p && p.all (Codec.inInt (-9223372036854775807) 9223372036854775807)) && true)) = true := hwi
          rw [Bool.and_eq_true, Bool.and_eq_true, Bool.and_eq_true] at q
          have hask' : ((LkANeutral.natural i 63 && LkANeutral.foursRight p) && true) = true := hask
          rw [Bool.and_eq_true, Bool.and_eq_true] at hask'
          unfold LkANeutral.natural at hask'
          rw [Bool.and_eq_true] at hask'
          have hi : 0 ≤ i := of_decide_eq_true hask'.1.1.1
          obtain ⟨st, e1, e2⟩ := Wk.fours p hask'.1.2
          have hlen := (Codec.inNat_iff.mp q.2.1.1).2
          have fl := Wk.flat_len st
          rw [e2] at fl
          refine ⟨_, i.toNat, st, by rw [Int.toNat_of_nonneg hi], ?_, by omega, fun H' p' hp => ?_⟩
          · rw [e2]
            exact hs
          · rw [← Wk.double_is hi e1] at hp
            exact .lst (L2.SqL.of hp) (L2.dw_ints _)
#print axioms PySem.Challenge.cw_ruledroots_s04_double_holds
end
