import PyProof.Rows.All
import Wide.All
import OpenK.AllK
import Wide.FinOn
import PyProof.EqAt
import PyProof.EqKinds
import PyProof.TupleCall
import KE.BitLaws
import Open.SpecLaws
import KE.OsHead
import KE.OsGo
import PySem.SetOps
import PyProof.SetScanFacts
import KE.KSortTupG
import KE.KSortTupAny
import PyProof.SetKind
import PyProof.Rows.SetFrom
import KE.KDictList
import KE.KSortTup
import PySem.Challenge.RW_turningthings_s05_same
set_option Elab.async false
set_option linter.all false
set_option maxRecDepth 100000
namespace L2
open PySem PySem.Spec PyProof.Rows
abbrev Key := Sum Int Str
def keyIs : Key → Value → Bool
  | .inl k, v => Value.isInt k v
  | .inr x, v => Value.isStrOf x v
def keyH (w : World) : Key → Int
  | .inl k => hashInt k
  | .inr x => hashStr w x
theorem keyIs_shape : ∀ {k : Key} {v : Value}, keyIs k v = true → (∃ i t, k = Sum.inl i ∧ v = Value.int i t) ∨ (∃ x t, k = Sum.inr x ∧ v = Value.str x t)
  | .inl i, v, h => by
    obtain ⟨t, e⟩ := Value.isInt_shape (k := i) (v := v) h
    exact .inl ⟨i, t, rfl, e⟩
  | .inr x, v, h => by
    obtain ⟨t, e⟩ := Value.isStrOf_shape (x := x) (v := v) h
    exact .inr ⟨x, t, rfl, e⟩
theorem key_ll (a b : Int) : decide ((Sum.inl a : Key) = Sum.inl b) = (a == b) := by
  by_cases e : a = b
  · subst e; simp
  · have h : ¬ (Sum.inl a : Key) = Sum.inl b := fun q => e (Sum.inl.inj q)
    rw [decide_eq_false h]
    exact (beq_eq_false_iff_ne.mpr e).symm
theorem key_rr (a b : Str) : decide ((Sum.inr a : Key) = Sum.inr b) = decide (a = b) := by
  by_cases e : a = b
  · subst e; simp
  · have h : ¬ (Sum.inr a : Key) = Sum.inr b := fun q => e (Sum.inr.inj q)
    rw [decide_eq_false h, decide_eq_false e]
theorem key_lr (a : Int) (b : Str) : decide ((Sum.inl a : Key) = Sum.inr b) = false := decide_eq_false (fun q => nomatch q)
theorem key_rl (a : Str) (b : Int) : decide ((Sum.inr a : Key) = Sum.inl b) = false := decide_eq_false (fun q => nomatch q)
def mixKind (prog : Program) (w : World) : PySem.KeyKind prog w Key where
  is := keyIs
  hash := keyH w
  inj := fun v a b ha hb => by
    rcases keyIs_shape ha with ⟨i, t, rfl, rfl⟩ | ⟨x, t, rfl, rfl⟩
    · rcases keyIs_shape hb with ⟨j, u, rfl, e⟩ | ⟨y, u, rfl, e⟩
      · injection e with e1 _; rw [e1]
      · exact nomatch e
    · rcases keyIs_shape hb with ⟨j, u, rfl, e⟩ | ⟨y, u, rfl, e⟩
      · exact nomatch e
      · injection e with e1 _; rw [e1]
  byValue := fun k v h => by
    rcases keyIs_shape h with ⟨i, t, rfl, rfl⟩ | ⟨x, t, rfl, rfl⟩ <;> rfl
  pyHash := fun hv h => by
    rcases keyIs_shape hv with ⟨i, t, rfl, rfl⟩ | ⟨x, t, rfl, rfl⟩
    · exact wpAny_pyHash_int h
    · exact wpAny_pyHash_str h
  eqBool := fun hu hv h => by
    rcases keyIs_shape hu with ⟨i, t, rfl, rfl⟩ | ⟨x, t, rfl, rfl⟩
    · rcases keyIs_shape hv with ⟨j, u, rfl, rfl⟩ | ⟨y, u, rfl, rfl⟩
      · rw [key_ll] at h; exact wpAny_eqBool_int h
      · rw [key_lr] at h; exact SeqAt.EqAt.int_str i t y u _ _ _ _ h
    · rcases keyIs_shape hv with ⟨j, u, rfl, rfl⟩ | ⟨y, u, rfl, rfl⟩
      · rw [key_rl] at h; exact SeqAt.EqAt.str_int x t j u _ _ _ _ h
      · rw [key_rr] at h; exact wpAny_eqBool_str h
  «strs» := fun k x t v h => by
    rcases keyIs_shape h with ⟨i, u, rfl, e⟩ | ⟨y, u, rfl, e⟩
    · exact nomatch e
    · injection e with e1 _
      subst e1
      cases v <;> rfl
end L2
namespace L2
open PySem PySem.Spec PyProof.Rows
inductive V where
  | non | bl (b : Bool) | int (i : Int) | str (x : Str) | byt (b : Array UInt8) | flt (b : UInt64) | ref (a : Addr) | ty (n : String)
  deriving DecidableEq
def RelV : V → Value → Prop
  | .non, u => u = Value.none
  | .bl b, u => u = Value.bool b
  | .int i, u => ∃ t, u = Value.int i t
  | .str x, u => ∃ t, u = Value.str x t
  | .byt b, u => ∃ t, u = Value.bytes b t
  | .flt b, u => ∃ t, u = Value.float b t
  | .ref a, u => u = Value.ref a
  | .ty n, u => u = Value.type n
abbrev Vals : List V → List Value → Prop := Paired RelV
theorem Vals.length {xs : List V} {us : List Value} (r : Vals xs us) : xs.length = us.length := Paired.length r
theorem Vals.get : ∀ {xs : List V} {us : List Value} {i : Nat} {x : V}, Vals xs us → xs[i]? = some x → ∃ u, us[i]? = some u ∧ RelV x u
  | _, _, _, _, .nil, e => by simp at e
  | _, _, 0, _, .cons r _, e => by simp at e; subst e; exact ⟨_, rfl, r⟩
  | _, _, i + 1, x, .cons _ t, e => by
    obtain ⟨u, h1, h2⟩ := Vals.get (i := i) (x := x) t (by simpa using e)
    exact ⟨u, by simpa using h1, h2⟩
theorem Vals.append : ∀ {xs ys : List V} {us ws : List Value}, Vals xs us → Vals ys ws → Vals (xs ++ ys) (us ++ ws)
  | _, _, _, _, .nil, s => s
  | _, _, _, _, .cons r t, s => .cons r (Vals.append t s)
theorem Vals.take : ∀ {xs : List V} {us : List Value} (n : Nat), Vals xs us → Vals (xs.take n) (us.take n)
  | _, _, 0, _ => .nil
  | _, _, _ + 1, .nil => .nil
  | _, _, n + 1, .cons r t => .cons r (Vals.take n t)
theorem Vals.drop : ∀ {xs : List V} {us : List Value} (n : Nat), Vals xs us → Vals (xs.drop n) (us.drop n)
  | _, _, 0, r => r
  | _, _, _ + 1, .nil => .nil
  | _, _, n + 1, .cons _ t => Vals.drop n t
def RelO : Option V → Option Value → Prop
  | some v, some u => RelV v u
  | none, none => True
  | _, _ => False
def KV {κ : Type} : List (κ × V) → List (κ × Value) → Prop := Paired fun (p : κ × V) (q : κ × Value) => p.1 = q.1 ∧ RelV p.2 q.2
def kV : Key → V
  | .inl i => .int i
  | .inr x => .str x
inductive HO where
  | lst (xs : List V)
  | tup (xs : List V)
  | dK (kvs : List (Key × V)) | dT (kvs : List (List Key × V))
  | set (S : Int → Bool) (n : Nat)
  | ins (C dx : Addr) (fs : List (Str × V))
  | own (x : Addr)
  | xd (fs : List (Str × V))
  | met (f x : Addr)
  | rng (lo hi : Int)
  | frz (o : Obj) (u : HO)
  | tbl (ps : Array Value)
  | ext (φ : Heap → Prop)
abbrev Hp := Addr → Option HO
def upd (H : Hp) (a : Addr) (o : HO) : Hp := fun b => if b = a then some o else H b
theorem upd_same {H : Hp} {a : Addr} {o : HO} : upd H a o a = some o := by unfold upd; rw [if_pos rfl]
theorem upd_ne {H : Hp} {a b : Addr} {o : HO} (h : b ≠ a) : upd H a o b = H b := by unfold upd; rw [if_neg h]
theorem upd_upd {H : Hp} {a : Addr} {o u : HO} : upd (upd H a o) a u = upd H a u := by
  funext b; unfold upd; split <;> rfl
theorem ne_of {H : Hp} {a b : Addr} {o u : HO} (h : H a = some o) (h' : H b = some u) (d : o ≠ u) : a ≠ b := by
  intro e; subst e; rw [h] at h'; exact d (Option.some.inj h')
theorem ne_of_none {H : Hp} {a b : Addr} {o : HO} (h : H a = some o) (h' : H b = none) : a ≠ b := by
  intro e; subst e; rw [h] at h'; cases h'
section
variable (P : Program) (w : World)
def ObjOk (H : Hp) (h : Heap) (a : Addr) : HO → Prop
  | .lst xs => xs.length ≤ sizeLine ∧ ∃ (its : List Value) (n : Nat), Vals xs its ∧ h.get? a = some { cls := .type "list", data := .seq its.toArray n }
  | .tup xs => xs.length ≤ sizeLine ∧ ∃ its : List Value, Vals xs its ∧ IsTup h a its.toArray
  | .dK kvs => kvs.length ≤ sizeLine ∧ (a == sysModules) = false ∧ ∃ vs, KV kvs vs ∧ h.DictOf (mixKind P w) a vs
  | .dT kvs => kvs.length ≤ sizeLine ∧ (a == sysModules) = false ∧ ∃ xs : List (List Key × Addr × Value),
      Paired (fun (p : List Key × V) (q : List Key × Addr × Value) => p.1 = q.1 ∧ H q.2.1 = some (.tup (p.1.map kV)) ∧ RelV p.2 q.2.2) kvs xs ∧
      ∃ o es ep, h.get? a = some o ∧ o.ExactDict ∧ o.data = .dict es ep ∧ es.toList = xs.map (entryOfKey (tupleKind (mixKind P w))) ∧ (xs.map (·.1)).Nodup
  | .set S n => h.SetOf (intKind P w) a S n
  | .ins C dx fs => H dx = some (.own a) ∧ fs.length ≤ 1000 ∧ dx ≠ a ∧ h.get? a = some (PySem.W.instObj C dx) ∧
      ∃ mA, h.Ns1 dx mA ∧ (∀ f, RelO (fs.lookup f) (mA f)) ∧ PySem.Within mA (fs.map (·.1))
  | .own _ => ∃ o, h.get? a = some o
  | .xd fs => ∃ mA, h.Ns1 a mA ∧ ∀ f, RelO (fs.lookup f) (mA f)
  | .rng lo hi => ∃ t u v, h.get? a = some { cls := .type "range", data := .fields #[.int lo t, .int hi u, .int 1 v] }
  | .frz o u => h.get? a = some o ∧ ObjOk H h a u
  | .tbl ps => h.get? a = some { cls := .none, data := .fields ps }
  | .met f x => h.get? a = some (PySem.W.methodObj (.ref f) (.ref x))
  | .ext φ => φ h ∧ (∃ o, h.get? a = some o) ∧ ∀ h1 h2 : Heap, φ h1 → (∀ o, h1.get? a = some o → h2.get? a = some o) → φ h2
def HOk (H : Hp) (h : Heap) : Prop := ∀ a o, H a = some o → ObjOk P w H h a o
end
section
variable {P : Program} {w : World} {H H' : Hp} {h h' : Heap} {a : Addr} {o : HO}
theorem ObjOk.lt (x : ObjOk P w H h a o) : a < h.objs.size := by
  cases o with
  | lst xs => obtain ⟨_, _, _, _, e⟩ := x; exact Heap.lt_size e
  | tup xs => obtain ⟨_, _, _, p⟩ := x; exact p.lt
  | dK kvs => obtain ⟨_, _, _, _, o, _, _, e, _⟩ := x; exact Heap.lt_size e
  | dT kvs => obtain ⟨_, _, _, _, o, _, _, e, _⟩ := x; exact Heap.lt_size e
  | set S n => obtain ⟨o, _, _, _, e, _⟩ := x; exact Heap.lt_size e
  | ins C dx fs => obtain ⟨_, _, _, e, _⟩ := x; exact Heap.lt_size e
  | own y => obtain ⟨_, e⟩ := x; exact Heap.lt_size e
  | xd fs => obtain ⟨_, ⟨_, _, _, e, _⟩, _⟩ := x; exact Heap.lt_size e
  | rng lo hi => obtain ⟨_, _, _, e⟩ := x; exact Heap.lt_size e
  | frz ob u => obtain ⟨e, _⟩ := x; exact Heap.lt_size e
  | tbl ps => exact Heap.lt_size (show h.get? a = some _ from x)
  | met f y => exact Heap.lt_size (show h.get? a = some _ from x)
  | ext φ => obtain ⟨_, ⟨_, e⟩, _⟩ := x; exact Heap.lt_size e
theorem Paired.mapP {α β : Type} {F G : α → β → Prop} : ∀ {l₁ : List α} {l₂ : List β}, Paired F l₁ l₂ → (∀ a b, F a b → G a b) → Paired G l₁ l₂
  | _, _, .nil, _ => .nil
  | _, _, .cons r t, f => .cons (f _ _ r) (Paired.mapP t f)
theorem ObjOk.stay (x : ObjOk P w H h a o) (k : ∀ b u, (b = a ∨ H b = some (.own a)) → h.get? b = some u → h'.get? b = some u)
    (ho : ∀ b, H b = some (.own a) → H' b = some (.own a)) (ht : ∀ b xs, H b = some (.tup xs) → H' b = some (.tup xs)) : ObjOk P w H' h' a o := by
  induction o with
  | lst xs => obtain ⟨z, its, n, r, e⟩ := x; exact ⟨z, its, n, r, k _ _ (.inl rfl) e⟩
  | tup xs => obtain ⟨z, its, r, ob, e, c⟩ := x; exact ⟨z, its, r, ob, k _ _ (.inl rfl) e, c⟩
  | dK kvs => obtain ⟨z, y, vs, r, ob, es, ep, e, c⟩ := x; exact ⟨z, y, vs, r, ob, es, ep, k _ _ (.inl rfl) e, c⟩
  | dT kvs =>
    obtain ⟨z, y, xs, r, ob, es, ep, e, c⟩ := x
    exact ⟨z, y, xs, Paired.mapP r fun p q z => ⟨z.1, ht _ _ z.2.1, z.2.2⟩, ob, es, ep, k _ _ (.inl rfl) e, c⟩
  | set S n => obtain ⟨ob, es, ep, t, e, c⟩ := x; exact ⟨ob, es, ep, t, k _ _ (.inl rfl) e, c⟩
  | ins C dx fs =>
    obtain ⟨d, z, ne, e, mA, ⟨od, es, ep, e2, c⟩, r⟩ := x
    exact ⟨ho _ d, z, ne, k _ _ (.inl rfl) e, mA, ⟨od, es, ep, k _ _ (.inr d) e2, c⟩, r⟩
  | own y => obtain ⟨ob, e⟩ := x; exact ⟨ob, k _ _ (.inl rfl) e⟩
  | xd fs => obtain ⟨mA, ⟨od, es, ep, e, c⟩, r⟩ := x; exact ⟨mA, ⟨od, es, ep, k _ _ (.inl rfl) e, c⟩, r⟩
  | rng lo hi => obtain ⟨t, u, v, e⟩ := x; exact ⟨t, u, v, k _ _ (.inl rfl) e⟩
  | frz ob u ih => obtain ⟨e, q⟩ := x; exact ⟨k _ _ (.inl rfl) e, ih q⟩
  | tbl ps =>
    have e : h.get? a = some { cls := .none, data := .fields ps } := x
    show h'.get? a = some { cls := .none, data := .fields ps }
    exact k a _ (.inl rfl) e
  | met f y =>
    have e : h.get? a = some (PySem.W.methodObj (.ref f) (.ref y)) := x
    show h'.get? a = some (PySem.W.methodObj (.ref f) (.ref y))
    exact k a _ (.inl rfl) e
  | ext φ => obtain ⟨p, ⟨o, e⟩, st⟩ := x; exact ⟨st _ _ p fun o q => k _ _ (.inl rfl) q, ⟨o, k _ _ (.inl rfl) e⟩, st⟩
theorem HOk.lt (x : HOk P w H h) (e : H a = some o) : a < h.objs.size := (x a o e).lt
theorem HOk.fresh (x : HOk P w H h) (e : h.objs.size ≤ a) : H a = none := by
  cases q : H a with
  | none => rfl
  | some u => exact absurd (Nat.lt_of_lt_of_le (x.lt q) e) (Nat.lt_irrefl _)
theorem HOk.kept (x : HOk P w H h) (k : ∀ b u, h.get? b = some u → h'.get? b = some u) : HOk P w H h' := fun a o e =>
  (x a o e).stay (fun b u _ q => k b u q) (fun _ q => q) fun _ _ q => q
theorem HOk.laid (x : HOk P w H h) (k : ∀ b u, h.get? b = some u → h'.get? b = some u) (hp : h.objs.size ≤ a) (new : ObjOk P w (upd H a o) h' a o) : HOk P w (upd H a o) h' := fun b u e => by
  have hn := x.fresh hp
  by_cases hb : b = a
  · subst hb; rw [upd_same] at e; cases e; exact new
  · rw [upd_ne hb] at e
    exact (x b u e).stay (fun c v _ q => k c v q) (fun c q => by rw [upd_ne (ne_of_none q hn)]; exact q) fun c xs q => by rw [upd_ne (ne_of_none q hn)]; exact q
end
def Rd (H : Hp) (a : Addr) (u : HO) : Prop := H a = some u ∨ ∃ o, H a = some (.frz o u)
theorem Rd.ok {P : Program} {w : World} {H : Hp} {h : Heap} {a : Addr} {u : HO} (r : Rd H a u) (x : HOk P w H h) : ObjOk P w H h a u := by
  rcases r with r | ⟨o, r⟩
  · exact x a u r
  · obtain ⟨_, q⟩ := x a _ r
    exact q
def Mut : Option HO → Prop
  | some (.lst _) => True
  | some (.dK _) => True
  | some (.dT _) => True
  | some (.set _ _) => True
  | some (.ins _ _ _) => True
  | some (.ext _) => True
  | _ => False
section
variable {P : Program} {w : World} {H : Hp} {h h' : Heap} {x e : Addr} {o' : HO}
theorem HOk.write (ok : HOk P w H h) (mu : Mut (H x)) (he : e = x ∨ H e = some (.own x)) (k : ∀ b u, b ≠ e → h.get? b = some u → h'.get? b = some u) (heo : ∃ u, h'.get? e = some u)
    (new : ObjOk P w (upd H x o') h' x o') : HOk P w (upd H x o') h' := fun b u q => by
  have nown : ∀ c y, H c = some (.own y) → c ≠ x := fun c y r z => by subst z; rw [r] at mu; exact mu
  have ntup : ∀ c xs, H c = some (.tup xs) → c ≠ x := fun c xs r z => by subst z; rw [r] at mu; exact mu
  by_cases hb : b = x
  · subst hb; rw [upd_same] at q; cases q; exact new
  · rw [upd_ne hb] at q
    by_cases hbe : b = e
    · have q' : H b = some (.own x) := by
        rcases he with z | z
        · exact absurd (hbe.trans z) hb
        · rw [hbe]; exact z
      rw [q] at q'; cases q'
      obtain ⟨v, hv⟩ := heo
      exact ⟨v, by rw [hbe]; exact hv⟩
    · refine (ok b u q).stay (fun c v hc r => k c v ?_ r) (fun c r => by rw [upd_ne (nown c b r)]; exact r) fun c xs r => by rw [upd_ne (ntup c xs r)]; exact r
      rcases hc with rfl | hc
      · exact hbe
      · rintro rfl
        rcases he with z | z
        · exact nown c b hc z
        · rw [hc] at z; cases z; exact hb rfl
end
structure Un (fs ex : List Addr) (H H' : Hp) (h h' : Heap) : Prop where
  keep : ∀ b o, h.get? b = some o → H b = none → b ∉ fs → b ∉ ex → h'.get? b = some o
  slot : ∀ b o, h.get? b = some o → H b = none → b ∈ fs → b ∉ ex → ∃ sl, h'.get? b = some { o with slots := sl }
  free : ∀ b o, h.get? b = some o → H b = none → b ∉ ex → H' b = none
  there : ∀ b o, h.get? b = some o → b ∉ ex → ∃ o', h'.get? b = some o'
  tups : ∀ b xs, H b = some (.tup xs) → H' b = some (.tup xs)
  frzs : ∀ b o u, H b = some (.frz o u) → H' b = some (.frz o u)
  tbls : ∀ b ps, H b = some (.tbl ps) → ∃ more, H' b = some (.tbl (ps ++ more))
section
variable {fs fs' ex ex' : List Addr} {H H1 H2 : Hp} {h h1 h2 h' : Heap} {a x e : Addr} {o : HO}
theorem Un.any (u : Un fs ex H H1 h h1) {b : Addr} {ob : Obj} (q : h.get? b = some ob) (n : H b = none) (hx : b ∉ ex) : ∃ sl, h1.get? b = some { ob with slots := sl } := by
  by_cases hb : b ∈ fs
  · exact u.slot b ob q n hb hx
  · exact ⟨ob.slots, u.keep b ob q n hb hx⟩
theorem Un.trans (a : Un fs ex H H1 h h1) (b : Un fs ex H1 H2 h1 h2) : Un fs ex H H2 h h2 where
  keep := fun c ob q n hc hx => b.keep c ob (a.keep c ob q n hc hx) (a.free c ob q n hx) hc hx
  slot := fun c ob q n hc hx => by
    obtain ⟨sl, e1⟩ := a.slot c ob q n hc hx
    obtain ⟨sl', e2⟩ := b.slot c _ e1 (a.free c ob q n hx) hc hx
    exact ⟨sl', e2⟩
  free := fun c ob q n hx => by
    obtain ⟨o', e1⟩ := a.there c ob q hx
    exact b.free c o' e1 (a.free c ob q n hx) hx
  there := fun c ob q hx => by
    obtain ⟨o', e1⟩ := a.there c ob q hx
    exact b.there c o' e1 hx
  tups := fun c xs q => b.tups c xs (a.tups c xs q)
  frzs := fun c ob xs q => b.frzs c ob xs (a.frzs c ob xs q)
  tbls := fun c ps q => by
    obtain ⟨m1, e1⟩ := a.tbls c ps q
    obtain ⟨m2, e2⟩ := b.tbls c _ e1
    exact ⟨m1 ++ m2, by rw [e2, Array.append_assoc]⟩
theorem Un.kept (k : ∀ b u, h.get? b = some u → h'.get? b = some u) : Un fs ex H H h h' :=
  ⟨fun b ob q _ _ _ => k b ob q, fun b ob q _ _ _ => ⟨ob.slots, k b ob q⟩, fun _ _ _ n _ => n, fun b ob q _ => ⟨ob, k b ob q⟩, fun _ _ q => q, fun _ _ _ q => q, fun _ ps q => ⟨#[], by rw [q]; simp⟩⟩
theorem Un.refl : Un fs ex H H h h := Un.kept fun _ _ q => q
theorem Un.laid (k : ∀ b u, h.get? b = some u → h'.get? b = some u) (hp : h.objs.size ≤ a) (hn : H a = none) : Un fs ex H (upd H a o) h h' where
  keep := fun b u q _ _ _ => k b u q
  slot := fun b u q _ _ _ => ⟨u.slots, k b u q⟩
  free := fun b u q n _ => by rw [upd_ne (Nat.ne_of_lt (Nat.lt_of_lt_of_le (Heap.lt_size q) hp))]; exact n
  there := fun b u q _ => ⟨u, k b u q⟩
  tups := fun b xs q => by rw [upd_ne (ne_of_none q hn)]; exact q
  frzs := fun b u xs q => by rw [upd_ne (ne_of_none q hn)]; exact q
  tbls := fun b ps q => ⟨#[], by rw [upd_ne (ne_of_none q hn), q]; simp⟩
theorem Un.write (mu : Mut (H x)) (he : e = x ∨ H e = some (.own x)) (k : ∀ b u, b ≠ e → h.get? b = some u → h'.get? b = some u) (heo : ∃ u, h'.get? e = some u) : Un fs ex H (upd H x o) h h' := by
  have hx : ∀ b, H b = none → b ≠ x := fun b n z => by subst z; rw [n] at mu; exact mu
  have hb : ∀ b, H b = none → b ≠ e := fun b n z => by
    subst z
    rcases he with r | r
    · exact hx b n r
    · rw [n] at r; cases r
  have hm : ∀ b u, H b = some u → ¬ Mut (some u) → b ≠ x := fun b u q nm z => by subst z; rw [q] at mu; exact nm mu
  refine ⟨fun b u q n _ _ => k b u (hb b n) q, fun b u q n _ _ => ⟨u.slots, k b u (hb b n) q⟩, fun b u q n _ => by rw [upd_ne (hx b n)]; exact n, fun b u q _ => ?_,
    fun b xs q => by rw [upd_ne (hm b _ q fun z => z)]; exact q, fun b u xs q => by rw [upd_ne (hm b _ q fun z => z)]; exact q, fun b ps q => ⟨#[], by rw [upd_ne (hm b _ q fun z => z), q]; simp⟩⟩
  by_cases hbe : b = e
  · subst hbe; exact heo
  · exact ⟨u, k b u hbe q⟩
end
def trk (h : Heap) (H : Hp) : List Addr := (List.range h.objs.size).filter fun a => (H a).isSome
def hidT (h : Heap) (H : Hp) : Heap := PySem.W.hideAll h (trk h H)
theorem hidT_size (h : Heap) (H : Hp) : (hidT h H).objs.size = h.objs.size := PySem.W.hideAll_size _ _
theorem hidT_get {h : Heap} {H : Hp} {b : Addr} {o : Obj} (e : h.get? b = some o) (n : H b = none) : (hidT h H).get? b = some o :=
  PySem.W.hideAll_get _ e fun hm => by
    have q : (H b).isSome = true := (List.mem_filter.mp hm).2
    rw [n] at q; simp at q
theorem of_hidT {h : Heap} {H : Hp} {b : Addr} {o : Obj} (e : (hidT h H).get? b = some o) : h.get? b = some o ∧ H b = none := by
  have e' : h.get? b = some o := PySem.W.of_hideAll (trk h H) e
  refine ⟨e', ?_⟩
  cases q : H b with
  | none => rfl
  | some x =>
    have hm : b ∈ trk h H := List.mem_filter.mpr ⟨List.mem_range.mpr (Heap.lt_size e'), by simp [q]⟩
    have z : (hidT h H).get? b = none := PySem.W.hideAll_none (trk h H) hm
    rw [z] at e; cases e
end L2
namespace L2
open PySem PySem.Spec PyProof.Rows
structure Mod (K : PySem.W.Frag) (mg : Str → Option Value) (base : Heap) : Prop where
  kin : K.In base
  glob : base.Ns mainGlobals mg
  blt : ∃ mb, base.Ns builtinsNs mb ∧ ∀ x : Str, x ≠ "__name__" → mb x = bootBuiltins x
  nolimit : base.NoLimit
structure Cx where
  prog : Program
  w : World
  K : PySem.W.Frag
  mg : Str → Option Value
  base : Heap
  A : Around
  N : List Str
  s_0 : Shared
  H_0 : Hp
  env : Env
  outer : List Env
  stack : List Env
  ex : List Addr
  fn : Str → Bool
  calm : Bool
  pn : List (Addr × Obj)
  xe : Value → Shared → Prop
def frs (l : List Env) : List Addr := l.filterMap (·.frame)
abbrev Cx.fs (X : Cx) : List Addr := frs X.outer
def Vis (sc : Scope) (x : Str) : Prop := sc.names.lookup x = some .local ∨ sc.names.lookup x = some .cell ∨ sc.names.lookup x = some .free
def Loc (sc : Scope) (x : Str) : Prop := sc.names.lookup x = some .local ∨ sc.names.lookup x = some .cell
def Look (env : Env) (h : Heap) (m : Str → Option Value) (x : Str) (u : Value) : Prop :=
  (env.kindOf x = some .local ∧ m x = some u) ∨ ((env.kindOf x = some .cell ∨ env.kindOf x = some .free) ∧ ∃ c, env.cells.lookup x = some c ∧ h.IsCell c (some u))
structure Cx.Ok (X : Cx) : Prop where
  mod : Mod X.K X.mg X.base
  kind : X.env.scope.kind = .function
  glob : X.env.globals = mainGlobals
  blt : X.env.builtins = builtinsNs
  above : X.s_0.heap.objs.size ≤ X.env.locals
  inj : ∀ x y c, X.env.cells.lookup x = some c → X.env.cells.lookup y = some c → x = y
  has : ∀ x, (X.env.kindOf x = some .cell ∨ X.env.kindOf x = some .free) → ∃ c, X.env.cells.lookup x = some c
  cab : ∀ x c, X.fn x = true → X.env.cells.lookup x = some c → X.s_0.heap.objs.size ≤ c
  hd : X.calm = true → X.A.handled = none
  frames : X.A.frames = some X.stack
  stk : X.stack = X.outer ∨ (X.stack = X.env :: X.outer ∧ X.env.frame = some X.env.locals)
  exf : ∀ b ∈ X.ex, b ≠ X.env.locals ∧ ∀ x c, X.env.cells.lookup x = some c → c ≠ b
  bs : ∀ b o, X.base.get? b = some o → X.s_0.heap.get? b = some o ∧ X.H_0 b = none
  bsz : X.base.objs.size ≤ X.s_0.heap.objs.size
  noex : ∀ b o, X.base.get? b = some o → b ∉ X.ex
  exfs : ∀ b ∈ X.ex, b ∉ X.fs
  funs : X.s_0.heap.FunFrames X.base X.outer
  frf : ∀ b ∈ X.fs, X.H_0 b = none
structure Inv (X : Cx) (pins : List (Addr × Obj)) (σ : List (Option V)) (H : Hp) (s : Shared) : Prop where
  ok : X.Ok
  os : s.os = X.s_0.os
  bare : AllBare s.gens
  base : Un X.fs X.ex X.H_0 H X.s_0.heap s.heap
  loc : ∃ m, s.heap.Ns X.env.locals m ∧ ∀ (i : Nat) (x : Str) (v : V), X.N[i]? = some x → σ[i]? = some (some v) → Vis X.env.scope x → ∃ u, RelV v u ∧ Look X.env s.heap m x u
  cell : ∀ x c, X.env.cells.lookup x = some c → ∃ v, s.heap.IsCell c v
  free : H X.env.locals = none
  freeC : ∀ x c, X.env.cells.lookup x = some c → H c = none
  pin : ∀ p ∈ X.pn ++ pins, s.heap.get? p.1 = some p.2 ∧ H p.1 = none ∧ p.1 ≠ X.env.locals ∧ p.1 ∉ X.fs ∧ ∀ v, p.2.data ≠ .cell v
  hok : HOk X.prog X.w H s.heap
  len : σ.length = X.N.length
section
variable {X : Cx} {pins : List (Addr × Obj)} {σ : List (Option V)} {H H' : Hp} {s : Shared} {h' : Heap}
theorem Cx.Ok.nofr (ok : X.Ok) {b : Addr} {o : Obj} (e : X.base.get? b = some o) : b ∉ X.fs := fun hb => by
  have := (ok.funs.mem hb).1
  rw [e] at this; cases this
theorem Inv.bs (I : Inv X pins σ H s) : ∀ b o, X.base.get? b = some o → s.heap.get? b = some o ∧ H b = none := fun b o e =>
  ⟨I.base.keep b o (I.ok.bs b o e).1 (I.ok.bs b o e).2 (I.ok.nofr e) (I.ok.noex b o e), I.base.free b o (I.ok.bs b o e).1 (I.ok.bs b o e).2 (I.ok.noex b o e)⟩
theorem Inv.bk (I : Inv X pins σ H s) : ∀ b o, X.base.get? b = some o → s.heap.get? b = some o := fun b o e => (I.bs b o e).1
theorem Inv.mod (I : Inv X pins σ H s) : Mod X.K X.mg X.base := I.ok.mod
theorem Inv.kIn (I : Inv X pins σ H s) : X.K.In s.heap := I.ok.mod.kin.keeps I.bk
theorem Inv.nolimit (I : Inv X pins σ H s) : s.heap.NoLimit := I.ok.mod.nolimit.keeps I.bk
theorem Inv.lt (I : Inv X pins σ H s) : X.env.locals < s.heap.objs.size := let ⟨_, hn, _⟩ := I.loc; hn.lt
theorem Inv.sz (I : Inv X pins σ H s) : X.s_0.heap.objs.size ≤ s.heap.objs.size := Nat.le_trans I.ok.above (Nat.le_of_lt I.lt)
theorem Inv.nofs (I : Inv X pins σ H s) {a : Addr} (h : s.heap.objs.size ≤ a) : a ∉ X.fs := fun hb => by
  obtain ⟨_, o, ho, _⟩ := I.ok.funs.mem hb
  exact absurd (Nat.lt_of_lt_of_le (Heap.lt_size ho) (Nat.le_trans I.sz h)) (Nat.lt_irrefl _)
theorem Inv.cne (I : Inv X pins σ H s) : ∀ x c, X.env.cells.lookup x = some c → c ≠ X.env.locals := fun x c e z => by
  obtain ⟨v, o, ho, hd⟩ := I.cell x c e
  obtain ⟨m, ⟨o', es, ep, ho', hd', _⟩, _⟩ := I.loc
  rw [z, ho'] at ho; cases ho; rw [hd'] at hd; cases hd
theorem Inv.funs (I : Inv X pins σ H s) : s.heap.FunFrames X.base X.outer := by
  have all : ∀ (l : List Env), (∀ b ∈ frs l, b ∈ X.fs) → X.s_0.heap.FunFrames X.base l → s.heap.FunFrames X.base l := by
    intro l
    induction l with
    | nil => intro _ _; trivial
    | cons env r ih =>
      intro hs hl
      obtain ⟨hk, ⟨L, o, hf, hn, ho, hd⟩, hr⟩ := hl
      have hL : L ∈ X.fs := hs L (by unfold frs; rw [List.filterMap_cons, hf]; exact List.mem_cons_self)
      obtain ⟨sl, e⟩ := I.base.slot L o ho (I.ok.frf L hL) hL fun z => I.ok.exfs L z hL
      exact ⟨hk, ⟨L, _, hf, hn, e, hd⟩, ih (fun b hb => hs b (by unfold frs; rw [List.filterMap_cons, hf]; exact List.mem_cons_of_mem _ hb)) hr⟩
  exact all X.outer (fun _ hb => hb) I.ok.funs
theorem Inv.stack (I : Inv X pins σ H s) : s.heap.FunFrames X.base X.stack := by
  rcases I.ok.stk with e | ⟨e, hf⟩
  · rw [e]; exact I.funs
  · rw [e]
    obtain ⟨m, hn, _⟩ := I.loc
    refine .cons (by rw [I.ok.kind]; decide) hf hn ?_ I.funs
    exact Heap.get?_none_of_le (Nat.le_trans I.ok.bsz I.ok.above)
theorem Inv.stkSub (I : Inv X pins σ H s) : ∀ b ∈ frs X.stack, b ∈ X.env.locals :: X.fs := fun b hb => by
  rcases I.ok.stk with e | ⟨e, hf⟩
  · rw [e] at hb; exact List.mem_cons_of_mem _ hb
  · rw [e] at hb
    unfold frs at hb
    rw [List.filterMap_cons, hf] at hb
    exact hb
theorem Inv.stkFree (I : Inv X pins σ H s) : ∀ b ∈ frs X.stack, H b = none := fun b hb => by
  rcases List.mem_cons.mp (I.stkSub b hb) with e | hb
  · rw [e]; exact I.free
  · obtain ⟨_, o, ho, _⟩ := I.ok.funs.mem hb
    exact I.base.free b o ho (I.ok.frf b hb) fun z => I.ok.exfs b z hb
theorem Inv.step {g' : Array GenState} {t' : Nat} {d' : Drawn} {ch : List Addr} (I : Inv X pins σ H s)
    (hch : ∀ b ∈ ch, (b ∈ X.ex ∨ X.s_0.heap.objs.size ≤ b) ∧ b ≠ X.env.locals ∧ (∀ x c, X.env.cells.lookup x = some c → c ≠ b) ∧ ∀ p ∈ X.pn ++ pins, p.1 ≠ b)
    (keep : ∀ b o, b ≠ X.env.locals → b ∉ X.fs → b ∉ ch → s.heap.get? b = some o → H b = none → h'.get? b = some o)
    (slot : ∀ b o, b ≠ X.env.locals → b ∈ X.fs → b ∉ ch → s.heap.get? b = some o → H b = none → ∃ sl, h'.get? b = some { o with slots := sl }) (free : ∀ b o, b ∉ ch → s.heap.get? b = some o → H b = none → H' b = none)
    (there : ∀ b o, b ∉ ch → s.heap.get? b = some o → ∃ o', h'.get? b = some o')
    (tups : ∀ b xs, H b = some (.tup xs) → H' b = some (.tup xs)) (frzs : ∀ b o u, H b = some (.frz o u) → H' b = some (.frz o u)) (tbls : ∀ b ps, H b = some (.tbl ps) → ∃ more, H' b = some (.tbl (ps ++ more)))
    (ns : ∀ m, s.heap.Ns X.env.locals m → h'.Ns X.env.locals m) (hok : HOk X.prog X.w H' h') (hg : AllBare g') :
    Inv X pins σ H' { s with heap := h', gens := g', drawn := d', toks := t' } := by
  have neL : ∀ b o, X.s_0.heap.get? b = some o → b ≠ X.env.locals := fun b o e => Nat.ne_of_lt (Nat.lt_of_lt_of_le (Heap.lt_size e) I.ok.above)
  have neC : ∀ b o, X.s_0.heap.get? b = some o → b ∉ X.ex → b ∉ ch := fun b o e hx hb => by
    rcases (hch b hb).1 with z | z
    · exact hx z
    · exact absurd (Nat.lt_of_lt_of_le (Heap.lt_size e) z) (Nat.lt_irrefl _)
  have cellK : ∀ x c, X.env.cells.lookup x = some c → ∀ v, s.heap.IsCell c v → h'.IsCell c v := fun x c e v ⟨o, ho, hd⟩ => by
    have nch : c ∉ ch := fun z => (hch c z).2.2.1 x c e rfl
    by_cases hc : c ∈ X.fs
    · obtain ⟨sl, q⟩ := slot c o (I.cne x c e) hc nch ho (I.freeC x c e)
      exact ⟨_, q, hd⟩
    · exact ⟨o, keep c o (I.cne x c e) hc nch ho (I.freeC x c e), hd⟩
  refine ⟨I.ok, I.os, hg, ⟨fun b o e n hb hx => ?_, fun b o e n hb hx => ?_, fun b o e n hx => ?_, fun b o e hx => ?_, fun b xs e => tups b xs (I.base.tups b xs e), fun b o xs e => frzs b o xs (I.base.frzs b o xs e), fun b ps e => ?_⟩, ?_, fun x c e => ?_, ?_, fun x c e => ?_, fun p hp => ?_, hok, I.len⟩
  · exact keep b o (neL b o e) hb (neC b o e hx) (I.base.keep b o e n hb hx) (I.base.free b o e n hx)
  · obtain ⟨sl, e1⟩ := I.base.slot b o e n hb hx
    obtain ⟨sl', e2⟩ := slot b _ (neL b o e) hb (neC b o e hx) e1 (I.base.free b o e n hx)
    exact ⟨sl', e2⟩
  · obtain ⟨o', e1⟩ := I.base.there b o e hx
    exact free b o' (neC b o e hx) e1 (I.base.free b o e n hx)
  · obtain ⟨o', e1⟩ := I.base.there b o e hx
    exact there b o' (neC b o e hx) e1
  · obtain ⟨m1, e1⟩ := I.base.tbls b ps e
    obtain ⟨m2, e2⟩ := tbls b _ e1
    exact ⟨m1 ++ m2, by rw [e2, Array.append_assoc]⟩
  · obtain ⟨m, hn, hl⟩ := I.loc
    refine ⟨m, ns m hn, fun i x v e1 e2 e3 => ?_⟩
    obtain ⟨u, r, l⟩ := hl i x v e1 e2 e3
    refine ⟨u, r, ?_⟩
    rcases l with l | ⟨k, c, e, z⟩
    · exact .inl l
    · exact .inr ⟨k, c, e, cellK x c e _ z⟩
  · obtain ⟨v, z⟩ := I.cell x c e
    exact ⟨v, cellK x c e v z⟩
  · obtain ⟨m, ⟨o, _, _, ho, _⟩, _⟩ := I.loc
    exact free _ o (fun z => (hch _ z).2.1 rfl) ho I.free
  · obtain ⟨v, o, ho, hd⟩ := I.cell x c e
    exact free c o (fun z => (hch c z).2.2.1 x c e rfl) ho (I.freeC x c e)
  · obtain ⟨e, n, ne, nf, d⟩ := I.pin p hp
    have nch : p.1 ∉ ch := fun z => (hch p.1 z).2.2.2 p hp rfl
    exact ⟨keep p.1 p.2 ne nf nch e n, free p.1 p.2 nch e n, ne, nf, d⟩
theorem Inv.un {t' : Nat} (I : Inv X pins σ H s) (u : Un X.fs [] H H' s.heap h') (hok : HOk X.prog X.w H' h') : Inv X pins σ H' { s with heap := h', toks := t' } := by
  obtain ⟨m, ⟨o, es, ep, ho, r⟩, _⟩ := id I.loc
  obtain ⟨sl, hL⟩ := u.any ho I.free (by simp)
  exact I.step (g' := s.gens) (d' := s.drawn) (ch := []) (fun _ z => nomatch z) (fun b o _ hb _ e n => u.keep b o e n hb (by simp)) (fun b o _ hb _ e n => u.slot b o e n hb (by simp)) (fun b o _ e n => u.free b o e n (by simp)) (fun b o _ e => u.there b o e (by simp)) u.tups u.frzs u.tbls (fun m' hm => by
    obtain ⟨o', es', ep', ho', r'⟩ := hm
    rw [ho] at ho'; cases ho'
    exact ⟨_, es', ep', hL, r'⟩) hok I.bare
theorem Inv.call {g' : Array GenState} {t' : Nat} {d' : Drawn} {ch : List Addr} (I : Inv X pins σ H s) (u : Un (frs X.stack) ch H H' s.heap h') (hok : HOk X.prog X.w H' h') (hg : AllBare g')
    (hch : ∀ b ∈ ch, (b ∈ X.ex ∨ X.s_0.heap.objs.size ≤ b) ∧ b ≠ X.env.locals ∧ (∀ x c, X.env.cells.lookup x = some c → c ≠ b) ∧ ∀ p ∈ X.pn ++ pins, p.1 ≠ b) :
    Inv X pins σ H' { s with heap := h', gens := g', drawn := d', toks := t' } := by
  obtain ⟨m, ⟨o, es, ep, ho, r⟩, _⟩ := id I.loc
  obtain ⟨sl, hL⟩ := u.any ho I.free fun z => (hch _ z).2.1 rfl
  exact I.step (ch := ch) hch (fun b o hL hb hc e n => u.keep b o e n (fun z => (List.mem_cons.mp (I.stkSub b z)).elim hL hb) hc) (fun b o _ _ hc e n => u.any e n hc) (fun b o hc e n => u.free b o e n hc) (fun b o hc e => u.there b o e hc) u.tups u.frzs u.tbls (fun m' hm => by
    obtain ⟨o', es', ep', ho', r'⟩ := hm
    rw [ho] at ho'; cases ho'
    exact ⟨_, es', ep', hL, r'⟩) hok hg
theorem Inv.turned {t' : Nat} {it : Addr} (I : Inv X pins σ H s) (k : ∀ b o, b ≠ it → s.heap.get? b = some o → h'.get? b = some o) (hn : H it = none) (hL : it ≠ X.env.locals)
    (h1 : it ∈ X.ex ∨ X.s_0.heap.objs.size ≤ it) (h2 : ∀ x c, X.env.cells.lookup x = some c → c ≠ it) (h3 : ∀ p ∈ X.pn ++ pins, p.1 ≠ it) : Inv X pins σ H { s with heap := h', toks := t' } := by
  have nit : ∀ b u, H b = some u → b ≠ it := fun b u e z => by rw [z, hn] at e; cases e
  refine I.step (g' := s.gens) (d' := s.drawn) (ch := [it]) (fun b hb => ?_) (fun b o _ _ hc e _ => k b o (fun z => hc (by simp [z])) e) (fun b o _ _ hc e _ => ⟨o.slots, k b o (fun z => hc (by simp [z])) e⟩) (fun _ _ _ _ n => n)
    (fun b o hc e => ⟨o, k b o (fun z => hc (by simp [z])) e⟩) (fun _ _ e => e) (fun _ _ _ e => e) (fun b ps e => ⟨#[], by rw [e]; simp⟩) (fun m hm => ?_) (fun b u e => ?_) I.bare
  · have e : b = it := by simpa using hb
    subst e
    exact ⟨h1, hL, h2, h3⟩
  · obtain ⟨o, es, ep, ho, r⟩ := hm
    exact ⟨o, es, ep, k _ o (Ne.symm hL) ho, r⟩
  · refine (I.hok b u e).stay (fun c v hc q => k c v ?_ q) (fun _ q => q) fun _ _ q => q
    rcases hc with z | z
    · rw [z]; exact nit b u e
    · exact nit c _ z
theorem Inv.tok (I : Inv X pins σ H s) (t : Nat) : Inv X pins σ H { s with toks := t } := I.un (h' := s.heap) (t' := t) Un.refl I.hok
theorem Inv.kept {t' : Nat} (I : Inv X pins σ H s) (k : ∀ b u, s.heap.get? b = some u → h'.get? b = some u) : Inv X pins σ H { s with heap := h', toks := t' } := I.un (Un.kept k) (I.hok.kept k)
theorem Inv.laid {a : Addr} {o : HO} {t' : Nat} (I : Inv X pins σ H s) (k : ∀ b u, s.heap.get? b = some u → h'.get? b = some u) (hp : s.heap.objs.size ≤ a) (new : ObjOk X.prog X.w (upd H a o) h' a o) :
    Inv X pins σ (upd H a o) { s with heap := h', toks := t' } := I.un (Un.laid k hp (I.hok.fresh hp)) (I.hok.laid k hp new)
theorem Inv.write {x e : Addr} {o : HO} {t' : Nat} (I : Inv X pins σ H s) (mu : Mut (H x)) (he : e = x ∨ H e = some (.own x)) (k : ∀ b u, b ≠ e → s.heap.get? b = some u → h'.get? b = some u) (heo : ∃ u, h'.get? e = some u)
    (new : ObjOk X.prog X.w (upd H x o) h' x o) : Inv X pins σ (upd H x o) { s with heap := h', toks := t' } := I.un (Un.write mu he k heo) (I.hok.write mu he k heo new)
theorem Inv.weak {σ' : List (Option V)} (I : Inv X pins σ H s) (hl : σ'.length = σ.length) (w : ∀ (i : Nat) v, σ'[i]? = some (some v) → σ[i]? = some (some v)) : Inv X pins σ' H s :=
  ⟨I.ok, I.os, I.bare, I.base, let ⟨m, hn, hl'⟩ := I.loc; ⟨m, hn, fun i x v e1 e2 e3 => hl' i x v e1 (w i v e2) e3⟩, I.cell, I.free, I.freeC, I.pin, I.hok, hl.trans I.len⟩
theorem Inv.pins_of {pins' : List (Addr × Obj)} (I : Inv X pins σ H s) (h : ∀ p ∈ pins', s.heap.get? p.1 = some p.2 ∧ H p.1 = none ∧ p.1 ≠ X.env.locals ∧ p.1 ∉ X.fs ∧ ∀ v, p.2.data ≠ .cell v) : Inv X pins' σ H s :=
  ⟨I.ok, I.os, I.bare, I.base, I.loc, I.cell, I.free, I.freeC, fun p hp => (List.mem_append.mp hp).elim (fun z => I.pin p (List.mem_append_left _ z)) (h p), I.hok, I.len⟩
theorem nodup_ix {N : List Str} (hN : N.Nodup) {i j : Nat} {x : Str} (a : N[i]? = some x) (b : N[j]? = some x) : i = j := by
  obtain ⟨h1, e1⟩ := List.getElem?_eq_some_iff.mp a
  obtain ⟨h2, e2⟩ := List.getElem?_eq_some_iff.mp b
  exact (List.getElem_inj hN).mp (e1.trans e2.symm)
theorem store_ok2 {M : Model} {A : Around} {E : Value → Shared → Prop} {i : Nat} {x : Str} {v : V} {u : Value} {Q : Unit → Shared → Prop} (I : Inv X pins σ H s) (hN : X.N.Nodup) (hi : X.N[i]? = some x) (hx : Loc X.env.scope x) (r : RelV v u)
    (h : ∀ s', Inv X pins (σ.set i (some v)) H s' → (∃ a, Heap.SameBut a s.heap s'.heap ∧ (a = X.env.locals ∨ X.env.cells.lookup x = some a)) → Q () s') (hf : X.fn x = true ∨ X.env.scope.names.lookup x = some .local := by first | exact .inl rfl | exact .inr rfl | assumption) : wpAny M A (storeName X.env x u) Q E s := by
  obtain ⟨m, hn, hl⟩ := id I.loc
  have hcls : (X.env.scope.kind == .class || (X.env.scope.kind == .module && X.env.locals != X.env.globals)) = false := by rw [I.ok.kind]; rfl
  have hiσ : i < σ.length := by rw [I.len]; exact (List.getElem?_eq_some_iff.mp hi).1
  have cne := I.cne
  have tracked : ∀ {a : Addr} {h' : Heap}, (∃ o, s.heap.get? a = some o ∧ H a = none) → Heap.SameBut a s.heap h' → HOk X.prog X.w H h' := fun {a h'} ha hs b ob e => by
    obtain ⟨_, _, hfree⟩ := ha
    refine (I.hok b ob e).stay (fun c w' hc q => (hs.2 c ?_).trans q) (fun _ q => q) fun _ _ q => q
    rintro rfl
    rcases hc with rfl | hc
    · rw [hfree] at e; cases e
    · rw [hfree] at hc; cases hc
  rcases hx with hk | hk
  · refine wpAny_storeName_local hk hn (fun h' hn' hs => ?_) hcls
    obtain ⟨oL, _, _, hoL, _⟩ := id hn
    refine h _ ⟨I.ok, I.os, I.bare, ⟨fun b o e n hb hx => ?_, fun b o e n hb hx => ?_, I.base.free, fun b o e hx => ?_, I.base.tups, I.base.frzs, I.base.tbls⟩, ⟨_, hn', fun j y v' e1 e2 e3 => ?_⟩, fun y c e => ?_, I.free, I.freeC, fun p hp => ?_, tracked ⟨oL, hoL, I.free⟩ hs, by simpa using I.len⟩ ⟨_, hs, .inl rfl⟩
    · exact (hs.2 b (Nat.ne_of_lt (Nat.lt_of_lt_of_le (Heap.lt_size e) I.ok.above))).trans (I.base.keep b o e n hb hx)
    · obtain ⟨sl, e1⟩ := I.base.slot b o e n hb hx
      exact ⟨sl, (hs.2 b (Nat.ne_of_lt (Nat.lt_of_lt_of_le (Heap.lt_size e) I.ok.above))).trans e1⟩
    · obtain ⟨o', e1⟩ := I.base.there b o e hx
      exact ⟨o', (hs.2 b (Nat.ne_of_lt (Nat.lt_of_lt_of_le (Heap.lt_size e) I.ok.above))).trans e1⟩
    · by_cases hj : j = i
      · subst hj
        rw [hi] at e1; cases e1
        rw [List.getElem?_set_self hiσ] at e2
        cases e2
        exact ⟨u, r, .inl ⟨hk, by simp⟩⟩
      · rw [List.getElem?_set_ne (Ne.symm hj)] at e2
        obtain ⟨u', r', q⟩ := hl j y v' e1 e2 e3
        refine ⟨u', r', ?_⟩
        rcases q with ⟨k, e⟩ | ⟨k, c, e, z⟩
        · refine .inl ⟨k, ?_⟩
          have : y ≠ x := fun e => hj (nodup_ix hN e1 (e ▸ hi))
          simp [this, e]
        · exact .inr ⟨k, c, e, z.sameBut hs (cne y c e)⟩
    · obtain ⟨w', z⟩ := I.cell y c e
      exact ⟨w', z.sameBut hs (cne y c e)⟩
    · obtain ⟨e, n, ne, nf, d⟩ := I.pin p hp
      exact ⟨(hs.2 p.1 ne).trans e, n, ne, nf, d⟩
  · have hfn : X.fn x = true := by
      rcases hf with z | z
      · exact z
      · rw [z] at hk; cases hk
    obtain ⟨c, hc⟩ := I.ok.has x (.inl hk)
    obtain ⟨w', z⟩ := I.cell x c hc
    refine wpAny_storeName_cell I.ok.kind hk hc z (fun h' hc' hs => ?_)
    obtain ⟨oc, hoc, hocd⟩ := id z
    refine h { s with heap := h' } ⟨I.ok, I.os, I.bare, ⟨fun b o e n hb hx => ?_, fun b o e n hb hx => ?_, I.base.free, fun b o e hx => ?_, I.base.tups, I.base.frzs, I.base.tbls⟩, ⟨m, hn.sameBut hs (Ne.symm (cne x c hc)), fun j y v' e1 e2 e3 => ?_⟩, fun y c' e => ?_, I.free, I.freeC, fun p hp => ?_, tracked ⟨oc, hoc, I.freeC x c hc⟩ hs, by simpa using I.len⟩ ⟨c, hs, .inr hc⟩
    · exact (hs.2 b (Nat.ne_of_lt (Nat.lt_of_lt_of_le (Heap.lt_size e) (I.ok.cab x c hfn hc)))).trans (I.base.keep b o e n hb hx)
    · obtain ⟨sl, e1⟩ := I.base.slot b o e n hb hx
      exact ⟨sl, (hs.2 b (Nat.ne_of_lt (Nat.lt_of_lt_of_le (Heap.lt_size e) (I.ok.cab x c hfn hc)))).trans e1⟩
    · obtain ⟨o', e1⟩ := I.base.there b o e hx
      exact ⟨o', (hs.2 b (Nat.ne_of_lt (Nat.lt_of_lt_of_le (Heap.lt_size e) (I.ok.cab x c hfn hc)))).trans e1⟩
    · by_cases hj : j = i
      · subst hj
        rw [hi] at e1; cases e1
        rw [List.getElem?_set_self hiσ] at e2
        cases e2
        exact ⟨u, r, .inr ⟨.inl hk, c, hc, hc'⟩⟩
      · rw [List.getElem?_set_ne (Ne.symm hj)] at e2
        obtain ⟨u', r', q⟩ := hl j y v' e1 e2 e3
        refine ⟨u', r', ?_⟩
        rcases q with q | ⟨k, c', e, z'⟩
        · exact .inl q
        · refine .inr ⟨k, c', e, z'.sameBut hs ?_⟩
          rintro rfl
          exact hj (nodup_ix hN e1 (I.ok.inj _ _ _ e hc ▸ hi))
    · by_cases hcc : c' = c
      · subst hcc; exact ⟨_, hc'⟩
      · obtain ⟨w2, z2⟩ := I.cell y c' e
        exact ⟨w2, z2.sameBut hs hcc⟩
    · obtain ⟨e, n, ne, nf, d⟩ := I.pin p hp
      refine ⟨(hs.2 p.1 ?_).trans e, n, ne, nf, d⟩
      intro q
      rw [q, hoc] at e
      have q' : oc = p.2 := Option.some.inj e
      exact d w' (by rw [← q']; exact hocd)
theorem store_ok {M : Model} {A : Around} {E : Value → Shared → Prop} {i : Nat} {x : Str} {v : V} {u : Value} {Q : Unit → Shared → Prop} (I : Inv X pins σ H s) (hN : X.N.Nodup) (hi : X.N[i]? = some x) (hx : Loc X.env.scope x) (r : RelV v u)
    (h : ∀ s', Inv X pins (σ.set i (some v)) H s' → Q () s') (hf : X.fn x = true ∨ X.env.scope.names.lookup x = some .local := by first | exact .inl rfl | exact .inr rfl | assumption) : wpAny M A (storeName X.env x u) Q E s :=
  store_ok2 I hN hi hx r (fun s' I' _ => h s' I') hf
theorem Inv.call' {s' : Shared} {ch : List Addr} (I : Inv X pins σ H s) (ho : s'.os = s.os) (u : Un (frs X.stack) ch H H' s.heap s'.heap) (hok : HOk X.prog X.w H' s'.heap) (hg : AllBare s'.gens)
    (hch : ∀ b ∈ ch, (b ∈ X.ex ∨ X.s_0.heap.objs.size ≤ b) ∧ b ≠ X.env.locals ∧ (∀ x c, X.env.cells.lookup x = some c → c ≠ b) ∧ ∀ p ∈ X.pn ++ pins, p.1 ≠ b) : Inv X pins σ H' s' := by
  obtain ⟨h', g', d', t', o'⟩ := s'
  have e : o' = s.os := ho
  subst e
  exact I.call (g' := g') (t' := t') (d' := d') u hok hg hch
end
abbrev XK := Value → Option Addr → Hp → Prop
abbrev St := List (Option V)
abbrev VK := V → Hp → Prop
abbrev TE := St → Hp → VK → Prop
abbrev TT := St → Hp → (Bool → Hp → Prop) → Prop
abbrev TA := St → Hp → (List V → Hp → Prop) → Prop
structure Ends where
  nx : St → Hp → Prop
  rt : VK
  bk : St → Hp → Prop := fun _ _ => False
  ct : St → Hp → Prop := fun _ _ => False
abbrev TS := Ends → St → Hp → Prop
def EP (X : Cx) (pins : List (Addr × Obj)) (σ : St) (Q : VK) (u : Value) (s' : Shared) : Prop := ∃ v H', Inv X pins σ H' s' ∧ RelV v u ∧ Q v H'
def TP (X : Cx) (pins : List (Addr × Obj)) (σ : St) (Q : Bool → Hp → Prop) (b : Bool) (s' : Shared) : Prop := ∃ H', Inv X pins σ H' s' ∧ Q b H'
def AP (X : Cx) (pins : List (Addr × Obj)) (σ : St) (Q : List V → Hp → Prop) (us : List Value) (s' : Shared) : Prop := ∃ vs H', Inv X pins σ H' s' ∧ Vals vs us ∧ Q vs H'
def SP (X : Cx) (pins : List (Addr × Obj)) (D : Ends) (f : Flow) (s' : Shared) : Prop :=
  match f with
  | .next => ∃ σ' H', Inv X pins σ' H' s' ∧ D.nx σ' H'
  | .brk => ∃ σ' H', Inv X pins σ' H' s' ∧ D.bk σ' H'
  | .cont => ∃ σ' H', Inv X pins σ' H' s' ∧ D.ct σ' H'
  | .ret u => ∃ v σ' H', Inv X pins σ' H' s' ∧ RelV v u ∧ D.rt v H'
def PE (X : Cx) (e : Expr) (t : TE) : Prop :=
  ∀ (pins : List (Addr × Obj)) (s : Shared) (σ : St) (H : Hp) (Q : VK), Inv X pins σ H s → t σ H Q → wpAny (model X.prog X.w) X.A (eval e X.env) (EP X pins σ Q) X.xe s
def PT (X : Cx) (e : Expr) (t : TT) : Prop :=
  ∀ (pins : List (Addr × Obj)) (s : Shared) (σ : St) (H : Hp) (Q : Bool → Hp → Prop), Inv X pins σ H s → t σ H Q → wpAny (model X.prog X.w) X.A (isTrue e X.env (eval e X.env)) (TP X pins σ Q) X.xe s
def PW (X : Cx) (e : Expr) (t : TT) : Prop :=
  ∀ (whole : Sem Value) (pins : List (Addr × Obj)) (s : Shared) (σ : St) (H : Hp) (Q : Bool → Hp → Prop), Inv X pins σ H s → t σ H Q → wpAny (model X.prog X.w) X.A (isTrue e X.env whole) (TP X pins σ Q) X.xe s
theorem PW.pt {X : Cx} {e : Expr} {t : TT} (h : PW X e t) : PT X e t := h _
def PA (X : Cx) (es : List Expr) (t : TA) : Prop :=
  ∀ (pos : Pos) (pins : List (Addr × Obj)) (s : Shared) (σ : St) (H : Hp) (Q : List V → Hp → Prop), Inv X pins σ H s → t σ H Q → wpAny (model X.prog X.w) X.A (spliced (backTo pos (starEach es X.env))) (AP X pins σ Q) X.xe s
def PS (X : Cx) (st : Stmt) (t : TS) : Prop :=
  ∀ (pins : List (Addr × Obj)) (s : Shared) (σ : St) (H : Hp) (D : Ends), Inv X pins σ H s → t D σ H → wpAny (model X.prog X.w) X.A (exec st X.env) (SP X pins D) X.xe s
def PSs (X : Cx) (st : List Stmt) (t : TS) : Prop :=
  ∀ (pins : List (Addr × Obj)) (s : Shared) (σ : St) (H : Hp) (D : Ends), Inv X pins σ H s → t D σ H → wpAny (model X.prog X.w) X.A (execs st X.env) (SP X pins D) X.xe s
theorem thn {α : Type} {t : Sem α} {Q Q' : α → Shared → Prop} {M : Model} {A : Around} {E : Value → Shared → Prop} {s : Shared} (h : wpAny M A t Q E s) (hQ : ∀ a s, Q a s → Q' a s) : wpAny M A t Q' E s := wpAny_mono h hQ fun _ _ x => x
end L2
namespace L2
open PySem PySem.Spec PyProof.Rows
section
variable {X : Cx}
def tVar (i : Nat) : TE := fun σ H Q => ∃ v, σ[i]? = some (some v) ∧ Q v H
def tC (v : V) : TE := fun _ H Q => Q v H
theorem pe_var {i : Nat} {x : Str} {pos : Pos} (hN : X.N[i]? = some x) (hv : Vis X.env.scope x) (hd : (x == ("__debug__" : Str)) = false := by decide) (hcd : (x == ("__classdict__" : Str)) = false := by decide) : PE X (.Name x pos) (tVar i) := by
  intro pins s σ H Q I h
  obtain ⟨v, e, h⟩ := h
  obtain ⟨m, hn, hl⟩ := I.loc
  obtain ⟨u, r, l⟩ := hl i x v hN e hv
  have fin : EP X pins σ Q u s := ⟨v, H, I, r, h⟩
  rcases l with ⟨hk, hm⟩ | ⟨hk, c, hc, hcell⟩
  · exact wpAny_Name (wpAny_loadName_local I.ok.kind hk hn hm fin) hd
  · rcases hk with hk | hk
    · exact wpAny_Name (wpAny_loadName_cell I.ok.kind hk hc hcell fin) hd
    · exact wpAny_Name (wpAny_loadName_free I.ok.kind hk hc hcell fin hcd) hd
theorem pe_int {i j pos} : PE X (.Constant (.int i) j pos) (tC (.int i)) := fun _ _ _ H _ I h => wpAny_Constant_int ⟨.int i, H, I.tok _, ⟨_, rfl⟩, h⟩
theorem pe_bl {b j pos} : PE X (.Constant (.bool b) j pos) (tC (.bl b)) := fun _ _ _ H _ I h => Constant_bool ⟨.bl b, H, I, rfl, h⟩
def Gl (X : Cx) (x : Str) : Prop := X.env.kindOf x = some .globalImplicit
theorem ld_glob {E : Value → Shared → Prop} {pins : List (Addr × Obj)} {s : Shared} {σ : St} {H : Hp} {x : Str} {u : Value} {pos : Pos} {Q : Value → Shared → Prop} (I : Inv X pins σ H s) (hg : Gl X x) (hm : X.mg x = some u) (h : Q u s)
    (hd : (x == ("__debug__" : Str)) = false := by decide) : wpAny (model X.prog X.w) X.A (eval (.Name x pos) X.env) Q E s :=
  Calls.Name_function_global I.ok.kind hg (Calls.loadGlobal_global (by rw [I.ok.glob]; exact I.mod.glob.keeps I.bk) hm h) hd
theorem ld_blt {E : Value → Shared → Prop} {pins : List (Addr × Obj)} {s : Shared} {σ : St} {H : Hp} {x : Str} {u : Value} {pos : Pos} {Q : Value → Shared → Prop} (I : Inv X pins σ H s) (hg : Gl X x) (hm : X.mg x = none) (hv : bootBuiltins x = some u) (h : Q u s)
    (hn : x ≠ "__name__" := by decide) (hd : (x == ("__debug__" : Str)) = false := by decide) : wpAny (model X.prog X.w) X.A (eval (.Name x pos) X.env) Q E s := by
  obtain ⟨mb, h1, h2⟩ := I.mod.blt
  exact Calls.Name_function_global I.ok.kind hg (Calls.loadGlobal_builtin (by rw [I.ok.glob]; exact I.mod.glob.keeps I.bk) hm (by rw [I.ok.blt]; exact h1.keeps I.bk) ((h2 x hn).trans hv) h) hd
theorem pe_glob {x : Str} {v : V} {u : Value} {pos : Pos} (hg : Gl X x) (hm : X.mg x = some u) (r : RelV v u) (hd : (x == ("__debug__" : Str)) = false := by decide) : PE X (.Name x pos) (tC v) :=
  fun _ _ _ H _ I h => ld_glob I hg hm ⟨v, H, I, r, h⟩ hd
variable {a b : Expr} {ta tb : TE} {pos : Pos}
def tB (t : TE) : TT := fun σ H Q => t σ H fun x H1 => ∃ c, x = .bl c ∧ Q c H1
theorem pt_val {e : Expr} {t : TE} (h : PE X e t) (he : ∀ whole, isTrue e X.env whole = (do let v ← whole; standAt e.pos; holding [v] (truthy v)) := by intro _; rfl) : PT X e (tB t) := by
  intro pins s σ H Q I hw
  refine isTrue_plain (thn (h pins s σ H _ I hw) fun v s1 ⟨x, H1, I1, r1, q1⟩ => ?_) (he _)
  obtain ⟨d, rfl, q⟩ := q1
  cases r1
  exact wpAny_truthy_bool ⟨H1, I1, q⟩
variable {tA tB' : TT} {rest : List Expr}
def tAnd (t u : TT) : TT := fun σ H Q => t σ H fun c H1 => if c = true then u σ H1 Q else Q false H1
def tOr (t u : TT) : TT := fun σ H Q => t σ H fun c H1 => if c = true then Q true H1 else u σ H1 Q
def tNot (t : TT) : TT := fun σ H Q => t σ H fun c H1 => Q (!c) H1
theorem pw_and1 (ha : PT X a tA) : PW X (.BoolOp .And [a] pos) tA := by
  intro wh pins s σ H Q I h
  refine isTrue_and (thn (ha pins s σ H Q I h) fun c s1 e => ?_)
  cases c with
  | true => exact isTrue_and_nil e
  | false => exact e
theorem pw_or1 (ha : PT X a tA) : PW X (.BoolOp .Or [a] pos) tA := by
  intro wh pins s σ H Q I h
  refine isTrue_or (thn (ha pins s σ H Q I h) fun c s1 e => ?_)
  cases c with
  | false => exact isTrue_or_nil e
  | true => exact e
theorem pw_and (ha : PT X a tA) (hb : PW X (.BoolOp .And (b :: rest) pos) tB') : PW X (.BoolOp .And (a :: b :: rest) pos) (tAnd tA tB') := by
  intro wh pins s σ H Q I h
  refine isTrue_and (thn (ha pins s σ H _ I h) fun c s1 ⟨H1, I1, q1⟩ => ?_)
  cases c with
  | true => exact hb wh pins s1 σ H1 Q I1 q1
  | false => exact ⟨H1, I1, q1⟩
theorem pw_or (ha : PT X a tA) (hb : PW X (.BoolOp .Or (b :: rest) pos) tB') : PW X (.BoolOp .Or (a :: b :: rest) pos) (tOr tA tB') := by
  intro wh pins s σ H Q I h
  refine isTrue_or (thn (ha pins s σ H _ I h) fun c s1 ⟨H1, I1, q1⟩ => ?_)
  cases c with
  | true => exact ⟨H1, I1, q1⟩
  | false => exact hb wh pins s1 σ H1 Q I1 q1
theorem pt_not (ha : PT X a tA) : PT X (.UnaryOp .Not a pos) (tNot tA) := by
  intro pins s σ H Q I h
  exact isTrue_not (ha pins s σ H (fun c H1 => Q (!c) H1) I h)
def tAndV (ta tb : TE) : TE := fun σ H Q => ta σ H fun x H1 => ∃ c, x = .bl c ∧ if c = true then tb σ H1 Q else Q (.bl false) H1
theorem pe_one {op} {t : TE} (h : PE X a t) : PE X (.BoolOp op [a] pos) t := fun pins s σ H Q I hw => BoolOp_one (h pins s σ H Q I hw)
theorem pe_and (ha : PE X a ta) (hb : PE X (.BoolOp .And (b :: rest) pos) tb) : PE X (.BoolOp .And (a :: b :: rest) pos) (tAndV ta tb) := by
  intro pins s σ H Q I h
  refine BoolOp_and (thn (ha pins s σ H _ I h) fun v s1 ⟨x, H1, I1, r1, q1⟩ => ?_)
  obtain ⟨c, rfl, q1⟩ := q1
  cases r1
  refine wpAny_truthy_bool ?_
  cases c with
  | true => exact hb pins s1 σ H1 Q I1 q1
  | false => exact ⟨.bl false, H1, I1, rfl, q1⟩
def tIf (t : TT) (ta tb : TE) : TE := fun σ H Q => t σ H fun c H1 => if c = true then ta σ H1 Q else tb σ H1 Q
theorem pe_ifExp {c : Expr} (hc : PT X c tA) (ha : PE X a ta) (hb : PE X b tb) : PE X (.IfExp c a b pos) (tIf tA ta tb) := by
  intro pins s σ H Q I h
  refine wpAny_IfExp (thn (hc pins s σ H _ I h) fun d s1 ⟨H1, I1, q1⟩ => ?_)
  cases d with
  | true => exact ha pins s1 σ H1 Q I1 q1
  | false => exact hb pins s1 σ H1 Q I1 q1
end
end L2
namespace L2
open PySem PySem.Spec PyProof.Rows
def SqL (K : PySem.W.Frag) (H : Hp) (a : Addr) (xs : List V) : Prop :=
  Rd H a (.lst xs) ∨
    ∃ (o : Obj) (its : Array Value) (n : Nat), K.lookup a = some o ∧ o.cls = .type "list" ∧ o.dict = none ∧ o.data = .seq its n ∧ its.size ≤ sizeLine ∧ Vals xs its.toList
def SqT (K : PySem.W.Frag) (H : Hp) (a : Addr) (xs : List V) : Prop :=
  Rd H a (.tup xs) ∨
    ∃ (o : Obj) (its : Array Value) (n : Nat), K.lookup a = some o ∧ o.cls = .type "tuple" ∧ o.data = .seq its n ∧ its.size ≤ sizeLine ∧ Vals xs its.toList
def absV : Value → Option V
  | .none => some .non
  | .bool b => some (.bl b)
  | .int i _ => some (.int i)
  | .str x _ => some (.str x)
  | .bytes b _ => some (.byt b)
  | .float b _ => some (.flt b)
  | .ref a => some (.ref a)
  | .type n => some (.ty n)
  | _ => none
theorem RelV.abs {x : V} {u : Value} (r : RelV x u) : absV u = some x := by
  cases x with
  | non => cases r; rfl
  | bl _ => cases r; rfl
  | int _ => obtain ⟨t, rfl⟩ := r; rfl
  | str _ => obtain ⟨t, rfl⟩ := r; rfl
  | byt _ => obtain ⟨t, rfl⟩ := r; rfl
  | flt _ => obtain ⟨t, rfl⟩ := r; rfl
  | ref _ => cases r; rfl
  | ty _ => cases r; rfl
theorem RelV.inj {x y : V} {u : Value} (r : RelV x u) (q : RelV y u) : x = y := Option.some.inj (r.abs.symm.trans q.abs)
theorem Vals.inj : ∀ {xs ys : List V} {us : List Value}, Vals xs us → Vals ys us → xs = ys
  | _, _, _, .nil, .nil => rfl
  | _, _, _, .cons r t, .cons r' t' => by rw [r.inj r', Vals.inj t t']
section
variable {X : Cx} {pins : List (Addr × Obj)} {σ : St} {H : Hp} {s : Shared} {a : Addr} {xs ys : List V}
theorem SqL.of {K : PySem.W.Frag} (h : H a = some (.lst xs)) : SqL K H a xs := .inl (.inl h)
theorem SqT.of {K : PySem.W.Frag} (h : H a = some (.tup xs)) : SqT K H a xs := .inl (.inl h)
theorem Inv.list (I : Inv X pins σ H s) (h : SqL X.K H a xs) : ∃ its : List Value, Vals xs its ∧ PlainL s.heap a its.toArray ∧ xs.length ≤ sizeLine := by
  rcases h with h | ⟨o, its, n, hk, hc, hd, hs, hz, r⟩
  · obtain ⟨z, its, n, r, e⟩ := h.ok I.hok
    exact ⟨its, r, ⟨_, n, e, rfl, rfl, rfl⟩, z⟩
  · refine ⟨its.toList, r, ⟨o, n, I.kIn a o hk, hc, hd, by simpa using hs⟩, ?_⟩
    have e := r.length
    simp only [Array.length_toList] at e
    omega
theorem Inv.tuple (I : Inv X pins σ H s) (h : SqT X.K H a xs) : ∃ its : List Value, Vals xs its ∧ IsTup s.heap a its.toArray ∧ xs.length ≤ sizeLine := by
  rcases h with h | ⟨o, its, n, hk, hc, hs, hz, r⟩
  · obtain ⟨z, its, r, p⟩ := h.ok I.hok
    exact ⟨its, r, p, z⟩
  · refine ⟨its.toList, r, ⟨o, I.kIn a o hk, hc, n, by simpa using hs⟩, ?_⟩
    have e := r.length
    simp only [Array.length_toList] at e
    omega
theorem Inv.list_inj (I : Inv X pins σ H s) (h : SqL X.K H a xs) (h' : SqL X.K H a ys) : xs = ys := by
  obtain ⟨its, r, ⟨o, n, e, _, _, d⟩, _⟩ := I.list h
  obtain ⟨its', r', ⟨o', n', e', _, _, d'⟩, _⟩ := I.list h'
  rw [e] at e'; cases e'
  rw [d] at d'
  injection d' with d1 _
  have : its = its' := by simpa using congrArg Array.toList d1
  subst this
  exact r.inj r'
end
abbrev Cx.wish (X : Cx) (E : Value → Shared → Prop) : Cx := { X with xe := E }
abbrev Cx.nox (X : Cx) : Cx := X.wish fun _ _ => False
theorem Cx.Ok.wish {X : Cx} (ok : X.Ok) (E : Value → Shared → Prop) : (X.wish E).Ok :=
  ⟨ok.mod, ok.kind, ok.glob, ok.blt, ok.above, ok.inj, ok.has, ok.cab, ok.hd, ok.frames, ok.stk, ok.exf, ok.bs, ok.bsz, ok.noex, ok.exfs, ok.funs, ok.frf⟩
theorem Cx.Ok.unwish {X : Cx} {E : Value → Shared → Prop} (ok : (X.wish E).Ok) : X.Ok :=
  ⟨ok.mod, ok.kind, ok.glob, ok.blt, ok.above, ok.inj, ok.has, ok.cab, ok.hd, ok.frames, ok.stk, ok.exf, ok.bs, ok.bsz, ok.noex, ok.exfs, ok.funs, ok.frf⟩
section
variable {X : Cx} {pins : List (Addr × Obj)} {σ : St} {H : Hp} {s : Shared} {E : Value → Shared → Prop}
theorem Inv.wish (I : Inv X pins σ H s) (E : Value → Shared → Prop) : Inv (X.wish E) pins σ H s := ⟨I.ok.wish E, I.os, I.bare, I.base, I.loc, I.cell, I.free, I.freeC, I.pin, I.hok, I.len⟩
theorem Inv.unwish (I : Inv (X.wish E) pins σ H s) : Inv X pins σ H s := ⟨I.ok.unwish, I.os, I.bare, I.base, I.loc, I.cell, I.free, I.freeC, I.pin, I.hok, I.len⟩
theorem SP.unwish {D : Ends} {f : Flow} {s' : Shared} (h : SP (X.wish E) pins D f s') : SP X pins D f s' := by
  cases f with
  | next => obtain ⟨σ', H', I, q⟩ := h; exact ⟨σ', H', I.unwish, q⟩
  | brk => obtain ⟨σ', H', I, q⟩ := h; exact ⟨σ', H', I.unwish, q⟩
  | cont => obtain ⟨σ', H', I, q⟩ := h; exact ⟨σ', H', I.unwish, q⟩
  | ret u => obtain ⟨v, σ', H', I, r, q⟩ := h; exact ⟨v, σ', H', I.unwish, r, q⟩
theorem PSs.nox {st : List Stmt} {t : TS} (h : PSs X.nox st t) : PSs X st t := fun pins s σ H D I hw =>
  wpAny_mono (h pins s σ H D (I.wish _) hw) (fun _ _ q => q.unwish) fun _ _ z => False.elim z
end
section
variable {X : Cx} {st : Stmt} {rest : List Stmt} {t u : TS} {e : Expr} {te : TE} {pos : Pos}
def tNext : TS := fun D σ H => D.nx σ H
def tSeq (t u : TS) : TS := fun D σ H => t { D with nx := u D } σ H
theorem pss_nil : PSs X [] tNext := fun _ _ σ H _ I h => wpAny_execs_nil ⟨σ, H, I, h⟩
theorem pss_cons (h1 : PS X st t) (h2 : PSs X rest u) : PSs X (st :: rest) (tSeq t u) := by
  intro pins s σ H D I h
  refine wpAny_execs_cons (thn (h1 pins s σ H { D with nx := u D } I h) fun f s1 q => ?_)
  cases f with
  | next =>
    obtain ⟨σ', H', I', q⟩ := q
    exact h2 pins s1 σ' H' D I' q
  | ret v => exact q
  | brk => exact q
  | cont => exact q
theorem pss_one (h1 : PS X st t) : PSs X [st] t := by
  intro pins s σ H D I h
  refine wpAny_execs_cons (thn (h1 pins s σ H D I h) fun f s1 q => ?_)
  cases f with
  | next => exact wpAny_execs_nil q
  | ret v => exact q
  | brk => exact q
  | cont => exact q
theorem Inv.quiet {pins : List (Addr × Obj)} {σ : St} {H : Hp} {s : Shared} (I : Inv X pins σ H s) : interactive X.env = false := by simp [interactive, I.ok.kind]
def tDrop (te : TE) : TS := fun D σ H => te σ H fun _ H1 => D.nx σ H1
theorem ps_expr (he : PE X e te) (hs : swapsWith e none pos.line X.env = pure false := by rfl) : PS X (.Expr e pos) (tDrop te) := by
  intro pins s σ H D I h
  exact wpAny_Expr_any (thn (he pins s σ H _ I h) fun v s1 ⟨x, H1, I1, r1, q1⟩ => ⟨σ, H1, I1, q1⟩) I.quiet hs
def tRet (te : TE) : TS := fun D σ H => te σ H D.rt
theorem ps_ret (he : PE X e te) : PS X (.Return (some e) pos) (tRet te) := by
  intro pins s σ H D I h
  exact wpAny_Return_some (thn (he pins s σ H _ I h) fun v s1 ⟨x, H1, I1, r1, q1⟩ => ⟨x, σ, H1, I1, r1, q1⟩)
def tIfS (c : TT) (t u : TS) : TS := fun D σ H => c σ H fun b H1 => if b = true then t D σ H1 else u D σ H1
theorem ps_if {c : Expr} {a b : List Stmt} {tc : TT} (hc : PT X c tc) (ha : PSs X a t) (hb : PSs X b u) : PS X (.If c a b pos) (tIfS tc t u) := by
  intro pins s σ H D I h
  refine wpAny_If (thn (hc pins s σ H _ I h) fun d s1 ⟨H1, I1, q1⟩ => ?_)
  cases d with
  | true => exact ha pins s1 σ H1 D I1 q1
  | false => exact hb pins s1 σ H1 D I1 q1
end
abbrev TG := V → St → Hp → (St → Hp → Prop) → Prop
abbrev TGs := List V → St → Hp → (St → Hp → Prop) → Prop
def PG (X : Cx) (target : Expr) (t : TG) : Prop :=
  ∀ (pins : List (Addr × Obj)) (s : Shared) (σ : St) (H : Hp) (v : V) (u : Value) (Q : St → Hp → Prop), Inv X pins σ H s → RelV v u → t v σ H Q →
    wpAny (model X.prog X.w) X.A (assign target X.env u) (fun _ s' => ∃ σ' H', Inv X pins σ' H' s' ∧ Q σ' H') X.xe s
def PGs (X : Cx) (ts : List Expr) (t : TGs) : Prop :=
  ∀ (pins : List (Addr × Obj)) (s : Shared) (σ : St) (H : Hp) (vs : List V) (us : List Value) (Q : St → Hp → Prop), Inv X pins σ H s → Vals vs us → t vs σ H Q →
    wpAny (model X.prog X.w) X.A (assignInOrder ((assignEach ts X.env).map (·.2)) us) (fun _ s' => ∃ σ' H', Inv X pins σ' H' s' ∧ Q σ' H') X.xe s
section
variable {X : Cx} {pos : Pos}
def gName (i : Nat) : TG := fun v σ H Q => Q (σ.set i (some v)) H
theorem pg_name {i : Nat} {x : Str} (hN : X.N.Nodup) (hi : X.N[i]? = some x) (hx : Loc X.env.scope x) (hf : X.fn x = true ∨ X.env.scope.names.lookup x = some .local := by first | exact .inl rfl | exact .inr rfl | assumption) : PG X (.Name x pos) (gName i) := by
  intro pins s σ H v u Q I r h
  exact wpAny_assign_Name (store_ok I hN hi hx r (fun s' I' => ⟨_, H, I', h⟩) hf)
def gNil : TGs := fun vs σ H Q => vs = [] ∧ Q σ H
def gCons (t : TG) (u : TGs) : TGs := fun vs σ H Q => ∃ v r, vs = v :: r ∧ t v σ H fun σ' H' => u r σ' H' Q
theorem pgs_nil : PGs X [] gNil := by
  intro pins s σ H vs us Q I r h
  obtain ⟨e, h⟩ := h
  subst e
  cases r
  exact assignInOrder_nil ⟨σ, H, I, h⟩
theorem pgs_cons {e : Expr} {es : List Expr} {t : TG} {u : TGs} (h1 : PG X e t) (h2 : PGs X es u)
    (hs : (assignEach (e :: es) X.env).map (·.2) = assign e X.env :: (assignEach es X.env).map (·.2) := by rfl) : PGs X (e :: es) (gCons t u) := by
  intro pins s σ H vs us Q I r h
  obtain ⟨v, vr, e1, h⟩ := h
  subst e1
  cases r with
  | cons r rr =>
    rw [hs]
    refine assignInOrder_cons (thn (h1 pins s σ H _ _ _ I r h) fun _ s1 ⟨σ1, H1, I1, q1⟩ => ?_)
    exact h2 pins s1 σ1 H1 _ _ Q I1 rr q1
def gTup (K : PySem.W.Frag) (n : Nat) (t : TGs) : TG := fun v σ H Q => ∃ a xs, v = .ref a ∧ SqT K H a xs ∧ xs.length = n ∧ t xs σ H Q
theorem pg_tup {es : List Expr} {k : Nat} {t : TGs} {n : Nat} (hc : X.calm = true) (h : PGs X es t)
    (hn : (assignEach es X.env).length = n := by rfl) (hst : (assignEach es X.env).findIdx? (·.1) = none := by rfl) : PG X (.Tuple es k pos) (gTup X.K n t) := by
  intro pins s σ H v u Q I r hw
  obtain ⟨a, xs, e1, hq, hl, hw⟩ := hw
  subst e1
  cases r
  obtain ⟨its, rv, ht, hz⟩ := I.tuple hq
  refine assign_Tuple_tuple (I.ok.hd hc) ht (by simp [hn, ← hl, rv.length]) hst fun h' hx => ?_
  have I1 : Inv X pins σ H { s with heap := h' } := I.kept (t' := s.toks) fun b o e => hx b o (Nat.ne_of_lt (Heap.lt_size e)) e
  exact h pins _ σ H xs _ Q I1 (by simpa using rv) hw
def tAsg (te : TE) (g : TG) : TS := fun D σ H => te σ H fun x H1 => g x σ H1 D.nx
theorem ps_set {i : Nat} {x : Str} {e : Expr} {te : TE} {pos' : Pos} (hN : X.N.Nodup) (hi : X.N[i]? = some x) (hx : Loc X.env.scope x) (he : PE X e te) (hs : swapsWith e (some (.Name x pos')) pos.line X.env = pure false := by rfl) (hf : X.fn x = true ∨ X.env.scope.names.lookup x = some .local := by first | exact .inl rfl | exact .inr rfl | assumption) :
    PS X (.Assign [.Name x pos'] e pos) (tAsg te (gName i)) := by
  intro pins s σ H D I h
  refine wpAny_Assign_Name (thn (he pins s σ H _ I h) fun v s1 ⟨y, H1, I1, r1, q1⟩ => ?_) hs
  exact store_ok I1 hN hi hx r1 (fun s2 I2 => ⟨_, H1, I2, q1⟩) hf
end
section
variable {X : Cx} {pos : Pos}
def tWhile (c : TT) (tb : TS) : TS := fun D σ H => ∃ W : Nat → St → Hp → Prop, (∃ m, W m σ H) ∧ ∀ m σ H, W m σ H →
  c σ H fun b H1 => if b = true then ∃ N : St → Hp → Prop, (∀ σ' H', N σ' H' → ∃ m', m' < m ∧ W m' σ' H') ∧ tb { D with nx := N, ct := N, bk := D.nx } σ H1 else D.nx σ H1
theorem ps_while {c : Expr} {body : List Stmt} {tc : TT} {tb : TS} (hp : PassesOwn (model X.prog X.w) X.A X.env X.xe) (hc : PT X c tc) (hb : PSs X body tb) : PS X (.While c body [] pos) (tWhile tc tb) := by
  intro pins s σ H D I h
  obtain ⟨W, ⟨m0, w0⟩, turn⟩ := h
  refine wpAny_While (codeAny_whileLoop (fun n s' => ∃ σ' H', Inv X pins σ' H' s' ∧ W n σ' H') ?_ m0 ⟨σ, H, I, w0⟩)
  rintro n s1 ⟨σ1, H1, I1, w1⟩
  refine wpAny_passesOwn hp (thn (hc pins s1 σ1 H1 _ I1 (turn n σ1 H1 w1)) fun b s2 ⟨H2, I2, q2⟩ => ?_)
  cases b with
  | true =>
    obtain ⟨N, hN, q2⟩ := q2
    rw [if_pos rfl]
    refine wpAny_passesOwn hp (thn (hb pins s2 σ1 H2 _ I2 q2) fun f s3 q3 => ?_)
    cases f with
    | next =>
      obtain ⟨σ3, H3, I3, n3⟩ := q3
      obtain ⟨m', hm, w3⟩ := hN σ3 H3 n3
      exact ⟨m', hm, σ3, H3, I3, w3⟩
    | cont =>
      obtain ⟨σ3, H3, I3, n3⟩ := q3
      obtain ⟨m', hm, w3⟩ := hN σ3 H3 n3
      exact ⟨m', hm, σ3, H3, I3, w3⟩
    | brk => exact q3
    | ret v => exact q3
  | false =>
    rw [if_neg Bool.false_ne_true]
    exact wpAny_execs_nil ⟨σ1, H2, I2, q2⟩
end
structure It where
  go : Nat → Hp → Prop
  yld : Nat → Hp → V → Hp → Prop
  stop : Nat → Hp → Prop
def FpOk (X : Cx) (pins : List (Addr × Obj)) (H : Hp) (b : Addr) : Prop :=
  H b = none ∧ b ≠ X.env.locals ∧ b ∉ X.fs ∧ (b ∈ X.ex ∨ X.s_0.heap.objs.size ≤ b) ∧ (∀ x c, X.env.cells.lookup x = some c → c ≠ b) ∧ ∀ p ∈ X.pn ++ pins, p.1 ≠ b
theorem Inv.fpOk {X : Cx} {pins : List (Addr × Obj)} {σ : St} {H H' : Hp} {s : Shared} {b : Addr} (I : Inv X pins σ H s) (hb : s.heap.objs.size ≤ b) (hn : H' b = none) : FpOk X pins H' b := by
  refine ⟨hn, Nat.ne_of_gt (Nat.lt_of_lt_of_le I.lt hb), I.nofs hb, .inr (Nat.le_trans I.sz hb), fun x c e z => ?_, fun p hp z => ?_⟩
  · obtain ⟨v, q⟩ := I.cell x c e
    exact absurd (Nat.lt_of_lt_of_le q.lt (by rw [z]; exact hb)) (Nat.lt_irrefl _)
  · exact absurd (Nat.lt_of_lt_of_le (Heap.lt_size (I.pin p hp).1) (by rw [z]; exact hb)) (Nat.lt_irrefl _)
structure Turn (P : Program) (w : World) (K : PySem.W.Frag) (tg : Expr) (J : It) (fp : List Addr) (it : Addr) (tn : Nat → Heap → Prop) : Prop where
  mem : it ∈ fp
  obj : ∀ i h, tn i h → ∀ b ∈ fp, ∃ o, h.get? b = some o ∧ ∀ v, o.data ≠ .cell v
  keep : ∀ i h h', tn i h → (∀ b ∈ fp, ∀ o, h.get? b = some o → h'.get? b = some o) → tn i h'
  item : ∀ (X : Cx), X.prog = P → X.w = w → X.K = K → X.calm = true → ∀ (i : Nat) (pins : List (Addr × Obj)) (s : Shared) (σ : St) (H : Hp) (E : Value → Shared → Prop), Inv X pins σ H s → (∀ b ∈ fp, FpOk X pins H b) → tn i s.heap → J.go i H →
    wpAny (model P w) X.A (pyNext (.ref it)) (fun r s1 => ∃ u, r = some u ∧
      wpAny (model P w) X.A (letOwnedTupleGo tg (.ref it) u) (fun _ s2 => ∃ x H', Inv X pins σ H' s2 ∧ RelV x u ∧ J.yld i H x H' ∧ tn (i + 1) s2.heap ∧ ∀ b ∈ fp, H' b = none) E s1) E s
  done : ∀ (X : Cx), X.prog = P → X.w = w → X.K = K → X.calm = true → ∀ (i : Nat) (pins : List (Addr × Obj)) (s : Shared) (σ : St) (H : Hp) (E : Value → Shared → Prop), Inv X pins σ H s → (∀ b ∈ fp, FpOk X pins H b) → tn i s.heap → J.stop i H →
    wpAny (model P w) X.A (pyNext (.ref it)) (fun r s1 => r = none ∧ Inv X pins σ H s1) E s
  self : ∀ (A : Around) (i : Nat) (s : Shared) (Q : Value → Shared → Prop) (E : Value → Shared → Prop), tn i s.heap → Q (.ref it) s → wpAny (model P w) A (pyIter (.ref it)) Q E s
abbrev TI := St → Hp → (It → Hp → Prop) → Prop
def PIE (X : Cx) (pins : List (Addr × Obj)) (σ : St) (tg : Expr) (R : It → Hp → Prop) (itv : Value) (s2 : Shared) : Prop :=
  ∃ (it : Addr) (fp : List Addr) (tn : Nat → Heap → Prop) (J : It) (H' : Hp), itv = .ref it ∧ Inv X pins σ H' s2 ∧ Turn X.prog X.w X.K tg J fp it tn ∧ tn 0 s2.heap ∧ (∀ b ∈ fp, FpOk X pins H' b) ∧ R J H'
def PI (X : Cx) (tg iter : Expr) (wi : TI) : Prop :=
  ∀ (pins : List (Addr × Obj)) (s : Shared) (σ : St) (H : Hp) (R : It → Hp → Prop), Inv X pins σ H s → wi σ H R →
    wpAny (model X.prog X.w) X.A (eval iter X.env) (fun v s1 => wpAny (model X.prog X.w) X.A (pyIter v) (PIE X pins σ tg R) X.xe s1) X.xe s
theorem go_of {M : Model} {A : Around} {E : Value → Shared → Prop} {s : Shared} {tg : Expr} {it : Addr} {u : Value} {o : Obj} {n : String} {vs : Array Value} {Q : Unit → Shared → Prop} (ho : s.heap.get? it = some o) (hc : o.cls = .type n) (hd : o.data = .fields vs)
    (hn : ["enumerate", "zip", "dict_itemiterator", "dict_reverseitemiterator", "odict_iterator", "itertools.zip_longest", "itertools.pairwise"].contains n = false) (hQ : Q () s) : wpAny M A (letOwnedTupleGo tg (.ref it) u) Q E s := by
  unfold letOwnedTupleGo
  cases tg <;> first
    | exact wpAny_pure hQ
    | (cases u <;> first
        | exact wpAny_pure hQ
        | (refine wpAny_bind (wpAny_load ho ?_)
           rw [hc, hd]
           show wpAny M A (if (["enumerate", "zip", "dict_itemiterator", "dict_reverseitemiterator", "odict_iterator", "itertools.zip_longest", "itertools.pairwise"].contains n && vs[0]? == some (rawInt _)) = true then _ else _) Q E s
           rw [if_neg (by intro h; rw [hn, Bool.false_and] at h; cases h)]
           exact wpAny_pure hQ))
def Itl (K : PySem.W.Frag) (a : Addr) : It :=
  ⟨fun i H => ∃ xs x, SqL K H a xs ∧ xs[i]? = some x, fun i H x H' => H' = H ∧ ∀ xs, SqL K H a xs → xs[i]? = some x, fun i H => ∃ xs, SqL K H a xs ∧ xs.length ≤ i⟩
def Itr (lo : Int) (n : Nat) : It := ⟨fun i _ => i < n, fun i H x H' => H' = H ∧ x = .int (lo + i), fun i _ => n ≤ i⟩
theorem turn_list {P : Program} {w : World} {K : PySem.W.Frag} {tg : Expr} (a it : Addr) : Turn P w K tg (Itl K a) [it] it (fun i h => h.IsListIter it a i) where
  mem := by simp
  obj := fun i h st b hb => by
    have e : b = it := by simpa using hb
    subst e
    obtain ⟨o, e, c, d⟩ := st
    exact ⟨o, e, fun v z => by rw [d] at z; cases z⟩
  keep := fun i h h' st k => st.at fun o e => k it (by simp) o e
  item := by
    intro X hP hw hK hc i pins s σ H E I hf st hg
    subst hP hw hK
    obtain ⟨xs, x, hq, hx⟩ := hg
    obtain ⟨its, rv, p, hz⟩ := I.list hq
    obtain ⟨u, hu, ru⟩ := rv.get hx
    obtain ⟨f0, f1, f2, f3, f4, f5⟩ := hf it (by simp)
    refine wpAny_pyNext_list_item st p.isList (x := u) (by simpa using hu) fun h' st' sb => ?_
    have I1 : Inv X pins σ H { s with heap := h' } := I.turned (t' := s.toks) (fun b o hb e => (sb.2 b hb).trans e) f0 f1 f3 f4 f5
    obtain ⟨o, e, c, d⟩ := id st'
    exact ⟨u, rfl, go_of (s := { s with heap := h' }) e c d (by decide) ⟨x, H, I1, ru, ⟨rfl, fun ys hy => by rw [I.list_inj hy hq]; exact hx⟩, st', fun b hb => (hf b hb).1⟩⟩
  done := by
    intro X hP hw hK hc i pins s σ H E I hf st hg
    subst hP hw hK
    obtain ⟨xs, hq, hx⟩ := hg
    obtain ⟨its, rv, p, hz⟩ := I.list hq
    obtain ⟨f0, f1, f2, f3, f4, f5⟩ := hf it (by simp)
    have hl := rv.length
    exact wpAny_pyNext_list_end (I.ok.hd hc) st p.isList (by simp; omega) fun h' eb => ⟨rfl, I.turned (t' := s.toks) (fun b o hb e => eb b o hb e) f0 f1 f3 f4 f5⟩
  self := fun _ _ _ _ _ st h => wpAny_pyIter_listiter st h
theorem turn_range {P : Program} {w : World} {K : PySem.W.Frag} {tg : Expr} (it : Addr) (lo : Int) (n : Nat) : Turn P w K tg (Itr lo n) [it] it (fun i h => IsRangeIter h it (lo + (i : Nat) * 1) ((n : Int) - (i : Nat)) 1) where
  mem := by simp
  obj := fun i h st b hb => by
    have e : b = it := by simpa using hb
    subst e
    exact ⟨_, st, fun v z => by
      have z' : Data.fields _ = Data.cell v := z
      cases z'⟩
  keep := fun i h h' st k => k it (by simp) _ st
  item := by
    intro X hP hw hK hc i pins s σ H E I hf st hg
    subst hP hw hK
    obtain ⟨f0, f1, f2, f3, f4, f5⟩ := hf it (by simp)
    have W := Walks.range (prog := X.prog) (w := X.w) (I.ok.hd hc) it lo 1 n
    refine W.item i s _ _ hg st fun v h' tk hv st' kk => ?_
    obtain ⟨t, rfl⟩ := hv
    have I1 : Inv X pins σ H { s with heap := h', toks := tk } := I.turned (fun b o hb e => kk b o (by simpa using hb) e) f0 f1 f3 f4 f5
    refine ⟨_, rfl, go_of (s := { s with heap := h', toks := tk }) (n := "range_iterator") st' rfl rfl (by decide) ⟨.int (lo + i), H, I1, ⟨t, ?_⟩, ⟨rfl, rfl⟩, st', fun b hb => (hf b hb).1⟩⟩
    rw [Int.mul_one]
  done := by
    intro X hP hw hK hc i pins s σ H E I hf st hg
    subst hP hw hK
    obtain ⟨f0, f1, f2, f3, f4, f5⟩ := hf it (by simp)
    exact wpAny_pyNext_range_end (I.ok.hd hc) st (by have : n ≤ i := hg; omega) fun h' eb => ⟨rfl, I.turned (t' := s.toks) (fun b o hb e => eb b o hb e) f0 f1 f3 f4 f5⟩
  self := fun _ _ _ _ _ st h => wpAny_pyIter_rangeiter st h
end L2
namespace L2
open PySem PySem.Spec PyProof.Rows
section
variable {X : Cx} {tg : Expr}
def iList (K : PySem.W.Frag) (tl : TE) : TI := fun σ H R => tl σ H fun x H1 => ∃ a, x = .ref a ∧ (∃ xs, SqL K H1 a xs) ∧ R (Itl K a) H1
theorem pi_list {l : Expr} {tl : TE} (hl : PE X l tl) : PI X tg l (iList X.K tl) := by
  intro pins s σ H R I h
  refine thn (hl pins s σ H _ I h) fun v s1 ⟨x, H1, I1, r1, q1⟩ => ?_
  obtain ⟨a, e, ⟨xs, hq⟩, q⟩ := q1
  subst e
  cases r1
  obtain ⟨its, rv, p, hz⟩ := I1.list hq
  refine wpAny_pyIter_list p.isList ?_
  refine ⟨s1.heap.objs.size, [s1.heap.objs.size], _, _, H1, rfl, I1.kept (t' := s1.toks) fun b o e => Heap.get?_push_of_some _ e, turn_list a _, ⟨_, Heap.get?_push_size _ rfl, rfl, rfl⟩, fun b hb => ?_, q⟩
  have e : b = s1.heap.objs.size := by simpa using hb
  subst e
  exact I1.fpOk (Nat.le_refl _) (I1.hok.fresh (Nat.le_refl _))
theorem range_it {pins : List (Addr × Obj)} {σ : St} {H : Hp} {s : Shared} {R : It → Hp → Prop} {E : Value → Shared → Prop} {lo hi : Int} {t u v : Tok} {tk : Nat} (I : Inv X pins σ H s) (h1 : -(2 ^ 62) ≤ lo) (h2 : lo < 2 ^ 62) (h3 : -(2 ^ 62) ≤ hi) (h4 : hi < 2 ^ 62)
    (q : R (Itr lo (hi - lo).toNat) H) : wpAny (model X.prog X.w) X.A (pyIter (.ref s.heap.objs.size)) (PIE X pins σ tg R) E { s with heap := s.heap.push { cls := .type "range", data := .fields #[.int lo t, .int hi u, .int 1 v] }, toks := tk } := by
  refine wpAny_pyIter_range (IsRange.new ..) (small_one h1 h2 h3 h4) ?_
  have I1 : Inv X pins σ H { s with heap := s.heap.push { cls := .type "range", data := .fields #[.int lo t, .int hi u, .int 1 v] }, toks := tk } := I.kept fun b o e => Heap.get?_push_of_some _ e
  refine ⟨(s.heap.push { cls := .type "range", data := .fields #[.int lo t, .int hi u, .int 1 v] }).objs.size, [(s.heap.push { cls := .type "range", data := .fields #[.int lo t, .int hi u, .int 1 v] }).objs.size], _, _, H, rfl,
    I1.kept (t' := tk) fun b o e => Heap.get?_push_of_some _ e, turn_range _ lo (hi - lo).toNat, ?_, fun b hb => ?_, q⟩
  · have e1 : lo + ((0 : Nat) : Int) * 1 = lo := by simp
    have e2 : (((hi - lo).toNat : Nat) : Int) - ((0 : Nat) : Int) = Builtin.Range.rangeSize lo hi 1 := by rw [rangeSize_one]; split <;> omega
    show IsRangeIter _ _ (lo + ((0 : Nat) : Int) * 1) ((((hi - lo).toNat : Nat) : Int) - ((0 : Nat) : Int)) 1
    rw [e1, e2]
    exact Heap.get?_push_size _ rfl
  · have e : b = (s.heap.push { cls := .type "range", data := .fields #[.int lo t, .int hi u, .int 1 v] }).objs.size := by simpa using hb
    subst e
    exact I1.fpOk (Nat.le_refl _) (I1.hok.fresh (Nat.le_refl _))
def iRng1 (ta : TA) : TI := fun σ H R => ta σ H fun vs H1 => ∃ j : Int, vs = [.int j] ∧ -(2 ^ 62) ≤ j ∧ j < 2 ^ 62 ∧ R (Itr 0 j.toNat) H1
theorem pi_range1 {a : Expr} {ta : TA} {p pos : Pos} (hg : Gl X "range") (hm : X.mg "range" = none) (ha : PA X [a] ta) (hs : starEach [a] X.env = [(false, eval a X.env)] := by rfl) : PI X tg (.Call (.Name "range" p) [a] [] pos) (iRng1 ta) := by
  intro pins s σ H R I h
  refine Call_ (ld_blt I hg hm boot_range (PyProof.Rows.callWith_type1 (thn (ha pos pins s σ H _ I h) fun us s1 ⟨vs, H1, I1, r1, q1⟩ => ?_) hs rfl))
  obtain ⟨j, e, q1, q2, q⟩ := q1
  subst e
  cases r1 with
  | cons r rr =>
    cases rr
    obtain ⟨t, rfl⟩ := r
    exact call_range_1 (range_it I1 (by omega) (by omega) q1 q2 (by simpa using q))
def tFor (wi : TI) (g : TG) (tb : TS) : TS := fun D σ H => wi σ H fun J H1 => ∃ W : Nat → Nat → St → Hp → Prop, (∃ m, W 0 m σ H1) ∧ ∀ i m σ H, W i m σ H →
  (J.stop i H ∧ D.nx σ H) ∨ (J.go i H ∧ ∃ N : St → Hp → Prop, (∀ σ' H', N σ' H' → ∃ m', m' < m ∧ W (i + 1) m' σ' H') ∧ ∀ x H', J.yld i H x H' → g x σ H' fun σ2 H2 => tb { D with nx := N, ct := N, bk := D.nx } σ2 H2)
def pinsAt (fp : List Addr) (h : Heap) : List (Addr × Obj) := fp.filterMap fun b => (h.get? b).map fun o => (b, o)
theorem mem_pinsAt {fp : List Addr} {h : Heap} {b : Addr} {o : Obj} (hb : b ∈ fp) (e : h.get? b = some o) : (b, o) ∈ pinsAt fp h := List.mem_filterMap.mpr ⟨b, hb, by rw [e]; rfl⟩
theorem of_pinsAt {fp : List Addr} {h : Heap} {p : Addr × Obj} (hp : p ∈ pinsAt fp h) : p.1 ∈ fp ∧ h.get? p.1 = some p.2 := by
  obtain ⟨b, hb, e⟩ := List.mem_filterMap.mp hp
  cases q : h.get? b with
  | none => rw [q] at e; cases e
  | some o =>
    rw [q] at e
    have e' : (b, o) = p := Option.some.inj e
    subst e'
    exact ⟨hb, q⟩
theorem Inv.pinned {pins : List (Addr × Obj)} {σ : St} {H : Hp} {s : Shared} {fp : List Addr} (I : Inv X pins σ H s) (hf : ∀ b ∈ fp, FpOk X pins H b) (ho : ∀ b ∈ fp, ∃ o, s.heap.get? b = some o ∧ ∀ v, o.data ≠ .cell v) : Inv X (pins ++ pinsAt fp s.heap) σ H s :=
  I.pins_of fun p hp => (List.mem_append.mp hp).elim (fun z => I.pin p (List.mem_append_right _ z)) fun z => by
    obtain ⟨hb, e⟩ := of_pinsAt z
    obtain ⟨f0, f1, f2, _⟩ := hf p.1 hb
    obtain ⟨o, e', d⟩ := ho p.1 hb
    rw [e] at e'; cases e'
    exact ⟨e, f0, f1, f2, d⟩
theorem Inv.unpinned {pins pl : List (Addr × Obj)} {σ : St} {H : Hp} {s : Shared} (I : Inv X (pins ++ pl) σ H s) : Inv X pins σ H s := I.pins_of fun p hp => I.pin p (List.mem_append_right _ (List.mem_append_left _ hp))
theorem ps_for {iter : Expr} {body : List Stmt} {wi : TI} {g : TG} {tb : TS} {pos : Pos} (hp : PassesOwn (model X.prog X.w) X.A X.env X.xe) (hc : X.calm = true) (hi : PI X tg iter wi) (hg : PG X tg g) (hb : PSs X body tb)
    (hs : ∀ x, foldedSetIterable iter X.env x = pure x := by intro _; rfl) : PS X (.For tg iter body [] pos) (tFor wi g tb) := by
  intro pins s σ H D I h
  refine wpAny_For (thn (hi pins s σ H _ I h) fun v s1 h1 => thn h1 fun itv s2 h2 => ?_) hs
  obtain ⟨it, fp, tn, J, H2, e, I2, T, st2, f2, W, ⟨m0, w0⟩, turn⟩ := h2
  subst e
  have stat : ∀ {H' : Hp}, (∀ b ∈ fp, H' b = none) → ∀ b ∈ fp, FpOk X pins H' b := fun hn b hb => ⟨hn b hb, (f2 b hb).2⟩
  refine codeAny_forLoop_any (fun n s' => ∃ i σ' H', Inv X pins σ' H' s' ∧ tn i s'.heap ∧ (∀ b ∈ fp, H' b = none) ∧ W i n σ' H') ?_ m0 ⟨0, σ, H2, I2, st2, fun b hb => (f2 b hb).1, w0⟩
  rintro n s3 ⟨i, σ3, H3, I3, st3, fr3, w3⟩
  rcases turn i n σ3 H3 w3 with ⟨stop, qn⟩ | ⟨go, N, hN, step⟩
  · refine wpAny_passesOwn hp (thn (T.done X rfl rfl rfl hc i pins s3 σ3 H3 X.xe I3 (stat fr3) st3 stop) fun r s4 ⟨hr, I4⟩ => ?_)
    subst hr
    exact wpAny_execs_nil ⟨σ3, H3, I4, qn⟩
  · refine wpAny_passesOwn hp (thn (T.item X rfl rfl rfl hc i pins s3 σ3 H3 X.xe I3 (stat fr3) st3 go) fun r s4 ⟨u, hr, h4⟩ => ?_)
    subst hr
    refine wpAny_passesOwn hp (thn h4 fun _ s5 ⟨x, H5, I5, r5, y5, st5, fr5⟩ => ?_)
    have I5' := I5.pinned (stat fr5) (T.obj _ _ st5)
    refine wpAny_passesOwn hp (thn (hg _ s5 σ3 H5 x u _ I5' r5 (step x H5 y5)) fun _ s6 ⟨σ6, H6, I6, q6⟩ => ?_)
    refine wpAny_passesOwn hp (thn (hb _ s6 σ6 H6 _ I6 q6) fun f s7 q7 => ?_)
    have again : ∀ {σ7 : St} {H7 : Hp}, Inv X (pins ++ pinsAt fp s5.heap) σ7 H7 s7 → N σ7 H7 → ∃ m, m < n ∧ ∃ i σ' H', Inv X pins σ' H' s7 ∧ tn i s7.heap ∧ (∀ b ∈ fp, H' b = none) ∧ W i m σ' H' := fun {σ7 H7} I7 n7 => by
      obtain ⟨m', hm, w7⟩ := hN σ7 H7 n7
      refine ⟨m', hm, i + 1, σ7, H7, I7.unpinned, T.keep _ _ _ st5 fun b hb o e => (I7.pin (b, o) (List.mem_append_right _ (List.mem_append_right _ (mem_pinsAt hb e)))).1, fun b hb => ?_, w7⟩
      obtain ⟨o, e, d⟩ := T.obj _ _ st5 b hb
      exact (I7.pin (b, o) (List.mem_append_right _ (List.mem_append_right _ (mem_pinsAt hb e)))).2.1
    cases f with
    | next => obtain ⟨σ7, H7, I7, n7⟩ := q7; exact again I7 n7
    | cont => obtain ⟨σ7, H7, I7, n7⟩ := q7; exact again I7 n7
    | brk => obtain ⟨σ7, H7, I7, q7⟩ := q7; exact ⟨σ7, H7, I7.unpinned, q7⟩
    | ret v => obtain ⟨x7, σ7, H7, I7, r7, q7⟩ := q7; exact ⟨x7, σ7, H7, I7.unpinned, r7, q7⟩
end
theorem for_list {K : PySem.W.Frag} {a : Addr} {xs : List V} {g : TG} {tb : TS} {D : Ends} {σ : St} {H : Hp} (Pv : Nat → St → Hp → Prop) (h0 : Pv 0 σ H) (hl : ∀ i σ H, i ≤ xs.length → Pv i σ H → SqL K H a xs)
    (hs : ∀ i x σ H, xs[i]? = some x → Pv i σ H → g x σ H fun σ2 H2 => tb { D with nx := Pv (i + 1), ct := Pv (i + 1), bk := D.nx } σ2 H2) (hd : ∀ σ H, Pv xs.length σ H → D.nx σ H) :
    ∃ W : Nat → Nat → St → Hp → Prop, (∃ m, W 0 m σ H) ∧ ∀ i m σ H, W i m σ H →
      ((Itl K a).stop i H ∧ D.nx σ H) ∨ ((Itl K a).go i H ∧ ∃ N : St → Hp → Prop, (∀ σ' H', N σ' H' → ∃ m', m' < m ∧ W (i + 1) m' σ' H') ∧ ∀ x H', (Itl K a).yld i H x H' → g x σ H' fun σ2 H2 => tb { D with nx := N, ct := N, bk := D.nx } σ2 H2) := by
  refine ⟨fun i m σ H => m = xs.length - i ∧ i ≤ xs.length ∧ Pv i σ H, ⟨xs.length, by simp, Nat.zero_le _, h0⟩, ?_⟩
  rintro i m σ H ⟨rfl, hi, p⟩
  have q := hl i σ H hi p
  by_cases hlt : i < xs.length
  · refine .inr ⟨⟨xs, xs[i], q, by simp [hlt]⟩, Pv (i + 1), fun σ' H' p' => ⟨xs.length - (i + 1), by omega, rfl, hlt, p'⟩, fun x H' y => ?_⟩
    obtain ⟨e, y⟩ := y
    subst e
    exact hs i x σ _ (y xs q) p
  · have e : i = xs.length := by omega
    subst e
    exact .inl ⟨⟨xs, q, Nat.le_refl _⟩, hd σ H p⟩
theorem for_range {lo : Int} {n : Nat} {g : TG} {tb : TS} {D : Ends} {σ : St} {H : Hp} (Pv : Nat → St → Hp → Prop) (h0 : Pv 0 σ H)
    (hs : ∀ i σ H, i < n → Pv i σ H → g (.int (lo + i)) σ H fun σ2 H2 => tb { D with nx := Pv (i + 1), ct := Pv (i + 1), bk := D.nx } σ2 H2) (hd : ∀ σ H, Pv n σ H → D.nx σ H) :
    ∃ W : Nat → Nat → St → Hp → Prop, (∃ m, W 0 m σ H) ∧ ∀ i m σ H, W i m σ H →
      ((Itr lo n).stop i H ∧ D.nx σ H) ∨ ((Itr lo n).go i H ∧ ∃ N : St → Hp → Prop, (∀ σ' H', N σ' H' → ∃ m', m' < m ∧ W (i + 1) m' σ' H') ∧ ∀ x H', (Itr lo n).yld i H x H' → g x σ H' fun σ2 H2 => tb { D with nx := N, ct := N, bk := D.nx } σ2 H2) := by
  refine ⟨fun i m σ H => m = n - i ∧ i ≤ n ∧ Pv i σ H, ⟨n, by simp, Nat.zero_le _, h0⟩, ?_⟩
  rintro i m σ H ⟨rfl, hi, p⟩
  by_cases hlt : i < n
  · refine .inr ⟨hlt, Pv (i + 1), fun σ' H' p' => ⟨n - (i + 1), by omega, rfl, hlt, p'⟩, fun x H' y => ?_⟩
    obtain ⟨e, y⟩ := y
    subst e y
    exact hs i σ _ hlt p
  · have e : i = n := by omega
    subst e
    exact .inl ⟨Nat.le_refl _, hd σ H p⟩
end L2
namespace L2
open PySem PySem.Spec PyProof.Rows
abbrev R2 := V → V → Hp → VK → Prop
def OpR (X : Cx) (f : Value → Value → Sem Value) (r : R2) : Prop :=
  ∀ (pins : List (Addr × Obj)) (s : Shared) (σ : St) (H : Hp) (x y : V) (v u : Value) (Q : VK), Inv X pins σ H s → RelV x v → RelV y u → r x y H Q →
    wpAny (model X.prog X.w) X.A (f v u) (EP X pins σ Q) X.xe s
def UnR (X : Cx) (f : Value → Sem Value) (r : V → Hp → VK → Prop) : Prop :=
  ∀ (pins : List (Addr × Obj)) (s : Shared) (σ : St) (H : Hp) (x : V) (v : Value) (Q : VK), Inv X pins σ H s → RelV x v → r x H Q →
    wpAny (model X.prog X.w) X.A (f v) (EP X pins σ Q) X.xe s
def CallR (X : Cx) (f : Value) (r : List V → Hp → VK → Prop) : Prop :=
  ∀ (pins : List (Addr × Obj)) (s : Shared) (σ : St) (H : Hp) (xs : List V) (us : List Value) (Q : VK), Inv X pins σ H s → Vals xs us → r xs H Q →
    wpAny (model X.prog X.w) X.A (call f us) (EP X pins σ Q) X.xe s
def tOp (r : R2) (ta tb : TE) : TE := fun σ H Q => ta σ H fun x H1 => tb σ H1 fun y H2 => r x y H2 Q
def tUn (r : V → Hp → VK → Prop) (ta : TE) : TE := fun σ H Q => ta σ H fun x H1 => r x H1 Q
def rI (C : Int → Int → Prop) (g : Int → Int → V) : R2 := fun x y H Q => ∃ i j, x = .int i ∧ y = .int j ∧ C i j ∧ Q (g i j) H
def rI0 (g : Int → Int → V) : R2 := fun x y H Q => ∃ i j, x = .int i ∧ y = .int j ∧ Q (g i j) H
def rU (g : Int → V) : V → Hp → VK → Prop := fun x H Q => ∃ i, x = .int i ∧ Q (g i) H
section
variable {X : Cx} {a b c : Expr} {ta tb tc : TE} {pos : Pos}
theorem binT (ha : PE X a ta) (hb : PE X b tb) {pins : List (Addr × Obj)} {s : Shared} {σ : St} {H : Hp} {R : V → V → Hp → Prop} (I : Inv X pins σ H s)
    (h : ta σ H fun x H1 => tb σ H1 fun y H2 => R x y H2) {Q : Value → Shared → Prop} {f : Value → Value → Sem Value}
    (hf : ∀ v u s2 x y H2, Inv X pins σ H2 s2 → RelV x v → RelV y u → R x y H2 → wpAny (model X.prog X.w) X.A (f v u) Q X.xe s2) :
    wpAny (model X.prog X.w) X.A (eval a X.env) (fun v s₁ => wpAny (model X.prog X.w) X.A (eval b X.env) (fun u s₂ => wpAny (model X.prog X.w) X.A (f v u) Q X.xe s₂) X.xe s₁) X.xe s := by
  refine thn (ha pins s σ H _ I h) fun v s1 ⟨x, H1, I1, r1, q1⟩ => ?_
  refine thn (hb pins s1 σ H1 _ I1 q1) fun u s2 ⟨y, H2, I2, r2, q2⟩ => ?_
  exact hf v u s2 x y H2 I2 r1 r2 q2
theorem pe_op {op : Operator} {r : R2} (ho : OpR X (binaryOp op) r) (ha : PE X a ta) (hb : PE X b tb) : PE X (.BinOp a op b pos) (tOp r ta tb) := by
  intro pins s σ H Q I h
  exact wpAny_BinOp (binT ha hb I h fun v u s2 x y H2 I2 rx ry q => ho pins s2 σ H2 x y v u Q I2 rx ry q)
theorem pe_un {op : UnaryOp} {r : V → Hp → VK → Prop} (ho : UnR X (unaryOp op) r) (ha : PE X a ta) : PE X (.UnaryOp op a pos) (tUn r ta) := by
  intro pins s σ H Q I h
  exact UnaryOp_ (thn (ha pins s σ H _ I h) fun v s1 ⟨x, H1, I1, r1, q1⟩ => ho pins s1 σ H1 x v Q I1 r1 q1)
theorem opI {f : Value → Value → Sem Value} {C : Int → Int → Prop} {g : Int → Int → Int}
    (rule : ∀ (i j : Int) (t u : Tok) (s : Shared) (Q : Value → Shared → Prop) (E : Value → Shared → Prop), C i j → Q (.int (g i j) s.toks) { s with toks := s.toks + 1 } → wpAny (model X.prog X.w) X.A (f (.int i t) (.int j u)) Q E s) :
    OpR X f (rI C fun i j => .int (g i j)) := by
  intro pins s σ H x y v u Q I rx ry h
  obtain ⟨i, j, rfl, rfl, hc, q⟩ := h
  obtain ⟨t, rfl⟩ := rx
  obtain ⟨t', rfl⟩ := ry
  exact rule i j t t' s _ _ hc ⟨.int (g i j), H, I.tok _, ⟨_, rfl⟩, q⟩
theorem opI0 {f : Value → Value → Sem Value} {g : Int → Int → Int}
    (rule : ∀ (i j : Int) (t u : Tok) (s : Shared) (Q : Value → Shared → Prop) (E : Value → Shared → Prop), Q (.int (g i j) s.toks) { s with toks := s.toks + 1 } → wpAny (model X.prog X.w) X.A (f (.int i t) (.int j u)) Q E s) :
    OpR X f (rI0 fun i j => .int (g i j)) := by
  intro pins s σ H x y v u Q I rx ry h
  obtain ⟨i, j, rfl, rfl, q⟩ := h
  obtain ⟨t, rfl⟩ := rx
  obtain ⟨t', rfl⟩ := ry
  exact rule i j t t' s _ _ ⟨.int (g i j), H, I.tok _, ⟨_, rfl⟩, q⟩
theorem opB0 {f : Value → Value → Sem Value} {g : Int → Int → Bool}
    (rule : ∀ (i j : Int) (t u : Tok) (s : Shared) (Q : Value → Shared → Prop) (E : Value → Shared → Prop), Q (.bool (g i j)) s → wpAny (model X.prog X.w) X.A (f (.int i t) (.int j u)) Q E s) :
    OpR X f (rI0 fun i j => .bl (g i j)) := by
  intro pins s σ H x y v u Q I rx ry h
  obtain ⟨i, j, rfl, rfl, q⟩ := h
  obtain ⟨t, rfl⟩ := rx
  obtain ⟨t', rfl⟩ := ry
  exact rule i j t t' s _ _ ⟨.bl (g i j), H, I, rfl, q⟩
def CDiv (i j : Int) : Prop := 0 < j ∧ j < 1073741824
def CMul (i j : Int) : Prop := (-(2 ^ 64) < i ∧ i < 2 ^ 64) ∨ (-(2 ^ 64) < j ∧ j < 2 ^ 64)
theorem CMul.ok {i j : Int} (h : CMul i j) : IntMulOk i j := by
  rcases h with ⟨h1, h2⟩ | ⟨h1, h2⟩
  · exact .of_left (intBits_le_64 h1 h2)
  · exact .of_right (intBits_le_64 h1 h2)
theorem op_add : OpR X (binaryOp .Add) (rI0 fun i j => .int (i + j)) := opI0 fun _ _ _ _ _ _ _ q => add_int q
theorem op_mul : OpR X (binaryOp .Mult) (rI CMul fun i j => .int (i * j)) := opI fun _ _ _ _ _ _ _ hc q => mul_int q hc.ok
theorem op_fdiv : OpR X (binaryOp .FloorDiv) (rI CDiv fun i j => .int (i / j)) := opI fun i j _ _ _ _ _ hc q => by
  have h1 : (0 : Int) < j := hc.1
  have h2 : j < 1073741824 := hc.2
  exact floordiv_int (by omega) (by rw [Int.fdiv_eq_ediv_of_nonneg i (by omega)]; exact q) (.inl (PyProof.noPylong_small (by omega)))
theorem op_mod : OpR X (binaryOp .Mod) (rI (fun _ j => 0 < j) fun i j => .int (i % j)) := opI fun i j _ _ _ _ _ hc q => by
  have h1 : (0 : Int) < j := hc
  exact mod_int' (by omega) (by rw [Int.fmod_eq_emod_of_nonneg i (by omega)]; exact q)
theorem unI {f : Value → Sem Value} {g : Int → Int}
    (rule : ∀ (i : Int) (t : Tok) (s : Shared) (Q : Value → Shared → Prop) (E : Value → Shared → Prop), Q (.int (g i) s.toks) { s with toks := s.toks + 1 } → wpAny (model X.prog X.w) X.A (f (.int i t)) Q E s) :
    UnR X f (rU fun i => .int (g i)) := by
  intro pins s σ H x v Q I rx h
  obtain ⟨i, rfl, q⟩ := h
  obtain ⟨t, rfl⟩ := rx
  exact rule i t s _ _ ⟨.int (g i), H, I.tok _, ⟨_, rfl⟩, q⟩
theorem un_neg : UnR X (unaryOp .USub) (rU fun i => .int (-i)) := unI fun _ _ _ _ _ q => neg_int q
end
def scal : V → V → Bool
  | .non, .non => true | .non, .int _ => true | .int _, .non => true | .non, .bl _ => true | .bl _, .non => true | .non, .str _ => true | .str _, .non => true
  | .int _, .int _ => true | .bl _, .bl _ => true | .str _, .str _ => true | .byt _, .byt _ => true
  | .int _, .str _ => true | .str _, .int _ => true | .bl _, .str _ => true | .str _, .bl _ => true
  | _, _ => false
def rEq : R2 := fun x y H Q => scal x y = true ∧ Q (.bl (decide (x = y))) H
def rNe : R2 := fun x y H Q => scal x y = true ∧ Q (.bl (!decide (x = y))) H
theorem dec_int {i j : Int} : decide (V.int i = V.int j) = (i == j) := by
  rw [Bool.eq_iff_iff]
  simp
theorem dec_bl {i j : Bool} : decide (V.bl i = V.bl j) = (i == j) := by
  rw [Bool.eq_iff_iff]
  simp
theorem dec_str {i j : Str} : decide (V.str i = V.str j) = (i == j) := by
  rw [Bool.eq_iff_iff]
  simp
theorem dec_byt {i j : Array UInt8} : decide (V.byt i = V.byt j) = (i.toList == j.toList) := by
  rw [Bool.eq_iff_iff]
  cases i
  cases j
  simp
section
variable {X : Cx} {a b c : Expr} {ta tb tc : TE} {pos : Pos}
theorem fin_bl {pins : List (Addr × Obj)} {σ : St} {H : Hp} {s : Shared} {Q : VK} {k k' : Bool} (I : Inv X pins σ H s) (q : Q (.bl k) H) (e : k = k') : EP X pins σ Q (.bool k') s := by
  subst e
  exact ⟨.bl k, H, I, rfl, q⟩
theorem op_eq : OpR X (compareOp .Eq) rEq := by
  intro pins s σ H x y v u Q I rx ry h
  obtain ⟨hs, q⟩ := h
  cases x with
  | non =>
    cases rx
    cases y with
    | non => cases ry; exact PySem.EqNone.eq_none_none (fin_bl I q (by simp))
    | bl j => cases ry; exact PySem.EqNone.eq_none_bool (fin_bl I q (by simp))
    | int j => obtain ⟨t', rfl⟩ := ry; exact PySem.EqNone.eq_none_int (fin_bl I q (by simp))
    | str j => obtain ⟨t', rfl⟩ := ry; exact PySem.EqNone.eq_none_str (fin_bl I q (by simp))
    | _ => exact absurd (show false = true from hs) Bool.false_ne_true
  | bl i =>
    cases rx
    cases y with
    | non => cases ry; exact PySem.EqNone.eq_bool_none (fin_bl I q (by simp))
    | bl j => cases ry; exact eq_bool (fin_bl I q dec_bl)
    | str j => obtain ⟨t', rfl⟩ := ry; exact PySem.EqMixed.eq_bool_str (fin_bl I q (by simp))
    | _ => exact absurd (show false = true from hs) Bool.false_ne_true
  | int i =>
    obtain ⟨t, rfl⟩ := rx
    cases y with
    | non => cases ry; exact PySem.EqNone.eq_int_none (fin_bl I q (by simp))
    | int j => obtain ⟨t', rfl⟩ := ry; exact eq_int (fin_bl I q dec_int)
    | str j => obtain ⟨t', rfl⟩ := ry; exact PySem.EqMixed.eq_int_str (fin_bl I q (by simp))
    | _ => exact absurd (show false = true from hs) Bool.false_ne_true
  | str i =>
    obtain ⟨t, rfl⟩ := rx
    cases y with
    | non => cases ry; exact PySem.EqNone.eq_str_none (fin_bl I q (by simp))
    | bl j => cases ry; exact PySem.EqMixed.eq_str_bool (fin_bl I q (by simp))
    | int j => obtain ⟨t', rfl⟩ := ry; exact PySem.EqMixed.eq_str_int (fin_bl I q (by simp))
    | str j => obtain ⟨t', rfl⟩ := ry; exact eq_str (fin_bl I q dec_str)
    | _ => exact absurd (show false = true from hs) Bool.false_ne_true
  | byt i =>
    obtain ⟨t, rfl⟩ := rx
    cases y with
    | byt j => obtain ⟨t', rfl⟩ := ry; exact PySem.W.eq_bytes (fin_bl I q dec_byt)
    | _ => exact absurd (show false = true from hs) Bool.false_ne_true
  | _ => cases y <;> exact absurd (show false = true from hs) Bool.false_ne_true
theorem op_ne : OpR X (compareOp .NotEq) rNe := by
  intro pins s σ H x y v u Q I rx ry h
  obtain ⟨hs, q⟩ := h
  cases x with
  | non =>
    cases rx
    cases y with
    | non => cases ry; exact PySem.EqNone.ne_none_none (fin_bl I q (by simp))
    | bl j => cases ry; exact PySem.EqNone.ne_none_bool (fin_bl I q (by simp))
    | int j => obtain ⟨t', rfl⟩ := ry; exact PySem.EqNone.ne_none_int (fin_bl I q (by simp))
    | str j => obtain ⟨t', rfl⟩ := ry; exact PySem.EqNone.ne_none_str (fin_bl I q (by simp))
    | _ => exact absurd (show false = true from hs) Bool.false_ne_true
  | bl i =>
    cases rx
    cases y with
    | non => cases ry; exact PySem.EqNone.ne_bool_none (fin_bl I q (by simp))
    | bl j => cases ry; exact ne_bool (fin_bl I q (congrArg not dec_bl))
    | str j => obtain ⟨t', rfl⟩ := ry; exact PySem.EqMixed.ne_bool_str (fin_bl I q (by simp))
    | _ => exact absurd (show false = true from hs) Bool.false_ne_true
  | int i =>
    obtain ⟨t, rfl⟩ := rx
    cases y with
    | non => cases ry; exact PySem.EqNone.ne_int_none (fin_bl I q (by simp))
    | int j => obtain ⟨t', rfl⟩ := ry; exact ne_int (fin_bl I q (congrArg not dec_int))
    | str j => obtain ⟨t', rfl⟩ := ry; exact PySem.EqMixed.ne_int_str (fin_bl I q (by simp))
    | _ => exact absurd (show false = true from hs) Bool.false_ne_true
  | str i =>
    obtain ⟨t, rfl⟩ := rx
    cases y with
    | non => cases ry; exact PySem.EqNone.ne_str_none (fin_bl I q (by simp))
    | bl j => cases ry; exact PySem.EqMixed.ne_str_bool (fin_bl I q (by simp))
    | int j => obtain ⟨t', rfl⟩ := ry; exact PySem.EqMixed.ne_str_int (fin_bl I q (by simp))
    | str j => obtain ⟨t', rfl⟩ := ry; exact ne_str (fin_bl I q (congrArg not dec_str))
    | _ => exact absurd (show false = true from hs) Bool.false_ne_true
  | byt i =>
    obtain ⟨t, rfl⟩ := rx
    cases y with
    | byt j => obtain ⟨t', rfl⟩ := ry; exact PySem.W.ne_bytes (fin_bl I q (congrArg not dec_byt))
    | _ => exact absurd (show false = true from hs) Bool.false_ne_true
  | _ => cases y <;> exact absurd (show false = true from hs) Bool.false_ne_true
theorem op_lt : OpR X (compareOp .Lt) (rI0 fun i j => .bl (decide (i < j))) := opB0 fun _ _ _ _ _ _ _ q => lt_int q
theorem op_gt : OpR X (compareOp .Gt) (rI0 fun i j => .bl (decide (j < i))) := opB0 fun _ _ _ _ _ _ _ q => gt_int q
theorem op_ge : OpR X (compareOp .GtE) (rI0 fun i j => .bl (decide (j ≤ i))) := opB0 fun _ _ _ _ _ _ _ q => ge_int q
theorem nomark (b : Expr) {op : CmpOp} (h : op ≠ .In := by decide) (h2 : op ≠ .NotIn := by decide) : behindInMarks op b = false := by
  have e1 : (op == CmpOp.In) = false := by cases op <;> first | rfl | exact absurd rfl h
  have e2 : (op == CmpOp.NotIn) = false := by cases op <;> first | rfl | exact absurd rfl h2
  cases b <;> simp [behindInMarks, e1, e2]
theorem pe_cmpR {op : CmpOp} {r : R2} (ho : OpR X (compareOp op) r) (ha : PE X a ta) (hb : PE X b tb) (hm : behindInMarks op b = false) : PE X (.Compare a [op] [b] pos) (tOp r ta tb) := by
  intro pins s σ H Q I h
  exact wpAny_Compare1 (binT ha hb I h fun v u s2 x y H2 I2 rx ry q => ho pins s2 σ H2 x y v u Q I2 rx ry q) hm
def tTest (t : TE) : TT := fun σ H Q => t σ H fun x H' => ∃ k, x = .bl k ∧ Q k H'
theorem pt_cmpR {op : CmpOp} {r : R2} (ho : OpR X (compareOp op) r) (ha : PE X a ta) (hb : PE X b tb) (hm : behindInMarks op b = false) : PT X (.Compare a [op] [b] pos) (tTest (tOp r ta tb)) := by
  intro pins s σ H Q I h
  refine wpAny_isTrue_Compare1 (thn (ha pins s σ H _ I h) fun v s1 ⟨x, H1, I1, r1, q1⟩ => thn (hb pins s1 σ H1 _ I1 q1) fun u s2 ⟨y, H2, I2, r2, q2⟩ =>
    thn (ho pins s2 σ H2 x y v u _ I2 r1 r2 q2) fun c s3 ⟨z, H3, I3, r3, k, e, q3⟩ => ?_) hm
  subst e
  cases r3
  exact wpAny_truthy_bool ⟨H3, I3, q3⟩
theorem line63 : (sizeLine : Nat) < 2 ^ 63 := by rw [sizeLine_eq]; decide
theorem vals1 {x : V} {us : List Value} (r : Vals [x] us) : ∃ u, us = [u] ∧ RelV x u := by
  cases r with
  | cons r1 r2 => cases r2; exact ⟨_, rfl, r1⟩
end
end L2
namespace L2
open PySem PySem.Spec PyProof.Rows
section
variable {prog : Program} {w : World} {A : Around} {E : Value → Shared → Prop} {s : Shared} {K : PySem.W.Frag} {x dx C f : Addr} {mA : Str → Option Value} {name : Str} {v : Value}
end
theorem RelO.some_of {v : V} {o : Option Value} (r : RelO (some v) o) : ∃ u, o = some u ∧ RelV v u := by
  cases o with
  | none => exact (show False from r).elim
  | some u => exact ⟨u, rfl, r⟩
theorem RelO.none_of {o : Option Value} (r : RelO none o) : o = none := by
  cases o with
  | none => rfl
  | some u => exact (show False from r).elim
section
variable {P : Program} {w : World} {H H' : Hp} {h h' : Heap} {a C dx : Addr} {fs fs' : List (Str × V)}
end
section
variable {X : Cx} {pins : List (Addr × Obj)} {σ : St} {H : Hp} {s : Shared} {a C dx : Addr} {fs : List (Str × V)} {f : Str} {v : V} {A : Around} {E : Value → Shared → Prop}
end
section
variable {X : Cx} {o e value : Expr} {f : Str} {pos pos' tpos : Pos} {ta tv : TE}
end
section
variable {X : Cx} {pins : List (Addr × Obj)} {σ : St} {H : Hp} {s : Shared} {A : Around} {E : Value → Shared → Prop} {Q : Value → Shared → Prop} {c : Value} {b : Bool}
end
end L2
namespace L2
open PySem PySem.Spec PyProof.Rows
structure Room (k : Nat) (A : Around) : Prop where
  hd : A.handled = none
  dp : A.depth + 3 * k + 5 < recursionLimit
  un : A.units + 16 * k + 200 < cLine
theorem Room.mono {j k : Nat} {A : Around} (r : Room k A) (h : j ≤ k) : Room j A := ⟨r.hd, by have := r.dp; omega, by have := r.un; omega⟩
theorem Room.deeper {k : Nat} {A : Around} (r : Room (k + 1) A) (env : Env) : Room k (A.deeper env) :=
  ⟨r.hd, by have := r.dp; show A.depth + 1 + 3 * k + 5 < _; omega, by have := r.un; show A.units + 3 + 16 * k + 200 < _; omega⟩
theorem Room.in1 {k : Nat} {A : Around} (r : Room (k + 1) A) : Room k A.in1 :=
  ⟨r.hd, by have := r.dp; show A.depth + 3 * k + 5 < _; omega, by have := r.un; show A.units + 1 + 16 * k + 200 < _; omega⟩
theorem Room.depth {k : Nat} {A : Around} (r : Room k A) : A.depth < recursionLimit := by have := r.dp; omega
theorem Room.units {k : Nat} {A : Around} (r : Room k A) : A.units + 64 < cLine := by have := r.un; omega
def tNil : TA := fun _ H Q => Q [] H
def tCons (ta : TE) (tr : TA) : TA := fun σ H Q => ta σ H fun x H1 => tr σ H1 fun xs H2 => Q (x :: xs) H2
section
variable {X : Cx} {e : Expr} {es : List Expr} {te : TE} {t : TA} {pos : Pos}
theorem pa_nil : PA X [] tNil := fun _ _ _ _ H Q I h => Calls.spliced_nil ⟨[], H, I, .nil, h⟩
theorem pa_cons (ha : PE X e te) (hr : PA X es t) (hs : starEach (e :: es) X.env = (false, eval e X.env) :: starEach es X.env := by rfl) : PA X (e :: es) (tCons te t) := by
  intro pos pins s σ H Q I h
  rw [hs]
  show wpAny _ _ (spliced ((false, eval e X.env) :: backTo pos (starEach es X.env))) _ _ s
  refine Calls.spliced_cons (thn (ha pins s σ H _ I h) fun u s1 ⟨x, H1, I1, r1, q1⟩ => ?_)
  exact thn (hr pos pins s1 σ H1 _ I1 q1) fun us s2 ⟨xs, H2, I2, r2, q2⟩ => ⟨x :: xs, H2, I2, .cons r1 r2, q2⟩
def tTup (t : TA) : TE := fun σ H Q => t σ H fun xs H1 => xs.length ≤ sizeLine ∧ ∀ p, H1 p = none → Q (.ref p) (upd H1 p (.tup xs))
def tLst (t : TA) : TE := fun σ H Q => t σ H fun xs H1 => xs.length ≤ sizeLine ∧ ∀ p, H1 p = none → Q (.ref p) (upd H1 p (.lst xs))
theorem pe_tup {x1} (h : PA X es t) : PE X (.Tuple es x1 pos) (tTup t) := by
  intro pins s σ H Q I hq
  refine wpAny_Tuple_spliced (thn (h pos pins s σ H _ I hq) fun us s1 ⟨xs, H1, I1, r, z, q⟩ => ⟨by rw [← r.length]; exact z, ?_⟩)
  have hf : H1 s1.heap.objs.size = none := I1.hok.fresh (Nat.le_refl _)
  refine ⟨.ref s1.heap.objs.size, upd H1 s1.heap.objs.size (.tup xs), I1.laid (t' := s1.toks) (fun b u e => Heap.get?_push_of_some _ e) (Nat.le_refl _) ?_, rfl, q _ hf⟩
  exact ⟨z, us, r, ⟨_, Heap.get?_push_size _ rfl, rfl, _, rfl⟩⟩
theorem pe_lst (h : PA X es t) : PE X (.List es pos) (tLst t) := by
  intro pins s σ H Q I hq
  refine wpAny_List_spliced (thn (h pos pins s σ H _ I hq) fun us s1 ⟨xs, H1, I1, r, z, q⟩ => ⟨by rw [← r.length]; exact z, ?_⟩)
  have hf : H1 s1.heap.objs.size = none := I1.hok.fresh (Nat.le_refl _)
  refine ⟨.ref s1.heap.objs.size, upd H1 s1.heap.objs.size (.lst xs), I1.laid (t' := s1.toks) (fun b u e => Heap.get?_push_of_some _ e) (Nat.le_refl _) ?_, rfl, q _ hf⟩
  exact ⟨z, us, 0, r, Heap.get?_push_size _ rfl⟩
end
abbrev Sp := List V → Hp → VK → XK → Prop
abbrev CXT := List Env → Hp → Shared → XK → Value → Shared → Prop
structure Env0 (P : Program) (w : World) (K : PySem.W.Frag) (mg : Str → Option Value) (base : Heap) (A : Around) (outer : List Env) (s : Shared) (H : Hp) : Prop where
  frames : A.frames = some outer
  mod : Mod K mg base
  bs : ∀ b o, base.get? b = some o → s.heap.get? b = some o ∧ H b = none
  bsz : base.objs.size ≤ s.heap.objs.size
  funs : s.heap.FunFrames base outer
  frf : ∀ b ∈ frs outer, H b = none
  hok : HOk P w H s.heap
  bare : AllBare s.gens
def CE (outer : List Env) (P : Program) (w : World) (H : Hp) (s : Shared) (Q : VK) (u : Value) (s' : Shared) : Prop :=
  ∃ v H', s'.os = s.os ∧ AllBare s'.gens ∧ Un (frs outer) [] H H' s.heap s'.heap ∧ HOk P w H' s'.heap ∧ RelV v u ∧ Q v H'
def CR (CX : CXT) (outer : List Env) (P : Program) (w : World) (H : Hp) (s : Shared) (Q : VK) (E : XK) (r : Result) (s' : Shared) : Prop :=
  match r with
  | .ok (.ret u) => CE outer P w H s Q u s'
  | .ok _ => False
  | .error e => CX outer H s E e s'
structure FnOk (P : Program) (w : World) (K : PySem.W.Frag) (mg : Str → Option Value) (base : Heap) (CX : CXT) (k : Nat) (f : Addr) (fd : FuncData) (ps : List Str) (sp : Sp) : Prop where
  len : ∀ vs H Q E, sp vs H Q E → vs.length = ps.length
  run : ∀ (A : Around) (outer : List Env) (s : Shared) (H : Hp) (args : Args) (us : List Value) (vs : List V) (Q : VK) (E : XK), Room k A → Env0 P w K mg base A outer s H → BindsTo s fd args (ps.zip us) → Vals vs us → sp vs H Q E →
    codeAny (model P w) A (.call (.ref f) args) (CR CX outer P w H s Q E) s
theorem FnOk.mono {P : Program} {w : World} {K : PySem.W.Frag} {mg : Str → Option Value} {base : Heap} {CX : CXT} {j k : Nat} {f : Addr} {fd : FuncData} {ps : List Str} {sp : Sp} (F : FnOk P w K mg base CX j f fd ps sp) (h : j ≤ k) :
    FnOk P w K mg base CX k f fd ps sp := ⟨F.len, fun A outer s H args us vs Q E hr => F.run A outer s H args us vs Q E (hr.mono h)⟩
theorem Env0.in1 {P : Program} {w : World} {K : PySem.W.Frag} {mg : Str → Option Value} {base : Heap} {A : Around} {outer : List Env} {s : Shared} {H : Hp} (e : Env0 P w K mg base A outer s H) :
    Env0 P w K mg base A.in1 outer s H := ⟨e.frames, e.mod, e.bs, e.bsz, e.funs, e.frf, e.hok, e.bare⟩
section
variable {X : Cx} {pins : List (Addr × Obj)} {σ : St} {H : Hp} {s s' : Shared}
theorem Inv.env0 (I : Inv X pins σ H s) : Env0 X.prog X.w X.K X.mg X.base X.A X.stack s H :=
  ⟨I.ok.frames, I.ok.mod, I.bs, Nat.le_trans I.ok.bsz I.sz, I.stack, I.stkFree, I.hok, I.bare⟩
theorem Inv.after {Q : VK} {u : Value} (I : Inv X pins σ H s) (h : CE X.stack X.prog X.w H s Q u s') : EP X pins σ Q u s' := by
  obtain ⟨v, H', os, bare, un, hok, r, q⟩ := h
  obtain ⟨hh, g, d, t, os'⟩ := s'
  obtain rfl : os' = s.os := os
  exact ⟨v, H', I.call (h' := hh) (g' := g) (d' := d) (t' := t) (ch := []) un hok bare (fun b z => absurd z (by simp)), r, q⟩
end
def tCall (sp : Sp) (dvs : List V) (E : XK) (t : TA) : TE := fun σ H Q => t σ H fun vs H1 => sp (vs ++ dvs) H1 Q E
def Binds (K : PySem.W.Frag) (fd : FuncData) (ps : List Str) (ds : List Value) : Prop :=
  ∀ (s : Shared) (us : List Value), K.In s.heap → (us ++ ds).length = ps.length → BindsTo s fd ⟨us, []⟩ (ps.zip (us ++ ds))
theorem Binds.all {K : PySem.W.Frag} {fd : FuncData} {ps : List Str} (h : ∀ us : List Value, us.length = ps.length → bindArgs fd ⟨us, []⟩ = pure (ps.zip us)) : Binds K fd ps [] := fun s us _ hl => by
  rw [List.append_nil] at hl ⊢
  exact .of_eq (h us hl)
def Passes (CX : CXT) (X : Cx) (E : XK) : Prop := ∀ (pins : List (Addr × Obj)) (σ : St) (H : Hp) (s : Shared) (e : Value) (s' : Shared), Inv X pins σ H s → CX X.stack H s E e s' → X.xe e s'
section
variable {X : Cx} {CX : CXT} {k : Nat} {f C : Addr} {fd : FuncData} {ps : List Str} {sp : Sp} {dvs : List V} {ds : List Value} {E : XK} {x m : Str} {p pos apos : Pos} {e o : Expr} {es : List Expr} {ta : TE} {t : TA}
theorem run_fn {pins : List (Addr × Obj)} {σ : St} {H : Hp} {s : Shared} {Q : VK} {us : List Value} {vs : List V} (F : FnOk X.prog X.w X.K X.mg X.base CX k f fd ps sp) (hr : Room k X.A) (hb : Binds X.K fd ps ds) (hd : Vals dvs ds) (hx : Passes CX X E)
    (I : Inv X pins σ H s) (r : Vals vs us) (h : sp (vs ++ dvs) H Q E) : wpAny (model X.prog X.w) X.A (call (.ref f) us) (EP X pins σ Q) X.xe s := by
  have r2 : Vals (vs ++ dvs) (us ++ ds) := r.append hd
  have hl : (us ++ ds).length = ps.length := by rw [← r2.length]; exact F.len _ _ _ _ h
  refine wpAny_call (codeAny_mono (F.run X.A X.stack s H ⟨us, []⟩ (us ++ ds) (vs ++ dvs) Q E hr I.env0 (hb s us I.kIn hl) r2 h) fun r s' hq => ?_)
  cases r with
  | error e => exact hx pins σ H s e s' I hq
  | ok fl =>
    cases fl with
    | ret u => exact I.after hq
    | next => exact False.elim hq
    | brk => exact False.elim hq
    | cont => exact False.elim hq
theorem pe_call (F : FnOk X.prog X.w X.K X.mg X.base CX k f fd ps sp) (hr : Room k X.A) (hg : Gl X x) (hm : X.mg x = some (.ref f)) (hk : PySem.W.keepIn X.K (.ref f) = true) (hb : Binds X.K fd ps ds) (hd : Vals dvs ds) (hx : Passes CX X E)
    (ha : PA X (e :: es) t) (hdb : (x == ("__debug__" : Str)) = false := by decide) (he : starEach (e :: es) X.env = (false, eval e X.env) :: starEach es X.env := by rfl) (hpl : (backTo pos (starEach es X.env)).any (·.1) = false := by rfl) :
    PE X (.Call (.Name x p) (e :: es) [] pos) (tCall sp dvs E t) := by
  intro pins s σ H Q I h
  refine wpAny_Call_Name_kw (ld_glob I hg hm ?_ hdb)
  refine PySem.W.callWith_K (h₀ := X.base) I.ok.mod.kin hk (thn (ha pos pins s σ H _ I h) fun us s1 ⟨vs, H1, I1, r, q⟩ => ⟨I1.kIn, ?_⟩) he hpl
  exact run_fn F hr hb hd hx I1 r q
end
def PK (X : Cx) (kws : List Keyword) (t : TA) : Prop :=
  ∀ (pos : Pos) (pins : List (Addr × Obj)) (s : Shared) (σ : St) (H : Hp) (Q : List V → Hp → Prop), Inv X pins σ H s → t σ H Q → wpAny (model X.prog X.w) X.A (evalAll ((backToKw pos (keywordEach kws X.env)).map (·.2))) (AP X pins σ Q) X.xe s
section
variable {X : Cx} {CX : CXT} {k : Nat} {f C : Addr} {fd : FuncData} {ps ks : List Str} {sp : Sp} {E : XK} {x m : Str} {p pos apos kpos : Pos} {e o : Expr} {es : List Expr} {kws : List Keyword} {te ta : TE} {t tk : TA} {nm : Option Str}
theorem pk_nil : PK X [] tNil := fun _ _ _ _ H Q I h => wpAny_evalAll_nil ⟨[], H, I, .nil, h⟩
theorem pk_cons (ha : PE X e te) (hr : PK X kws t) : PK X (⟨nm, e, kpos⟩ :: kws) (tCons te t) := by
  intro pos pins s σ H Q I h
  show wpAny _ _ (evalAll ((do let v ← eval e X.env; standAt pos; pure v) :: (backToKw pos (keywordEach kws X.env)).map (·.2))) _ _ s
  refine wpAny_evalAll_cons (wpAny_bind (thn (ha pins s σ H _ I h) fun u s1 ⟨x, H1, I1, r1, q1⟩ => wpAny_bind (wpAny_standAt (wpAny_pure ?_))))
  exact thn (hr pos pins s1 σ H1 _ I1 q1) fun us s2 ⟨xs, H2, I2, r2, q2⟩ => ⟨x :: xs, H2, I2, .cons r1 r2, q2⟩
variable {g : List Value → List Value → List Value} {gV : List V → List V → List V}
end
structure FnScope (N P : List Str) (sc : Scope) : Prop where
  kind : sc.kind = .function
  co : sc.isCoroutine = false
  gen : sc.isGenerator = false
  nd : N.Nodup
  pre : N.take P.length = P
  par : ∀ x ∈ P, sc.names.lookup x = some .local ∨ sc.names.lookup x = some .cell
  nofree : ∀ y ∈ sc.names, y.2 ≠ .free
theorem bindL_out {kindOf : Str → Option NameKind} {x : Str} : ∀ {binds : List (Str × Value)} {m : Str → Option Value}, (∀ v, (x, v) ∉ binds) → bindL kindOf binds m x = m x
  | [], _, _ => rfl
  | (n, v) :: r, m, h => by
    unfold bindL
    rw [bindL_out fun w hw => h w (List.mem_cons_of_mem _ hw)]
    split
    · have : x ≠ n := by rintro rfl; exact h v List.mem_cons_self
      simp [this]
    · rfl
theorem bindC_out {kindOf : Str → Option NameKind} {x : Str} : ∀ {binds : List (Str × Value)} {m : Str → Option Value}, (∀ v, (x, v) ∉ binds) → bindC kindOf binds m x = m x
  | [], _, _ => rfl
  | (n, v) :: r, m, h => by
    unfold bindC
    rw [bindC_out fun w hw => h w (List.mem_cons_of_mem _ hw)]
    split
    · rfl
    · have : x ≠ n := by rintro rfl; exact h v List.mem_cons_self
      simp [this]
theorem bindL_get {kindOf : Str → Option NameKind} {x : Str} {v : Value} : ∀ {P : List Str} {vs : List Value} {i : Nat} {m : Str → Option Value}, P.Nodup → P[i]? = some x → vs[i]? = some v → kindOf x = some .local →
    bindL kindOf (P.zip vs) m x = some v
  | [], _, _, _, _, h, _, _ => by simp at h
  | _ :: _, [], _, _, _, _, h, _ => by simp at h
  | p :: P, w :: vs, 0, m, nd, h1, h2, hk => by
    simp at h1 h2; subst h1; subst h2
    show bindL kindOf ((p, w) :: P.zip vs) m p = _
    unfold bindL
    rw [bindL_out fun v hv => (List.nodup_cons.mp nd).1 (List.of_mem_zip hv).1, if_pos hk]
    simp
  | p :: P, w :: vs, i + 1, m, nd, h1, h2, hk => by
    show bindL kindOf ((p, w) :: P.zip vs) m x = _
    unfold bindL
    exact bindL_get (i := i) (List.nodup_cons.mp nd).2 (by simpa using h1) (by simpa using h2) hk
theorem bindC_get {kindOf : Str → Option NameKind} {x : Str} {v : Value} : ∀ {P : List Str} {vs : List Value} {i : Nat} {m : Str → Option Value}, P.Nodup → P[i]? = some x → vs[i]? = some v → kindOf x ≠ some .local →
    bindC kindOf (P.zip vs) m x = some v
  | [], _, _, _, _, h, _, _ => by simp at h
  | _ :: _, [], _, _, _, _, h, _ => by simp at h
  | p :: P, w :: vs, 0, m, nd, h1, h2, hk => by
    simp at h1 h2; subst h1; subst h2
    show bindC kindOf ((p, w) :: P.zip vs) m p = _
    unfold bindC
    rw [bindC_out fun v hv => (List.nodup_cons.mp nd).1 (List.of_mem_zip hv).1, if_neg hk]
    simp
  | p :: P, w :: vs, i + 1, m, nd, h1, h2, hk => by
    show bindC kindOf ((p, w) :: P.zip vs) m x = _
    unfold bindC
    exact bindC_get (i := i) (List.nodup_cons.mp nd).2 (by simpa using h1) (by simpa using h2) hk
def start (N : List Str) (vs : List V) : St := vs.map some ++ List.replicate (N.length - vs.length) none
def cxOf (CX : CXT) (P : Program) (w : World) (K : PySem.W.Frag) (mg : Str → Option Value) (base : Heap) (N : List Str) (qual : Str) (scope : Scope) (f : Addr) (cd : Value) (A : Around) (outer : List Env) (s : Shared) (H : Hp) (E : XK) : Cx where
  prog := P
  w := w
  K := K
  mg := mg
  base := base
  A := A.deeper (envOfC qual scope s.heap.objs.size f cd)
  N := N
  s_0 := s
  H_0 := H
  env := envOfC qual scope s.heap.objs.size f cd
  outer := outer
  stack := envOfC qual scope s.heap.objs.size f cd :: outer
  ex := []
  calm := true
  fn := fun _ => true
  pn := []
  xe := fun e s' => wpAny (model P w) (A.deeper (envOfC qual scope s.heap.objs.size f cd)) (leaving (envOfC qual scope s.heap.objs.size f cd) e) (fun _ s'' => CX outer H s E e s'') (fun e' s'' => CX outer H s E e' s'') s'
theorem cell_has {sc : Scope} {n : Nat} {x : Str} (h : sc.names.lookup x = some .cell) : ∃ c, (cellsFrom n sc.names []).lookup x = some c := by
  have q := PySem.W.cellsFrom_some sc.names n [] (.inl h)
  exact Option.isSome_iff_exists.mp q
theorem inv_start {CX : CXT} {P : Program} {w : World} {K : PySem.W.Frag} {mg : Str → Option Value} {base : Heap} {N ps : List Str} {qual : Str} {scope : Scope} {f : Addr} {cd : Value} {A : Around} {outer : List Env} {s s1 : Shared} {H : Hp} {E : XK} {us : List Value} {vs : List V}
    (S : FnScope N ps scope) (hd : A.handled = none) (e0 : Env0 P w K mg base A outer s H) (hl : vs.length = ps.length) (r : Vals vs us)
    (x : InCallC s s.heap.objs.size (bindL (envOfC qual scope s.heap.objs.size f cd).kindOf (ps.zip us) fun _ => none) (cellsFrom (s.heap.objs.size + 1) scope.names []) (bindC (envOfC qual scope s.heap.objs.size f cd).kindOf (ps.zip us) fun _ => none) s1) :
    Inv (cxOf CX P w K mg base N qual scope f cd A outer s H E) [] (start N vs) H s1 := by
  have hpl : ps.length ≤ N.length := by have := congrArg List.length S.pre; rw [List.length_take] at this; omega
  obtain ⟨h1, tk, rfl, hk⟩ := x.done
  have noA : ∀ b : Addr, b ∉ (cxOf CX P w K mg base N qual scope f cd A outer s H E).ex := fun b z => absurd (show b ∈ ([] : List Addr) from z) (by simp)
  refine ⟨⟨e0.mod, S.kind, rfl, rfl, Nat.le_refl _, fun y z c h1 h2 => ?_, fun y hy => ?_, fun y c _ h => ?_, fun _ => hd, Around.frames_deeper e0.frames, .inr ⟨rfl, rfl⟩, fun b z => absurd z (noA b), e0.bs, e0.bsz, fun b _ _ => noA b, fun b z => absurd z (noA b), e0.funs, e0.frf⟩,
    rfl, e0.bare, Un.kept hk, ⟨_, x.toInCall.ns, fun i y v h1 h2 h3 => ?_⟩, fun y c h => ⟨_, x.cell y c h⟩, e0.hok.fresh (Nat.le_refl _), fun y c h => ?_, fun p hp => absurd (show p ∈ ([] : List (Addr × Obj)) from hp) (by simp), e0.hok.kept hk, ?_⟩
  · exact name_of_addr x.apart (PySem.mem_of_lookup h1) (PySem.mem_of_lookup h2)
  · have hy : scope.names.lookup y = some .cell ∨ scope.names.lookup y = some .free := hy
    rcases hy with hy | hy
    · exact cell_has hy
    · exact absurd rfl (S.nofree _ (PySem.mem_of_lookup hy))
  · exact Nat.le_of_lt (x.above y c (PySem.mem_of_lookup h))
  · have hi : i < vs.length := by
      unfold start at h2
      by_cases hi : i < vs.length
      · exact hi
      · rw [List.getElem?_append_right (by simpa using hi)] at h2
        rw [List.getElem?_replicate] at h2
        split at h2 <;> cases h2
    have ha : vs[i]? = some v := by
      unfold start at h2
      rw [List.getElem?_append_left (by simpa using hi), List.getElem?_map] at h2
      cases e : vs[i]? with
      | none => rw [e] at h2; cases h2
      | some a => rw [e] at h2; cases h2; rfl
    obtain ⟨u, hu, rv⟩ := r.get ha
    have hp : ps[i]? = some y := by
      rw [← S.pre, List.getElem?_take_of_lt (by omega)]; exact h1
    have ndP : ps.Nodup := by rw [← S.pre]; exact S.nd.sublist (List.take_sublist _ _)
    refine ⟨u, rv, ?_⟩
    rcases S.par y (List.mem_of_getElem? hp) with k | k
    · exact .inl ⟨k, bindL_get ndP hp hu k⟩
    · obtain ⟨c, e⟩ := cell_has (n := s.heap.objs.size + 1) k
      refine .inr ⟨.inl k, c, e, ?_⟩
      have q := x.cell y c e
      rw [bindC_get ndP hp hu (by show scope.names.lookup y ≠ _; rw [k]; decide)] at q
      exact q
  · exact e0.hok.fresh (Nat.le_of_lt (x.above y c (PySem.mem_of_lookup h)))
  · unfold start
    show _ = N.length
    rw [List.length_append, List.length_map, List.length_replicate]
    omega
theorem fn_of {CX : CXT} {P : Program} {w : World} {K : PySem.W.Frag} {mg : Str → Option Value} {base : Heap} {k : Nat} {f : Addr} {name qual : Str} {params : Arguments} {body : List Stmt} {scope : Scope} {dV kV doc pm cdv ct oc : Value} {an od : Option Addr}
    {osl : Array (Option Value)} {N ps : List Str} {sp : Sp} (lk : K.lookup f = some ⟨oc, od, .func (PySem.W.fnOf name qual params body scope dV kV doc pm an cdv ct), osl⟩) (hcd : PySem.W.codeIn K cdv qual = true) (S : FnScope N ps scope)
    (len : ∀ vs H Q E, sp vs H Q E → vs.length = ps.length)
    (hbody : ∀ (A : Around) (outer : List Env) (s : Shared) (H : Hp) (vs : List V) (Q : VK) (E : XK), Room k (A.deeper (envOfC qual scope s.heap.objs.size f cdv)) → sp vs H Q E →
      ∃ t, PSs (cxOf CX P w K mg base N qual scope f cdv A outer s H E) body t ∧ t { nx := fun _ H' => Q .non H', rt := Q } (start N vs) H) :
    FnOk P w K mg base CX (k + 1) f (PySem.W.fnOf name qual params body scope dV kV doc pm an cdv ct) ps sp := by
  refine ⟨len, fun A outer s H args us vs Q E hr e0 hb r hsp => ?_⟩
  have hl := len _ _ _ _ hsp
  have KX : K.In s.heap := e0.mod.kin.keeps fun b o e => (e0.bs b o e).1
  have lim : s.heap.NoLimit := e0.mod.nolimit.keeps fun b o e => (e0.bs b o e).1
  have hkind : ∀ y ∈ ps.zip us, scope.names.lookup y.1 = some .local ∨ (scope.names.lookup y.1 = some .cell ∧ ((cellsFrom (s.heap.objs.size + 1) scope.names []).lookup y.1).isSome = true) := fun ⟨n, v⟩ hy => by
    rcases S.par n (List.of_mem_zip hy).1 with q | q
    · exact .inl q
    · exact .inr ⟨q, PySem.W.cellsFrom_some _ _ _ (.inl q)⟩
  refine codeAny_call_function hr.depth (KX _ _ lk) rfl S.co S.gen rfl (PySem.W.codeRec_of KX hcd) (hb _ _ _ _ ?_)
  refine wpAny_newFunctionEnv_cells S.kind hkind fun env he s1 x => ?_
  subst he
  refine ⟨lim.keeps x.toInCall.keep, codeAny_func ?_⟩
  obtain ⟨t, ht, hq⟩ := hbody A outer s H vs Q E (hr.deeper _) hsp
  have I : Inv (cxOf CX P w K mg base N qual scope f cdv A outer s H E) [] (start N vs) H s1 := inv_start S hr.hd e0 hl r x
  refine wpAny_mono (ht [] s1 (start N vs) H _ I hq) (fun fl s' hs => ?_) fun e s' hs => hs
  have fin : ∀ {σ' : St} {H' : Hp} {v : V} {u : Value}, Inv (cxOf CX P w K mg base N qual scope f cdv A outer s H E) [] σ' H' s' → RelV v u → Q v H' → CE outer P w H s Q u s' :=
    fun {σ' H' v u} J rv q => ⟨v, H', J.os, J.bare, J.base, J.hok, rv, q⟩
  cases fl with
  | ret u =>
    obtain ⟨v, σ', H', J, rv, q⟩ := hs
    exact fin J rv q
  | next =>
    obtain ⟨σ', H', J, q⟩ := hs
    exact fin (v := V.non) (u := Value.none) J rfl q
  | brk =>
    obtain ⟨_, _, _, q⟩ := hs
    exact False.elim q
  | cont =>
    obtain ⟨_, _, _, q⟩ := hs
    exact False.elim q
end L2
namespace L2
open PySem PySem.Spec PyProof.Rows
section
variable {X : Cx} {x : Str} {p pos : Pos} {e : Expr} {es : List Expr} {t : TA} {id T : String} {r : List V → Hp → VK → Prop}
def tCB (r : List V → Hp → VK → Prop) (t : TA) : TE := fun σ H Q => t σ H fun vs H1 => r vs H1 Q
theorem pe_callB (hc : CallR X (.builtin id) r) (hg : Gl X x) (hm : X.mg x = none) (hv : bootBuiltins x = some (.builtin id)) (ha : PA X (e :: es) t) (hn : x ≠ "__name__" := by decide) (hdb : (x == ("__debug__" : Str)) = false := by decide)
    (he : starEach (e :: es) X.env = (false, eval e X.env) :: starEach es X.env := by rfl) (hpl : (backTo pos (starEach es X.env)).any (·.1) = false := by rfl) : PE X (.Call (.Name x p) (e :: es) [] pos) (tCB r t) := by
  intro pins s σ H Q I h
  refine wpAny_Call_Name_kw (ld_blt I hg hm hv ?_ hn hdb)
  exact PyProof.Rows.callWith_builtin1 (thn (ha pos pins s σ H _ I h) fun us s1 ⟨vs, H1, I1, r1, q1⟩ => hc pins s1 σ H1 vs us Q I1 r1 q1) he hpl
theorem pe_callTy (hc : CallR X (.type T) r) (hg : Gl X x) (hm : X.mg x = none) (hv : bootBuiltins x = some (.type T)) (ha : PA X (e :: es) t) (hn : x ≠ "__name__" := by decide) (hdb : (x == ("__debug__" : Str)) = false := by decide)
    (he : starEach (e :: es) X.env = (false, eval e X.env) :: starEach es X.env := by rfl) (hpl : (backTo pos (starEach es X.env)).any (·.1) = false := by rfl) : PE X (.Call (.Name x p) (e :: es) [] pos) (tCB r t) := by
  intro pins s σ H Q I h
  refine wpAny_Call_Name_kw (ld_blt I hg hm hv ?_ hn hdb)
  exact PyProof.Rows.callWith_type1 (thn (ha pos pins s σ H _ I h) fun us s1 ⟨vs, H1, I1, r1, q1⟩ => hc pins s1 σ H1 vs us Q I1 r1 q1) he hpl
end
end L2
namespace HT
open PySem PyProof.Rows
section
open PySem.SeqAt
open PySem.AutoSeq1 (wpAny_loadPart')
open PySem.MeetsSeq PySem.MeetsSeq2 PySem.MeetsSeq3
end
section
variable {prog : Program} {w : World} {A : Around} {E : Value → Shared → Prop} {s : Shared}
def sIx (n d : Nat) : Option Int → Nat
  | none => d
  | some v => if v < 0 then (v + (n : Int)).toNat else min v.toNat n
theorem sIx_nat (n d k : Nat) : sIx n d (some (k : Int)) = min k n := by
  show (if (k : Int) < 0 then ((k : Int) + (n : Int)).toNat else min (k : Int).toNat n) = min k n
  rw [if_neg (by omega), Int.toNat_natCast]
end
end HT
namespace L2
open PySem PySem.Spec PyProof.Rows
abbrev TO := St → Hp → (Option Int → Hp → Prop) → Prop
def PO (X : Cx) (e : Option Expr) (t : TO) : Prop :=
  ∀ (pins : List (Addr × Obj)) (s : Shared) (σ : St) (H : Hp) (Q : Option Int → Hp → Prop), Inv X pins σ H s → t σ H Q →
    wpAny (model X.prog X.w) X.A (evalPart e X.env) (fun u s' => ∃ o H', Inv X pins σ H' s' ∧ IsPart u o ∧ Q o H') X.xe s
def tNoPart : TO := fun _ H Q => Q none H
def tPart (t : TE) : TO := fun σ H Q => t σ H fun x H1 => ∃ i, x = .int i ∧ Q (some i) H1
theorem intsAre_of {ns : List Int} : ∀ {us : List Value}, Vals (ns.map V.int) us → IntsAre us ns := by
  induction ns with
  | nil => intro us r; rw [List.map_nil] at r; cases r; exact .nil
  | cons n ns ih =>
    intro us r
    rw [List.map_cons] at r
    cases r with
    | cons r1 r2 =>
      obtain ⟨t, e⟩ := r1
      subst e
      exact .cons n t (ih r2)
section
variable {X : Cx} {e : Expr} {te : TE} {lo hi : Option Expr} {tl th : TO} {pos p2 : Pos}
theorem po_none : PO X none tNoPart := by
  intro pins s σ H Q I h
  rw [evalPart_none]
  exact wpAny_pure ⟨none, H, I, .none, h⟩
theorem po_some (h : PE X e te) : PO X (some e) (tPart te) := by
  intro pins s σ H Q I hw
  rw [evalPart_some]
  refine thn (h pins s σ H _ I hw) fun u s1 ⟨x, H1, I1, r1, q1⟩ => ?_
  obtain ⟨i, rfl, q⟩ := q1
  obtain ⟨t, rfl⟩ := r1
  exact ⟨some i, H1, I1, .int i t, q⟩
def SlR (X : Cx) (r : V → Option Int → Option Int → Hp → VK → Prop) : Prop :=
  ∀ (pins : List (Addr × Obj)) (s : Shared) (σ : St) (H : Hp) (x : V) (v vl vu : Value) (lo hi : Option Int) (sl : Addr) (Q : VK), Inv X pins σ H s → RelV x v → s.heap.IsSliceOf sl vl vu .none → IsPart vl lo → IsPart vu hi → r x lo hi H Q →
    ∃ T id, typeLookup (.type T) "__getitem__" = pure (some (.builtin id)) ∧ s.TypeIs v T ∧ wpAny (model X.prog X.w) X.A (getItem v (.ref sl)) (EP X pins σ Q) X.xe s
def tSl (r : V → Option Int → Option Int → Hp → VK → Prop) (te : TE) (tl th : TO) : TE := fun σ H Q => te σ H fun x H1 => tl σ H1 fun l H2 => th σ H2 fun u H3 => r x l u H3 Q
theorem pe_slice {r : V → Option Int → Option Int → Hp → VK → Prop} (hr : SlR X r) (he : PE X e te) (hl : PO X lo tl) (hu : PO X hi th) : PE X (.Subscript e (.Slice lo hi none p2) pos) (tSl r te tl th) := by
  intro pins s σ H Q I h
  refine Subscript_ (thn (he pins s σ H _ I h) fun v s1 ⟨x, H1, I1, r1, q1⟩ => ?_)
  refine wpAny_Slice (thn (hl pins s1 σ H1 _ I1 q1) fun vl s2 ⟨l, H2, I2, pl, q2⟩ => thn (hu pins s2 σ H2 _ I2 q2) fun vu s3 ⟨u, H3, I3, pu, q3⟩ => ?_)
  rw [evalPart_none]
  refine wpAny_pure ?_
  have I4 : Inv X pins σ H3 { s3 with heap := s3.heap.push { cls := .type "slice", data := .fields #[vl, vu, .none] } } := I3.kept (t' := s3.toks) fun b ob q => Heap.get?_push_of_some _ q
  obtain ⟨T, id, hT, ht, hg⟩ := hr pins { s3 with heap := s3.heap.push { cls := .type "slice", data := .fields #[vl, vu, .none] } } σ H3 x v vl vu l u s3.heap.objs.size Q I4 r1 (Heap.IsSliceOf.new ..) pl pu q3
  show wpAny (model X.prog X.w) X.A (subscriptTail e (.Slice lo hi none p2) v (.ref s3.heap.objs.size)) (EP X pins σ Q) X.xe { s3 with heap := s3.heap.push { cls := .type "slice", data := .fields #[vl, vu, .none] } }
  exact tail_any (ops := [.ref s3.heap.objs.size, v]) ht hT hg (by with_unfolding_all rfl)
def cutV (xs : List V) (lo hi : Option Int) : List V := (xs.drop (HT.sIx xs.length 0 lo)).take (HT.sIx xs.length xs.length hi - HT.sIx xs.length 0 lo)
theorem cutV_length (xs : List V) (lo hi : Option Int) : (cutV xs lo hi).length ≤ xs.length := by
  unfold cutV
  rw [List.length_take, List.length_drop]
  omega
end
end L2
namespace L2
open PySem PySem.Spec PyProof.Rows
def ixN (n : Nat) (i : Int) : Option Nat := if 0 ≤ i then (if i < n then some i.toNat else none) else if -(n : Int) ≤ i then some (i + n).toNat else none
def atI {α : Type} (xs : List α) (i : Int) : Option α := (ixN xs.length i).bind fun j => xs[j]?
theorem ixN_seq {n : Nat} {i : Int} {j : Nat} (h : ixN n i = some j) : seqIndex? i n = some j ∧ j < n ∧ -(n : Int) ≤ i ∧ i < n := by
  unfold ixN at h
  by_cases h0 : 0 ≤ i
  · rw [if_pos h0] at h
    by_cases h1 : i < n
    · rw [if_pos h1] at h
      have e : i.toNat = j := Option.some.inj h
      exact ⟨by rw [seqIndex_of h0 h1, e], by omega, by omega, h1⟩
    · rw [if_neg h1] at h; cases h
  · rw [if_neg h0] at h
    by_cases h1 : -(n : Int) ≤ i
    · rw [if_pos h1] at h
      have e : (i + n).toNat = j := Option.some.inj h
      exact ⟨by rw [seqIndex_neg (by omega) h1, e], by omega, h1, by omega⟩
    · rw [if_neg h1] at h; cases h
theorem atI_get {α : Type} {xs : List α} {i : Int} {v : α} (h : atI xs i = some v) : ∃ j, seqIndex? i xs.length = some j ∧ xs[j]? = some v ∧ j < xs.length ∧ -(xs.length : Int) ≤ i ∧ i < xs.length := by
  unfold atI at h
  cases e : ixN xs.length i with
  | none => rw [e] at h; cases h
  | some j =>
    rw [e] at h
    obtain ⟨h1, h2, h3, h4⟩ := ixN_seq e
    exact ⟨j, h1, h, h2, h3, h4⟩
theorem atI_nat {α : Type} {xs : List α} {j : Nat} {v : α} (h : xs[j]? = some v) : atI xs (j : Int) = some v := by
  have hj : j < xs.length := (List.getElem?_eq_some_iff.mp h).1
  have e : ixN xs.length (j : Int) = some j := by
    unfold ixN
    rw [if_pos (by omega), if_pos (by omega)]; simp
  unfold atI; rw [e]; exact h
def PlainIx (b : Expr) : Prop := ∀ o i, subscripted b false o i = operate [o, i] (getItem o i)
def IxR (X : Cx) (r : R2) : Prop :=
  ∀ (value slice : Expr) (pins : List (Addr × Obj)) (s : Shared) (σ : St) (H : Hp) (x y : V) (v u : Value) (Q : VK), Inv X pins σ H s → RelV x v → RelV y u → r x y H Q →
    subscripted slice false v u = operate [v, u] (getItem v u) → wpAny (model X.prog X.w) X.A (subscriptTail value slice v u) (EP X pins σ Q) X.xe s
def MtR (X : Cx) (id : String) (r : V → List V → Hp → VK → Prop) : Prop :=
  ∀ (pins : List (Addr × Obj)) (s : Shared) (σ : St) (H : Hp) (x : V) (xs : List V) (v : Value) (us : List Value) (Q : VK), Inv X pins σ H s → RelV x v → Vals xs us → r x xs H Q →
    wpAny (model X.prog X.w) X.A (call (.builtin id) (v :: us)) (EP X pins σ Q) X.xe s
section
variable {X : Cx} {a b : Expr} {ta tb : TE} {pos : Pos}
theorem pe_ix {r : R2} (hr : IxR X r) (ha : PE X a ta) (hb : PE X b tb) (hs : PlainIx b) : PE X (.Subscript a b pos) (tOp r ta tb) := by
  intro pins s σ H Q I h
  exact Subscript_ (binT ha hb I h fun v u s2 x y H2 I2 rx ry q => hr a b pins s2 σ H2 x y v u Q I2 rx ry q (hs _ _))
def rIxL (K : PySem.W.Frag) : R2 := fun x y H Q => ∃ p xs i v, x = .ref p ∧ y = .int i ∧ SqL K H p xs ∧ atI xs i = some v ∧ Q v H
theorem ix_list : IxR X (rIxL X.K) := by
  intro value slice pins s σ H x y v u Q I rx ry h hs
  obtain ⟨p, xs, i, z, rfl, rfl, hq, he, q⟩ := h
  cases rx
  obtain ⟨t, rfl⟩ := ry
  obtain ⟨its, r, pl, hz⟩ := I.list hq
  obtain ⟨j, h1, h2, h3, h4, h5⟩ := atI_get he
  obtain ⟨w, ew, rw'⟩ := r.get h2
  have hl := r.length
  have hn := line63
  have fin : EP X pins σ Q w s := ⟨z, H, I, rw', q⟩
  by_cases h0 : 0 ≤ i
  · have hj : i.toNat = j := by
      rw [seqIndex_of h0 h5] at h1
      exact Option.some.inj h1
    exact item_listR pl.isList h0 (by omega) (by rw [hj]; simpa using ew) fin hs
  · have hj : (i + (its.toArray.size : Int)).toNat = j := by
      rw [seqIndex_neg (by omega) h4] at h1
      rw [List.size_toArray, ← hl]
      exact Option.some.inj h1
    exact subscriptTail_builtinR (x := w) pl.isList.typeIs slot_list_getitem.lookup
      (wpAny_getItem_list_neg (Q := fun r s' => r = w ∧ EP X pins σ Q r s') pl.isList (by omega) (by rw [List.size_toArray] <;> omega) (by omega) (by rw [hj]; simpa using ew) ⟨rfl, fin⟩) hs
theorem slice_bounds (lo hi : Option Int) (n : Nat) : (sliceBounds lo hi none n).1 = ((HT.sIx n 0 lo : Nat) : Int) ∧ (sliceBounds lo hi none n).2.1 = ((HT.sIx n n hi : Nat) : Int) ∧ (sliceBounds lo hi none n).2.2 = 1 := by
  refine ⟨?_, ?_, rfl⟩
  · cases lo with
    | none => simp [sliceBounds, HT.sIx]
    | some i =>
      simp only [sliceBounds, HT.sIx, Option.getD_none, show (1 : Int) > 0 by decide, if_true]
      by_cases h : i < 0
      · simp only [h, if_true] <;> omega
      · simp only [h, if_false] <;> omega
  · cases hi with
    | none => simp [sliceBounds, HT.sIx]
    | some i =>
      simp only [sliceBounds, HT.sIx, Option.getD_none, show (1 : Int) > 0 by decide, if_true]
      by_cases h : i < 0
      · simp only [h, if_true] <;> omega
      · simp only [h, if_false] <;> omega
theorem slicePick_cut (its : List Value) (lo hi : Option Int) : slicePick its.toArray lo hi none = ((its.drop (HT.sIx its.length 0 lo)).take (HT.sIx its.length its.length hi - HT.sIx its.length 0 lo)).toArray := by
  obtain ⟨h1, h2, h3⟩ := slice_bounds lo hi its.toArray.size
  unfold slicePick
  rw [h1, h2, h3]
  simp only [sliceRange_one, pick_run, List.size_toArray] <;> rfl
def rSlL (K : PySem.W.Frag) : V → Option Int → Option Int → Hp → VK → Prop := fun x lo hi H Q => ∃ a xs, x = .ref a ∧ SqL K H a xs ∧ ∀ p, H p = none → Q (.ref p) (upd H p (.lst (cutV xs lo hi)))
theorem sl_list : SlR X (rSlL X.K) := by
  intro pins s σ H x v vl vu lo hi sl Q I rx hs pl pu h
  obtain ⟨a, xs, rfl, hx, q⟩ := h
  cases rx
  obtain ⟨its, r, ht, hz⟩ := I.list hx
  have hlen := r.length
  refine ⟨"list", _, slot_list_getitem.lookup, ht.isList.typeIs, ?_⟩
  refine wpAny_getItem_list_slice ht.isList hs pl pu .none (by simp) ?_ (by rw [List.size_toArray] <;> omega)
  rw [slicePick_cut, ← hlen]
  refine ⟨.ref s.heap.objs.size, _, I.laid (t' := s.toks) (o := .lst (cutV xs lo hi)) (fun b ob q => Heap.get?_push_of_some _ q) (Nat.le_refl _) ?_, rfl, q _ (I.hok.fresh (Nat.le_refl _))⟩
  exact ⟨Nat.le_trans (cutV_length xs lo hi) hz, _, 0, (r.drop (HT.sIx xs.length 0 lo)).take (HT.sIx xs.length xs.length hi - HT.sIx xs.length 0 lo), Heap.get?_push_size _ rfl⟩
def flatV : V → Bool
  | .non => true
  | .bl _ => true
  | .int _ => true
  | .str _ => true
  | _ => false
def eqV : V → V → Bool
  | .non, .non => true
  | .bl a, .bl b => a == b
  | .bl a, .int b => (if a then 1 else 0) == b
  | .int a, .bl b => a == (if b then 1 else 0)
  | .int a, .int b => a == b
  | .str a, .str b => a == b
  | _, _ => false
theorem eqAt_V {A : Around} {s : Shared} {y x : V} {u v : Value} (ry : RelV y u) (rx : RelV x v) (fy : flatV y = true) (fx : flatV x = true) : SeqAt.EqAt A s u v (eqV y x) := by
  cases y with
  | non =>
    cases ry
    cases x with
    | non => cases rx; exact SeqAt.EqAt.same _
    | bl b => cases rx; exact SeqAt.EqAt.none_bool b
    | int b => obtain ⟨t, rfl⟩ := rx; exact SeqAt.EqAt.none_int b t
    | str b => obtain ⟨t, rfl⟩ := rx; exact SeqAt.EqAt.none_str b t
    | _ => exact absurd (show false = true from fx) Bool.false_ne_true
  | bl a =>
    cases ry
    cases x with
    | non => cases rx; exact SeqAt.EqAt.bool_none a
    | bl b => cases rx; exact SeqAt.EqAt.bool_bool a b
    | int b => obtain ⟨t, rfl⟩ := rx; exact SeqAt.EqAt.bool_int a b t
    | str b => obtain ⟨t, rfl⟩ := rx; exact SeqAt.EqAt.bool_str a b t
    | _ => exact absurd (show false = true from fx) Bool.false_ne_true
  | int a =>
    obtain ⟨t', rfl⟩ := ry
    cases x with
    | non => cases rx; exact SeqAt.EqAt.int_none a t'
    | bl b => cases rx; exact SeqAt.EqAt.int_bool a t' b
    | int b => obtain ⟨t, rfl⟩ := rx; exact SeqAt.EqAt.int_int a t' b t
    | str b => obtain ⟨t, rfl⟩ := rx; exact SeqAt.EqAt.int_str a t' b t
    | _ => exact absurd (show false = true from fx) Bool.false_ne_true
  | str a =>
    obtain ⟨t', rfl⟩ := ry
    cases x with
    | non => cases rx; exact SeqAt.EqAt.str_none a t'
    | bl b => cases rx; exact SeqAt.EqAt.str_bool a t' b
    | int b => obtain ⟨t, rfl⟩ := rx; exact SeqAt.EqAt.str_int a t' b t
    | str b => obtain ⟨t, rfl⟩ := rx; exact SeqAt.EqAt.str_str a t' b t
    | _ => exact absurd (show false = true from fx) Bool.false_ne_true
  | _ => exact absurd (show false = true from fy) Bool.false_ne_true
def eqU (x : V) (u : Value) : Bool := match u with
  | .none => eqV .non x
  | .bool b => eqV (.bl b) x
  | .int i _ => eqV (.int i) x
  | .str z _ => eqV (.str z) x
  | _ => false
theorem eqU_of {x y : V} {u : Value} (r : RelV y u) (f : flatV y = true) : eqU x u = eqV y x := by
  cases y with
  | non => cases r; rfl
  | bl b => cases r; rfl
  | int i => obtain ⟨t, rfl⟩ := r; rfl
  | str z => obtain ⟨t, rfl⟩ := r; rfl
  | _ => exact absurd (show false = true from f) Bool.false_ne_true
theorem any_eqU {x : V} : ∀ {xs : List V} {us : List Value}, Vals xs us → xs.all flatV = true → us.any (eqU x) = xs.any fun y => eqV y x
  | _, _, .nil, _ => rfl
  | y :: xs, u :: us, .cons r t, f => by
    rw [List.all_cons, Bool.and_eq_true] at f
    rw [List.any_cons, List.any_cons, eqU_of r f.1, any_eqU t f.2]
theorem mem_eqAt {A : Around} {s : Shared} {x : V} {v : Value} (rx : RelV x v) (fx : flatV x = true) : ∀ {xs : List V} {us : List Value}, Vals xs us → xs.all flatV = true → ∀ u ∈ us, SeqAt.EqAt A s u v (eqU x u)
  | _, _, .nil, _ => fun u hu => by cases hu
  | y :: xs, u :: us, .cons r t, f => fun u' hu => by
    rw [List.all_cons, Bool.and_eq_true] at f
    rcases List.mem_cons.mp hu with rfl | hu
    · rw [eqU_of r f.1]; exact eqAt_V r rx f.1 fx
    · exact mem_eqAt rx fx t f.2 u' hu
def inV (x : V) (xs : List V) : Bool := xs.any fun y => eqV y x
def rIn (K : PySem.W.Frag) (neg : Bool) : R2 := fun x y H Q => ∃ p xs, y = .ref p ∧ (SqL K H p xs ∨ SqT K H p xs) ∧ flatV x = true ∧ xs.all flatV = true ∧ Q (.bl (if neg then !inV x xs else inV x xs)) H
theorem op_in_seq : OpR X (compareOp .In) (rIn X.K false) := by
  intro pins s σ H x y v u Q I rx ry h
  obtain ⟨p, xs, rfl, hq, fx, fs, q⟩ := h
  cases ry
  rcases hq with hq | hq
  · obtain ⟨its, r, pl, hz⟩ := I.list hq
    refine SeqAt.in_listAt (eqU x) pl.isList (fun w hw => mem_eqAt rx fx r fs w (by simpa using hw)) ⟨.bl _, H, I, rfl, ?_⟩
    rw [show its.toArray.any (eqU x) = its.any (eqU x) by simp, any_eqU r fs]
    exact q
  · obtain ⟨its, r, pl, hz⟩ := I.tuple hq
    refine SeqAt.in_tupleAt (eqU x) pl (fun w hw => mem_eqAt rx fx r fs w (by simpa using hw)) ⟨.bl _, H, I, rfl, ?_⟩
    rw [show its.toArray.any (eqU x) = its.any (eqU x) by simp, any_eqU r fs]
    exact q
theorem op_notIn_seq : OpR X (compareOp .NotIn) (rIn X.K true) := by
  intro pins s σ H x y v u Q I rx ry h
  obtain ⟨p, xs, rfl, hq, fx, fs, q⟩ := h
  cases ry
  rcases hq with hq | hq
  · obtain ⟨its, r, pl, hz⟩ := I.list hq
    refine SeqAt.notIn_listAt (eqU x) pl.isList (fun w hw => mem_eqAt rx fx r fs w (by simpa using hw)) ⟨.bl _, H, I, rfl, ?_⟩
    rw [show its.toArray.any (eqU x) = its.any (eqU x) by simp, any_eqU r fs]
    exact q
  · obtain ⟨its, r, pl, hz⟩ := I.tuple hq
    refine SeqAt.notIn_tupleAt (eqU x) pl (fun w hw => mem_eqAt rx fx r fs w (by simpa using hw)) ⟨.bl _, H, I, rfl, ?_⟩
    rw [show its.toArray.any (eqU x) = its.any (eqU x) by simp, any_eqU r fs]
    exact q
theorem call_len_seq : CallR X (.builtin "len") (fun xs H Q => ∃ p ys, xs = [.ref p] ∧ (SqL X.K H p ys ∨ SqT X.K H p ys) ∧ Q (.int ys.length) H) := by
  intro pins s σ H xs us Q I r h
  obtain ⟨p, ys, rfl, hq, q⟩ := h
  obtain ⟨u, rfl, rx⟩ := vals1 r
  cases rx
  have hn := line63
  rcases hq with hq | hq
  · obtain ⟨its, r', pl, hz⟩ := I.list hq
    have hlen := r'.length
    exact Calls.call_len_list pl.isList (by simp only [List.size_toArray] <;> omega) ⟨.int ys.length, H, I.tok _, ⟨s.toks + 1, by rw [List.size_toArray, hlen]⟩, q⟩
  · obtain ⟨its, r', pl, hz⟩ := I.tuple hq
    have hlen := r'.length
    exact len_tuple pl (by simp only [List.size_toArray] <;> omega) ⟨.int ys.length, H, I.tok _, ⟨s.toks + 1, by rw [List.size_toArray, hlen]⟩, q⟩
theorem call_tuple_of : CallR X (.type "tuple") (fun xs H Q => ∃ p ys, xs = [.ref p] ∧ ((SqL X.K H p ys ∧ ∀ l, H l = none → Q (.ref l) (upd H l (.tup ys))) ∨ (SqT X.K H p ys ∧ Q (.ref p) H))) := by
  intro pins s σ H xs us Q I r h
  obtain ⟨p, ys, rfl, h⟩ := h
  obtain ⟨u, rfl, rx⟩ := vals1 r
  cases rx
  rcases h with ⟨hq, q⟩ | ⟨hq, q⟩
  · obtain ⟨its, r', pl, hz⟩ := I.list hq
    have hlen := r'.length
    refine call_tuple_list pl.isList (fun h' kp => ?_) (by simp only [List.size_toArray] <;> omega)
    have I1 : Inv X pins σ H { s with heap := h' } := I.kept (t' := s.toks) kp
    have I2 : Inv X pins σ (upd H h'.objs.size (.tup ys)) { s with heap := h'.push { cls := .type "tuple", data := .seq its.toArray } } :=
      I1.laid (t' := s.toks) (fun b o e => Heap.get?_push_of_some _ e) (Nat.le_refl _) (show ObjOk X.prog X.w _ _ _ (.tup ys) from ⟨hz, its, r', IsTup.new _ _⟩)
    exact ⟨.ref h'.objs.size, _, I2, rfl, q _ (I1.hok.fresh (Nat.le_refl _))⟩
  · obtain ⟨its, r', pl, hz⟩ := I.tuple hq
    exact call_tuple_same pl ⟨.ref p, H, I, rfl, q⟩
def tyV (K : PySem.W.Frag) (T : String) (x : V) (H : Hp) : Prop := match x with
  | .str _ => T = "str"
  | .int _ => T = "int"
  | .ref p => (T = "list" ∧ ∃ xs, SqL K H p xs) ∨ (T = "tuple" ∧ ∃ o, K.lookup p = some o ∧ o.cls = .type "tuple" ∧ o.dict = none) ∨
      (T = "dict" ∧ ((∃ kvs, H p = some (.dK kvs)) ∨ ∃ kvs, H p = some (.dT kvs))) ∨ (T = "set" ∧ ∃ S n, H p = some (.set S n))
  | _ => False
theorem tyV_is {pins : List (Addr × Obj)} {σ : St} {H : Hp} {s : Shared} {T : String} {x : V} {v : Value} (I : Inv X pins σ H s) (r : RelV x v) (ty : tyV X.K T x H) :
    s.TypeIs v T ∧ ∀ a, v = .ref a → ∃ ob, s.heap.get? a = some ob ∧ ob.dict = none := by
  cases x with
  | str z =>
    obtain ⟨t, rfl⟩ := r
    cases (show T = "str" from ty)
    exact ⟨typeIs_str s z t, fun _ e => nomatch e⟩
  | int i =>
    obtain ⟨t, rfl⟩ := r
    cases (show T = "int" from ty)
    exact ⟨typeIs_int s i t, fun _ e => nomatch e⟩
  | ref p =>
    cases r
    rcases ty with ⟨rfl, xs, hq⟩ | ⟨rfl, o, hk, hc, hd⟩ | ⟨rfl, hk⟩ | ⟨rfl, S, n, hk⟩
    · obtain ⟨its, _, pl, _⟩ := I.list hq
      refine ⟨pl.isList.typeIs, fun a e => ?_⟩
      cases e
      obtain ⟨o, n, e, c, hd, _⟩ := pl
      exact ⟨o, e, hd⟩
    · refine ⟨⟨o, I.kIn p o hk, hc⟩, fun a e => ?_⟩
      cases e
      exact ⟨o, I.kIn _ o hk, hd⟩
    · have z : ∃ o, s.heap.get? p = some o ∧ o.ExactDict := by
        rcases hk with ⟨kvs, hk⟩ | ⟨kvs, hk⟩
        · obtain ⟨_, _, _, _, o, _, _, e, ex, _⟩ := I.hok p _ hk
          exact ⟨o, e, ex⟩
        · obtain ⟨_, _, _, _, o, _, _, e, ex, _⟩ := I.hok p _ hk
          exact ⟨o, e, ex⟩
      obtain ⟨o, e, ex⟩ := z
      refine ⟨⟨o, e, ex.1⟩, fun a e2 => ?_⟩
      cases e2
      exact ⟨o, e, ex.2.1⟩
    · obtain ⟨o, _, _, _, e, ex, _⟩ := I.hok p _ hk
      refine ⟨⟨o, e, ex.1⟩, fun a e2 => ?_⟩
      cases e2
      exact ⟨o, e, ex.2.1⟩
  | _ => exact False.elim ty
def tBM (K : PySem.W.Frag) (T : String) (r : V → List V → Hp → VK → Prop) (to : TE) (t : TA) : TE := fun σ H Q => to σ H fun x H1 => tyV K T x H1 ∧ t σ H1 fun xs H2 => r x xs H2 Q
variable {o e : Expr} {es : List Expr} {to : TE} {t : TA} {name : Str} {apos cpos : Pos} {T id : String} {r : V → List V → Hp → VK → Prop}
theorem pe_bm (pa : PlainAttrs T) (slot : Slot T name id) (hty : typeOf (.builtin id) = pure (.type "method_descriptor")) (hm : MtR X id r) (ho : PE X o to) (ha : PA X (e :: es) t)
    (hbase : attributeBase o name X.env (eval o X.env) = eval o X.env := by rfl)
    (hfew : ((backTo cpos (starEach (e :: es) X.env)).all (fun x => !x.1) && (backToKw cpos (keywordEach [] X.env)).all (fun x => x.1.isSome)
      && decide ((e :: es).length + ([] : List Keyword).length + (if ([] : List Keyword).isEmpty then 0 else 1) < 30)) = true := by rfl)
    (hline : (apos.endLine == cpos.line) = true := by rfl) (hs : starEach (e :: es) X.env = (false, eval e X.env) :: starEach es X.env := by rfl) (hplain : (backTo cpos (starEach es X.env)).any (·.1) = false := by rfl) :
    PE X (.Call (.Attribute o name apos) (e :: es) [] cpos) (tBM X.K T r to t) := by
  intro pins s σ H Q I h
  refine wpAny_Call_method_late hbase hfew hline rfl (thn (ho pins s σ H _ I h) fun v s1 ⟨x, H1, I1, r1, ty, q1⟩ => ?_)
  obtain ⟨h1, h2⟩ := tyV_is I1 r1 ty
  refine ⟨T, id, pa, slot, hty, h1, h2, ?_⟩
  have hA := ha cpos pins s1 σ H1 _ I1 q1
  rw [hs] at hA ⊢
  refine Calls.callWith_builtin (by show (false || (backTo cpos (starEach es X.env)).any (·.1)) = false; rw [hplain] <;> rfl) (Calls.evalArgs_plain ?_)
  exact thn hA fun us s2 ⟨vs, H2, I2, r2, q2⟩ => hm pins s2 σ H2 x vs v us Q I2 r1 r2 q2
end
end L2
namespace L2
open PySem PySem.Spec PyProof.Rows
def MtM (X : Cx) (id : String) (r : V → List V → Hp → VK → Prop) : Prop :=
  ∀ (pins : List (Addr × Obj)) (s : Shared) (σ : St) (H : Hp) (x : V) (xs : List V) (v : Value) (us : List Value) (Q : VK), Inv X pins σ H s → RelV x v → Vals xs us → r x xs H Q →
    wpAny (model X.prog X.w) X.A (call (.builtin id) (v :: us)) (EP X pins σ Q) X.xe s
theorem Vals.one : ∀ {x : V} {us : List Value}, Vals [x] us → ∃ u, us = [u] ∧ RelV x u
  | _, _, .cons r .nil => ⟨_, rfl, r⟩
section
variable {X : Cx} {pins : List (Addr × Obj)} {σ : St} {H : Hp} {s : Shared} {l b : Addr} {xs ys zs : List V}
theorem Inv.lset {its its' : List Value} {n : Nat} {f : Array Value → Array Value} {t' : Nat} (I : Inv X pins σ H s) (hH : H l = some (.lst xs))
    (e : s.heap.get? l = some { cls := .type "list", data := .seq its.toArray n }) (hf : f its.toArray = its'.toArray) (hv : Vals ys its') (hz : ys.length ≤ sizeLine) :
    Inv X pins σ (upd H l (.lst ys)) { s with heap := s.heap.update l (Obj.mapSeq f), toks := t' } := by
  have q := PySem.IsL.update e f
  rw [hf] at q
  refine I.write (x := l) (e := l) (by rw [hH]; exact trivial) (.inl rfl) (fun b' u hb hu => (Heap.get?_update_other s.heap (Obj.mapSeq f) (Ne.symm hb)).trans hu) ⟨_, q⟩ ?_
  exact ⟨hz, its', _, hv, q⟩
theorem Inv.lnew {its : List Value} {t' : Nat} (I : Inv X pins σ H s) (hv : Vals ys its) (hz : ys.length ≤ sizeLine) :
    Inv X pins σ (upd H s.heap.objs.size (.lst ys)) { s with heap := s.heap.push { cls := .type "list", data := .seq its.toArray }, toks := t' } :=
  I.laid (fun _ _ q => Heap.get?_push_of_some _ q) (Nat.le_refl _) ⟨hz, its, 0, hv, Heap.get?_push_size _ rfl⟩
theorem Inv.fresh (I : Inv X pins σ H s) : H s.heap.objs.size = none := I.hok.fresh (Nat.le_refl _)
theorem Inv.lstM (I : Inv X pins σ H s) (hH : H l = some (.lst xs)) : xs.length ≤ sizeLine ∧ ∃ (its : List Value) (n : Nat), Vals xs its ∧ xs.length = its.length ∧ s.heap.get? l = some { cls := .type "list", data := .seq its.toArray n } := by
  obtain ⟨z, its, n, r, e⟩ := I.hok l _ hH
  exact ⟨z, its, n, r, r.length, e⟩
theorem notLongL {n : Nat} (h : n ≤ sizeLine) : Builtin.List.listTooLong n = false := by
  unfold Builtin.List.listTooLong
  exact decide_eq_false (by omega)
end
section
variable {X : Cx}
def rAppend : V → List V → Hp → VK → Prop := fun x vs H Q => ∃ l xs y, x = .ref l ∧ vs = [y] ∧ H l = some (.lst xs) ∧ xs.length < sizeLine ∧ Q .non (upd H l (.lst (xs ++ [y])))
theorem mt_append : MtM X "list.append" rAppend := by
  intro pins s σ H x vs v us Q I rx rv h
  obtain ⟨l, xs, y, rfl, rfl, hH, hz, q⟩ := h
  cases rx
  obtain ⟨u, rfl, ru⟩ := rv.one
  obtain ⟨z, its, n, r, hl, e⟩ := I.lstM hH
  refine call_meets F.slot_list_append ⟨_, e, rfl⟩ F.entry_list_append (F.args_list_append_2 _ _) (PySem.list_append l its.toArray n u (by rw [List.size_toArray]; omega)) ⟨e, ?_⟩
  refine ⟨.non, _, I.lset (its' := its ++ [u]) hH e (by simp) (r.append (.cons ru .nil)) ?_, rfl, q⟩
  rw [List.length_append, List.length_singleton]
  omega
def rExtend : V → List V → Hp → VK → Prop := fun x vs H Q => ∃ l b xs zs, x = .ref l ∧ vs = [.ref b] ∧ H l = some (.lst xs) ∧ H b = some (.lst zs) ∧ xs.length + zs.length ≤ sizeLine ∧ Q .non (upd H l (.lst (xs ++ zs)))
theorem mt_extend : MtM X "list.extend" rExtend := by
  intro pins s σ H x vs v us Q I rx rv h
  obtain ⟨l, b, xs, zs, rfl, rfl, hH, hB, hz, q⟩ := h
  cases rx
  obtain ⟨u, rfl, ru⟩ := rv.one
  cases ru
  obtain ⟨z, its, n, r, hl, e⟩ := I.lstM hH
  obtain ⟨z2, its2, n2, r2, hl2, e2⟩ := I.lstM hB
  have hsz : its.toArray.size + its2.toArray.size ≤ sizeLine := by rw [List.size_toArray, List.size_toArray]; omega
  have hlong : ¬ (!its.toArray.isEmpty && Builtin.List.listTooLong (its.toArray.size + its2.toArray.size)) = true := by
    rw [notLongL hsz, Bool.and_false]
    exact Bool.false_ne_true
  refine call_meets F.slot_list_extend ⟨_, e, rfl⟩ F.entry_list_extend (F.args_list_extend_2 _ _)
    (AutoSeq1.list_extend_list_list_0 l its.toArray n b its2.toArray n2 hlong (by rw [List.size_toArray]; omega) (by omega)) ⟨e, e2, ?_⟩
  refine ⟨.non, _, I.lset (its' := its ++ its2) hH e (by simp) (r.append r2) ?_, rfl, q⟩
  rw [List.length_append]
  omega
def rCat : R2 := fun x y H Q => ∃ l b xs zs, x = .ref l ∧ y = .ref b ∧ H l = some (.lst xs) ∧ H b = some (.lst zs) ∧ xs.length + zs.length ≤ sizeLine ∧ ∀ p, H p = none → Q (.ref p) (upd H p (.lst (xs ++ zs)))
theorem op_cat : OpR X (binaryOp .Add) rCat := by
  intro pins s σ H x y v u Q I rx ry h
  obtain ⟨l, b, xs, zs, rfl, rfl, hH, hB, hz, q⟩ := h
  cases rx
  cases ry
  obtain ⟨z, its, n, r, hl, e⟩ := I.lstM hH
  obtain ⟨z2, its2, n2, r2, hl2, e2⟩ := I.lstM hB
  refine PySem.P.add_list e e2 ?_ (by rw [List.size_toArray, List.size_toArray]; omega)
  have ea : its.toArray ++ its2.toArray = (its ++ its2).toArray := by simp
  rw [ea]
  exact ⟨.ref _, _, I.lnew (t' := s.toks) (r.append r2) (by rw [List.length_append]; omega), rfl, q _ I.fresh⟩
end
section
variable {prog : Program} {w : World} {A : Around} {E : Value → Shared → Prop} {s : Shared}
set_option maxRecDepth 100000 in
end
section
variable {X : Cx}
end
end L2
namespace L2
open PySem PySem.Spec PyProof.Rows
theorem Vals.ints : ∀ {ns : List Int} {us : List Value}, Vals (ns.map V.int) us → IntsAre us ns
  | [], us, h => by
    rw [List.map_nil] at h
    cases h
    exact IntsAre.nil
  | n :: ns, us, h => by
    rw [List.map_cons] at h
    cases h with
    | cons r t =>
      obtain ⟨k, rfl⟩ := r
      exact IntsAre.cons n k (Vals.ints t)
theorem Vals.bls : ∀ {bs : List Bool} {us : List Value}, Vals (bs.map V.bl) us → us = bs.map Value.bool
  | [], us, h => by
    rw [List.map_nil] at h
    cases h
    rfl
  | b :: bs, us, h => by
    rw [List.map_cons] at h
    cases h with
    | cons r t =>
      cases r
      rw [Vals.bls t, List.map_cons]
theorem Vals.ref1 {a : Addr} {us : List Value} (r : Vals [V.ref a] us) : us = [Value.ref a] := by
  cases r with
  | cons r t =>
    cases t
    cases r
    rfl
section
variable {prog : Program} {w : World} {A : Around} {E : Value → Shared → Prop} {s : Shared} {l : Addr} {its : List Value} {ns : List Int} {Q : Value → Shared → Prop}
theorem max_raw (hh : A.handled = none) (hl : s.heap.IsList l its.toArray) (hi : IntsAre its ns) (hne : 0 < ns.length)
    (h : ∀ h' tk M t', (∀ b o, s.heap.get? b = some o → h'.get? b = some o) → M ∈ ns → (∀ a, a ∈ ns → a ≤ M) → Q (.int M t') { s with heap := h', toks := tk }) : wpAny (model prog w) A (call (.builtin "max") [.ref l]) Q E s := by
  obtain ⟨xs, e⟩ := hi.allInts.items
  have hn : numsOf (intItems xs).toList = ns := by rw [← e]; exact hi.numsOf
  rw [nums_intItems] at hn
  subst hn
  rw [e] at hl
  have hsz : 0 < xs.size := by simpa using hne
  refine PySem.max_intList hh hl hsz fun v h' tk hv hk => ?_
  obtain ⟨t, rfl⟩ := intItems_at hv
  obtain ⟨h1, h2⟩ := argBest_gt (numAt xs) (xs.size - 1)
  refine h h' tk _ t hk ?_ fun a ha => ?_
  · rw [numAt_eq]; exact PySem.getD_mem (by rw [List.length_map, Array.length_toList]; omega)
  · obtain ⟨j, hj, rfl⟩ := mem_getD ha
    rw [List.length_map, Array.length_toList] at hj
    rw [← numAt_eq]; exact h2 j (by omega)
end
section
variable {X : Cx}
def rMax (K : PySem.W.Frag) : List V → Hp → VK → Prop := fun vs H Q => ∃ (a : Addr) (ns : List Int), vs = [V.ref a] ∧ SqL K H a (ns.map V.int) ∧ 0 < ns.length ∧ ∀ m, m ∈ ns → (∀ y, y ∈ ns → y ≤ m) → Q (.int m) H
theorem cr_max (hc : X.calm = true) : CallR X (.builtin "max") (rMax X.K) := by
  intro pins s σ H vs us Q I r h
  obtain ⟨a, ns, rfl, hs, hne, q⟩ := h
  obtain ⟨its, rv, hl, _⟩ := I.list hs
  rw [Vals.ref1 r]
  exact max_raw (I.ok.hd hc) hl.isList rv.ints hne fun h' tk m t' hk h1 h2 => ⟨.int _, H, I.kept hk, ⟨_, rfl⟩, q m h1 h2⟩
end
section
variable {X : Cx}
def rIndex (K : PySem.W.Frag) : V → List V → Hp → VK → Prop := fun x xs H Q => ∃ (a : Addr) (ys : List V) (y : V) (j : Nat) (z : V), x = V.ref a ∧ xs = [y] ∧ SqL K H a ys ∧ flatV y = true ∧ ys.all flatV = true ∧ ys[j]? = some z ∧ eqV z y = true ∧
  (∀ (m : Nat) (z' : V), m < j → ys[m]? = some z' → eqV z' y = false) ∧ Q (.int (j : Nat)) H
theorem flat_at {ys : List V} (f : ys.all flatV = true) {j : Nat} {z : V} (h : ys[j]? = some z) : flatV z = true := List.all_eq_true.mp f z (List.mem_of_getElem? h)
theorem mt_index : MtR X "list.index" (rIndex X.K) := by
  intro pins s σ H x xs v us Q I rx rxs h
  obtain ⟨a, ys, y, j, z, rfl, rfl, hs, fy, fys, hz, hzj, hno, q⟩ := h
  cases rx
  cases rxs with
  | cons ry rt =>
    rename_i uy ut
    cases rt
    obtain ⟨its, rv, ⟨⟨cls, dd, data, sl⟩, n, ho, hc, hdn, hd⟩, hlen⟩ := I.list hs
    simp only at hc hd
    subst hc hd
    obtain ⟨u, hu, ru⟩ := rv.get hz
    obtain ⟨hjl, hje⟩ := List.getElem?_eq_some_iff.mp hu
    have hvl := rv.length
    have hj : j < its.toArray.size := by simpa using hjl
    have hsl := sizeLine_eq
    refine call_meets PySem.F.slot_list_index ⟨_, ho, rfl⟩ PySem.F.entry_list_index (PySem.F.args_list_index_2 _ _)
      (SeqAt.list_indexAt a its.toArray n dd sl uy (eqU y) j hj (by omega) ?_ ?_) ⟨ho, fun u' hu' => mem_eqAt ry fy rv fys u' (by simpa using hu'), ?_⟩
    · have e1 : its.toArray[j] = u := by simpa using hje
      rw [e1, eqU_of ru (flat_at fys hz)]
      exact hzj
    · intro m hm hmj
      have hml : m < its.length := by simpa using hm
      have hmy : m < ys.length := by omega
      have hy' : ys[m]? = some ys[m] := List.getElem?_eq_getElem hmy
      obtain ⟨u2, hu2, ru2⟩ := rv.get hy'
      obtain ⟨_, hme⟩ := List.getElem?_eq_some_iff.mp hu2
      have e1 : its.toArray[m] = u2 := by simpa using hme
      rw [e1, eqU_of ru2 (flat_at fys hy')]
      exact hno m _ hmj hy'
    · exact ⟨.int (j : Nat), H, I.tok _, ⟨_, rfl⟩, q⟩
end
section
variable {X : Cx}
end
theorem iter_any {prog : Program} {w : World} {A : Around} {E : Value → Shared → Prop} {s : Shared} {l : Addr} {items : Array Value} {Q : Value → Shared → Prop} (hl : s.heap.IsList l items)
    (h : ∀ s₂ : Shared, s₂ = { s with heap := s.heap.push { cls := .type "list_iterator", data := .fields #[.ref l, .int 0 0] } } →
      (s₂.heap.IsListIter s.heap.objs.size l 0 ∧ s₂.heap.IsList l items) → l ≠ s.heap.objs.size → Q (.ref s.heap.objs.size) s₂) : wpAny (model prog w) A (pyIter (.ref l)) Q E s := by
  have hlt : l < s.heap.objs.size := by obtain ⟨_, e, _⟩ := hl; exact Heap.lt_size e
  exact wpAny_pyIter_list hl (h _ rfl ⟨⟨_, Heap.get?_push_size _ rfl, rfl, rfl⟩, hl.push _⟩ (Nat.ne_of_lt hlt))
theorem truth_bools {prog : Program} {w : World} {A : Around} {bs : List Bool} {its : List Value} (e : its = bs.map Value.bool) :
    TruthOf prog w A (fun i v => its.toArray[i]? = some v) (fun i => bs.getD i false) := fun i v s Q E hv hq => by
  have hv' : its[i]? = some v := by simpa using hv
  rw [e, List.getElem?_map] at hv'
  obtain ⟨b, hb, rfl⟩ := Option.map_eq_some_iff.mp hv'
  have hg : bs.getD i false = b := by rw [List.getD_eq_getElem?_getD, hb] <;> rfl
  have hq' : Q (bs.getD i false) s := hq
  rw [hg] at hq'
  exact wpAny_truthy_bool hq'
theorem any_range : ∀ bs : List Bool, (List.range bs.length).any (fun i => bs.getD i false) = bs.any id
  | [] => rfl
  | b :: bs => by
    rw [List.length_cons, List.range_succ_eq_map, List.any_cons, List.any_map, List.any_cons, ← any_range bs]
    all_goals rfl
section
variable {X : Cx}
def rAny (K : PySem.W.Frag) : List V → Hp → VK → Prop := fun vs H Q => ∃ (a : Addr) (bs : List Bool), vs = [V.ref a] ∧ SqL K H a (bs.map V.bl) ∧ Q (.bl (bs.any id)) H
theorem cr_any (hc : X.calm = true) : CallR X (.builtin "any") (rAny X.K) := by
  intro pins s σ H vs us Q I r h
  obtain ⟨a, bs, rfl, hs, q⟩ := h
  obtain ⟨its, rv, hl, _⟩ := I.list hs
  rw [Vals.ref1 r]
  have hb := rv.bls
  refine call_any_walk (iter_any hl.isList fun s₂ e2 st hne => ?_)
  subst e2
  refine ⟨_, _, _, _, _, _, _, rfl, Walks.list (A := X.A.in1) (I.ok.hd hc) _ a hne its.toArray, st, truth_bools hb, fun h' tk hk => ?_⟩
  refine ⟨.bl _, H, I.kept fun b o eo => hk b o (fun hmem => ?_) (Heap.get?_push_of_some _ eo), ?_, q⟩
  · rcases List.mem_cons.mp hmem with e1 | hmem
    · exact absurd (e1 ▸ Heap.lt_size eo) (Nat.lt_irrefl _)
    · cases hmem
  · show Value.bool _ = Value.bool _
    rw [← any_range, hb, List.size_toArray, List.length_map]
end
mutual
inductive Dp (K : PySem.W.Frag) (H : Hp) : V → PyData → Prop
  | non : Dp K H .non .none
  | bl (b : Bool) : Dp K H (.bl b) (.bool b)
  | int (i : Int) : Dp K H (.int i) (.int i)
  | str (x : Str) : Dp K H (.str x) (.str x)
  | lst {a : Addr} {xs : List V} {ds : List PyData} : SqL K H a xs → DpAll K H xs ds → Dp K H (.ref a) (.list ds)
  | tup {a : Addr} {xs : List V} {ds : List PyData} : SqT K H a xs → DpAll K H xs ds → Dp K H (.ref a) (.tuple ds)
inductive DpAll (K : PySem.W.Frag) (H : Hp) : List V → List PyData → Prop
  | nil : DpAll K H [] []
  | cons {v : V} {vs : List V} {d : PyData} {ds : List PyData} : Dp K H v d → DpAll K H vs ds → DpAll K H (v :: vs) (d :: ds)
end
section
variable {X : Cx} {pins : List (Addr × Obj)} {σ : St} {H : Hp} {s : Shared}
mutual
theorem Dp.reads (I : Inv X pins σ H s) : ∀ (d : PyData) (v : V) (u : Value), Dp X.K H v d → RelV v u → ∃ as, Reads s.heap u d as
  | .none, _, _, h, r => by
    cases h
    cases r
    exact ⟨_, Reads.none⟩
  | .bool b, _, _, h, r => by
    cases h
    cases r
    exact ⟨_, Reads.bool b⟩
  | .int i, _, _, h, r => by
    cases h
    obtain ⟨t, rfl⟩ := r
    exact ⟨_, Reads.int i t⟩
  | .str x, _, _, h, r => by
    cases h
    obtain ⟨t, rfl⟩ := r
    exact ⟨_, Reads.str x t⟩
  | .list ds, _, _, h, r => by
    cases h with
    | lst hs ha =>
      cases r
      obtain ⟨its, rv, ⟨o, n, ho, hc, _, hd⟩, _⟩ := I.list hs
      obtain ⟨as, hr⟩ := Dp.readsAll I ds _ its ha rv
      exact ⟨_, Reads.list ho hc hd hr⟩
  | .tuple ds, _, _, h, r => by
    cases h with
    | tup hs ha =>
      cases r
      obtain ⟨its, rv, ⟨o, ho, hc, n, hd⟩, _⟩ := I.tuple hs
      obtain ⟨as, hr⟩ := Dp.readsAll I ds _ its ha rv
      exact ⟨_, Reads.tuple ho hc hd hr⟩
  | .dict _, _, _, h, _ => by cases h
theorem Dp.readsAll (I : Inv X pins σ H s) : ∀ (ds : List PyData) (vs : List V) (us : List Value), DpAll X.K H vs ds → Vals vs us → ∃ as, ReadsAll s.heap us ds as
  | [], _, _, h, r => by
    cases h
    cases r
    exact ⟨_, ReadsAll.nil⟩
  | d :: ds, _, _, h, r => by
    cases h with
    | cons h1 h2 =>
      cases r with
      | cons r1 r2 =>
        obtain ⟨as, q1⟩ := Dp.reads I d _ _ h1 r1
        obtain ⟨bs, q2⟩ := Dp.readsAll I ds _ _ h2 r2
        exact ⟨_, ReadsAll.cons q1 q2⟩
end
end
section
variable {X : Cx}
def rEqD (K : PySem.W.Frag) : R2 := fun x y H Q => ∃ d e, Dp K H x d ∧ Dp K H y e ∧ SeqAt.shaped d = true ∧ SeqAt.shaped e = true ∧ Q (.bl (PyData.eqv d e)) H
def rNeD (K : PySem.W.Frag) : R2 := fun x y H Q => ∃ d e, Dp K H x d ∧ Dp K H y e ∧ SeqAt.shaped d = true ∧ SeqAt.shaped e = true ∧ Q (.bl (!PyData.eqv d e)) H
theorem op_eqD (hu : X.A.units + 64 < cLine) : OpR X (compareOp .Eq) (rEqD X.K) := by
  intro pins s σ H x y v u Q I rx ry h
  obtain ⟨d, e, hd, he, sd, se, q⟩ := h
  obtain ⟨as, r1⟩ := Dp.reads I d x v hd rx
  obtain ⟨bs, r2⟩ := Dp.reads I e y u he ry
  exact SeqAt.compareEq_shaped r1 r2 sd se hu ⟨.bl _, H, I, rfl, q⟩
theorem op_neD (hu : X.A.units + 64 < cLine) : OpR X (compareOp .NotEq) (rNeD X.K) := by
  intro pins s σ H x y v u Q I rx ry h
  obtain ⟨d, e, hd, he, sd, se, q⟩ := h
  obtain ⟨as, r1⟩ := Dp.reads I d x v hd rx
  obtain ⟨bs, r2⟩ := Dp.reads I e y u he ry
  exact SeqAt.compareNe_shaped r1 r2 sd se hu ⟨.bl _, H, I, rfl, q⟩
end
end L2
namespace L2
open PySem PySem.Spec PyProof.Rows
abbrev CellAt (h : Heap) (c : Addr) (v : Option Value) : Prop := h.IsCell c v
def relS (scope sc : Scope) : Scope :=
  { scope with names := scope.names.map fun (n, k) => if (k == .free && sc.kind == .function && sc.names.lookup n == some .cell) then (n, .cell) else (n, k) }
def cloFrom (cells : List (Str × Addr)) : List (Str × NameKind) → List (Str × Addr) → List (Str × Addr)
  | [], acc => acc
  | (n, k) :: r, acc => if k == .free then cloFrom cells r ((n, (cells.lookup n).getD 0) :: acc) else cloFrom cells r acc
theorem closure_loop (env : Env) (f : Str × NameKind → List (Str × Addr) → Sem (ForInStep (List (Str × Addr))))
    (hf : ∀ n k c, f (n, k) c = if k == .free then (do let a ← cellOf env n; pure (.yield ((n, a) :: c))) else pure (.yield c)) :
    ∀ (names : List (Str × NameKind)) (acc : List (Str × Addr)), (∀ y ∈ names, y.2 = .free → ∃ c, env.cells.lookup y.1 = some c) → forIn names acc f = pure (cloFrom env.cells names acc)
  | [], acc, _ => by rw [List.forIn_nil]; rfl
  | (n, k) :: r, acc, h => by
    rw [List.forIn_cons, hf]
    have ih := fun acc => closure_loop env f hf r acc fun y hy => h y (List.mem_cons_of_mem _ hy)
    unfold cloFrom
    by_cases hk : (k == NameKind.free) = true
    · rw [if_pos hk, if_pos hk]
      obtain ⟨c, hc⟩ := h (n, k) List.mem_cons_self (by simpa using hk)
      have e : cellOf env n = pure c := by unfold cellOf; rw [hc]
      rw [e]
      have e2 : (env.cells.lookup n).getD 0 = c := by rw [hc]; rfl
      rw [e2]
      exact ih _
    · rw [if_neg hk, if_neg hk]
      exact ih _
theorem closure_ok {scope : Scope} {env : Env} (h : ∀ y ∈ scope.names, y.2 = .free → ∃ c, env.cells.lookup y.1 = some c) : closureFor scope env = pure (cloFrom env.cells scope.names []) := by
  simp only [closureFor]
  rw [closure_loop env _ (fun n k c => rfl) scope.names [] h]
  rfl
theorem mem_lookup {α : Type} : ∀ {l : List (Str × α)} {n : Str} {c : α}, (n, c) ∈ l → ∃ c', l.lookup n = some c'
  | (k, v) :: r, n, c, h => by
    rw [List.lookup_cons]
    cases hb : n == k with
    | true => exact ⟨_, rfl⟩
    | false =>
      rcases List.mem_cons.mp h with e | h
      · cases e; simp at hb
      · exact mem_lookup h
theorem cloFrom_mem {cells : List (Str × Addr)} : ∀ {names : List (Str × NameKind)} {acc : List (Str × Addr)} {n : Str} {c : Addr}, (n, c) ∈ cloFrom cells names acc → (n, c) ∈ acc ∨ ((n, .free) ∈ names ∧ c = (cells.lookup n).getD 0)
  | [], _, _, _, h => .inl h
  | (m, k) :: r, acc, n, c, h => by
    unfold cloFrom at h
    split at h
    · rename_i hk
      have hk : k = .free := by simpa using hk
      rcases cloFrom_mem h with h | ⟨h1, h2⟩
      · rcases List.mem_cons.mp h with e | h
        · cases e; exact .inr ⟨hk ▸ List.mem_cons_self, rfl⟩
        · exact .inl h
      · exact .inr ⟨List.mem_cons_of_mem _ h1, h2⟩
    · rcases cloFrom_mem h with h | ⟨h1, h2⟩
      · exact .inl h
      · exact .inr ⟨List.mem_cons_of_mem _ h1, h2⟩
theorem cloFrom_acc {cells : List (Str × Addr)} : ∀ {names : List (Str × NameKind)} {acc : List (Str × Addr)} {p : Str × Addr}, p ∈ acc → p ∈ cloFrom cells names acc
  | [], _, _, h => h
  | (m, k) :: r, acc, p, h => by
    unfold cloFrom
    split
    · exact cloFrom_acc (List.mem_cons_of_mem _ h)
    · exact cloFrom_acc h
theorem cloFrom_has {cells : List (Str × Addr)} : ∀ {names : List (Str × NameKind)} {acc : List (Str × Addr)} {n : Str}, (n, .free) ∈ names → (n, (cells.lookup n).getD 0) ∈ cloFrom cells names acc
  | (m, k) :: r, acc, n, h => by
    unfold cloFrom
    rcases List.mem_cons.mp h with e | h
    · cases e
      exact cloFrom_acc List.mem_cons_self
    · split
      · exact cloFrom_has h
      · exact cloFrom_has h
theorem cells_mem : ∀ {names : List (Str × NameKind)} {h : Heap} {acc : List (Str × Addr)} {x : Str} {c : Addr}, (x, c) ∈ cellsFrom h.objs.size names acc →
    (x, c) ∈ acc ∨ ((x, .cell) ∈ names ∧ h.objs.size ≤ c ∧ CellAt (pushCells h names) c none)
  | [], _, _, _, _, h => .inl h
  | (n, k) :: r, h, acc, x, c, hm => by
    unfold cellsFrom at hm
    unfold pushCells
    split at hm
    · rename_i hk
      rw [if_pos hk]
      have hk : k = .cell := by simpa using hk
      rw [← Heap.size_push h { cls := .type "cell", data := .cell none }] at hm
      rcases cells_mem hm with hm | ⟨h1, h2, h3⟩
      · rcases List.mem_cons.mp hm with e | hm
        · cases e
          exact .inr ⟨hk ▸ List.mem_cons_self, Nat.le_refl _, _, pushCells_keeps r _ _ _ (Heap.get?_push_size _ rfl), rfl⟩
        · exact .inl hm
      · rw [Heap.size_push] at h2
        exact .inr ⟨List.mem_cons_of_mem _ h1, Nat.le_of_succ_le h2, h3⟩
    · rename_i hk
      rw [if_neg hk]
      rcases cells_mem hm with hm | ⟨h1, h2, h3⟩
      · exact .inl hm
      · exact .inr ⟨List.mem_cons_of_mem _ h1, h2, h3⟩
theorem cells_acc : ∀ {names : List (Str × NameKind)} {n : Nat} {acc : List (Str × Addr)} {p : Str × Addr}, p ∈ acc → p ∈ cellsFrom n names acc
  | [], _, _, _, h => h
  | (m, k) :: r, n, acc, p, h => by
    unfold cellsFrom
    split
    · exact cells_acc (List.mem_cons_of_mem _ h)
    · exact cells_acc h
theorem cells_has : ∀ {names : List (Str × NameKind)} {n : Nat} {acc : List (Str × Addr)} {x : Str}, (x, .cell) ∈ names → ∃ c, (x, c) ∈ cellsFrom n names acc
  | (m, k) :: r, n, acc, x, h => by
    unfold cellsFrom
    rcases List.mem_cons.mp h with e | h
    · cases e
      exact ⟨n, cells_acc List.mem_cons_self⟩
    · split
      · exact cells_has h
      · exact cells_has h
theorem cells_inj : ∀ {names : List (Str × NameKind)} {h : Heap} {acc : List (Str × Addr)} {x y : Str} {c : Addr}, (∀ p ∈ acc, p.2 < h.objs.size) → (∀ x y c, (x, c) ∈ acc → (y, c) ∈ acc → x = y) →
    (x, c) ∈ cellsFrom h.objs.size names acc → (y, c) ∈ cellsFrom h.objs.size names acc → x = y
  | [], _, _, _, _, _, _, hi, h1, h2 => hi _ _ _ h1 h2
  | (n, k) :: r, h, acc, x, y, c, hl, hi, h1, h2 => by
    unfold cellsFrom at h1 h2
    split at h1
    · rename_i hk
      rw [if_pos hk] at h2
      rw [← Heap.size_push h { cls := .type "cell", data := .cell none }] at h1 h2
      refine cells_inj (h := h.push _) (fun p hp => ?_) (fun x y c a b => ?_) h1 h2
      · rw [Heap.size_push]
        rcases List.mem_cons.mp hp with rfl | hp
        · exact Nat.lt_succ_self _
        · exact Nat.lt_succ_of_lt (hl p hp)
      · rcases List.mem_cons.mp a with e | a <;> rcases List.mem_cons.mp b with e' | b
        · cases e; cases e'; rfl
        · cases e; exact absurd (hl _ b) (Nat.lt_irrefl _)
        · cases e'; exact absurd (hl _ a) (Nat.lt_irrefl _)
        · exact hi _ _ _ a b
    · rename_i hk
      rw [if_neg hk] at h2
      exact cells_inj hl hi h1 h2
theorem newEnv_comp {M : Model} {A : Around} {E : Value → Shared → Prop} {s : Shared} {scope : Scope} {globals : Addr} {closure : List (Str × Addr)} {qual : Str} {func : Option Addr} {code : Value} {around : Env} {builtins : Addr} {Q : Env → Shared → Prop}
    (h : Q (newEnv scope s.heap.objs.size globals (cellsFrom (s.heap.objs.size + 1) scope.names closure) qual func code (some around) builtins)
      { s with heap := pushCells (s.heap.push { cls := .type "dict", data := .dict #[] }) scope.names }) :
    wpAny M A (newFunctionEnv scope globals closure [] qual func code (some around) builtins) Q E s := by
  simp only [newFunctionEnv, Option.isSome_some, if_true]
  refine wpAny_bind (wpAny_alloc ?_)
  refine wpAny_bind (wpAny_layCells _ (fun n k c => rfl) scope.names closure _ _ ?_)
  rw [show ({ s with heap := s.heap.push { cls := .type "dict", data := .dict #[] } } : Shared).heap.objs.size = s.heap.objs.size + 1 from Heap.size_push ..]
  rw [List.forIn_nil]
  exact wpAny_bind (wpAny_pure (wpAny_pure h))
theorem lookup_relS {sc : Scope} : ∀ {names : List (Str × NameKind)} {x : Str} {k : NameKind},
    (names.map fun (n, k) => if (k == NameKind.free && sc.kind == .function && sc.names.lookup n == some .cell) then (n, NameKind.cell) else (n, k)).lookup x = some k →
    ∃ k', names.lookup x = some k' ∧ (k = k' ∨ (k' = .free ∧ k = .cell))
  | [], _, _, h => by simp at h
  | (n, k₀) :: r, x, k, h => by
    have ih := @lookup_relS sc r x k
    have h' : List.lookup x ((if (k₀ == NameKind.free && sc.kind == .function && sc.names.lookup n == some .cell) = true then (n, NameKind.cell) else (n, k₀)) :: (r.map _)) = some k := h
    cases hx : x == n with
    | true =>
      simp only [List.lookup_cons, hx]
      by_cases hc : (k₀ == NameKind.free && sc.kind == .function && sc.names.lookup n == some .cell) = true
      · rw [if_pos hc] at h'
        simp only [List.lookup_cons, hx] at h'
        cases h'
        simp only [Bool.and_eq_true, beq_iff_eq] at hc
        exact ⟨k₀, rfl, .inr ⟨hc.1.1, rfl⟩⟩
      · rw [if_neg hc] at h'
        simp only [List.lookup_cons, hx] at h'
        cases h'
        exact ⟨_, rfl, .inl rfl⟩
    | false =>
      simp only [List.lookup_cons, hx]
      by_cases hc : (k₀ == NameKind.free && sc.kind == .function && sc.names.lookup n == some .cell) = true
      · rw [if_pos hc] at h'
        simp only [List.lookup_cons, hx] at h'
        exact ih h'
      · rw [if_neg hc] at h'
        simp only [List.lookup_cons, hx] at h'
        exact ih h'
structure BlkOk (N : List Str) (sc scope : Scope) (own : List (Str × Nat)) : Prop where
  kind : scope.kind = .function
  uniq : ∀ y ∈ scope.names, scope.names.lookup y.1 = some y.2
  ix : ∀ p ∈ own, N[p.2]? = some p.1
  free : ∀ y ∈ scope.names, y.2 = .free → sc.names.lookup y.1 = some .cell ∨ sc.names.lookup y.1 = some .free
  own : ∀ y ∈ scope.names, y.2 = .local ∨ y.2 = .cell → y.1 ∈ own.map (·.1) ∨ y.1 ∉ N
def wipe (σ : St) : List Nat → St
  | [] => σ
  | v :: vs => (wipe σ vs).set v none
theorem wipe_length (σ : St) : ∀ vs : List Nat, (wipe σ vs).length = σ.length
  | [] => rfl
  | v :: vs => by unfold wipe; rw [List.length_set, wipe_length σ vs]
theorem wipe_some {σ : St} {i : Nat} {x : V} : ∀ {vs : List Nat}, (wipe σ vs)[i]? = some (some x) → σ[i]? = some (some x) ∧ i ∉ vs
  | [], h => ⟨h, by simp⟩
  | v :: vs, h => by
    unfold wipe at h
    by_cases hi : v = i
    · subst hi
      by_cases hv : v < (wipe σ vs).length
      · rw [List.getElem?_set_self hv] at h; cases h
      · rw [List.getElem?_eq_none (by simpa using hv)] at h; cases h
    · rw [List.getElem?_set_ne hi] at h
      obtain ⟨h1, h2⟩ := wipe_some h
      exact ⟨h1, by simp only [List.mem_cons, not_or]; exact ⟨fun e => hi e.symm, h2⟩⟩
abbrev Cx.blk (X : Cx) (s : Shared) (H : Hp) (scope : Scope) (cenv : Env) (fp : List Addr) : Cx := { X with s_0 := s, H_0 := H, env := cenv, outer := X.stack, ex := fp, fn := fun x => scope.names.lookup x == some .cell, pn := [], xe := fun _ _ => False }
section
variable {X : Cx} {pins : List (Addr × Obj)} {σ : St} {H : Hp} {s : Shared}
theorem block_start {scope : Scope} {own : List (Str × Nat)} {fp : List Addr} (I : Inv X pins σ H s) (ok : BlkOk X.N X.env.scope scope own) (hN : X.N.Nodup) (hfp : ∀ b ∈ fp, FpOk X pins H b ∧ b < s.heap.objs.size) :
    Inv (X.blk s H scope (compEnvC scope (cellsFrom (s.heap.objs.size + 1) scope.names (cloFrom X.env.cells scope.names [])) s.heap.objs.size X.env) fp) [] (wipe σ (own.map (·.2))) H { s with heap := pushCells (s.heap.push { cls := .type "dict", data := .dict #[] }) scope.names } := by
  have hfree : ∀ y ∈ scope.names, y.2 = .free → ∃ c, X.env.cells.lookup y.1 = some c := fun y hy e => by
    rcases ok.free y hy e with k | k
    · exact I.ok.has _ (.inl k)
    · exact I.ok.has _ (.inr k)
  generalize hcenv : compEnvC scope (cellsFrom (s.heap.objs.size + 1) scope.names (cloFrom X.env.cells scope.names [])) s.heap.objs.size X.env = cenv
  have kp : ∀ b o, s.heap.get? b = some o → (pushCells (s.heap.push { cls := .type "dict", data := .dict #[] }) scope.names).get? b = some o := fun b o e => pushCells_keeps _ _ _ _ (Heap.get?_push_of_some _ e)
  have hL : cenv.locals = s.heap.objs.size := by rw [← hcenv]; rfl
  have hcl : cenv.cells = cellsFrom (s.heap.objs.size + 1) scope.names (cloFrom X.env.cells scope.names []) := by rw [← hcenv]; rfl
  have hsc : cenv.scope = relS scope X.env.scope := by rw [← hcenv]; rfl
  rw [← Heap.size_push s.heap { cls := .type "dict", data := .dict #[] }] at hcl
  have cm : ∀ {y c}, (y, c) ∈ cloFrom X.env.cells scope.names [] → X.env.cells.lookup y = some c ∧ c < s.heap.objs.size := fun {y c} hm => by
    rcases cloFrom_mem hm with hm | ⟨h1, rfl⟩
    · cases hm
    · obtain ⟨c, hc⟩ := hfree _ h1 rfl
      rw [hc]
      obtain ⟨w, z⟩ := I.cell _ _ hc
      exact ⟨rfl, z.lt⟩
  have mem : ∀ {y c}, cenv.cells.lookup y = some c → (X.env.cells.lookup y = some c ∧ c < s.heap.objs.size) ∨ (s.heap.objs.size + 1 ≤ c ∧ CellAt (pushCells (s.heap.push { cls := .type "dict", data := .dict #[] }) scope.names) c none) := fun {y c} e => by
    rw [hcl] at e
    rcases cells_mem (PySem.mem_of_lookup e) with hm | ⟨_, h2, h3⟩
    · exact .inl (cm hm)
    · rw [Heap.size_push] at h2; exact .inr ⟨h2, h3⟩
  have look : ∀ {y}, scope.names.lookup y = some .free → ∃ c, cenv.cells.lookup y = some c ∧ X.env.cells.lookup y = some c := fun {y} hl => by
    have hy : (y, NameKind.free) ∈ scope.names := PySem.mem_of_lookup hl
    obtain ⟨c', e'⟩ := mem_lookup (cells_acc (names := scope.names) (n := (s.heap.push { cls := .type "dict", data := .dict #[] }).objs.size) (cloFrom_has (cells := X.env.cells) (acc := []) hy))
    rw [← hcl] at e'
    refine ⟨c', e', ?_⟩
    rw [hcl] at e'
    rcases cells_mem (PySem.mem_of_lookup e') with hm | ⟨h1, _, _⟩
    · exact (cm hm).1
    · have := ok.uniq _ h1
      rw [hl] at this; cases this
  have okB : (X.blk s H scope cenv fp).Ok := by
    refine ⟨I.ok.mod, by show cenv.scope.kind = _; rw [hsc]; exact ok.kind, by show cenv.globals = _; rw [← hcenv]; exact I.ok.glob, by show cenv.builtins = _; rw [← hcenv]; exact I.ok.blt, by show s.heap.objs.size ≤ cenv.locals; rw [hL]; exact Nat.le_refl _,
      fun y z c e1 e2 => ?_, fun y hy => ?_, fun y c z e => ?_, I.ok.hd, I.ok.frames, .inl rfl, fun b hb => ⟨?_, fun y c e z => ?_⟩, I.bs, Nat.le_trans I.ok.bsz I.sz, fun b o e hb => ?_, fun b hb z => ?_, I.stack, I.stkFree⟩
    · have e1 : cenv.cells.lookup y = some c := e1
      have e2 : cenv.cells.lookup z = some c := e2
      rw [hcl] at e1 e2
      refine cells_inj (fun p hp => ?_) (fun y z c a b => I.ok.inj y z c (cm a).1 (cm b).1) (PySem.mem_of_lookup e1) (PySem.mem_of_lookup e2)
      rw [Heap.size_push]
      exact Nat.lt_succ_of_lt (cm (y := p.1) (c := p.2) hp).2
    · show ∃ c, cenv.cells.lookup y = some c
      have key : ∀ k, cenv.kindOf y = some k → (k = .cell ∨ k = .free) → ∃ c, cenv.cells.lookup y = some c := fun k hk hk' => by
        unfold Env.kindOf at hk
        rw [hsc] at hk
        obtain ⟨k', e, r⟩ := lookup_relS hk
        have : k' = .cell ∨ k' = .free := by
          rcases r with rfl | ⟨rfl, _⟩
          · exact hk'
          · exact .inr rfl
        rcases this with rfl | rfl
        · obtain ⟨c, hm⟩ := cells_has (n := (s.heap.push { cls := .type "dict", data := .dict #[] }).objs.size) (acc := cloFrom X.env.cells scope.names []) (PySem.mem_of_lookup e)
          obtain ⟨c', e'⟩ := mem_lookup hm
          exact ⟨c', by rw [hcl]; exact e'⟩
        · obtain ⟨c, h1, _⟩ := look e
          exact ⟨c, h1⟩
      rcases hy with hy | hy
      · exact key _ hy (.inl rfl)
      · exact key _ hy (.inr rfl)
    · have z : (scope.names.lookup y == some NameKind.cell) = true := z
      have z : scope.names.lookup y = some .cell := by simpa using z
      have e : cenv.cells.lookup y = some c := e
      rw [hcl] at e
      rcases cells_mem (PySem.mem_of_lookup e) with hm | ⟨_, h2, _⟩
      · rcases cloFrom_mem hm with hm | ⟨h1, _⟩
        · cases hm
        · have q := ok.uniq _ h1
          rw [z] at q; cases q
      · rw [Heap.size_push] at h2
        exact Nat.le_of_succ_le h2
    · show b ≠ cenv.locals
      rw [hL]; exact Nat.ne_of_lt (hfp b hb).2
    · have e : cenv.cells.lookup y = some c := e
      rcases mem e with ⟨h1, _⟩ | ⟨h1, _⟩
      · exact (hfp b hb).1.2.2.2.2.1 y c h1 z
      · have h2 : s.heap.objs.size + 1 ≤ b := by rw [← z]; exact h1
        exact absurd (Nat.lt_of_lt_of_le (hfp b hb).2 (Nat.le_of_succ_le h2)) (Nat.lt_irrefl _)
    · rcases (hfp b hb).1.2.2.2.1 with z | z
      · exact I.ok.noex b o e z
      · exact absurd (Nat.lt_of_lt_of_le (Heap.lt_size e) (Nat.le_trans I.ok.bsz z)) (Nat.lt_irrefl _)
    · rcases List.mem_cons.mp (I.stkSub b z) with z | z
      · exact (hfp b hb).1.2.1 z
      · exact (hfp b hb).1.2.2.1 z
  refine ⟨okB, rfl, I.bare, Un.kept kp, ⟨fun _ => none, ?_, fun i y av e1 e2 e3 => ?_⟩, fun y c e => ?_, ?_, fun y c e => ?_, fun p hp => ?_, I.hok.kept kp, by rw [wipe_length]; exact I.len⟩
  · show Heap.Ns _ cenv.locals _
    rw [hL]
    exact Heap.Ns.keeps (Heap.Ns.new ..) fun b o e => pushCells_keeps _ _ _ _ e
  · obtain ⟨e2, hne⟩ := wipe_some e2
    have hfr : scope.names.lookup y = some .free ∧ (cenv.kindOf y = some .cell ∨ cenv.kindOf y = some .free) := by
      have key : ∀ k, cenv.scope.names.lookup y = some k → k = .local ∨ k = .cell ∨ k = .free → scope.names.lookup y = some .free ∧ (cenv.kindOf y = some .cell ∨ cenv.kindOf y = some .free) := fun k hk hk' => by
        have hk0 := hk
        rw [hsc] at hk
        obtain ⟨k', e, r⟩ := lookup_relS hk
        have no : ¬ (k' = .local ∨ k' = .cell) := fun hh => by
          rcases ok.own _ (PySem.mem_of_lookup e) hh with e' | e'
          · obtain ⟨p, hp, hpy⟩ := List.mem_map.mp e'
            have e3 := ok.ix p hp
            have : p.1 = y := hpy
            rw [this] at e3
            exact hne (List.mem_map.mpr ⟨p, hp, nodup_ix hN e3 e1⟩)
          · exact e' (List.mem_of_getElem? e1)
        rcases r with rfl | ⟨rfl, rfl⟩
        · rcases hk' with rfl | rfl | rfl
          · exact absurd (.inl rfl) no
          · exact absurd (.inr rfl) no
          · exact ⟨e, .inr hk0⟩
        · exact ⟨e, .inl hk0⟩
      have e3 : Vis cenv.scope y := e3
      rcases e3 with e3 | e3 | e3
      · exact key _ e3 (.inl rfl)
      · exact key _ e3 (.inr (.inl rfl))
      · exact key _ e3 (.inr (.inr rfl))
    obtain ⟨m, hn, hl⟩ := I.loc
    have hvis : Vis X.env.scope y := (ok.free _ (PySem.mem_of_lookup hfr.1) rfl).elim (fun k => .inr (.inl k)) (fun k => .inr (.inr k))
    obtain ⟨w, r, q⟩ := hl i y av e1 e2 hvis
    refine ⟨w, r, .inr ⟨hfr.2, ?_⟩⟩
    obtain ⟨c, h1, h2⟩ := look hfr.1
    rcases q with ⟨k, _⟩ | ⟨_, c', e', z⟩
    · have k : X.env.scope.names.lookup y = some .local := k
      rcases ok.free _ (PySem.mem_of_lookup hfr.1) rfl with k' | k' <;> rw [show X.env.scope.names.lookup y = _ from k'] at k <;> cases k
    · rw [h2] at e'; cases e'
      exact ⟨c, h1, z.keeps kp⟩
  · have e : cenv.cells.lookup y = some c := e
    rcases mem e with ⟨h1, _⟩ | ⟨_, z⟩
    · obtain ⟨w, z⟩ := I.cell y c h1
      exact ⟨w, z.keeps kp⟩
    · exact ⟨_, z⟩
  · show H cenv.locals = none
    rw [hL]; exact I.hok.fresh (Nat.le_refl _)
  · have e : cenv.cells.lookup y = some c := e
    rcases mem e with ⟨h1, _⟩ | ⟨h1, _⟩
    · exact I.freeC y c h1
    · exact I.hok.fresh (Nat.le_of_succ_le h1)
  · exact absurd (show p ∈ ([] : List (Addr × Obj)) ++ [] from hp) (by simp)
theorem app_ok {E : Value → Shared → Prop} {D : Addr} {xs : List V} {y : V} {v : Value} {Q : Value → Shared → Prop} (I : Inv X pins σ H s) (hD : H D = some (.lst xs)) (hz : xs.length < sizeLine) (r : RelV y v)
    (h : ∀ s', Inv X pins σ (upd H D (.lst (xs ++ [y]))) s' → Q .none s') : wpAny (model X.prog X.w) X.A (call (.builtin "list.append") [.ref D, v]) Q E s := by
  obtain ⟨hz', its, n, ri, e⟩ := I.hok D _ hD
  have hl := ri.length
  refine append_at (hsz := by rw [List.size_toArray]; omega) e fun h' sb ho' => ?_
  refine h { s with heap := h' } (I.write (t' := s.toks) (by rw [hD]; trivial) (.inl rfl) (fun b u hb q => (sb.2 b hb).trans q) ⟨_, ho'⟩ ⟨by rw [List.length_append]; exact hz, its ++ [v], n + 1, ri.append (.cons r .nil), ?_⟩)
  rw [ho']
  simp
def PTs (X : Cx) (ifs : List Expr) (t : TT) : Prop :=
  ∀ (pins : List (Addr × Obj)) (s : Shared) (σ : St) (H : Hp) (Q : Bool → Hp → Prop), Inv X pins σ H s → t σ H Q →
    wpAny (model X.prog X.w) X.A (forIn ifs true fun c r => if r = true then do let ok ← isTrue c X.env (eval c X.env); pure (ForInStep.yield ok) else pure (ForInStep.yield r)) (TP X pins σ Q) X.xe s
def tYes : TT := fun _ H Q => Q true H
theorem pts_nil : PTs X [] tYes := fun _ _ _ H _ I h => wpAny_tests_nil ⟨H, I, h⟩
theorem pts_one {c : Expr} {t : TT} (h : PT X c t) : PTs X [c] t := fun pins s σ H Q I hw => wpAny_tests_one (h pins s σ H Q I hw)
end
theorem thnF {α : Type} {t : Sem α} {Q Q' : α → Shared → Prop} {M : Model} {A : Around} {E : Value → Shared → Prop} {s : Shared} (h : wpAny M A t Q (fun _ _ => False) s) (hQ : ∀ a s, Q a s → Q' a s) : wpAny M A t Q' E s := wpAny_mono h hQ fun _ _ z => False.elim z
theorem compLoop_any {prog : Program} {w : World} {A : Around} {R : Result → Shared → Prop} {s : Shared} {elt target iter : Expr} {ifs : List Expr} {scope : Scope} {pos : Pos} {it acc : Value} {env : Env} (I : Nat → Shared → Prop)
    (turn : ∀ n s, I n s → wpAny (model prog w) A (pyNext it) (fun r s₁ => match r with
      | none => R (.ok .next) s₁
      | some v => wpAny (model prog w) A (letOwnedTupleGo target it v) (fun _ s₁' => wpAny (model prog w) A (assign target env v) (fun _ s₂ =>
          wpAny (model prog w) A (forIn ifs true fun c r => if r = true then do let ok ← isTrue c env (eval c env); pure (ForInStep.yield ok) else pure (ForInStep.yield r)) (fun ok s₃ =>
            if ok = true then wpAny (model prog w) A (eval elt env) (fun x s₄ =>
              wpAny (model prog w) A (call (.builtin "list.append") [acc, x]) (fun _ s₅ => ∃ m, m < n ∧ I m s₅) (notedBy (model prog w) A env fun e s' => R (.error e) s') s₄) (notedBy (model prog w) A env fun e s' => R (.error e) s') s₃
            else ∃ m, m < n ∧ I m s₃) (notedBy (model prog w) A env fun e s' => R (.error e) s') s₂) (notedBy (model prog w) A env fun e s' => R (.error e) s') s₁') (notedBy (model prog w) A env fun e s' => R (.error e) s') s₁) (notedBy (model prog w) A env fun e s' => R (.error e) s') s)
    (n : Nat) (h : I n s) :
    codeAny (model prog w) A (.compLoop (.ListComp elt [⟨target, iter, ifs, 0⟩] scope pos) 0 it acc env) R s := by
  refine codeAny_loop rfl I (fun n s hI => ?_) n h
  show wpAny _ A ((compTurn (.ListComp elt [⟨target, iter, ifs, 0⟩] scope pos) 0 it acc env).onRaise (fun x => do noteFrame x env; theTreesLotGoes x)) _ _ s
  refine wpAny_noted ?_
  rw [compTurn_list]
  refine wpAny_bind (wpAny_standAt (wpAny_bind (wpAny_mono (turn n s hI) (fun r s₁ h₁ => ?_) fun _ _ h' => h')))
  cases r with
  | none => exact wpAny_pure h₁
  | some v =>
    refine wpAny_bind (wpAny_mono h₁ (fun _ s₁' h₁' => ?_) fun _ _ h' => h')
    refine wpAny_bind (wpAny_mono h₁' (fun _ s₂ h₂ => wpAny_bind (wpAny_mono h₂ (fun ok s₃ h₃ => ?_) fun _ _ h' => h')) fun _ _ h' => h')
    cases ok with
    | false => exact wpAny_pure ⟨rfl, h₃⟩
    | true =>
      exact wpAny_bind (wpAny_bind (wpAny_mono h₃ (fun x s₄ h₄ => wpAny_bind (wpAny_mono h₄ (fun _ s₅ h₅ => wpAny_pure (wpAny_pure ⟨rfl, h₅⟩)) fun _ _ h' => h')) fun _ _ h' => h'))
section
variable {X : Cx}
def tLc (wi : TI) (g : TG) (tt : TT) (te : TE) (vs : List Nat) : TE := fun σ H Q => wi σ H fun J H1 => ∀ D, H1 D = none → ∃ W : Nat → Nat → Hp → Prop, (∃ m, W 0 m (upd H1 D (.lst []))) ∧ ∀ i m H, W i m H →
  (J.stop i H ∧ Q (.ref D) H) ∨ (J.go i H ∧ ∃ Nx : Hp → Prop, (∀ H', Nx H' → ∃ m', m' < m ∧ W (i + 1) m' H') ∧ ∀ x H', J.yld i H x H' → g x (wipe σ vs) H' fun σ2 H2 => wipe σ2 vs = wipe σ vs ∧ tt σ2 H2 fun b H3 =>
    if b = true then te σ2 H3 fun y H4 => ∃ acc, H4 D = some (.lst acc) ∧ acc.length < sizeLine ∧ Nx (upd H4 D (.lst (acc ++ [y]))) else Nx H3)
theorem lc_core {pins : List (Addr × Obj)} {s : Shared} {σ : St} {H : Hp} {Q : VK} {elt tg iter : Expr} {ifs : List Expr} {scope : Scope} {own : List (Str × Nat)} {pos pos' : Pos} {wi : TI} {g : TG} {tt : TT} {te : TE} {use : Option (Value → Sem Unit)} {Qf : Value → Shared → Prop}
    (hc : X.calm = true) (hN : X.N.Nodup) (I : Inv X pins σ H s) (hi : PI X tg iter wi) (ok : BlkOk X.N X.env.scope scope own)
    (hg : ∀ (s : Shared) (H : Hp) (C : Addr) (cl : List (Str × Addr)) (fp : List Addr), PG (X.blk s H scope (compEnvC scope cl C X.env) fp) tg g) (ht : ∀ (s : Shared) (H : Hp) (C : Addr) (cl : List (Str × Addr)) (fp : List Addr), PTs (X.blk s H scope (compEnvC scope cl C X.env) fp) ifs tt)
    (he : ∀ (s : Shared) (H : Hp) (C : Addr) (cl : List (Str × Addr)) (fp : List Addr), PE (X.blk s H scope (compEnvC scope cl C X.env) fp) elt te) (hs : ∀ x, foldedSetIterable iter X.env x = pure x)
    (h : tLc wi g tt te (own.map (·.2)) σ H Q)
    (hRR : ∀ D C s' m H', Inv X pins σ H' s' → Q (.ref D) H' → s'.heap.Ns C m → FpOk X pins H' C → compPost (model X.prog X.w) X.A X.xe use Qf (.ref D) C (.ok .next) s') :
    wpAny (model X.prog X.w) X.A (comprehension (.ListComp elt [⟨tg, iter, ifs, 0⟩] scope pos) scope X.env pos' (newList []) false (eval iter X.env) use) Qf X.xe s := by
  have hfree : ∀ y ∈ scope.names, y.2 = .free → ∃ c, X.env.cells.lookup y.1 = some c := fun y hy e => by
    rcases ok.free y hy e with k | k
    · exact I.ok.has _ (.inl k)
    · exact I.ok.has _ (.inr k)
  refine wpAny_comprehension_free (use := use) rfl hs (closure_ok hfree) ok.kind (fun y hy e => by rw [ok.uniq y hy, e])
    (thn (hi pins s σ H _ I h) fun xv s1 hx => thn hx fun itv s2 h2 => ?_)
  obtain ⟨it, fp, tn, J, H2, e, I2, T, st2, f2, q⟩ := h2
  subst e
  refine wpAny_newObj_type (newEnv_comp ?_) (by show 0 ≤ sizeLine; decide)
  generalize hD : s2.heap.objs.size = D
  have hDn : H2 D = none := I2.hok.fresh (Nat.le_of_eq hD)
  obtain ⟨W, ⟨m0, w0⟩, turn⟩ := q D hDn
  generalize hs3 : ({ s2 with heap := s2.heap.push { cls := .type "list", data := .seq ([] : List Value).toArray } } : Shared) = s3
  have I3 : Inv X pins σ (upd H2 D (.lst [])) s3 := by
    rw [← hs3]
    refine I2.laid (t' := s2.toks) (fun b o e => Heap.get?_push_of_some _ e) (Nat.le_of_eq hD) ⟨Nat.zero_le _, [], 0, .nil, ?_⟩
    rw [← hD]
    exact Heap.get?_push_size _ rfl
  have h3 : s3.heap = s2.heap.push { cls := .type "list", data := .seq ([] : List Value).toArray } := by rw [← hs3]
  have sz : ∀ b ∈ fp, b < s2.heap.objs.size := fun b hb => by
    obtain ⟨o, e, _⟩ := T.obj _ _ st2 b hb
    exact Heap.lt_size e
  have f3 : ∀ b ∈ fp, FpOk X pins (upd H2 D (.lst [])) b ∧ b < s3.heap.objs.size := fun b hb => by
    have hlt := sz b hb
    refine ⟨⟨?_, (f2 b hb).2⟩, by rw [h3, Heap.size_push]; exact Nat.lt_succ_of_lt hlt⟩
    rw [upd_ne (by rw [← hD]; exact Nat.ne_of_lt hlt)]
    exact (f2 b hb).1
  have st3 : tn 0 s3.heap := T.keep _ _ _ st2 fun b _ o e => by rw [h3]; exact Heap.get?_push_of_some _ e
  have I4 := block_start I3 ok hN f3
  have pg := hg s3 (upd H2 D (.lst [])) s3.heap.objs.size (cellsFrom (s3.heap.objs.size + 1) scope.names (cloFrom X.env.cells scope.names [])) fp
  have pt := ht s3 (upd H2 D (.lst [])) s3.heap.objs.size (cellsFrom (s3.heap.objs.size + 1) scope.names (cloFrom X.env.cells scope.names [])) fp
  have pe := he s3 (upd H2 D (.lst [])) s3.heap.objs.size (cellsFrom (s3.heap.objs.size + 1) scope.names (cloFrom X.env.cells scope.names [])) fp
  show codeAny _ _ (.compStart (.ListComp elt [⟨tg, iter, ifs, 0⟩] scope pos) 0 (.ref it) (.ref D) (compEnvC scope (cellsFrom (s3.heap.objs.size + 1) scope.names (cloFrom X.env.cells scope.names [])) s3.heap.objs.size X.env)) (compPost (model X.prog X.w) X.A X.xe use Qf (.ref D) s3.heap.objs.size) { s3 with heap := pushCells (s3.heap.push { cls := .type "dict", data := .dict #[] }) scope.names }
  have nfp : ∀ b ∈ fp, (upd H2 D (.lst [])) b = none := fun b hb => (f3 b hb).1.1
  generalize hce : compEnvC scope (cellsFrom (s3.heap.objs.size + 1) scope.names (cloFrom X.env.cells scope.names [])) s3.heap.objs.size X.env = ce at I4 pg pt pe ⊢
  have cL : ce.locals = s3.heap.objs.size := by subst hce; rfl
  generalize hH3 : upd H2 D (.lst []) = H3 at I3 I4 pg pt pe w0 nfp f3
  generalize hs4 : ({ s3 with heap := pushCells (s3.heap.push { cls := .type "dict", data := .dict #[] }) scope.names } : Shared) = s4 at I4 ⊢
  have st4 : tn 0 s4.heap := T.keep _ _ _ st3 fun b _ o e => by rw [← hs4]; exact pushCells_keeps _ _ _ _ (Heap.get?_push_of_some _ e)
  have stat : ∀ {σ' : St} {H' : Hp} {s' : Shared}, Inv (X.blk s3 H3 scope ce fp) [] σ' H' s' → (∀ b ∈ fp, H' b = none) → ∀ b ∈ fp, FpOk (X.blk s3 H3 scope ce fp) [] H' b := fun {σ' H' s'} I' hn b hb =>
    ⟨hn b hb, (I'.ok.exf b hb).1, I'.ok.exfs b hb, .inl hb, fun x c e => (I'.ok.exf b hb).2 x c e, fun p hp => absurd (show p ∈ ([] : List (Addr × Obj)) ++ [] from hp) (by simp)⟩
  have loop : codeAny (model X.prog X.w) X.A (.compLoop (.ListComp elt [⟨tg, iter, ifs, 0⟩] scope pos) 0 (.ref it) (.ref D) ce) (compPost (model X.prog X.w) X.A X.xe use Qf (.ref D) s3.heap.objs.size) s4 := by
    refine compLoop_any (fun n s' => ∃ i H', Inv (X.blk s3 H3 scope ce fp) [] (wipe σ (own.map (·.2))) H' s' ∧ tn i s'.heap ∧ (∀ b ∈ fp, H' b = none) ∧ W i n H') ?_ m0 ⟨0, H3, I4, st4, nfp, w0⟩
    rintro n s5 ⟨i, H5, I5, st5, n5, w5⟩
    rcases turn i n H5 w5 with ⟨stop, qq⟩ | ⟨go, Nx, hNx, step⟩
    · have td := T.done (X.blk s3 H3 scope ce fp) rfl rfl rfl hc i [] s5 _ H5 (fun _ _ => False) I5 (stat I5 n5) st5 stop
      refine thnF td fun r s6 ⟨hr, I6⟩ => ?_
      subst hr
      have I7 : Inv X pins σ H5 s6 := I3.call' (ch := fp) I6.os I6.base I6.hok I6.bare fun b hb => ⟨(f3 b hb).1.2.2.2.1, (f3 b hb).1.2.1, (f3 b hb).1.2.2.2.2.1, (f3 b hb).1.2.2.2.2.2⟩
      have nC : H5 s3.heap.objs.size = none := by
        have z : H5 ce.locals = none := I6.free
        rw [cL] at z
        exact z
      obtain ⟨m, hn, _⟩ := I6.loc
      have hn : s6.heap.Ns ce.locals m := hn
      rw [cL] at hn
      exact hRR D s3.heap.objs.size s6 m H5 I7 qq hn (I3.fpOk (Nat.le_refl _) nC)
    · have ti := T.item (X.blk s3 H3 scope ce fp) rfl rfl rfl hc i [] s5 _ H5 (fun _ _ => False) I5 (stat I5 n5) st5 go
      refine thnF ti fun r s6 ⟨u, hr, h6⟩ => ?_
      subst hr
      refine thnF h6 fun _ s7 ⟨x, H7, I7, r7, y7, st7, n7⟩ => ?_
      have I7' := I7.pinned (stat I7 n7) (T.obj _ _ st7)
      refine thnF (pg _ s7 _ H7 x u _ I7' r7 (step x H7 y7)) fun _ s8 ⟨σ8, H8, I8, hw8, q8⟩ => ?_
      refine thnF (pt _ s8 σ8 H8 _ I8 q8) fun b s9 ⟨H9, I9, q9⟩ => ?_
      have fin : ∀ {s' : Shared} {H' : Hp}, Inv (X.blk s3 H3 scope ce fp) ([] ++ pinsAt fp s7.heap) σ8 H' s' → Nx H' → ∃ m, m < n ∧ ∃ i H', Inv (X.blk s3 H3 scope ce fp) [] (wipe σ (own.map (·.2))) H' s' ∧ tn i s'.heap ∧ (∀ b ∈ fp, H' b = none) ∧ W i m H' := fun {s' H'} I' nx => by
        obtain ⟨m', hm, w'⟩ := hNx H' nx
        have pin' : ∀ b ∈ fp, ∀ o, s7.heap.get? b = some o → s'.heap.get? b = some o ∧ H' b = none := fun b hb o e =>
          let z := I'.pin (b, o) (List.mem_append_right _ (List.mem_append_right _ (mem_pinsAt hb e)))
          ⟨z.1, z.2.1⟩
        have hl : (wipe σ (own.map (·.2))).length = σ8.length := by rw [← hw8, wipe_length]
        refine ⟨m', hm, i + 1, H', (I'.unpinned (pins := [])).weak hl (fun j v e => ?_), T.keep _ _ _ st7 fun b hb o e => (pin' b hb o e).1, fun b hb => ?_, w'⟩
        · rw [← hw8] at e
          exact (wipe_some e).1
        · obtain ⟨o, e, _⟩ := T.obj _ _ st7 b hb
          exact (pin' b hb o e).2
      cases b with
      | false =>
        simp only [Bool.false_eq_true, if_false] at q9 ⊢
        exact fin I9 q9
      | true =>
        simp only [if_true] at q9 ⊢
        refine thnF (pe _ s9 σ8 H9 _ I9 q9) fun z s10 ⟨yv, H10, I10, r10, acc, hD10, hz10, nx⟩ => ?_
        exact app_ok (X := X.blk s3 H3 scope ce fp) I10 hD10 hz10 r10 fun s11 I11 => fin I11 nx
  exact codeAny_compStart_list loop (T.self X.A 0 _ _ _ st4 loop)
theorem pe_lc {elt tg iter : Expr} {ifs : List Expr} {scope : Scope} {own : List (Str × Nat)} {pos : Pos} {wi : TI} {g : TG} {tt : TT} {te : TE} (hc : X.calm = true) (hN : X.N.Nodup) (hi : PI X tg iter wi) (ok : BlkOk X.N X.env.scope scope own)
    (hg : ∀ (s : Shared) (H : Hp) (C : Addr) (cl : List (Str × Addr)) (fp : List Addr), PG (X.blk s H scope (compEnvC scope cl C X.env) fp) tg g) (ht : ∀ (s : Shared) (H : Hp) (C : Addr) (cl : List (Str × Addr)) (fp : List Addr), PTs (X.blk s H scope (compEnvC scope cl C X.env) fp) ifs tt)
    (he : ∀ (s : Shared) (H : Hp) (C : Addr) (cl : List (Str × Addr)) (fp : List Addr), PE (X.blk s H scope (compEnvC scope cl C X.env) fp) elt te) (hs : ∀ x, foldedSetIterable iter X.env x = pure x := by intro _; rfl) :
    PE X (.ListComp elt [⟨tg, iter, ifs, 0⟩] scope pos) (tLc wi g tt te (own.map (·.2))) := by
  intro pins s σ H Q I h
  rw [eval_ListComp]
  refine lc_core hc hN I hi ok hg ht he hs h fun D C s' m H' I' q hn f => ⟨m, hn, fun h'' sb => ?_⟩
  obtain ⟨f0, f1, f2, f3, f4, f5⟩ := f
  exact ⟨.ref D, H', I'.turned (t' := s'.toks) (fun b o hb e => (sb.2 b hb).trans e) f0 f1 f3 f4 f5, rfl, q⟩
theorem ps_setLc {i : Nat} {y : Str} {py : Pos} {elt tg iter : Expr} {ifs : List Expr} {scope : Scope} {own : List (Str × Nat)} {pos spos : Pos} {wi : TI} {g : TG} {tt : TT} {te : TE} (hc : X.calm = true) (hN : X.N.Nodup) (hy : X.N[i]? = some y) (hyl : X.env.scope.names.lookup y = some .local)
    (hsw : swapsWith (.ListComp elt [⟨tg, iter, ifs, 0⟩] scope pos) (some (.Name y py)) spos.line X.env = pure true) (hi : PI X tg iter wi) (ok : BlkOk X.N X.env.scope scope own)
    (hg : ∀ (s : Shared) (H : Hp) (C : Addr) (cl : List (Str × Addr)) (fp : List Addr), PG (X.blk s H scope (compEnvC scope cl C X.env) fp) tg g) (ht : ∀ (s : Shared) (H : Hp) (C : Addr) (cl : List (Str × Addr)) (fp : List Addr), PTs (X.blk s H scope (compEnvC scope cl C X.env) fp) ifs tt)
    (he : ∀ (s : Shared) (H : Hp) (C : Addr) (cl : List (Str × Addr)) (fp : List Addr), PE (X.blk s H scope (compEnvC scope cl C X.env) fp) elt te) (hs : ∀ x, foldedSetIterable iter X.env x = pure x := by intro _; rfl) :
    PS X (.Assign [.Name y py] (.ListComp elt [⟨tg, iter, ifs, 0⟩] scope pos) spos) (tAsg (tLc wi g tt te (own.map (·.2))) (gName i)) := by
  intro pins s σ H D I h
  rw [exec_Assign_Name_used _ _ _ _ hsw]
  refine wpAny_bind (wpAny_standAt (wpAny_bind ?_))
  show wpAny _ X.A (do let _ ← comprehension (.ListComp elt [⟨tg, iter, ifs, 0⟩] scope pos) scope X.env (firstIterPos [⟨tg, iter, ifs, 0⟩] pos) (newList []) false (eval iter X.env) (some (assign (.Name y py) X.env))) _ _ s
  have h : tLc wi g tt te (own.map (·.2)) σ H (fun x H1 => gName i x σ H1 D.nx) := h
  refine wpAny_bind (thn (lc_core (Qf := fun _ s' => SP X pins D .next s') hc hN I hi ok hg ht he hs h fun L C s' m H' I' q hn f => ?_) fun _ s' hq => wpAny_pure (wpAny_pure hq))
  show wpAny _ _ (assign (.Name y py) X.env (.ref L)) _ _ _
  refine wpAny_assign_Name (store_ok2 (v := V.ref L) I' hN hy (.inl hyl) rfl (fun s2 I2 ⟨a, sb, ha⟩ => ?_) (.inr hyl))
  obtain ⟨f0, f1, f2, f3, f4, f5⟩ := f
  have haC : C ≠ a := by
    rcases ha with z | z
    · rw [z]; exact f1
    · exact fun e => f4 y a z e.symm
  refine ⟨m, hn.sameBut sb haC, fun h3 sb3 => ?_⟩
  exact ⟨_, H', I2.turned (t' := s2.toks) (fun b o hb e => (sb3.2 b hb).trans e) f0 f1 f3 f4 f5, q⟩
theorem sw_true {elt : Expr} {gs : List Comprehension} {scope : Scope} {pos py : Pos} {y : Str} {l : Nat} {env : Env} (hk : env.scope.kind = .function) (hy : env.scope.names.lookup y = some .local) (hl : (py.line == pos.line) = true)
    (ha : (scope.names.any fun (n, k) => n == y && (k == .local || k == .cell)) = false) : swapsWith (.ListComp elt gs scope pos) (some (.Name y py)) l env = pure true := by
  have ky : env.kindOf y = some .local := hy
  have hb : env.blockKind = .function := by unfold Env.blockKind; rw [hk]; rfl
  unfold swapsWith
  simp only [hb, ky, ha, Expr.pos, hl]
  rfl
end
theorem lc_range {lo : Int} {n : Nat} {g : TG} {tt : TT} {te : TE} {vs : List Nat} {σ : St} {H1 : Hp} {D : Addr} {Qd : Hp → Prop} (Pv : Nat → Hp → Prop) (h0 : Pv 0 (upd H1 D (.lst [])))
    (hs : ∀ i H, i < n → Pv i H → g (.int (lo + i)) (wipe σ vs) H fun σ2 H2 => wipe σ2 vs = wipe σ vs ∧ tt σ2 H2 fun b H3 =>
      if b = true then te σ2 H3 fun y H4 => ∃ acc, H4 D = some (.lst acc) ∧ acc.length < sizeLine ∧ Pv (i + 1) (upd H4 D (.lst (acc ++ [y]))) else Pv (i + 1) H3) (hd : ∀ H, Pv n H → Qd H) :
    ∃ W : Nat → Nat → Hp → Prop, (∃ m, W 0 m (upd H1 D (.lst []))) ∧ ∀ i m H, W i m H →
      ((Itr lo n).stop i H ∧ Qd H) ∨ ((Itr lo n).go i H ∧ ∃ Nx : Hp → Prop, (∀ H', Nx H' → ∃ m', m' < m ∧ W (i + 1) m' H') ∧ ∀ x H', (Itr lo n).yld i H x H' → g x (wipe σ vs) H' fun σ2 H2 => wipe σ2 vs = wipe σ vs ∧ tt σ2 H2 fun b H3 =>
        if b = true then te σ2 H3 fun y H4 => ∃ acc, H4 D = some (.lst acc) ∧ acc.length < sizeLine ∧ Nx (upd H4 D (.lst (acc ++ [y]))) else Nx H3) := by
  refine ⟨fun i m H => m = n - i ∧ i ≤ n ∧ Pv i H, ⟨n, by simp, Nat.zero_le _, h0⟩, ?_⟩
  rintro i m H ⟨rfl, hi, p⟩
  by_cases hlt : i < n
  · refine .inr ⟨hlt, Pv (i + 1), fun H' p' => ⟨n - (i + 1), by omega, rfl, hlt, p'⟩, fun x H' y => ?_⟩
    obtain ⟨e, y⟩ := y
    subst e y
    exact hs i _ hlt p
  · have e : i = n := by omega
    subst e
    exact .inl ⟨Nat.le_refl _, hd H p⟩
theorem lc_list {K : PySem.W.Frag} {a : Addr} {xs : List V} {g : TG} {tt : TT} {te : TE} {vs : List Nat} {σ : St} {H1 : Hp} {D : Addr} {Qd : Hp → Prop} (Pv : Nat → Hp → Prop) (h0 : Pv 0 (upd H1 D (.lst []))) (hl : ∀ i H, i ≤ xs.length → Pv i H → SqL K H a xs)
    (hs : ∀ i x H, xs[i]? = some x → Pv i H → g x (wipe σ vs) H fun σ2 H2 => wipe σ2 vs = wipe σ vs ∧ tt σ2 H2 fun b H3 =>
      if b = true then te σ2 H3 fun y H4 => ∃ acc, H4 D = some (.lst acc) ∧ acc.length < sizeLine ∧ Pv (i + 1) (upd H4 D (.lst (acc ++ [y]))) else Pv (i + 1) H3) (hd : ∀ H, Pv xs.length H → Qd H) :
    ∃ W : Nat → Nat → Hp → Prop, (∃ m, W 0 m (upd H1 D (.lst []))) ∧ ∀ i m H, W i m H →
      ((Itl K a).stop i H ∧ Qd H) ∨ ((Itl K a).go i H ∧ ∃ Nx : Hp → Prop, (∀ H', Nx H' → ∃ m', m' < m ∧ W (i + 1) m' H') ∧ ∀ x H', (Itl K a).yld i H x H' → g x (wipe σ vs) H' fun σ2 H2 => wipe σ2 vs = wipe σ vs ∧ tt σ2 H2 fun b H3 =>
        if b = true then te σ2 H3 fun y H4 => ∃ acc, H4 D = some (.lst acc) ∧ acc.length < sizeLine ∧ Nx (upd H4 D (.lst (acc ++ [y]))) else Nx H3) := by
  refine ⟨fun i m H => m = xs.length - i ∧ i ≤ xs.length ∧ Pv i H, ⟨xs.length, by simp, Nat.zero_le _, h0⟩, ?_⟩
  rintro i m H ⟨rfl, hi, p⟩
  have q := hl i H hi p
  by_cases hlt : i < xs.length
  · refine .inr ⟨⟨xs, xs[i], q, by simp [hlt]⟩, Pv (i + 1), fun H' p' => ⟨xs.length - (i + 1), by omega, rfl, hlt, p'⟩, fun x H' y => ?_⟩
    obtain ⟨e, y⟩ := y
    subst e
    exact hs i x _ (y xs q) p
  · have e : i = xs.length := by omega
    subst e
    exact .inl ⟨⟨xs, q, Nat.le_refl _⟩, hd H p⟩
def blkC (N : List Str) (sc scope : Scope) (own : List (Str × Nat)) : Bool :=
  (match scope.kind with | .function => true | _ => false) && (scope.names.all fun y => decide (scope.names.lookup y.1 = some y.2)) && (own.all fun p => decide (N[p.2]? = some p.1)) &&
    (scope.names.all fun y => match y.2 with
      | .free => (match sc.names.lookup y.1 with | some .cell => true | some .free => true | _ => false)
      | .local => decide (y.1 ∈ own.map (·.1)) || decide (y.1 ∉ N)
      | .cell => decide (y.1 ∈ own.map (·.1)) || decide (y.1 ∉ N)
      | _ => true)
theorem blkOk_by {N : List Str} {sc scope : Scope} {own : List (Str × Nat)} (h : blkC N sc scope own = true) : BlkOk N sc scope own := by
  unfold blkC at h
  simp only [Bool.and_eq_true, List.all_eq_true, decide_eq_true_eq] at h
  obtain ⟨⟨⟨h1, h2⟩, h3⟩, h4⟩ := h
  refine ⟨?_, h2, h3, fun y hy e => ?_, fun y hy e => ?_⟩
  · split at h1
    · assumption
    · cases h1
  · have q := h4 y hy
    simp only [e] at q
    split at q <;> first | exact .inl (by assumption) | exact .inr (by assumption) | cases q
  · have q := h4 y hy
    rcases e with e | e <;> (simp only [e, Bool.or_eq_true, decide_eq_true_eq] at q; exact q)
end L2
namespace L2
open PySem PySem.Spec PyProof.Rows
section
variable {prog : Program} {w : World} {A : Around} {R : Result → Shared → Prop} {s : Shared} {elt t0 i0 t1 i1 : Expr} {ifs0 ifs1 : List Expr} {scope : Scope} {pos : Pos} {it acc : Value} {env : Env}
end
section
variable {X : Cx}
end
end L2
namespace L2
open PySem PySem.Spec PyProof.Rows
section
variable {κ : Type} [DecidableEq κ]
def valV (kvs : List (κ × V)) (k : κ) : Option V := (kvs.find? fun kv => decide (kv.1 = k)).map (·.2)
theorem valV_pos {p : κ × V} {r : List (κ × V)} {k : κ} (e : p.1 = k) : valV (p :: r) k = some p.2 := by simp [valV, List.find?_cons, e]
theorem valV_neg {p : κ × V} {r : List (κ × V)} {k : κ} (e : ¬ p.1 = k) : valV (p :: r) k = valV r k := by simp [valV, List.find?_cons, e]
end
section
variable {P : Program} {w : World} {H : Hp} {h : Heap} {a : Addr}
end
section
variable {X : Cx} {pins : List (Addr × Obj)} {σ : St} {H : Hp} {s : Shared} {a : Addr} {y v : V} {u r : Value} {o : Option V} {A : Around} {E : Value → Shared → Prop}
end
section
variable {X : Cx} {pins : List (Addr × Obj)} {σ : St} {H : Hp} {s : Shared} {a : Addr} {kvs : List (Key × V)} {k : Key} {u : Value} {A : Around} {E : Value → Shared → Prop}
end
def NoSl (i : Expr) : Prop := ∀ ov iv, subscripted i false ov iv = operate [ov, iv] (getItem ov iv)
theorem subD_of {prog : Program} {w : World} {A : Around} {E : Value → Shared → Prop} {s : Shared} {env : Env} {value slice : Expr} {pos : Pos} {T id : String} {Q : Value → Shared → Prop}
    (hl : typeLookup (.type T) "__getitem__" = pure (some (.builtin id))) (hs : NoSl slice)
    (h : wpAny (model prog w) A (eval value env) (fun o s₁ => wpAny (model prog w) A (eval slice env) (fun i s₂ => s₂.TypeIs o T ∧ wpAny (model prog w) A (getItem o i) Q E s₂) E s₁) E s) :
    wpAny (model prog w) A (eval (.Subscript value slice pos) env) Q E s := by
  refine Subscript_ (wpAny_mono h (fun o s₁ h₁ => wpAny_mono h₁ (fun i s₂ h₂ => ?_) fun _ _ x => x) fun _ _ x => x)
  obtain ⟨hT, h₂⟩ := h₂
  unfold subscriptTail
  refine wpAny_bind ?_
  rw [getitemInPython_of_ne hT.not_modules]
  refine wpAny_bind (wpAny_specialOf hT hl ?_)
  have fin : wpAny (model prog w) A (subscripted slice false o i) (fun r s₃ => wpAny (model prog w) A (letTemporaryGo value o r >>= fun _ => pure r) Q E s₃) E s₂ := by
    rw [hs o i]
    exact wpAny_operating (wpAny_mono h₂ (fun r s₃ h₃ => wpAny_bind (wpAny_letTemporaryGo (wpAny_pure h₃))) fun _ _ x => x)
  first
    | exact wpAny_pure (wpAny_bind fin)
    | exact wpAny_bind (wpAny_pure (wpAny_bind fin))
    | exact wpAny_bind fin
section
variable {X : Cx} {o i e value : Expr} {pos pos' tpos : Pos} {td ty tv : TE}
end
section
variable {X : Cx} {pos : Pos}
end
section
variable {X : Cx} {pins : List (Addr × Obj)} {σ : St} {H : Hp} {s : Shared} {a : Addr} {y d : V} {u r : Value} {o : Option V} {A : Around} {E : Value → Shared → Prop}
end
section
variable {X : Cx} {o e f : Expr} {apos cpos : Pos} {td ty tx : TE}
end
section
variable {X : Cx} {pins : List (Addr × Obj)} {σ : St} {H : Hp} {s : Shared} {a : Addr} {kvs : List (Key × V)} {A : Around} {E : Value → Shared → Prop}
end
section
variable {X : Cx} {pins : List (Addr × Obj)} {σ : St} {H : Hp} {s : Shared} {a : Addr} {y : V} {u : Value} {A : Around} {E : Value → Shared → Prop}
end
end L2
namespace L2
open PySem PySem.Spec PyProof.Rows
section
variable {prog : Program} {w : World} {A : Around} {E : Value → Shared → Prop}
end
section
variable {X : Cx}
end
end L2
namespace L2
open PySem PySem.Spec PyProof.Rows
section
variable {X : Cx} {pins : List (Addr × Obj)} {σ : St} {H : Hp} {s : Shared} {h' : Heap}
theorem Inv.turnedNew {t' : Nat} {ch : List Addr} {T : Addr} {ob : HO} (I : Inv X pins σ H s) (k : ∀ b o, b ∉ ch → s.heap.get? b = some o → h'.get? b = some o) (hf : ∀ b ∈ ch, FpOk X pins H b) (hT : s.heap.objs.size ≤ T)
    (new : ObjOk X.prog X.w (upd H T ob) h' T ob) : Inv X pins σ (upd H T ob) { s with heap := h', toks := t' } := by
  have hn : H T = none := I.hok.fresh hT
  have nit : ∀ b u, H b = some u → b ∉ ch := fun b u e z => by
    have q := (hf b z).1
    rw [q] at e; cases e
  refine I.step (g' := s.gens) (d' := s.drawn) (ch := ch) (fun b hb => ⟨(hf b hb).2.2.2.1, (hf b hb).2.1, (hf b hb).2.2.2.2.1, (hf b hb).2.2.2.2.2⟩) (fun b o _ _ hc e _ => k b o hc e) (fun b o _ _ hc e _ => ⟨o.slots, k b o hc e⟩)
    (fun b o _ e n => ?_) (fun b o hc e => ⟨o, k b o hc e⟩) (fun b xs e => ?_) (fun b o u e => ?_) (fun b ps e => ⟨#[], ?_⟩) (fun m hm => ?_) (fun b u e => ?_) I.bare
  · rw [upd_ne (Nat.ne_of_lt (Nat.lt_of_lt_of_le (Heap.lt_size e) hT))]; exact n
  · rw [upd_ne (ne_of_none e hn)]; exact e
  · rw [upd_ne (ne_of_none e hn)]; exact e
  · rw [upd_ne (ne_of_none e hn), e]; simp
  · obtain ⟨o, es, ep, ho, r⟩ := hm
    exact ⟨o, es, ep, k _ o (fun z => (hf _ z).2.1 rfl) ho, r⟩
  · by_cases hb : b = T
    · subst hb
      rw [upd_same] at e
      cases e
      exact new
    · rw [upd_ne hb] at e
      refine (I.hok b u e).stay (fun c v hc q => k c v ?_ q) (fun c q => by rw [upd_ne (ne_of_none q hn)]; exact q) fun c xs q => by rw [upd_ne (ne_of_none q hn)]; exact q
      rcases hc with z | z
      · rw [z]; exact nit b u e
      · exact nit c _ z
end
section
variable {X : Cx}
end
section
variable {X : Cx} {tg : Expr}
end
section
variable {X : Cx} {tg : Expr}
end
section
variable {prog : Program} {w : World} {A : Around} {E : Value → Shared → Prop} {s : Shared}
end
section
variable {X : Cx} {pins : List (Addr × Obj)} {σ : St} {H : Hp} {s : Shared} {d : Addr} {o : Obj}
end
section
variable {P : Program} {w : World} {K : PySem.W.Frag} {tg : Expr} {d : Addr} {o : Obj} {es : Array DictEntry} {ep : Nat}
end
section
variable {X : Cx} {tg e : Expr} {td : TE} {apos cpos : Pos}
end
def Ite (K : PySem.W.Frag) (a : Addr) : It :=
  ⟨fun i H => ∃ (xs : List V) (x : V), SqL K H a xs ∧ xs[i]? = some x, fun i H v H' => ∃ T x, v = .ref T ∧ H T = none ∧ H' = upd H T (.tup [.int (i : Nat), x]) ∧ ∀ xs, SqL K H a xs → xs[i]? = some x, fun i H => ∃ xs : List V, SqL K H a xs ∧ xs.length ≤ i⟩
theorem turn_enum {P : Program} {w : World} {K : PySem.W.Frag} {elts : List Expr} {kk : Nat} {tpos : Pos} (a e it : Addr) :
    Turn P w K (.Tuple elts kk tpos) (Ite K a) [e, it] e (fun i h => (∃ old, IsEnum h e it ((i : Nat) : Int) old) ∧ h.IsListIter it a i ∧ e ≠ it) where
  mem := by simp
  obj := fun i h st b hb => by
    obtain ⟨⟨old, he⟩, ⟨o, ho, hc, hd⟩, _⟩ := st
    have e' : b = e ∨ b = it := by simpa using hb
    rcases e' with z | z
    · rw [z]; exact ⟨_, he, fun v q => nomatch q⟩
    · rw [z]; exact ⟨o, ho, fun v q => by rw [hd] at q; cases q⟩
  keep := fun i h h' st k => let ⟨⟨old, he⟩, hi, hne⟩ := st; ⟨⟨old, k e (by simp) _ he⟩, hi.at fun o q => k it (by simp) o q, hne⟩
  item := by
    intro X hP hw hK hc i pins s σ H E I hf st hg
    subst hP hw hK
    obtain ⟨⟨old, he⟩, hit, hne⟩ := st
    obtain ⟨xs, x, hq, hx⟩ := hg
    obtain ⟨its, rv, p, hz⟩ := I.list hq
    obtain ⟨u, hu, ru⟩ := rv.get hx
    have hel : e < s.heap.objs.size := Heap.lt_size he
    have hil : it < s.heap.objs.size := by obtain ⟨_, q, _⟩ := hit; exact Heap.lt_size q
    refine wpAny_pyNext_enum_item he hit p.isList (x := u) (by simpa using hu) hne fun h' ho hit' hT hsz hk => ?_
    refine ⟨_, rfl, wpAny_letOwnedTupleGo_enum (s := { s with heap := h', toks := s.toks + 1 }) ho fun h'' he' sb => ?_⟩
    have hT2 : h''.get? s.heap.objs.size = some { cls := .type "tuple", data := .seq #[.int i s.toks, u] } := (sb.2 _ (Nat.ne_of_gt hel)).trans hT
    have new : ObjOk X.prog X.w (upd H s.heap.objs.size (.tup [.int (i : Nat), x])) h'' s.heap.objs.size (.tup [.int (i : Nat), x]) :=
      ⟨by show 2 ≤ sizeLine; decide, [.int i s.toks, u], .cons ⟨_, rfl⟩ (.cons ru .nil), ⟨_, hT2, rfl, _, rfl⟩⟩
    have I1 : Inv X pins σ (upd H s.heap.objs.size (.tup [.int (i : Nat), x])) { s with heap := h'', toks := s.toks + 1 } :=
      I.turnedNew (ch := [e, it]) (fun b ob hb q => (sb.2 b (fun z => hb (by simp [z]))).trans (hk b ob (fun z => hb (by simp [z])) (fun z => hb (by simp [z])) q)) hf (Nat.le_refl _) new
    refine ⟨.ref s.heap.objs.size, _, I1, rfl, ⟨_, x, rfl, I.hok.fresh (Nat.le_refl _), rfl, fun ys hy => by rw [I.list_inj hy hq]; exact hx⟩, ⟨⟨u, ?_⟩, hit'.at fun o q => (sb.2 it (Ne.symm hne)).trans q, hne⟩, fun b hb => ?_⟩
    · have e1 : ((i + 1 : Nat) : Int) = (i : Int) + 1 := by omega
      rw [e1]; exact he'
    · have hb' : b < s.heap.objs.size := by
        have e' : b = e ∨ b = it := by simpa using hb
        rcases e' with z | z
        · rw [z]; exact hel
        · rw [z]; exact hil
      rw [upd_ne (Nat.ne_of_lt hb')]
      exact (hf b hb).1
  done := by
    intro X hP hw hK hc i pins s σ H E I hf st hg
    subst hP hw hK
    obtain ⟨⟨old, he⟩, hit, hne⟩ := st
    obtain ⟨xs, hq, hx⟩ := hg
    obtain ⟨its, rv, p, hz⟩ := I.list hq
    obtain ⟨f0, f1, f2, f3, f4, f5⟩ := hf it (by simp)
    have hl := rv.length
    exact wpAny_pyNext_enum_end (I.ok.hd hc) he hit p.isList (by simp; omega) fun h' eb => ⟨rfl, I.turned (t' := s.toks) (fun b o hb q => eb b o hb q) f0 f1 f3 f4 f5⟩
  self := fun A i s Q E st h => let ⟨⟨_, he⟩, _⟩ := st; wpAny_pyIter_enum he h
def iEnum (K : PySem.W.Frag) (ta : TA) : TI := fun σ H R => ta σ H fun vs H1 => ∃ a xs, vs = [.ref a] ∧ SqL K H1 a xs ∧ R (Ite K a) H1
theorem pi_enum {X : Cx} {e : Expr} {ta : TA} {p pos tpos : Pos} {elts : List Expr} {kk : Nat} (hg : Gl X "enumerate") (hm : X.mg "enumerate" = none) (ha : PA X [e] ta) (hs : starEach [e] X.env = [(false, eval e X.env)] := by rfl) :
    PI X (.Tuple elts kk tpos) (.Call (.Name "enumerate" p) [e] [] pos) (iEnum X.K ta) := by
  intro pins s σ H R I h
  refine Call_ (ld_blt I hg hm boot_enumerate (PyProof.Rows.callWith_type1 (thn (ha pos pins s σ H _ I h) fun us s1 ⟨vs, H1, I1, r1, q1⟩ => ?_) hs rfl))
  obtain ⟨a, xs, ex, hq, q⟩ := q1
  subst ex
  cases r1 with
  | cons r rr =>
    cases rr
    cases r
    obtain ⟨its, rv, p', hz⟩ := I1.list hq
    refine call_enumerate_list p'.isList fun h' he hit hsz hk => wpAny_pyIter_enum he ?_
    have I2 : Inv X pins σ H1 { s1 with heap := h' } := I1.kept (t' := s1.toks) hk
    refine ⟨s1.heap.objs.size + 1, [s1.heap.objs.size + 1, s1.heap.objs.size], _, _, H1, rfl, I2, turn_enum a (s1.heap.objs.size + 1) s1.heap.objs.size, ⟨⟨.none, he⟩, hit, Nat.succ_ne_self _⟩, fun b hb => ?_, q⟩
    have e' : b = s1.heap.objs.size + 1 ∨ b = s1.heap.objs.size := by simpa using hb
    have hle : s1.heap.objs.size ≤ b := by
      rcases e' with z | z
      · rw [z]; exact Nat.le_add_right _ _
      · rw [z]; exact Nat.le_refl _
    exact I1.fpOk hle (I1.hok.fresh hle)
end L2
section 
namespace Bits
open PySem PyProof.Rows
end Bits
end 
section 
namespace TL
open PySem PySem.Builtin PySem.Builtin.Str PySem.StrLaws
end TL
end 
namespace L2
open PySem PySem.Spec PyProof.Rows
section
variable {X : Cx} {pins : List (Addr × Obj)} {σ : St} {H : Hp} {s : Shared} {Q : VK}
end
section
variable {X : Cx}
end
section
variable {X : Cx} {o e : Expr} {to te : TE}
end
end L2
namespace L2
open PySem PySem.Spec PyProof.Rows
section
variable {X : Cx}
end
end L2
namespace Att
open PySem PySem.W PySem.Calls PyProof.Rows
section
variable {prog : Program} {w : World} {A : Around} {E : Value → Shared → Prop} {s : Shared} {K : Frag}
end
end Att
namespace L2
open PySem PySem.Spec PyProof.Rows
end L2
namespace L2
open PySem PySem.Spec PyProof.Rows
end L2
namespace L2
open PySem PySem.Spec PyProof.Rows
def defArgs (s : Stmt) : Arguments := match s with
  | .FunctionDef _ a _ _ _ _ _ _ _ _ => a
  | _ => { posonlyargs := [], args := [], vararg := none, kwonlyargs := [], kw_defaults := [], kwarg := none, defaults := [] }
def defBody (s : Stmt) : List Stmt := match s with
  | .FunctionDef _ _ b _ _ _ _ _ _ _ => b
  | _ => []
def defScope (s : Stmt) : Scope := match s with
  | .FunctionDef _ _ _ _ _ _ sc _ _ _ => sc
  | _ => { kind := .function, names := [], isGenerator := false, isCoroutine := false }
abbrev CX0 : CXT := fun _ _ _ _ _ _ => False
abbrev E0 : XK := fun _ _ _ => False
theorem pass0 {X : Cx} : Passes CX0 X E0 := fun _ _ _ _ _ _ _ h => h.elim
structure Fun (K : PySem.W.Frag) (x qual : Str) (st : Stmt) (f : Addr) (fd : FuncData) : Prop where
  ex : ∃ (oc : Value) (od : Option Addr) (kV doc pm : Value) (an : Option Addr) (cdv ct : Value) (osl : Array (Option Value)),
    fd = PySem.W.fnOf x qual (defArgs st) (defBody st) (defScope st) .none kV doc pm an cdv ct ∧ K.lookup f = some ⟨oc, od, .func fd, osl⟩ ∧ PySem.W.codeIn K cdv qual = true
  kp : PySem.W.keepIn K (.ref f) = true
section
variable {P : Program} {w : World} {K : PySem.W.Frag} {mg : Str → Option Value} {base : Heap}
theorem Fun.ok {x qual : Str} {st : Stmt} {f : Addr} {fd : FuncData} {N ps : List Str} {k : Nat} {sp : Sp} (F : Fun K x qual st f fd) (S : FnScope N ps (defScope st)) (len : ∀ vs H Q E, sp vs H Q E → vs.length = ps.length)
    (hbody : ∀ (cdv : Value) (A : Around) (outer : List Env) (s : Shared) (H : Hp) (vs : List V) (Q : VK) (E : XK), Room k (A.deeper (envOfC qual (defScope st) s.heap.objs.size f cdv)) → sp vs H Q E →
      ∃ t, PSs (cxOf CX0 P w K mg base N qual (defScope st) f cdv A outer s H E).nox (defBody st) t ∧ t { nx := fun _ H' => Q .non H', rt := Q } (start N vs) H) : FnOk P w K mg base CX0 (k + 1) f fd ps sp := by
  obtain ⟨oc, od, kV, doc, pm, an, cdv, ct, osl, rfl, lk, hcd⟩ := F.ex
  refine fn_of lk hcd S len fun A outer s H vs Q E hr hsp => ?_
  obtain ⟨t, h, q⟩ := hbody cdv A outer s H vs Q E hr hsp
  exact ⟨t, h.nox, q⟩
theorem Fun.binds {x qual : Str} {st : Stmt} {f : Addr} {fd : FuncData} {ps : List Str} (F : Fun K x qual st f fd)
    (h : ∀ (kV doc pm : Value) (an : Option Addr) (cdv ct : Value) (us : List Value), us.length = ps.length → bindArgs (PySem.W.fnOf x qual (defArgs st) (defBody st) (defScope st) .none kV doc pm an cdv ct) ⟨us, []⟩ = pure (ps.zip us)) : Binds K fd ps [] := by
  obtain ⟨oc, od, kV, doc, pm, an, cdv, ct, osl, rfl, lk, hcd⟩ := F.ex
  exact .all (h kV doc pm an cdv ct)
theorem fun_mk {x qual : Str} {st : Stmt} {f : Addr} {oc : Value} {od an : Option Addr} {osl : Array (Option Value)} {kV doc pm cdv ct : Value} (l : K.lookup f = some ⟨oc, od, .func (PySem.W.fnOf x qual (defArgs st) (defBody st) (defScope st) .none kV doc pm an cdv ct), osl⟩)
    (c : PySem.W.codeIn K cdv qual = true) (k : PySem.W.keepIn K (.ref f) = true) : Fun K x qual st f (PySem.W.fnOf x qual (defArgs st) (defBody st) (defScope st) .none kV doc pm an cdv ct) := ⟨⟨oc, od, kV, doc, pm, an, cdv, ct, osl, rfl, l, c⟩, k⟩
end
section
variable {X : Cx}
theorem pv (i : Nat) {x : Str} {pos : Pos} (hN : X.N[i]? = some x := by rfl) (hv : Vis X.env.scope x := by first | exact Or.inl rfl | exact Or.inr (Or.inl rfl) | exact Or.inr (Or.inr rfl)) (hd : (x == ("__debug__" : Str)) = false := by decide)
    (hcd : (x == ("__classdict__" : Str)) = false := by decide) : PE X (.Name x pos) (tVar i) := pe_var hN hv hd hcd
end
theorem iteF {A B : Prop} (h : B) : if false = true then A else B := by
  rw [if_neg Bool.false_ne_true]
  exact h
theorem iteT {A B : Prop} (h : A) : if true = true then A else B := by
  rw [if_pos rfl]
  exact h
theorem ite2 {c A B : Prop} [Decidable c] (h1 : c → A) (h2 : ¬ c → B) : if c then A else B := by
  by_cases h : c
  · rw [if_pos h]
    exact h1 h
  · rw [if_neg h]
    exact h2 h
def Same (H H' : Hp) : Prop := ∀ b o, H b = some o → H' b = some o
theorem Same.refl (H : Hp) : Same H H := fun _ _ h => h
theorem Same.trans {H H1 H2 : Hp} (a : Same H H1) (b : Same H1 H2) : Same H H2 := fun c o h => b c o (a c o h)
theorem Same.free {H H' : Hp} (e : Same H H') {l : Addr} (h : H' l = Option.none) : H l = Option.none := by
  cases q : H l with
  | none => rfl
  | some o =>
    rw [e l o q] at h
    cases h
theorem Same.seq {K : PySem.W.Frag} {H H' : Hp} {a : Addr} {xs : List V} (e : Same H H') (h : SqL K H a xs) : SqL K H' a xs := by
  rcases h with (h | ⟨o, h⟩) | h
  · exact .inl (.inl (e _ _ h))
  · exact .inl (.inr ⟨o, e _ _ h⟩)
  · exact .inr h
section
variable {κ : Type} [DecidableEq κ]
theorem nd_snoc : ∀ {l : List κ} {k : κ}, l.Nodup → ¬ k ∈ l → (l ++ [k]).Nodup
  | [], k, _, _ => by simp
  | a :: r, k, h, hk => by
    obtain ⟨h1, h2⟩ := List.nodup_cons.mp h
    show (a :: (r ++ [k])).Nodup
    refine List.nodup_cons.mpr ⟨fun m => ?_, nd_snoc h2 fun m => hk (List.mem_cons.mpr (Or.inr m))⟩
    rcases List.mem_append.mp m with q | q
    · exact h1 q
    · exact hk (List.mem_cons.mpr (Or.inl (List.mem_singleton.mp q).symm))
end
theorem at_of {xs : List V} {z : Int} {j : Nat} {v : V} (e : z = (j : Int)) (h : xs[j]? = some v) : atI xs z = some v := by
  rw [e]
  exact atI_nat h
theorem nd_ix {α : Type} {l : List α} (hN : l.Nodup) {i j : Nat} {x : α} (a : l[i]? = some x) (b : l[j]? = some x) : i = j := by
  obtain ⟨h1, e1⟩ := List.getElem?_eq_some_iff.mp a
  obtain ⟨h2, e2⟩ := List.getElem?_eq_some_iff.mp b
  exact (List.getElem_inj hN).mp (e1.trans e2.symm)
end L2
section
set_option Elab.async false
set_option linter.all false
set_option maxRecDepth 100000
set_option maxHeartbeats 2000000
namespace L2
open PySem PySem.Spec PyProof.Rows
open PySem.W (WData Codec OpenSpec Well WellAll ReadsW ReadsAllW)
mutual
inductive Dw (K : PySem.W.Frag) (H : Hp) : V → WData → Prop
  | non : Dw K H .non .none
  | bl (b : Bool) : Dw K H (.bl b) (.bool b)
  | int (i : Int) : Dw K H (.int i) (.int i)
  | str (x : Str) : Dw K H (.str x) (.str x)
  | byt (b : Array UInt8) : Dw K H (.byt b) (.bytes b.toList)
  | lst {a : Addr} {xs : List V} {ds : List WData} : SqL K H a xs → DwAll K H xs ds → Dw K H (.ref a) (.list ds)
  | tup {a : Addr} {xs : List V} {ds : List WData} : SqT K H a xs → DwAll K H xs ds → Dw K H (.ref a) (.tuple ds)
inductive DwAll (K : PySem.W.Frag) (H : Hp) : List V → List WData → Prop
  | nil : DwAll K H [] []
  | cons {v : V} {vs : List V} {d : WData} {ds : List WData} : Dw K H v d → DwAll K H vs ds → DwAll K H (v :: vs) (d :: ds)
end
theorem dw_ints {K : PySem.W.Frag} {H : Hp} : ∀ ns : List Int, DwAll K H (ns.map V.int) (ns.map WData.int)
  | [] => .nil
  | n :: r => .cons (.int n) (dw_ints r)
theorem ints_dw {K : PySem.W.Frag} {H : Hp} : ∀ (ns : List Int) (xs : List V), DwAll K H xs (ns.map WData.int) → xs = ns.map V.int
  | [], xs, h => by
    cases h
    rfl
  | n :: r, xs, h => by
    cases h with
    | cons h1 h2 =>
      cases h1
      rw [ints_dw r _ h2] <;> rfl
section
variable {P : Program} {w : World} {K : PySem.W.Frag} {H : Hp} {h : Heap} {R : PySem.W.WRecords} {cl : Str → Option Addr}
theorem sqL_at {a : Addr} {xs : List V} (hok : HOk P w H h) (KX : K.In h) (q : SqL K H a xs) : ∃ (its : List Value) (o : Obj) (n : Nat), Vals xs its ∧ h.get? a = some o ∧ o.cls = .type "list" ∧ o.data = .seq its.toArray n := by
  rcases q with q | ⟨o, its, n, e, hc, _, hd, _, hv⟩
  · obtain ⟨_, its, n, hv, e⟩ := (show ObjOk P w H h a (.lst xs) from q.ok hok)
    exact ⟨its, _, n, hv, e, rfl, rfl⟩
  · exact ⟨its.toList, o, n, hv, KX _ _ e, hc, by simp [hd]⟩
theorem sqT_at {a : Addr} {xs : List V} (hok : HOk P w H h) (KX : K.In h) (q : SqT K H a xs) : ∃ (its : List Value) (o : Obj) (n : Nat), Vals xs its ∧ h.get? a = some o ∧ o.cls = .type "tuple" ∧ o.data = .seq its.toArray n := by
  rcases q with q | ⟨o, its, n, e, hc, hd, _, hv⟩
  · obtain ⟨_, its, hv, o, e, hc, n, hd⟩ := (show ObjOk P w H h a (.tup xs) from q.ok hok)
    exact ⟨its, o, n, hv, e, hc, hd⟩
  · exact ⟨its.toList, o, n, hv, KX _ _ e, hc, by simp [hd]⟩
mutual
theorem Dw.reads (hok : HOk P w H h) (KX : K.In h) : ∀ (d : WData) (v : V) (u : Value), Dw K H v d → RelV v u → ∃ as, ReadsW R cl h u d as
  | .none, _, _, x, r => by
    cases x
    cases r
    exact ⟨_, ReadsW.none⟩
  | .bool b, _, _, x, r => by
    cases x
    cases r
    exact ⟨_, ReadsW.bool b⟩
  | .int i, _, _, x, r => by
    cases x
    obtain ⟨t, rfl⟩ := r
    exact ⟨_, ReadsW.int i t⟩
  | .str s, _, _, x, r => by
    cases x
    obtain ⟨t, rfl⟩ := r
    exact ⟨_, ReadsW.str s t⟩
  | .bytes b, _, _, x, r => by
    cases x
    obtain ⟨t, rfl⟩ := r
    exact ⟨_, ReadsW.bytes _ t⟩
  | .list ds, _, _, x, r => by
    cases x with
    | lst hs ha =>
      cases r
      obtain ⟨its, o, n, rv, ho, hc, hd⟩ := sqL_at hok KX hs
      obtain ⟨as, hr⟩ := Dw.readsAll hok KX ds _ its ha rv
      exact ⟨_, ReadsW.list ho hc hd hr⟩
  | .tuple ds, _, _, x, r => by
    cases x with
    | tup hs ha =>
      cases r
      obtain ⟨its, o, n, rv, ho, hc, hd⟩ := sqT_at hok KX hs
      obtain ⟨as, hr⟩ := Dw.readsAll hok KX ds _ its ha rv
      exact ⟨_, ReadsW.tuple ho hc hd hr⟩
  | .float _, _, _, x, _ => by cases x
  | .dict _, _, _, x, _ => by cases x
  | .bytearray _, _, _, x, _ => by cases x
  | .set _, _, _, x, _ => by cases x
  | .frozenset _, _, _, x, _ => by cases x
  | .obj _ _, _, _, x, _ => by cases x
theorem Dw.readsAll (hok : HOk P w H h) (KX : K.In h) : ∀ (ds : List WData) (vs : List V) (us : List Value), DwAll K H vs ds → Vals vs us → ∃ as, ReadsAllW R cl h us ds as
  | [], _, _, x, r => by
    cases x
    cases r
    exact ⟨_, ReadsAllW.nil⟩
  | d :: ds, _, _, x, r => by
    cases x with
    | cons h1 h2 =>
      cases r with
      | cons r1 r2 =>
        obtain ⟨as, q1⟩ := Dw.reads hok KX d _ _ h1 r1
        obtain ⟨bs, q2⟩ := Dw.readsAll hok KX ds _ _ h2 r2
        exact ⟨_, ReadsAllW.cons q1 q2⟩
end
end
mutual
def plW : WData → Bool
  | .none => true
  | .bool _ => true
  | .int _ => true
  | .str _ => true
  | .bytes _ => true
  | .list xs => plWs xs
  | .tuple xs => plWs xs
  | _ => false
def plWs : List WData → Bool
  | [] => true
  | x :: r => plW x && plWs r
end
theorem plWs_map {α : Type} {f : α → WData} (h : ∀ a, plW (f a) = true) : ∀ l : List α, plWs (l.map f) = true
  | [] => rfl
  | x :: r => by
    show (plW (f x) && plWs (r.map f)) = true
    rw [h x, plWs_map h r] <;> rfl
theorem pl_enc : ∀ (c : Codec) (a : c.denote), plW (c.enc a) = true
  | .unit, _ => rfl
  | .bool, _ => rfl
  | .int _ _, _ => rfl
  | .nat _ _, _ => rfl
  | .u8, _ => rfl
  | .bytes _ _, _ => rfl
  | .text _ _ _ _, _ => rfl
  | .list _ _ c, a => plWs_map (fun x => pl_enc c x) a
  | .pair c d, a => by
    show (plW (c.enc a.1) && (plW (d.enc a.2) && true)) = true
    rw [pl_enc c a.1, pl_enc d a.2] <;> rfl
  | .triple c d e, a => by
    show (plW (c.enc a.1) && (plW (d.enc a.2.1) && (plW (e.enc a.2.2) && true))) = true
    rw [pl_enc c a.1, pl_enc d a.2.1, pl_enc e a.2.2] <;> rfl
  | .option c, none => rfl
  | .option c, some x => pl_enc c x
theorem pl_encAll : ∀ (cs : List Codec) (a : Codec.denoteAll cs), plWs (Codec.encAll cs a) = true
  | [], _ => rfl
  | c :: cs, a => by
    show (plW (c.enc a.1) && plWs (Codec.encAll cs a.2)) = true
    rw [pl_enc c a.1, pl_encAll cs a.2] <;> rfl
theorem weight_mem : ∀ {xs : List WData} {d : WData}, d ∈ xs → d.weight ≤ WData.weightAll xs
  | [], d, h => absurd h (by simp)
  | x :: r, d, h => by
    show d.weight ≤ x.weight + 1 + WData.weightAll r
    rcases List.mem_cons.mp h with e | m
    · rw [e]
      omega
    · have z := weight_mem m
      omega
def toV : Value → V
  | .none => .non
  | .bool b => .bl b
  | .int i _ => .int i
  | .str x _ => .str x
  | .bytes b _ => .byt b
  | .ref a => .ref a
  | _ => .non
def OkU (A : List Addr) : Value → Prop
  | .none => True
  | .bool _ => True
  | .int _ _ => True
  | .str _ _ => True
  | .bytes _ _ => True
  | .ref a => a ∈ A
  | _ => False
theorem OkU.mono {A B : List Addr} (h : ∀ a ∈ A, a ∈ B) : ∀ {u : Value}, OkU A u → OkU B u := fun {u} x => by
  cases u with
  | ref a => exact h a x
  | none => trivial
  | bool b => trivial
  | int i t => trivial
  | str s t => trivial
  | bytes b t => trivial
  | _ => exact False.elim x
theorem relV_toV {A : List Addr} {u : Value} (x : OkU A u) : RelV (toV u) u := by
  cases u with
  | ref a => rfl
  | none => rfl
  | bool b => rfl
  | int i t => exact ⟨t, rfl⟩
  | str s t => exact ⟨t, rfl⟩
  | bytes b t => exact ⟨t, rfl⟩
  | _ => exact False.elim x
theorem vals_toV {A : List Addr} : ∀ {vs : List Value}, (∀ u ∈ vs, OkU A u) → Vals (vs.map toV) vs
  | [], _ => .nil
  | u :: r, h => .cons (relV_toV (h u (List.mem_cons_self ..))) (vals_toV fun x hx => h x (List.mem_cons_of_mem _ hx))
def ArgOb (h : Heap) (A : List Addr) (a : Addr) : Prop := ∃ vs : List Value, vs.length ≤ sizeLine ∧ (∀ u ∈ vs, OkU A u) ∧
  (h.get? a = some { cls := .type "list", data := .seq vs.toArray } ∨ h.get? a = some { cls := .type "tuple", data := .seq vs.toArray })
theorem ArgOb.mono {h : Heap} {A B : List Addr} {a : Addr} (k : ∀ a ∈ A, a ∈ B) (x : ArgOb h A a) : ArgOb h B a := by
  obtain ⟨vs, h1, h2, h3⟩ := x
  exact ⟨vs, h1, fun u hu => (h2 u hu).mono k, h3⟩
theorem wellAll_len {P : Params} {h : Heap} : ∀ {vs : List Value} {ds : List WData}, WellAll P h vs ds → vs.length = ds.length
  | _, _, .nil => rfl
  | _, _, .cons _ b => by
    show _ + 1 = _ + 1
    rw [wellAll_len b]
theorem well_list {P : Params} {h : Heap} {v : Value} {ds : List WData} (x : Well P h v (.list ds)) : ∃ (a : Addr) (vs : List Value), v = .ref a ∧ h.get? a = some { cls := .type "list", data := .seq vs.toArray } ∧ WellAll P h vs ds := by
  cases x with
  | list ho hall => exact ⟨_, _, rfl, ho, hall⟩
theorem well_tuple {P : Params} {h : Heap} {v : Value} {ds : List WData} (x : Well P h v (.tuple ds)) : ∃ (a : Addr) (vs : List Value), v = .ref a ∧ h.get? a = some { cls := .type "tuple", data := .seq vs.toArray } ∧ WellAll P h vs ds := by
  cases x with
  | tuple ho hall => exact ⟨_, _, rfl, ho, hall⟩
theorem well_cons {P : Params} {h : Heap} {us : List Value} {d : WData} {ds : List WData} (x : WellAll P h us (d :: ds)) : ∃ (v : Value) (vs : List Value), us = v :: vs ∧ Well P h v d ∧ WellAll P h vs ds := by
  cases x with
  | cons a b => exact ⟨_, _, rfl, a, b⟩
theorem line_of {n : Nat} (h : n ≤ 1048576) : n ≤ sizeLine := Nat.le_trans h (by decide)
section
variable {P : Params} {h : Heap}
mutual
theorem area_one : ∀ (d : WData) (v : Value), Well P h v d → plW d = true → d.weight ≤ 1048576 → ∃ A : List Addr, OkU A v ∧ ∀ a ∈ A, ArgOb h A a
  | .none, _, x, _, _ => by
    cases x
    exact ⟨[], trivial, fun a m => absurd m (by simp)⟩
  | .bool b, _, x, _, _ => by
    cases x
    exact ⟨[], trivial, fun a m => absurd m (by simp)⟩
  | .int i, _, x, _, _ => by
    cases x
    exact ⟨[], trivial, fun a m => absurd m (by simp)⟩
  | .str s, _, x, _, _ => by
    cases x
    exact ⟨[], trivial, fun a m => absurd m (by simp)⟩
  | .bytes b, _, x, _, _ => by
    cases x
    exact ⟨[], trivial, fun a m => absurd m (by simp)⟩
  | .list ds, _, x, p, z => by
    obtain ⟨a, vs, rfl, ho, hall⟩ := well_list x
    have z2 : WData.weightAll ds ≤ 1048576 := z
    obtain ⟨A, h1, h2⟩ := area_all ds _ hall p fun d hd => Nat.le_trans (weight_mem hd) z2
    have k : ∀ b ∈ A, b ∈ a :: A := fun b hb => List.mem_cons_of_mem _ hb
    refine ⟨a :: A, List.mem_cons_self .., fun b hb => ?_⟩
    rcases List.mem_cons.mp hb with e | m
    · rw [e]
      exact ⟨vs, line_of (by rw [wellAll_len hall]; exact Nat.le_trans (PySem.W.length_le_weightAllW ds) z2), fun u hu => (h1 u hu).mono k, .inl ho⟩
    · exact (h2 b m).mono k
  | .tuple ds, _, x, p, z => by
    obtain ⟨a, vs, rfl, ho, hall⟩ := well_tuple x
    have z2 : WData.weightAll ds ≤ 1048576 := z
    obtain ⟨A, h1, h2⟩ := area_all ds _ hall p fun d hd => Nat.le_trans (weight_mem hd) z2
    have k : ∀ b ∈ A, b ∈ a :: A := fun b hb => List.mem_cons_of_mem _ hb
    refine ⟨a :: A, List.mem_cons_self .., fun b hb => ?_⟩
    rcases List.mem_cons.mp hb with e | m
    · rw [e]
      exact ⟨vs, line_of (by rw [wellAll_len hall]; exact Nat.le_trans (PySem.W.length_le_weightAllW ds) z2), fun u hu => (h1 u hu).mono k, .inr ho⟩
    · exact (h2 b m).mono k
  | .float _, _, _, p, _ => Bool.noConfusion (show false = true from p)
  | .dict _, _, _, p, _ => Bool.noConfusion (show false = true from p)
  | .bytearray _, _, _, p, _ => Bool.noConfusion (show false = true from p)
  | .set _, _, _, p, _ => Bool.noConfusion (show false = true from p)
  | .frozenset _, _, _, p, _ => Bool.noConfusion (show false = true from p)
  | .obj _ _, _, _, p, _ => Bool.noConfusion (show false = true from p)
theorem area_all : ∀ (ds : List WData) (vs : List Value), WellAll P h vs ds → plWs ds = true → (∀ d ∈ ds, d.weight ≤ 1048576) → ∃ A : List Addr, (∀ u ∈ vs, OkU A u) ∧ ∀ a ∈ A, ArgOb h A a
  | [], _, x, _, _ => by
    cases x
    exact ⟨[], fun u m => absurd m (by simp), fun a m => absurd m (by simp)⟩
  | d :: ds, _, x, p, z => by
    obtain ⟨v, vs, rfl, x1, x2⟩ := well_cons x
    have q : plW d = true ∧ plWs ds = true := Bool.and_eq_true_iff.mp p
    obtain ⟨A, a1, a2⟩ := area_one d v x1 q.1 (z d (List.mem_cons_self ..))
    obtain ⟨B, b1, b2⟩ := area_all ds vs x2 q.2 fun e he => z e (List.mem_cons_of_mem _ he)
    have kA : ∀ b ∈ A, b ∈ A ++ B := fun b hb => List.mem_append.mpr (.inl hb)
    have kB : ∀ b ∈ B, b ∈ A ++ B := fun b hb => List.mem_append.mpr (.inr hb)
    refine ⟨A ++ B, fun u hu => ?_, fun b hb => ?_⟩
    · rcases List.mem_cons.mp hu with e | m
      · rw [e]
        exact a1.mono kA
      · exact (b1 u m).mono kB
    · rcases List.mem_append.mp hb with m | m
      · exact (a2 b m).mono kA
      · exact (b2 b m).mono kB
end
end
def hoOf (o : Obj) : Option HO := match o.data with
  | .seq vs _ => if (o.cls == Value.type "list") = true then some (.frz o (.lst (vs.toList.map toV))) else some (.frz o (.tup (vs.toList.map toV)))
  | _ => none
def argH (K : PySem.W.Frag) (h : Heap) (A : List Addr) : Hp := fun b => if b ∈ A then (if (K.lookup b).isNone = true then (h.get? b).bind hoOf else none) else none
def OnlyF (H : Hp) : Prop := ∀ b, H b = none ∨ ∃ o u, H b = some (.frz o u)
theorem hoOf_lst (vs : List Value) : hoOf { cls := .type "list", data := .seq vs.toArray } = some (.frz { cls := .type "list", data := .seq vs.toArray } (.lst (vs.map toV))) := by
  show (if (Value.type "list" == Value.type "list") = true then some (HO.frz { cls := .type "list", data := .seq vs.toArray } (.lst (vs.toArray.toList.map toV))) else some (HO.frz { cls := .type "list", data := .seq vs.toArray } (.tup (vs.toArray.toList.map toV)))) = _
  rw [if_pos (beq_self_eq_true _)]
theorem hoOf_tup (vs : List Value) : hoOf { cls := .type "tuple", data := .seq vs.toArray } = some (.frz { cls := .type "tuple", data := .seq vs.toArray } (.tup (vs.map toV))) := by
  show (if (Value.type "tuple" == Value.type "list") = true then some (HO.frz { cls := .type "tuple", data := .seq vs.toArray } (.lst (vs.toArray.toList.map toV))) else some (HO.frz { cls := .type "tuple", data := .seq vs.toArray } (.tup (vs.toArray.toList.map toV)))) = _
  rw [if_neg (by decide)]
section
variable {P : Program} {w : World} {K : PySem.W.Frag} {h : Heap} {A : List Addr}
theorem argH_at {b : Addr} {o : Obj} (hb : b ∈ A) (hk : K.lookup b = none) (e : h.get? b = some o) : argH K h A b = hoOf o := by
  unfold argH
  rw [if_pos hb, hk, if_pos (show (none : Option Obj).isNone = true from rfl), e] <;> rfl
theorem of_argH {b : Addr} {u : HO} (q : argH K h A b = some u) : b ∈ A ∧ K.lookup b = none := by
  unfold argH at q
  by_cases hb : b ∈ A
  · rw [if_pos hb] at q
    cases hk : K.lookup b with
    | none => exact ⟨hb, rfl⟩
    | some o =>
      rw [hk, if_neg (by simp)] at q
      cases q
  · rw [if_neg hb] at q
    cases q
theorem argH_is (ar : ∀ a ∈ A, ArgOb h A a) {b : Addr} {u : HO} (q : argH K h A b = some u) : K.lookup b = none ∧ ∃ vs : List Value, vs.length ≤ sizeLine ∧ (∀ u ∈ vs, OkU A u) ∧
    ((h.get? b = some { cls := .type "list", data := .seq vs.toArray } ∧ u = .frz { cls := .type "list", data := .seq vs.toArray } (.lst (vs.map toV))) ∨
     (h.get? b = some { cls := .type "tuple", data := .seq vs.toArray } ∧ u = .frz { cls := .type "tuple", data := .seq vs.toArray } (.tup (vs.map toV)))) := by
  obtain ⟨hb, hk⟩ := of_argH q
  obtain ⟨vs, h1, h2, h3⟩ := ar b hb
  refine ⟨hk, vs, h1, h2, ?_⟩
  rcases h3 with e | e
  · rw [argH_at hb hk e, hoOf_lst] at q
    exact .inl ⟨e, (Option.some.inj q).symm⟩
  · rw [argH_at hb hk e, hoOf_tup] at q
    exact .inr ⟨e, (Option.some.inj q).symm⟩
theorem argH_only (ar : ∀ a ∈ A, ArgOb h A a) : OnlyF (argH K h A) := fun b => by
  cases q : argH K h A b with
  | none => exact .inl rfl
  | some u =>
    obtain ⟨_, vs, _, _, ⟨_, e⟩ | ⟨_, e⟩⟩ := argH_is ar q
    · exact .inr ⟨_, _, by rw [e]⟩
    · exact .inr ⟨_, _, by rw [e]⟩
theorem argH_ok (ar : ∀ a ∈ A, ArgOb h A a) : HOk P w (argH K h A) h := fun b u q => by
  obtain ⟨_, vs, h1, h2, ⟨e, rfl⟩ | ⟨e, rfl⟩⟩ := argH_is ar q
  · exact ⟨e, by rw [List.length_map]; exact h1, vs, _, vals_toV h2, e⟩
  · exact ⟨e, by rw [List.length_map]; exact h1, vs, vals_toV h2, _, e, rfl, _, rfl⟩
theorem seq_inj {c c' : Value} {vs us : List Value} (e : (some { cls := c, data := .seq vs.toArray } : Option Obj) = some { cls := c', data := .seq us.toArray }) : c = c' ∧ vs = us := by
  have e1 := Option.some.inj e
  have e2 : c = c' := congrArg Obj.cls e1
  have e3 : Data.seq vs.toArray = Data.seq us.toArray := congrArg Obj.data e1
  injection e3 with e4
  refine ⟨e2, ?_⟩
  have e5 := congrArg Array.toList e4
  simpa using e5
theorem argL (KX : K.In h) (ar : ∀ a ∈ A, ArgOb h A a) {a : Addr} {vs : List Value} (ha : a ∈ A) (e : h.get? a = some { cls := .type "list", data := .seq vs.toArray }) : (∀ u ∈ vs, OkU A u) ∧ SqL K (argH K h A) a (vs.map toV) := by
  obtain ⟨us, h1, h2, h3⟩ := ar a ha
  have hu : us = vs := by
    rcases h3 with q | q
    · rw [e] at q
      exact (seq_inj q).2.symm
    · rw [e] at q
      exact absurd (Value.type.inj (seq_inj q).1) (by decide)
  subst hu
  refine ⟨h2, ?_⟩
  cases hk : K.lookup a with
  | none => exact .inl (.inr ⟨_, by rw [argH_at ha hk e, hoOf_lst]⟩)
  | some o =>
    have e2 := KX a o hk
    rw [e] at e2
    obtain rfl := Option.some.inj e2
    exact .inr ⟨_, us.toArray, _, hk, rfl, rfl, rfl, by rw [List.size_toArray]; exact h1, by simpa using vals_toV h2⟩
theorem argT (KX : K.In h) (ar : ∀ a ∈ A, ArgOb h A a) {a : Addr} {vs : List Value} (ha : a ∈ A) (e : h.get? a = some { cls := .type "tuple", data := .seq vs.toArray }) : (∀ u ∈ vs, OkU A u) ∧ SqT K (argH K h A) a (vs.map toV) := by
  obtain ⟨us, h1, h2, h3⟩ := ar a ha
  have hu : us = vs := by
    rcases h3 with q | q
    · rw [e] at q
      exact absurd (Value.type.inj (seq_inj q).1) (by decide)
    · rw [e] at q
      exact (seq_inj q).2.symm
  subst hu
  refine ⟨h2, ?_⟩
  cases hk : K.lookup a with
  | none => exact .inl (.inr ⟨_, by rw [argH_at ha hk e, hoOf_tup]⟩)
  | some o =>
    have e2 := KX a o hk
    rw [e] at e2
    obtain rfl := Option.some.inj e2
    exact .inr ⟨_, us.toArray, _, hk, rfl, rfl, by rw [List.size_toArray]; exact h1, by simpa using vals_toV h2⟩
mutual
theorem dw_one {Pm : Params} (KX : K.In h) (ar : ∀ a ∈ A, ArgOb h A a) : ∀ (d : WData) (v : Value), Well Pm h v d → plW d = true → OkU A v → Dw K (argH K h A) (toV v) d
  | .none, _, x, _, _ => by
    cases x
    exact .non
  | .bool b, _, x, _, _ => by
    cases x
    exact .bl b
  | .int i, _, x, _, _ => by
    cases x
    exact .int i
  | .str s, _, x, _, _ => by
    cases x
    exact .str s
  | .bytes b, _, x, _, _ => by
    cases x
    have z := Dw.byt (K := K) (H := argH K h A) b.toArray
    exact z
  | .list ds, _, x, p, hu => by
    obtain ⟨a, vs, rfl, ho, hall⟩ := well_list x
    obtain ⟨h2, hs⟩ := argL KX ar hu ho
    exact .lst hs (dw_all KX ar ds _ hall p h2)
  | .tuple ds, _, x, p, hu => by
    obtain ⟨a, vs, rfl, ho, hall⟩ := well_tuple x
    obtain ⟨h2, hs⟩ := argT KX ar hu ho
    exact .tup hs (dw_all KX ar ds _ hall p h2)
  | .float _, _, _, p, _ => Bool.noConfusion (show false = true from p)
  | .dict _, _, _, p, _ => Bool.noConfusion (show false = true from p)
  | .bytearray _, _, _, p, _ => Bool.noConfusion (show false = true from p)
  | .set _, _, _, p, _ => Bool.noConfusion (show false = true from p)
  | .frozenset _, _, _, p, _ => Bool.noConfusion (show false = true from p)
  | .obj _ _, _, _, p, _ => Bool.noConfusion (show false = true from p)
theorem dw_all {Pm : Params} (KX : K.In h) (ar : ∀ a ∈ A, ArgOb h A a) : ∀ (ds : List WData) (vs : List Value), WellAll Pm h vs ds → plWs ds = true → (∀ u ∈ vs, OkU A u) → DwAll K (argH K h A) (vs.map toV) ds
  | [], _, x, _, _ => by
    cases x
    exact .nil
  | d :: ds, _, x, p, hu => by
    obtain ⟨v, vs, rfl, x1, x2⟩ := well_cons x
    have q : plW d = true ∧ plWs ds = true := Bool.and_eq_true_iff.mp p
    exact .cons (dw_one KX ar d v x1 q.1 (hu _ (List.mem_cons_self ..))) (dw_all KX ar ds vs x2 q.2 fun u m => hu u (List.mem_cons_of_mem _ m))
end
end
theorem layable_weight {ds : List WData} (h : WData.layableAll ds = true) : ∀ d ∈ ds, d.weight ≤ 1048576 := fun d hd =>
  (PySem.W.layableW_iff.mp (List.all_eq_true.mp h d hd)).2.2
theorem encAll_len : ∀ (cs : List Codec) (a : Codec.denoteAll cs), (Codec.encAll cs a).length = cs.length
  | [], _ => rfl
  | c :: cs, a => by
    show (Codec.encAll cs a.2).length + 1 = cs.length + 1
    rw [encAll_len cs a.2]
end L2
end
set_option Elab.async false
set_option linter.all false
set_option maxRecDepth 100000
namespace L3
open PySem
abbrev Pb := SetTable.Probe
def adv (mask : Nat) (p : Pb) : Pb :=
  if p.more > 0 then { p with j := p.j + 1, more := p.more - 1 } else
  { p with j := (SetTable.leap mask p.i p.perturb).1, more := SetTable.runEnd mask (SetTable.leap mask p.i p.perturb).1 - (SetTable.leap mask p.i p.perturb).1, i := (SetTable.leap mask p.i p.perturb).1, perturb := (SetTable.leap mask p.i p.perturb).2 }
def itA (mask : Nat) : Nat → Pb → Pb
  | 0, p => p
  | k + 1, p => itA mask k (adv mask p)
theorem itA_add (mask : Nat) : ∀ (a b : Nat) (p : Pb), itA mask (a + b) p = itA mask b (itA mask a p)
  | 0, b, p => by rw [Nat.zero_add]; rfl
  | a + 1, b, p => by
    rw [show a + 1 + b = (a + b) + 1 by omega]
    show itA mask (a + b) (adv mask p) = _
    rw [itA_add mask a b]
    rfl
theorem adv_dummy (mask : Nat) (p : Pb) : (adv mask p).dummy = p.dummy := by unfold adv; split <;> rfl
theorem run_next (mask : Nat) : ∀ (c : Nat) (p : Pb), p.more = c → itA mask (c + 1) p = { p with j := (SetTable.leap mask p.i p.perturb).1, more := SetTable.runEnd mask (SetTable.leap mask p.i p.perturb).1 - (SetTable.leap mask p.i p.perturb).1, i := (SetTable.leap mask p.i p.perturb).1, perturb := (SetTable.leap mask p.i p.perturb).2 }
  | 0, p, h => by
    show adv mask p = _
    unfold adv
    rw [if_neg (by omega)]
  | c + 1, p, h => by
    show itA mask (c + 1) (adv mask p) = _
    have e : adv mask p = { p with j := p.j + 1, more := p.more - 1 } := by unfold adv; rw [if_pos (by omega)]
    rw [e, run_next mask c _ (by show p.more - 1 = c; omega)]
def leapN (mask : Nat) : Nat → Nat × Nat → Nat × Nat
  | 0, x => x
  | k + 1, x => leapN mask k (SetTable.leap mask x.1 x.2)
theorem runEnd_le (mask i : Nat) : SetTable.runEnd mask i - i ≤ 9 := by unfold SetTable.runEnd; split <;> omega
theorem runs (mask : Nat) : ∀ (r : Nat) (p : Pb), p.more ≤ 9 → ∃ m, m ≤ 10 * r ∧ (itA mask m p).i = (leapN mask r (p.i, p.perturb)).1 ∧ (itA mask m p).perturb = (leapN mask r (p.i, p.perturb)).2 ∧ (itA mask m p).more ≤ 9 ∧ (r ≠ 0 → (itA mask m p).j = (leapN mask r (p.i, p.perturb)).1)
  | 0, p, h => ⟨0, by omega, rfl, rfl, h, fun q => absurd rfl q⟩
  | r + 1, p, h => by
    have e := run_next mask p.more p rfl
    generalize eq : itA mask (p.more + 1) p = q at e
    have hq : q.more ≤ 9 := by rw [e]; exact runEnd_le _ _
    obtain ⟨m, h1, h2, h3, h4, h5⟩ := runs mask r q hq
    have ei : (q.i, q.perturb) = SetTable.leap mask p.i p.perturb := by rw [e]
    refine ⟨p.more + 1 + m, by omega, ?_, ?_, ?_, fun _ => ?_⟩
    · rw [itA_add, eq, h2, ei]; rfl
    · rw [itA_add, eq, h3, ei]; rfl
    · rw [itA_add, eq]; exact h4
    · rw [itA_add, eq]
      by_cases hr : r = 0
      · subst hr
        have hm : m = 0 := by omega
        subst hm
        show q.j = (leapN mask 0 (SetTable.leap mask p.i p.perturb)).1
        rw [e]
        rfl
      · rw [h5 hr, ei]; rfl
theorem leapN_add (mask : Nat) : ∀ (a b : Nat) (x : Nat × Nat), leapN mask (a + b) x = leapN mask b (leapN mask a x)
  | 0, b, x => by rw [Nat.zero_add]; rfl
  | a + 1, b, x => by
    rw [show a + 1 + b = (a + b) + 1 by omega]
    show leapN mask (a + b) _ = _
    rw [leapN_add mask a b]
    rfl
theorem leapN_perturb (mask : Nat) : ∀ (k : Nat) (x : Nat × Nat), (leapN mask k x).2 = x.2 / 32 ^ k
  | 0, x => by simp [leapN]
  | k + 1, x => by
    show (leapN mask k (SetTable.leap mask x.1 x.2)).2 = _
    rw [leapN_perturb mask k]
    show x.2 / 32 / 32 ^ k = _
    rw [Nat.div_div_eq_div_mul, Nat.pow_succ, Nat.mul_comm]
theorem leapN_lt (mask : Nat) : ∀ (k : Nat) (x : Nat × Nat), x.1 ≤ mask → (leapN mask k x).1 ≤ mask
  | 0, _, h => h
  | k + 1, x, _ => leapN_lt mask k _ (by show (x.1 * 5 + 1 + x.2 / 32) % (mask + 1) ≤ mask; have := Nat.mod_lt (x.1 * 5 + 1 + x.2 / 32) (show 0 < mask + 1 by omega); omega)
def lcg (mask : Nat) : Nat → Nat → Nat
  | 0, x => x
  | k + 1, x => lcg mask k ((x * 5 + 1) % (mask + 1))
theorem leap_lcg (mask : Nat) : ∀ (k x : Nat), leapN mask k (x, 0) = (lcg mask k x, 0)
  | 0, x => rfl
  | k + 1, x => by
    show leapN mask k ((x * 5 + 1 + 0 / 32) % (mask + 1), 0 / 32) = _
    rw [Nat.zero_div, Nat.add_zero, leap_lcg mask k]
    rfl
theorem lcg_add (mask : Nat) : ∀ (a b x : Nat), lcg mask (a + b) x = lcg mask b (lcg mask a x)
  | 0, b, x => by rw [Nat.zero_add]; rfl
  | a + 1, b, x => by
    rw [show a + 1 + b = (a + b) + 1 by omega]
    show lcg mask (a + b) _ = _
    rw [lcg_add mask a b]
    rfl
def GoodMask (mask : Nat) : Prop := mask = 7 ∨ mask = 31 ∨ mask = 127
def lcgs (mask : Nat) : List Nat := (List.range (mask + 1)).map fun k => lcg mask k 0
def covers (mask : Nat) : Bool := ((List.range (mask + 1)).all fun y => (lcgs mask).contains y) && lcg mask (mask + 1) 0 == 0
theorem covers_ok {mask : Nat} (h : GoodMask mask) : covers mask = true := by
  rcases h with rfl | rfl | rfl <;> decide +kernel
theorem lcg_all {mask : Nat} (h : GoodMask mask) {x y : Nat} (hx : x ≤ mask) (hy : y ≤ mask) : ∃ m, m ≤ mask ∧ lcg mask m x = y := by
  have hc := covers_ok h
  unfold covers at hc
  rw [Bool.and_eq_true] at hc
  have at0 : ∀ z, z ≤ mask → ∃ k, k ≤ mask ∧ lcg mask k 0 = z := fun z hz => by
    have q := List.all_eq_true.mp hc.1 z (List.mem_range.mpr (by omega))
    have q2 : z ∈ lcgs mask := by simpa using q
    obtain ⟨k, hk, e⟩ := List.mem_map.mp q2
    exact ⟨k, by have := List.mem_range.mp hk; omega, e⟩
  have hz : lcg mask (mask + 1) 0 = 0 := by simpa using hc.2
  obtain ⟨a, ha, ea⟩ := at0 x hx
  obtain ⟨b, hb, eb⟩ := at0 y hy
  by_cases hab : a ≤ b
  · refine ⟨b - a, by omega, ?_⟩
    rw [← ea, ← lcg_add, show a + (b - a) = b by omega, eb]
  · refine ⟨mask + 1 - a + b, by omega, ?_⟩
    rw [← ea, ← lcg_add, show a + (mask + 1 - a + b) = (mask + 1) + b by omega, lcg_add, hz, eb]
theorem run_jm {mask i : Nat} (h : i ≤ mask) : i + (SetTable.runEnd mask i - i) ≤ mask := by unfold SetTable.runEnd; split <;> omega
structure Stand (mask : Nat) (p : Pb) : Prop where
  more : p.more ≤ 9
  i : p.i ≤ mask
  pt : p.perturb < 2 ^ 64
  dm : p.dummy = none
  jm : p.j + p.more ≤ mask
theorem Stand.adv {mask : Nat} {p : Pb} (h : Stand mask p) : Stand mask (L3.adv mask p) := by
  unfold L3.adv
  split
  · exact ⟨by show p.more - 1 ≤ 9; have := h.more; omega, h.i, h.pt, h.dm, by show p.j + 1 + (p.more - 1) ≤ mask; have := h.jm; omega⟩
  · have hi' : (SetTable.leap mask p.i p.perturb).1 ≤ mask := by
      show (p.i * 5 + 1 + p.perturb / 32) % (mask + 1) ≤ mask
      have := Nat.mod_lt (p.i * 5 + 1 + p.perturb / 32) (show 0 < mask + 1 by omega)
      omega
    refine ⟨runEnd_le _ _, ?_, ?_, h.dm, run_jm hi'⟩
    · show (p.i * 5 + 1 + p.perturb / 32) % (mask + 1) ≤ mask
      have := Nat.mod_lt (p.i * 5 + 1 + p.perturb / 32) (show 0 < mask + 1 by omega)
      omega
    · show p.perturb / 32 < 2 ^ 64
      have := h.pt
      omega
theorem Stand.all {mask : Nat} : ∀ (k : Nat) {p : Pb}, Stand mask p → Stand mask (itA mask k p)
  | 0, _, h => h
  | k + 1, _, h => Stand.all k h.adv
theorem Stand.meets {mask : Nat} (hm : GoodMask mask) {p : Pb} (h : Stand mask p) {e : Nat} (he : e ≤ mask) : ∃ m, m < 10 * SetTable.turns mask ∧ (itA mask m p).j = e := by
  have h13 : (leapN mask 13 (p.i, p.perturb)).2 = 0 := by
    rw [leapN_perturb]
    refine Nat.div_eq_of_lt ?_
    have := h.pt
    show p.perturb < 32 ^ 13
    omega
  have hle := leapN_lt mask 13 (p.i, p.perturb) h.i
  obtain ⟨m0, hm0, e0⟩ := lcg_all hm hle he
  have er : (leapN mask (13 + m0) (p.i, p.perturb)).1 = e := by
    rw [leapN_add, show leapN mask 13 (p.i, p.perturb) = ((leapN mask 13 (p.i, p.perturb)).1, 0) from Prod.ext rfl h13, leap_lcg, e0]
  obtain ⟨m, h1, _, _, _, h5⟩ := runs mask (13 + m0) p h.more
  refine ⟨m, by unfold SetTable.turns; omega, ?_⟩
  rw [h5 (by omega), er]
end L3
set_option Elab.async false
set_option linter.all false
set_option maxRecDepth 100000
namespace L3
open PySem
theorem below_go (xs : Array Nat) (j : Nat) (hr : xs.toList.Pairwise (· < ·)) : ∀ (fuel lo hi : Nat), lo ≤ hi → hi ≤ xs.size → hi - lo ≤ fuel → (∀ i v, i < lo → xs[i]? = some v → v < j) → (∀ i v, hi ≤ i → xs[i]? = some v → j ≤ v) →
    SetTable.below.go xs j fuel lo hi ≤ xs.size ∧ (∀ i v, i < SetTable.below.go xs j fuel lo hi → xs[i]? = some v → v < j) ∧ ∀ i v, SetTable.below.go xs j fuel lo hi ≤ i → xs[i]? = some v → j ≤ v
  | 0, lo, hi, h1, h2, h3, h4, h5 => by
    have e : lo = hi := by omega
    subst e
    exact ⟨h2, h4, h5⟩
  | fuel + 1, lo, hi, h1, h2, h3, h4, h5 => by
    have lt : ∀ a b u v, a < b → xs[a]? = some u → xs[b]? = some v → u < v := fun a b u v hab hu hv => by
      rw [List.pairwise_iff_getElem] at hr
      obtain ⟨ha, ea⟩ := Array.getElem?_eq_some_iff.mp hu
      obtain ⟨hb, eb⟩ := Array.getElem?_eq_some_iff.mp hv
      have := hr a b (by simpa using ha) (by simpa using hb) hab
      simp only [Array.getElem_toList] at this
      omega
    unfold SetTable.below.go
    by_cases hlh : lo < hi
    · rw [if_pos hlh]
      have hm : (lo + hi) / 2 < xs.size := by omega
      have em : xs[(lo + hi) / 2]? = some (xs.getD ((lo + hi) / 2) j) := by
        rw [Array.getD_eq_getD_getElem?, Array.getElem?_eq_getElem hm]
        rfl
      dsimp only
      by_cases hv : xs.getD ((lo + hi) / 2) j < j
      · rw [if_pos hv]
        refine below_go xs j hr fuel _ hi (by omega) h2 (by omega) (fun i v hi' e => ?_) h5
        by_cases q : i = (lo + hi) / 2
        · rw [q, em] at e
          cases e
          exact hv
        · have := lt i _ v _ (by omega) e em
          omega
      · rw [if_neg hv]
        refine below_go xs j hr fuel lo _ (by omega) (by omega) (by omega) h4 fun i v hi' e => ?_
        by_cases q : i = (lo + hi) / 2
        · rw [q, em] at e
          cases e
          omega
        · have := lt _ i _ v (by omega) em e
          omega
    · rw [if_neg hlh]
      have e : lo = hi := by omega
      subst e
      exact ⟨h2, h4, h5⟩
theorem below_ok {xs : Array Nat} (hr : xs.toList.Pairwise (· < ·)) (j : Nat) : SetTable.below xs j ≤ xs.size ∧ (∀ i v, i < SetTable.below xs j → xs[i]? = some v → v < j) ∧ ∀ i v, SetTable.below xs j ≤ i → xs[i]? = some v → j ≤ v :=
  below_go xs j hr xs.size 0 xs.size (Nat.zero_le _) (Nat.le_refl _) (by omega) (fun i v h => by omega) fun i v h e => by
    have := (Array.getElem?_eq_some_iff.mp e).1
    omega
theorem below_at {xs : Array Nat} (hr : xs.toList.Pairwise (· < ·)) {i j : Nat} (h : xs[i]? = some j) : SetTable.below xs j = i := by
  obtain ⟨h1, h2, h3⟩ := below_ok hr j
  rcases Nat.lt_trichotomy (SetTable.below xs j) i with q | q | q
  · have hlt : SetTable.below xs j < xs.size := by have := (Array.getElem?_eq_some_iff.mp h).1; omega
    have e : xs[SetTable.below xs j]? = some xs[SetTable.below xs j] := Array.getElem?_eq_getElem hlt
    have a1 := h3 _ _ (Nat.le_refl _) e
    rw [List.pairwise_iff_getElem] at hr
    obtain ⟨hb, eb⟩ := Array.getElem?_eq_some_iff.mp h
    have := hr (SetTable.below xs j) i (by simpa using hlt) (by simpa using hb) q
    simp only [Array.getElem_toList] at this
    omega
  · exact q
  · have := h2 i j q h
    omega
structure TShape (t : SetTable) : Prop where
  mask : GoodMask t.mask
  rise : t.place.toList.Pairwise (· < ·)
  le : ∀ j ∈ t.place.toList, j ≤ t.mask
  dum : t.dummies = #[]
  less : t.place.size * 5 < t.mask * 3
theorem slot_live {t : SetTable} (h : TShape t) {i j : Nat} (e : t.place[i]? = some j) : t.slot j = .live i := by
  unfold SetTable.slot
  dsimp only
  rw [below_at h.rise e, e]
  simp
theorem slot_empty {t : SetTable} (h : TShape t) {j : Nat} (e : j ∉ t.place.toList) : t.slot j = .empty := by
  unfold SetTable.slot
  dsimp only
  have n1 : (t.place[SetTable.below t.place j]? == some j) = false := by
    rw [beq_eq_false_iff_ne]
    intro q
    obtain ⟨hb, eb⟩ := Array.getElem?_eq_some_iff.mp q
    exact e (by rw [← eb]; simp)
  have n2 : SetTable.has t.dummies j = false := by rw [h.dum]; rfl
  rw [n1, n2]
  rfl
theorem live_ix {t : SetTable} {j : Nat} (h : j ∈ t.place.toList) : ∃ i : Nat, t.place[i]? = some j := by
  obtain ⟨i, hi, e⟩ := List.mem_iff_getElem.mp h
  exact ⟨i, Array.getElem?_eq_some_iff.mpr ⟨by simpa using hi, by simpa using e⟩⟩
theorem probe_go {t : SetTable} (h : TShape t) (hashAt : Nat → Int) (x : Int) : ∀ (fuel : Nat) (p : Pb), p.dummy = none → (∃ m, m < fuel ∧ (itA t.mask m p).j ∉ t.place.toList) →
    ∃ m, (∀ m', m' < m → ∃ i : Nat, t.place[i]? = some (itA t.mask m' p).j ∧ hashAt i ≠ x) ∧
      (((itA t.mask m p).j ∉ t.place.toList ∧ SetTable.probe.go t hashAt x fuel p = some (.empty (itA t.mask m p).j none)) ∨
       ∃ i : Nat, t.place[i]? = some (itA t.mask m p).j ∧ hashAt i = x ∧ SetTable.probe.go t hashAt x fuel p = some (.candidate (itA t.mask m p).j i (itA t.mask (m + 1) p)))
  | 0, _, _, ⟨m, hm, _⟩ => by omega
  | fuel + 1, p, hd, ⟨m, hm, he⟩ => by
    unfold SetTable.probe.go
    by_cases hj : p.j ∈ t.place.toList
    · obtain ⟨i, ei⟩ := live_ix hj
      rw [slot_live h ei]
      dsimp only
      by_cases hx : hashAt i = x
      · refine ⟨0, fun m' q => by omega, .inr ⟨i, ei, hx, ?_⟩⟩
        rw [if_pos (by simp [hx])]
        rfl
      · have hm0 : m ≠ 0 := fun q => by subst q; exact he hj
        obtain ⟨m2, q1, q2⟩ := probe_go h hashAt x fuel (adv t.mask p) (by rw [adv_dummy]; exact hd) ⟨m - 1, by omega, by
          have e : itA t.mask m p = itA t.mask (m - 1) (adv t.mask p) := by
            obtain ⟨k, rfl⟩ : ∃ k, m = k + 1 := ⟨m - 1, by omega⟩
            rfl
          rw [← e]; exact he⟩
        refine ⟨m2 + 1, fun m' hm' => ?_, ?_⟩
        · cases m' with
          | zero => exact ⟨i, ei, hx⟩
          | succ k => exact q1 k (by omega)
        · rw [if_neg (by simp [hx])]
          exact q2
    · rw [slot_empty h hj]
      refine ⟨0, fun m' q => by omega, .inl ⟨hj, ?_⟩⟩
      dsimp only
      rw [hd]
      rfl
theorem nd_len_le : ∀ {l m : List Nat}, l.Nodup → (∀ x ∈ l, x ∈ m) → l.length ≤ m.length
  | [], _, _, _ => Nat.zero_le _
  | a :: l, m, hn, h => by
    obtain ⟨h1, h2⟩ := List.nodup_cons.mp hn
    have ha := h a List.mem_cons_self
    have ih := nd_len_le (l := l) (m := m.erase a) h2 fun x hx => (List.mem_erase_of_ne (fun e : x = a => h1 (by rw [← e]; exact hx))).mpr (h x (List.mem_cons_of_mem _ hx))
    rw [List.length_erase_of_mem ha] at ih
    have := List.length_pos_of_mem ha
    show l.length + 1 ≤ m.length
    omega
theorem has_empty {t : SetTable} (h : TShape t) : ∃ e, e ≤ t.mask ∧ e ∉ t.place.toList := by
  by_cases q : ∃ e, e ≤ t.mask ∧ e ∉ t.place.toList
  · exact q
  · exfalso
    have all : ∀ e ∈ List.range (t.mask + 1), e ∈ t.place.toList := fun e he => by
      by_cases z : e ∈ t.place.toList
      · exact z
      · exact absurd ⟨e, by have := List.mem_range.mp he; omega, z⟩ q
    have hn : (List.range (t.mask + 1)).Nodup := List.nodup_range
    have hl : (List.range (t.mask + 1)).length ≤ t.place.toList.length := by
      exact nd_len_le hn all
    rw [List.length_range, Array.length_toList] at hl
    have := h.less
    omega
theorem probe_ok {t : SetTable} (h : TShape t) (hashAt : Nat → Int) (x : Int) {p : Pb} (hp : Stand t.mask p) :
    ∃ m, (∀ m', m' < m → ∃ i : Nat, t.place[i]? = some (itA t.mask m' p).j ∧ hashAt i ≠ x) ∧
      (((itA t.mask m p).j ∉ t.place.toList ∧ t.probe hashAt x p = some (.empty (itA t.mask m p).j none)) ∨
       ∃ i : Nat, t.place[i]? = some (itA t.mask m p).j ∧ hashAt i = x ∧ t.probe hashAt x p = some (.candidate (itA t.mask m p).j i (itA t.mask (m + 1) p))) := by
  obtain ⟨e, he, hn⟩ := has_empty h
  obtain ⟨m, hm, em⟩ := hp.meets h.mask he
  exact probe_go h hashAt x _ p hp.dm ⟨m, hm, by rw [em]; exact hn⟩
theorem bits_lt (x : Int) : SetTable.bits x < 2 ^ 64 := by
  unfold SetTable.bits
  have h1 := Int.emod_nonneg x (show (2 ^ 64 : Int) ≠ 0 by decide)
  have h2 := Int.emod_lt_of_pos x (show (0 : Int) < 2 ^ 64 by decide)
  omega
theorem start_stand (t : SetTable) (x : Int) : Stand t.mask (t.probeStart x) := by
  have hi : SetTable.bits x % (t.mask + 1) ≤ t.mask := by
    have := Nat.mod_lt (SetTable.bits x) (show 0 < t.mask + 1 by omega)
    omega
  exact ⟨runEnd_le _ _, hi, bits_lt x, rfl, run_jm hi⟩
def pStart (mask : Nat) (x : Int) : Pb := { j := SetTable.bits x % (mask + 1), more := SetTable.runEnd mask (SetTable.bits x % (mask + 1)) - SetTable.bits x % (mask + 1), i := SetTable.bits x % (mask + 1), perturb := SetTable.bits x, dummy := none }
theorem start_eq (t : SetTable) (x : Int) : t.probeStart x = pStart t.mask x := rfl
def Comes (mask : Nat) (live : List Nat) (x : Int) (j : Nat) : Prop := ∃ k, (itA mask k (pStart mask x)).j = j ∧ ∀ k', k' < k → (itA mask k' (pStart mask x)).j ∈ live
theorem Comes.mono {mask : Nat} {live live' : List Nat} {x : Int} {j : Nat} (h : Comes mask live x j) (s : ∀ a ∈ live, a ∈ live') : Comes mask live' x j :=
  let ⟨k, e, q⟩ := h; ⟨k, e, fun k' hk => s _ (q k' hk)⟩
end L3
set_option Elab.async false
set_option linter.all false
set_option maxRecDepth 100000
namespace L3
open PySem
theorem run_in (mask : Nat) : ∀ (k : Nat) (p : Pb), k ≤ p.more → itA mask k p = { p with j := p.j + k, more := p.more - k }
  | 0, p, _ => rfl
  | k + 1, p, h => by
    show itA mask k (adv mask p) = _
    have e : adv mask p = { p with j := p.j + 1, more := p.more - 1 } := by unfold adv; rw [if_pos (by omega)]
    rw [e, run_in mask k _ (by show k ≤ p.more - 1; omega)]
    show ({ j := p.j + 1 + k, more := p.more - 1 - k, i := p.i, perturb := p.perturb, dummy := p.dummy } : Pb) = { p with j := p.j + (k + 1), more := p.more - (k + 1) }
    rw [show p.j + 1 + k = p.j + (k + 1) by omega, show p.more - 1 - k = p.more - (k + 1) by omega]
def runP (mask i pt : Nat) : Pb := { j := i, more := SetTable.runEnd mask i - i, i := i, perturb := pt, dummy := none }
def Occ (owner : Array (Option Nat)) (j : Nat) : Prop := ∃ k, owner[j]? = some (some k)
theorem runEnd_ge (mask i : Nat) : i ≤ SetTable.runEnd mask i := by unfold SetTable.runEnd; split <;> omega
theorem runEnd_mask {mask i : Nat} (h : i ≤ mask) : SetTable.runEnd mask i ≤ mask := by unfold SetTable.runEnd; split <;> omega
theorem free_ok {mask : Nat} {owner : Array (Option Nat)} (hsz : owner.size = mask + 1) : ∀ (fuel i pt : Nat), i ≤ mask → (∃ r, r < fuel ∧ owner[(leapN mask r (i, pt)).1]? = some none) →
    ∃ j k, SetTable.layClean.free mask owner fuel i pt = some j ∧ j ≤ mask ∧ owner[j]? = some none ∧ (itA mask k (runP mask i pt)).j = j ∧ ∀ k', k' < k → Occ owner (itA mask k' (runP mask i pt)).j
  | 0, _, _, _, ⟨r, hr, _⟩ => by omega
  | fuel + 1, i, pt, hi, ⟨r, hr, er⟩ => by
    have hge := runEnd_ge mask i
    have hle := runEnd_mask hi
    have at_ : ∀ k, k < SetTable.runEnd mask i + 1 - i → (itA mask k (runP mask i pt)).j = i + k := fun k hk => by
      rw [run_in mask k _ (by show k ≤ SetTable.runEnd mask i - i; omega)]
      rfl
    have isn : ∀ k, k < SetTable.runEnd mask i + 1 - i → (((owner.getD (i + k) (some 0)).isNone = true ↔ owner[i + k]? = some none) ∧ ((owner.getD (i + k) (some 0)).isNone = false → Occ owner (i + k))) := fun k hk => by
      have hlt : i + k < owner.size := by omega
      rw [Array.getD_eq_getD_getElem?, Array.getElem?_eq_getElem hlt]
      cases e : owner[i + k] with
      | none => exact ⟨⟨fun _ => rfl, fun _ => rfl⟩, fun q => by simp at q⟩
      | some v => exact ⟨⟨fun q => by simp at q, fun q => by simp at q⟩, fun _ => ⟨v, by rw [Array.getElem?_eq_getElem hlt, e]⟩⟩
    unfold SetTable.layClean.free
    cases hf : (List.range (SetTable.runEnd mask i + 1 - i)).find? fun k => (owner.getD (i + k) (some 0)).isNone with
    | some k =>
      have hk := List.mem_range.mp (List.mem_of_find?_eq_some hf)
      have hp : (owner.getD (i + k) (some 0)).isNone = true := List.find?_some (p := fun k => (owner.getD (i + k) (some 0)).isNone) hf
      refine ⟨i + k, k, rfl, by omega, (isn k hk).1.mp hp, at_ k hk, fun k' hk' => ?_⟩
      rw [at_ k' (by omega)]
      refine (isn k' (by omega)).2 ?_
      rw [List.find?_range_eq_some] at hf
      have := hf.2.2 k' hk'
      simpa using this
    | none =>
      dsimp only
      have hall : ∀ k, k < SetTable.runEnd mask i + 1 - i → Occ owner (i + k) := fun k hk => by
        refine (isn k hk).2 ?_
        exact (Bool.not_eq_true _).mp (List.find?_eq_none.mp hf k (List.mem_range.mpr hk))
      have hr0 : r ≠ 0 := fun q => by
        subst q
        obtain ⟨v, ev⟩ := hall 0 (by omega)
        rw [show i + 0 = i from rfl] at ev
        rw [show (leapN mask 0 (i, pt)).1 = i from rfl, ev] at er
        cases er
      have hi' : (SetTable.leap mask i pt).1 ≤ mask := by
        show (i * 5 + 1 + pt / 32) % (mask + 1) ≤ mask
        have := Nat.mod_lt (i * 5 + 1 + pt / 32) (show 0 < mask + 1 by omega)
        omega
      obtain ⟨j, k, q1, q2, q3, q4, q5⟩ := free_ok hsz fuel (SetTable.leap mask i pt).1 (SetTable.leap mask i pt).2 hi' ⟨r - 1, by omega, by
        obtain ⟨r', rfl⟩ : ∃ r', r = r' + 1 := ⟨r - 1, by omega⟩
        exact er⟩
      have hn := run_next mask (SetTable.runEnd mask i - i) (runP mask i pt) rfl
      have hn : itA mask (SetTable.runEnd mask i - i + 1) (runP mask i pt) = runP mask (SetTable.leap mask i pt).1 (SetTable.leap mask i pt).2 := hn
      refine ⟨j, SetTable.runEnd mask i - i + 1 + k, q1, q2, q3, ?_, fun k' hk' => ?_⟩
      · rw [itA_add, hn]; exact q4
      · by_cases hc : k' < SetTable.runEnd mask i + 1 - i
        · rw [at_ k' hc]; exact hall k' hc
        · obtain ⟨k2, rfl⟩ : ∃ k2, k' = SetTable.runEnd mask i - i + 1 + k2 := ⟨k' - (SetTable.runEnd mask i - i + 1), by omega⟩
          rw [itA_add, hn]
          exact q5 k2 (by omega)
structure Laid (mask : Nat) (hashes : List Int) (owner : Array (Option Nat)) (m : Nat) : Prop where
  size : owner.size = mask + 1
  of : ∀ (j k : Nat), owner[j]? = some (some k) → k < m ∧ ∃ x, hashes[k]? = some x ∧ ∃ n, (itA mask n (pStart mask x)).j = j ∧ ∀ n', n' < n → Occ owner (itA mask n' (pStart mask x)).j
  has : ∀ k, k < m → ∃ j : Nat, owner[j]? = some (some k)
  one : ∀ (j j' k : Nat), owner[j]? = some (some k) → owner[j']? = some (some k) → j = j'
def occs (mask : Nat) (owner : Array (Option Nat)) : List (Nat × Nat) := (List.range (mask + 1)).filterMap fun j => (owner.getD j none).map (j, ·)
theorem occs_mem {mask : Nat} {owner : Array (Option Nat)} (hs : owner.size = mask + 1) {j k : Nat} : (j, k) ∈ occs mask owner ↔ owner[j]? = some (some k) := by
  unfold occs
  rw [List.mem_filterMap]
  constructor
  · rintro ⟨a, ha, e⟩
    obtain ⟨b, hb, e2⟩ := Option.map_eq_some_iff.mp e
    cases e2
    have hlt : j < owner.size := by have := List.mem_range.mp ha; omega
    rw [Array.getD_eq_getD_getElem?, Array.getElem?_eq_getElem hlt] at hb
    rw [Array.getElem?_eq_getElem hlt]
    exact congrArg some hb
  · intro e
    have hlt := (Array.getElem?_eq_some_iff.mp e).1
    refine ⟨j, List.mem_range.mpr (by omega), ?_⟩
    rw [Array.getD_eq_getD_getElem?, e]
    rfl
theorem occs_up (mask : Nat) (owner : Array (Option Nat)) : ((occs mask owner).map (·.1)).Pairwise (· < ·) := by
  unfold occs
  rw [List.pairwise_map, List.pairwise_filterMap]
  refine List.pairwise_lt_range.imp fun {a b} hab => ?_
  intro x hx y hy
  obtain ⟨_, _, rfl⟩ := Option.map_eq_some_iff.mp hx
  obtain ⟨_, _, rfl⟩ := Option.map_eq_some_iff.mp hy
  exact hab
theorem Laid.order {mask : Nat} {hashes : List Int} {owner : Array (Option Nat)} {m : Nat} (h : Laid mask hashes owner m) : ((occs mask owner).map (·.2)).Perm (List.range m) := by
  have hn : ((occs mask owner).map (·.2)).Nodup := by
    have hu := occs_up mask owner
    rw [List.pairwise_map] at hu
    refine List.pairwise_map.mpr (List.Pairwise.imp_of_mem ?_ hu)
    rintro ⟨j, k⟩ ⟨j', k'⟩ ha hb hlt e
    have e : k = k' := e
    subst e
    have hlt : j < j' := hlt
    have := h.one j j' k ((occs_mem h.size).mp ha) ((occs_mem h.size).mp hb)
    omega
  refine (List.perm_ext_iff_of_nodup hn List.nodup_range).mpr fun k => ⟨fun q => ?_, fun q => ?_⟩
  · obtain ⟨⟨j, k'⟩, hm, rfl⟩ := List.mem_map.mp q
    exact List.mem_range.mpr (h.of j k' ((occs_mem h.size).mp hm)).1
  · obtain ⟨j, ej⟩ := h.has k (List.mem_range.mp q)
    exact List.mem_map.mpr ⟨(j, k), (occs_mem h.size).mpr ej, rfl⟩
theorem Laid.len {mask : Nat} {hashes : List Int} {owner : Array (Option Nat)} {m : Nat} (h : Laid mask hashes owner m) : (occs mask owner).length = m := by
  have := h.order.length_eq
  rw [List.length_map, List.length_range] at this
  exact this
theorem Laid.step {mask : Nat} (hm : GoodMask mask) {hashes : List Int} {owner : Array (Option Nat)} {m : Nat} (h : Laid mask hashes owner m) {x : Int} (hx : hashes[m]? = some x) (hl : m ≤ mask) :
    ∃ j, SetTable.layClean.free mask owner (SetTable.turns mask) (SetTable.bits x % (mask + 1)) (SetTable.bits x) = some j ∧ Laid mask hashes (owner.setIfInBounds j (some m)) (m + 1) := by
  obtain ⟨e, he, hn⟩ : ∃ e, e ≤ mask ∧ owner[e]? = some none := by
    by_cases q : ∃ e, e ≤ mask ∧ owner[e]? = some none
    · exact q
    · exfalso
      have all : ∀ e ∈ List.range (mask + 1), e ∈ (occs mask owner).map (·.1) := fun e he => by
        have hlt : e < owner.size := by have := List.mem_range.mp he; have := h.size; omega
        cases ee : owner[e] with
        | none => exact absurd ⟨e, by have := List.mem_range.mp he; omega, by rw [Array.getElem?_eq_getElem hlt, ee]⟩ q
        | some k => exact List.mem_map.mpr ⟨(e, k), (occs_mem h.size).mpr (by rw [Array.getElem?_eq_getElem hlt, ee]), rfl⟩
      have := nd_len_le List.nodup_range all
      rw [List.length_range, List.length_map, h.len] at this
      omega
  have hi : SetTable.bits x % (mask + 1) ≤ mask := by have := Nat.mod_lt (SetTable.bits x) (show 0 < mask + 1 by omega); omega
  have h13 : (leapN mask 13 (SetTable.bits x % (mask + 1), SetTable.bits x)).2 = 0 := by
    rw [leapN_perturb]
    refine Nat.div_eq_of_lt ?_
    have := bits_lt x
    show SetTable.bits x < 32 ^ 13
    omega
  obtain ⟨m0, hm0, e0⟩ := lcg_all hm (leapN_lt mask 13 (SetTable.bits x % (mask + 1), SetTable.bits x) hi) he
  have er : (leapN mask (13 + m0) (SetTable.bits x % (mask + 1), SetTable.bits x)).1 = e := by
    rw [leapN_add, show leapN mask 13 (SetTable.bits x % (mask + 1), SetTable.bits x) = ((leapN mask 13 (SetTable.bits x % (mask + 1), SetTable.bits x)).1, 0) from Prod.ext rfl h13, leap_lcg, e0]
  obtain ⟨j, k, q1, q2, q3, q4, q5⟩ := free_ok h.size (SetTable.turns mask) _ _ hi ⟨13 + m0, by unfold SetTable.turns; omega, by rw [er]; exact hn⟩
  refine ⟨j, q1, ?_⟩
  have hj : j < owner.size := by have := h.size; omega
  have new : (owner.setIfInBounds j (some m))[j]? = some (some m) := by simp [hj]
  have old : ∀ i, i ≠ j → (owner.setIfInBounds j (some m))[i]? = owner[i]? := fun i hi => by rw [Array.getElem?_setIfInBounds_ne (Ne.symm hi)]
  have oc : ∀ i, Occ owner i → Occ (owner.setIfInBounds j (some m)) i := fun i ⟨k, ek⟩ => by
    by_cases q : i = j
    · rw [q]; exact ⟨m, new⟩
    · exact ⟨k, by rw [old i q]; exact ek⟩
  refine ⟨by simp [h.size], fun i k' ek => ?_, fun k' hk => ?_, fun i i' k' e1 e2 => ?_⟩
  · by_cases q : i = j
    · subst q
      rw [new] at ek
      cases ek
      exact ⟨Nat.lt_succ_self _, x, hx, k, q4, fun n' hn' => oc _ (q5 n' hn')⟩
    · rw [old i q] at ek
      obtain ⟨a1, y, a2, n, a3, a4⟩ := h.of i k' ek
      exact ⟨by omega, y, a2, n, a3, fun n' hn' => oc _ (a4 n' hn')⟩
  · by_cases q : k' = m
    · subst q; exact ⟨j, new⟩
    · obtain ⟨i, ei⟩ := h.has k' (by omega)
      have : i ≠ j := fun z => by subst z; rw [q3] at ei; cases ei
      exact ⟨i, by rw [old i this]; exact ei⟩
  · by_cases q : i = j
    · by_cases q' : i' = j
      · omega
      · subst q
        rw [new] at e1
        cases e1
        rw [old i' q'] at e2
        have := (h.of i' m e2).1
        omega
    · by_cases q' : i' = j
      · subst q'
        rw [new] at e2
        cases e2
        rw [old i q] at e1
        have := (h.of i m e1).1
        omega
      · rw [old i q] at e1
        rw [old i' q'] at e2
        exact h.one i i' k' e1 e2
theorem lay_fold {mask : Nat} (hm : GoodMask mask) {hashes : List Int} (hl : hashes.length ≤ mask + 1) : ∀ (left done : List Int) (owner : Array (Option Nat)), hashes = done ++ left → Laid mask hashes owner done.length →
    ∃ owner', left.foldl (fun acc h => do
      let (owner, k) ← acc
      let j ← SetTable.layClean.free mask owner (SetTable.turns mask) (SetTable.bits h % (mask + 1)) (SetTable.bits h)
      pure (owner.setIfInBounds j (some k), k + 1)) (some (owner, done.length)) = some (owner', hashes.length) ∧ Laid mask hashes owner' hashes.length
  | [], done, owner, e, h => by
    rw [List.append_nil] at e
    subst e
    exact ⟨owner, rfl, h⟩
  | x :: left, done, owner, e, h => by
    have hx : hashes[done.length]? = some x := by rw [e, List.getElem?_append_right (Nat.le_refl _), Nat.sub_self]; rfl
    have hlt := (List.getElem?_eq_some_iff.mp hx).1
    obtain ⟨j, q1, q2⟩ := h.step hm hx (by omega)
    have e2 : hashes = (done ++ [x]) ++ left := by rw [e]; simp
    have ed : (done ++ [x]).length = done.length + 1 := by simp
    obtain ⟨o', q3, q4⟩ := lay_fold hm hl left (done ++ [x]) _ e2 (by rw [ed]; exact q2)
    refine ⟨o', ?_, q4⟩
    rw [ed] at q3
    rw [List.foldl_cons]
    rw [show ((do
      let (owner, k) ← (some (owner, done.length) : Option (Array (Option Nat) × Nat))
      let j ← SetTable.layClean.free mask owner (SetTable.turns mask) (SetTable.bits x % (mask + 1)) (SetTable.bits x)
      pure (owner.setIfInBounds j (some k), k + 1)) : Option (Array (Option Nat) × Nat)) = some (owner.setIfInBounds j (some done.length), done.length + 1) from by
        show (SetTable.layClean.free mask owner (SetTable.turns mask) (SetTable.bits x % (mask + 1)) (SetTable.bits x) >>= _) = _
        rw [q1]
        rfl]
    exact q3
theorem layClean_ok {mask : Nat} (hm : GoodMask mask) {hashes : Array Int} (hl : hashes.size ≤ mask + 1) : ∃ owner, SetTable.layClean mask hashes = some owner ∧ Laid mask hashes.toList owner hashes.size := by
  have h0 : Laid mask hashes.toList (Array.replicate (mask + 1) none) ([] : List Int).length := by
    have no : ∀ (j k : Nat), (Array.replicate (mask + 1) (none : Option Nat))[j]? ≠ some (some k) := fun j k e => by
      rw [Array.getElem?_replicate] at e
      split at e <;> cases e
    exact ⟨by simp, fun j k e => absurd e (no j k), fun k hk => absurd hk (by simp), fun j j' k e => absurd e (no j k)⟩
  obtain ⟨o', q1, q2⟩ := lay_fold hm (hashes := hashes.toList) (by simpa using hl) hashes.toList [] _ rfl h0
  refine ⟨o', ?_, by simpa using q2⟩
  unfold SetTable.layClean
  rw [← Array.foldl_toList]
  have q1' := congrArg (Option.map (fun x : Array (Option Nat) × Nat => x.1)) q1
  exact q1'
end L3
set_option Elab.async false
set_option linter.all false
set_option maxRecDepth 100000
namespace L3
open PySem
def ins {α : Type} (p : Nat) (x : α) (l : List α) : List α := l.take p ++ x :: l.drop p
theorem ins_list {α : Type} (xs : Array α) (p : Nat) (x : α) (hp : p ≤ xs.size) : (SetTable.insertAt xs p x).toList = ins p x xs.toList := by
  unfold SetTable.insertAt ins
  have e : List.take (xs.size - p) (List.drop p xs.toList) = List.drop p xs.toList := List.take_of_length_le (by simp)
  simp [hp, e]
theorem ins_mem {α : Type} {p : Nat} {x y : α} {l : List α} : y ∈ ins p x l ↔ y = x ∨ y ∈ l := by
  unfold ins
  rw [List.mem_append, List.mem_cons]
  constructor
  · rintro (h | h | h)
    · exact .inr (List.mem_of_mem_take h)
    · exact .inl h
    · exact .inr (List.mem_of_mem_drop h)
  · rintro (h | h)
    · exact .inr (.inl h)
    · rw [← List.take_append_drop p l] at h
      rcases List.mem_append.mp h with h | h
      · exact .inl h
      · exact .inr (.inr h)
theorem ins_len {α : Type} (p : Nat) (x : α) (l : List α) : (ins p x l).length = l.length + 1 := by
  unfold ins
  have h : (l.take p ++ l.drop p).length = l.length := by rw [List.take_append_drop]
  rw [List.length_append] at h
  rw [List.length_append, List.length_cons]
  omega
theorem ins_perm {α : Type} (p : Nat) (x : α) (l : List α) : (ins p x l).Perm (x :: l) := by
  unfold ins
  have h : (x :: (l.take p ++ l.drop p)).Perm (l.take p ++ x :: l.drop p) := List.perm_middle.symm
  rw [List.take_append_drop] at h
  exact h.symm
theorem ins_zip {α β : Type} {p : Nat} {x : α} {y : β} {l : List α} {m : List β} (hl : p ≤ l.length) (h : l.length = m.length) : (ins p x l).zip (ins p y m) = ins p (x, y) (l.zip m) := by
  unfold ins
  rw [List.zip_append (by rw [List.length_take, List.length_take]; omega), List.zip_cons_cons]
  have e : l.zip m = (l.take p).zip (m.take p) ++ (l.drop p).zip (m.drop p) := by
    rw [← List.zip_append (by rw [List.length_take, List.length_take]; omega), List.take_append_drop, List.take_append_drop]
  have el : ((l.take p).zip (m.take p)).length = p := by rw [List.length_zip, List.length_take, List.length_take]; omega
  rw [e, List.take_left' el, List.drop_left' el]
theorem ins_map {α β : Type} (p : Nat) (x : α) (l : List α) (f : α → β) : (ins p x l).map f = ins p (f x) (l.map f) := by
  unfold ins
  rw [List.map_append, List.map_cons, List.map_take, List.map_drop]
structure TOk (t : SetTable) (hs : List Int) : Prop where
  shape : TShape t
  len : t.place.size = hs.length
  comes : ∀ q ∈ hs.zip t.place.toList, Comes t.mask t.place.toList q.1 q.2
structure TPut (t : SetTable) (hs : List Int) : Prop where
  mask : GoodMask t.mask
  rise : t.place.toList.Pairwise (· < ·)
  le : ∀ j ∈ t.place.toList, j ≤ t.mask
  dum : t.dummies = #[]
  len : t.place.size = hs.length
  comes : ∀ q ∈ hs.zip t.place.toList, Comes t.mask t.place.toList q.1 q.2
theorem put_ok {t : SetTable} {hs : List Int} (h : TOk t hs) {x : Int} {j : Nat} (hj : j ∉ t.place.toList) (hm : j ≤ t.mask) (hc : Comes t.mask t.place.toList x j) :
    ∃ p, p ≤ t.place.size ∧ t.put j = ((t.put j).1, p) ∧ TPut (t.put j).1 (ins p x hs) ∧ (t.put j).1.mask = t.mask ∧ (t.put j).1.led = t.led ∧ (t.put j).1.plain = t.plain ∧ (t.put j).1.place.size = t.place.size + 1 := by
  obtain ⟨b1, b2, b3⟩ := below_ok h.shape.rise j
  have ep : (t.put j).1.place.toList = ins (SetTable.below t.place j) j t.place.toList := ins_list _ _ _ b1
  have ed : (t.put j).1.dummies = #[] := by
    show (if SetTable.has t.dummies j = true then _ else t.dummies) = _
    rw [h.shape.dum]
    rfl
  have hlen : hs.length = t.place.toList.length := by rw [← h.len]; simp
  refine ⟨SetTable.below t.place j, b1, rfl, ⟨h.shape.mask, ?_, fun a ha => ?_, ed, ?_, fun q hq => ?_⟩, rfl, rfl, rfl, ?_⟩
  · rw [ep]
    unfold ins
    have r := h.shape.rise
    rw [← List.take_append_drop (SetTable.below t.place j) t.place.toList] at r
    obtain ⟨r1, r2, r3⟩ := List.pairwise_append.mp r
    have lo : ∀ a ∈ t.place.toList.take (SetTable.below t.place j), a < j := fun a ha => by
      obtain ⟨i, hi, ei⟩ := List.mem_iff_getElem.mp ha
      rw [List.length_take] at hi
      rw [List.getElem_take] at ei
      exact b2 i a (by omega) (Array.getElem?_eq_some_iff.mpr ⟨by rw [Array.length_toList] at hi; omega, by simpa using ei⟩)
    have hi : ∀ a ∈ t.place.toList.drop (SetTable.below t.place j), j < a := fun a ha => by
      obtain ⟨i, hi, ei⟩ := List.mem_iff_getElem.mp ha
      rw [List.length_drop] at hi
      rw [List.getElem_drop] at ei
      have hle := b3 (SetTable.below t.place j + i) a (by omega) (Array.getElem?_eq_some_iff.mpr ⟨by rw [Array.length_toList] at hi; omega, by simpa using ei⟩)
      have : a ≠ j := fun e => hj (by rw [← e]; exact List.mem_of_mem_drop ha)
      omega
    refine List.pairwise_append.mpr ⟨r1, List.pairwise_cons.mpr ⟨hi, r2⟩, fun a ha b hb => ?_⟩
    rcases List.mem_cons.mp hb with rfl | hb
    · exact lo a ha
    · exact r3 a ha b hb
  · rw [ep, ins_mem] at ha
    rcases ha with rfl | ha
    · exact hm
    · exact h.shape.le a ha
  · rw [← Array.length_toList, ep, ins_len, ins_len, hlen]
  · rw [ep, ins_zip (by rw [hlen, Array.length_toList]; exact b1) hlen, ins_mem] at hq
    show Comes t.mask (t.put j).1.place.toList q.1 q.2
    rw [ep]
    have mono : ∀ a ∈ t.place.toList, a ∈ ins (SetTable.below t.place j) j t.place.toList := fun a ha => ins_mem.mpr (.inr ha)
    rcases hq with rfl | hq
    · exact hc.mono mono
    · exact (h.comes q hq).mono mono
  · rw [← Array.length_toList, ep, ins_len, Array.length_toList]
theorem TPut.ok {t : SetTable} {hs : List Int} (h : TPut t hs) (hl : t.place.size * 5 < t.mask * 3) : TOk t hs := ⟨⟨h.mask, h.rise, h.le, h.dum, hl⟩, h.len, h.comes⟩
theorem fill_eq {t : SetTable} (hd : t.dummies = #[]) : t.fill = t.place.size := by unfold SetTable.fill; rw [hd]; rfl
theorem tooFull_eq {t : SetTable} (hd : t.dummies = #[]) : t.tooFull = decide (t.mask * 3 ≤ t.place.size * 5) := by unfold SetTable.tooFull; rw [fill_eq hd]
theorem laid_ok {t : SetTable} {hashes : Array Int} (hm : (t.mask = 7 ∧ hashes.size = 5) ∨ (t.mask = 31 ∧ hashes.size = 19)) :
    ∃ t' order, t.relaid hashes (SetTable.grown hashes.size) = some (t', order) ∧ order.toList.Perm (List.range hashes.size) ∧ TOk t' (order.toList.map fun k => hashes.getD k 0) ∧ t'.led = t.led ∧ t'.plain = t.plain ∧ t'.place.size * 5 < t'.mask * 3 := by
  have e : SetTable.sizeAbove (SetTable.grown hashes.size) - 1 = 31 ∧ hashes.size = 5 ∨ SetTable.sizeAbove (SetTable.grown hashes.size) - 1 = 127 ∧ hashes.size = 19 := by
    rcases hm with ⟨_, e⟩ | ⟨_, e⟩
    · left; rw [e]; exact ⟨by decide +kernel, rfl⟩
    · right; rw [e]; exact ⟨by decide +kernel, rfl⟩
  generalize em : SetTable.sizeAbove (SetTable.grown hashes.size) - 1 = mask at e
  have gm : GoodMask mask := by rcases e with ⟨e, _⟩ | ⟨e, _⟩; exact .inr (.inl e); exact .inr (.inr e)
  have hl : hashes.size ≤ mask + 1 := by omega
  obtain ⟨owner, q1, L⟩ := layClean_ok gm hl
  have hlen := L.len
  refine ⟨{ mask, place := ((occs mask owner).map (·.1)).toArray, dummies := #[], finger := t.finger, led := t.led, moves := t.movedTo mask, plain := t.plain }, ((occs mask owner).map (·.2)).toArray, ?_, by simpa using L.order, ⟨⟨gm, by simpa using occs_up mask owner, fun j hj => ?_, rfl, ?_⟩, ?_, fun q hq => ?_⟩, rfl, rfl, ?_⟩
  · unfold SetTable.relaid SetTable.laid
    rw [em, q1]
    rfl
  · have hj : j ∈ (occs mask owner).map (·.1) := by simpa using hj
    obtain ⟨⟨a, k⟩, ha, rfl⟩ := List.mem_map.mp hj
    have := (Array.getElem?_eq_some_iff.mp ((occs_mem L.size).mp ha)).1
    have := L.size
    show a ≤ mask
    omega
  · show ((occs mask owner).map (·.1)).toArray.size * 5 < mask * 3
    rw [List.size_toArray, List.length_map, hlen]
    omega
  · show ((occs mask owner).map (·.1)).toArray.size = _
    simp
  · have e2 : (((occs mask owner).map (·.2)).toArray.toList.map fun k => hashes.getD k 0).zip ((occs mask owner).map (·.1)).toArray.toList = (occs mask owner).map fun p => (hashes.getD p.2 0, p.1) := by
      simp only [List.toList_toArray, List.map_map]
      rw [List.zip_map']
      rfl
    have hq : q ∈ (((occs mask owner).map (·.2)).toArray.toList.map fun k => hashes.getD k 0).zip ((occs mask owner).map (·.1)).toArray.toList := hq
    rw [e2] at hq
    obtain ⟨⟨j, k⟩, hjk, rfl⟩ := List.mem_map.mp hq
    obtain ⟨_, x, hx, n, h1, h2⟩ := L.of j k ((occs_mem L.size).mp hjk)
    have ex : hashes.getD k 0 = x := by
      rw [Array.getElem?_toList] at hx
      rw [Array.getD_eq_getD_getElem?, hx]
      rfl
    show Comes mask ((occs mask owner).map (·.1)).toArray.toList (hashes.getD k 0) j
    rw [ex]
    refine ⟨n, h1, fun n' hn' => ?_⟩
    obtain ⟨k', ek⟩ := h2 n' hn'
    simp only [List.toList_toArray]
    exact List.mem_map.mpr ⟨(_, k'), (occs_mem L.size).mpr ek, rfl⟩
  · show ((occs mask owner).map (·.1)).toArray.size * 5 < mask * 3
    rw [List.size_toArray, List.length_map, hlen]
    omega
theorem fresh_ok (led : Bool) : TOk (SetTable.fresh 0 0 led) [] := ⟨⟨.inl rfl, List.Pairwise.nil, fun j hj => by simp [SetTable.fresh] at hj, rfl, by show 0 * 5 < 7 * 3; decide⟩, rfl, fun q hq => by simp at hq⟩
end L3
set_option Elab.async false
set_option linter.all false
set_option maxRecDepth 100000
set_option maxHeartbeats 2000000
namespace L3
open PySem PySem.Spec PyProof.Rows
open PyProof.Rows.G (KeepsTups)
open PySem.SeqAt (EqAt)
@[reducible] def natOrd : KeyOrd where
  α := Nat
  blt a b := decide (a < b)
  irrefl a := by simp
  trans a b c h1 h2 := by simp only [decide_eq_true_eq] at *; omega
  negTrans a b c h := by simp only [decide_eq_true_eq] at *; omega
  total a b h1 h2 := by simp only [decide_eq_false_iff_not] at *; omega
def twoLt (O O' : KeyOrd) (a b : O.α × O'.α) : Bool := O.blt a.1 b.1 || (!O.blt b.1 a.1 && O'.blt a.2 b.2)
theorem two_true {O O' : KeyOrd} {a b : O.α × O'.α} : twoLt O O' a b = true ↔ O.blt a.1 b.1 = true ∨ (a.1 = b.1 ∧ O'.blt a.2 b.2 = true) := by
  unfold twoLt
  rw [Bool.or_eq_true, Bool.and_eq_true]
  constructor
  · rintro (h | ⟨h1, h2⟩)
    · exact .inl h
    · cases e : O.blt a.1 b.1 with
      | true => exact .inl rfl
      | false => exact .inr ⟨O.total _ _ e (by simpa using h1), h2⟩
  · rintro (h | ⟨h1, h2⟩)
    · exact .inl h
    · exact .inr ⟨by rw [h1, O.irrefl]; rfl, h2⟩
@[reducible] def pairOrd (O O' : KeyOrd) : KeyOrd where
  α := O.α × O'.α
  blt := twoLt O O'
  irrefl a := by unfold twoLt; rw [O.irrefl, O'.irrefl]; rfl
  trans a b c h1 h2 := by
    rw [two_true] at h1 h2 ⊢
    rcases h1 with h1 | ⟨e1, h1⟩
    · rcases h2 with h2 | ⟨e2, h2⟩
      · exact .inl (O.trans _ _ _ h1 h2)
      · exact .inl (by rw [← e2]; exact h1)
    · rcases h2 with h2 | ⟨e2, h2⟩
      · exact .inl (by rw [e1]; exact h2)
      · exact .inr ⟨e1.trans e2, O'.trans _ _ _ h1 h2⟩
  negTrans a b c h := by
    rw [two_true] at h
    rw [two_true, two_true]
    rcases h with h | ⟨e, h⟩
    · rcases O.negTrans _ b.1 _ h with q | q
      · exact .inl (.inl q)
      · exact .inr (.inl q)
    · cases q1 : O.blt a.1 b.1 with
      | true => exact .inl (.inl rfl)
      | false =>
        cases q2 : O.blt b.1 c.1 with
        | true => exact .inr (.inl rfl)
        | false =>
          rw [← e] at q2
          have e1 := O.total _ _ q1 q2
          rcases O'.negTrans _ b.2 _ h with r | r
          · exact .inl (.inr ⟨e1, r⟩)
          · exact .inr (.inr ⟨e1.symm.trans e, r⟩)
  total a b h1 h2 := by
    have n1 : ¬ twoLt O O' a b = true := by rw [h1]; simp
    have n2 : ¬ twoLt O O' b a = true := by rw [h2]; simp
    rw [two_true] at n1 n2
    have e1 : a.1 = b.1 := O.total _ _ (by cases q : O.blt a.1 b.1 with | true => exact absurd (.inl q) n1 | false => rfl) (by cases q : O.blt b.1 a.1 with | true => exact absurd (.inl q) n2 | false => rfl)
    have e2 : a.2 = b.2 := O'.total _ _ (by cases q : O'.blt a.2 b.2 with | true => exact absurd (.inr ⟨e1, q⟩) n1 | false => rfl) (by cases q : O'.blt b.2 a.2 with | true => exact absurd (.inr ⟨e1.symm, q⟩) n2 | false => rfl)
    exact Prod.ext e1 e2
def HashV (P : Program) (w : World) (h : Heap) (dep : Nat) (v : Value) (x : Int) (d : Nat) : Prop :=
  ∀ (A : Around) (E : Value → Shared → Prop) (s : Shared) (Q : Int → Shared → Prop), s.heap = h → A.units + dep < cLine → Q x { s with toks := s.toks + d } → wpAny (model P w) A (pyHash v) Q E s
def EqV (h : Heap) (dep : Nat) (u v : Value) (b : Bool) : Prop := ∀ (A : Around) (s : Shared), s.heap = h → A.units + dep < cLine → EqAt A s u v b
def LtV (P : Program) (w : World) (h : Heap) (dep : Nat) (u v : Value) (b : Bool) : Prop :=
  ∀ (A : Around) (E : Value → Shared → Prop) (s : Shared) (Q : Value → Shared → Prop), s.heap = h → A.units + dep < cLine → Q (.bool b) s → wpAny (model P w) A (richCompare .Lt u v) Q E s
structure CalmV (P : Program) (w : World) (h : Heap) (dep : Nat) (v : Value) : Prop where
  quiet : ∀ (n : Nat) (A : Around) (E : Value → Shared → Prop) (s : Shared) (Q : Bool → Shared → Prop), dep ≤ n → s.heap = h → Q true s → wpAny (model P w) A (eqIsQuiet n v) Q E s
  byVal : ∀ (n : Nat) (A : Around) (E : Value → Shared → Prop) (s : Shared) (Q : Bool → Shared → Prop), dep ≤ n → s.heap = h → Q true s → wpAny (model P w) A (hashByValue n v) Q E s
  plain : ∀ (n : Nat) (A : Around) (E : Value → Shared → Prop) (s : Shared) (Q : Bool → Shared → Prop), dep ≤ n → s.heap = h → Q false s → wpAny (model P w) A (ofAClassStatement n v) Q E s
section
variable {P : Program} {w : World} {h : Heap} {dep : Nat}
theorem hashV_int (i : Int) (t : Tok) : HashV P w h 0 (.int i t) (hashInt i) 1 := fun A E s Q _ _ q => wpAny_pyHash_int q
theorem eqV_int (i j : Int) (t u : Tok) : EqV h 0 (.int i t) (.int j u) (decide (i = j)) := fun A s _ _ => by
  have e : decide (i = j) = (i == j) := by by_cases q : i = j <;> simp [q]
  rw [e]
  exact EqAt.int_int i t j u
theorem ltV_int (i j : Int) (t u : Tok) : LtV P w h 0 (.int i t) (.int j u) (decide (i < j)) := fun A E s Q _ _ q => show wpAny (model P w) A (compareOp .Lt _ _) Q E s from PySem.P.lt_int q
theorem calmV_int (i : Int) (t : Tok) : CalmV P w h 0 (.int i t) where
  quiet n A E s Q _ _ q := by unfold eqIsQuiet; exact wpAny_pure q
  byVal n A E s Q _ _ q := by unfold hashByValue; exact wpAny_pure q
  plain n A E s Q _ _ q := by unfold ofAClassStatement; exact wpAny_pure q
end
end L3
namespace L3
open PySem PySem.Spec PyProof.Rows
open PyProof.Rows.G (KeepsTups)
open PySem.SeqAt (EqAt)
section
variable {P : Program} {w : World} {h : Heap} {dep : Nat}
def lexRes : List (Bool × Bool) → Bool → Bool
  | [], fin => fin
  | (e, l) :: r, fin => if e = true then lexRes r fin else l
theorem hashV_tup {a : Addr} {items : Array Value} {xs : List (Int × Nat)} (ht : h.IsTuple a items) (hi : Paired (fun (x : Int × Nat) v => HashV P w h dep v x.1 x.2) xs items.toList) :
    HashV P w h (dep + 1) (.ref a) (reduceHash (Builtin.Tuple.tupleHashOf (xs.map (·.1)))) ((xs.map (·.2)).sum + 1) := by
  intro A E s Q hs hu hq
  subst hs
  obtain ⟨o, ho, hc, n, hd⟩ := ht
  have hT : s.TypeIs (.ref a) "tuple" := ⟨o, ho, hc⟩
  unfold pyHash
  first | unfold pyHashByItsType | skip
  first | refine wpAny_bind (wpAny_cRoomFor_or (.inr (by omega)) ?_) | skip
  refine wpAny_bind (wpAny_specialOf hT PySem.F.slot_tuple_hash.lookup ?_)
  show wpAny _ _ (if (some (Value.builtin "tuple.__hash__") == some Value.none) = true then _ else _) Q E s
  rw [if_neg (by rw [beq_builtin_none]; exact Bool.false_ne_true)]
  refine wpAny_bind (wpAny_specialOf hT PySem.F.slot_tuple_hash.lookup ?_)
  show wpAny _ _ (callSpecialIfBoundUnlessNone? (.ref a) "__hash__" _ >>= _) Q E s
  refine wpAny_bind (wpAny_callSpecialIfBoundUnlessNone?_slot hT PySem.F.slot_tuple_hash (wpAny_call_entry PySem.F.slot_tuple_hash hT PySem.F.entry_tuple_hash ?_ (PySem.F.args_tuple_hash_1 _)))
  show wpAny _ _ (Builtin.Tuple.tupleItemsOf (.ref a) >>= _) _ _ s
  refine wpAny_bind (wpAny_tupleItemsOf ho hd (wpAny_bind ?_))
  rw [← Array.forIn_toList]
  refine wpAny_forIn_list _ (fun rest (b : Array Int) s' => ∃ done left, xs = done ++ left ∧ Paired (fun (x : Int × Nat) v => HashV P w s.heap dep v x.1 x.2) left rest ∧ b.toList = done.map (·.1) ∧ s' = { s with toks := s.toks + (done.map (·.2)).sum })
    _ ?_ ?_ _ _ ⟨[], xs, rfl, hi, rfl, rfl⟩
  · rintro x rest b s' ⟨done, left, rfl, hl, hb, rfl⟩
    cases hl with
    | @cons k _ ks' _ h1 hl' =>
      refine wpAny_bind (h1 _ _ _ _ rfl (by show A.units + 1 + dep < cLine; omega) ?_)
      have e : (done ++ k :: ks') = (done ++ [k]) ++ ks' := by simp
      have e2 : ({ s with toks := s.toks + (done.map (·.2)).sum + k.2 } : Shared) = { s with toks := s.toks + ((done ++ [k]).map (·.2)).sum } := by
        congr 1
        simp [Nat.add_assoc]
      first
        | exact wpAny_pure ⟨done ++ [k], ks', e, hl', by simp [hb], e2⟩
        | exact wpAny_bind (wpAny_pure (wpAny_pure ⟨done ++ [k], ks', e, hl', by simp [hb], e2⟩))
  · rintro b s' ⟨done, left, rfl, hl, hb, rfl⟩
    cases hl
    rw [List.append_nil] at hq
    show wpAny _ _ (retInt (Builtin.Tuple.tupleHashOf b.toList)) _ _ _
    rw [hb]
    refine wpAny_ret_mkInt ?_
    have e2 : ({ s with toks := s.toks + (done.map (·.2)).sum + 1 } : Shared) = { s with toks := s.toks + ((done.map (·.2)).sum + 1) } := by
      congr 1
    show wpAny _ _ (if (decide (-(2 : Int) ^ 63 ≤ Builtin.Tuple.tupleHashOf (done.map (·.1))) && decide (Builtin.Tuple.tupleHashOf (done.map (·.1)) < 2 ^ 63)) = true then _ else _) Q E _
    unfold reduceHash at hq
    by_cases hr : (decide (-(2 : Int) ^ 63 ≤ Builtin.Tuple.tupleHashOf (done.map (·.1))) && decide (Builtin.Tuple.tupleHashOf (done.map (·.1)) < 2 ^ 63)) = true
    · rw [if_pos hr]
      rw [if_pos hr] at hq
      exact wpAny_pure (by rw [← e2] at hq; exact hq)
    · rw [if_neg hr]
      rw [if_neg hr] at hq
      exact wpAny_bind (wpAny_rule (wpAny_pure (by rw [← e2] at hq; exact hq)))
inductive Pairs (P : Program) (w : World) (h : Heap) (dep : Nat) : List (Value × Value) → List (Bool × Bool) → Prop
  | nil : Pairs P w h dep [] []
  | cons {u v : Value} {e l : Bool} {r : List (Value × Value)} {q : List (Bool × Bool)} : EqV h dep u v e → (e = false → LtV P w h dep u v l) → Pairs P w h dep r q → Pairs P w h dep ((u, v) :: r) ((e, l) :: q)
theorem Pairs.eqs {zs : List (Value × Value)} {es : List (Bool × Bool)} (p : Pairs P w h dep zs es) : zs.length = es.length ∧ ∀ (j : Nat) (z : Value × Value), zs[j]? = some z → ∃ e l, es[j]? = some (e, l) ∧ EqV h dep z.1 z.2 e := by
  induction p with
  | nil => exact ⟨rfl, fun j z q => by simp at q⟩
  | @cons u v e l r q h1 h2 _ ih =>
    refine ⟨by simp [ih.1], fun j z hz => ?_⟩
    cases j with
    | zero => have hz : (u, v) = z := by simpa using hz
              subst hz; exact ⟨e, l, rfl, h1⟩
    | succ j => exact ih.2 j z (by simpa using hz)
theorem ltV_tup {a b : Addr} {items items2 : Array Value} {es : List (Bool × Bool)} (ha : h.IsTuple a items) (hb : h.IsTuple b items2) (hp : Pairs P w h dep (items.toList.zip items2.toList) es) :
    LtV P w h (dep + 1) (.ref a) (.ref b) (lexRes es (decide (items.size < items2.size))) := by
  intro A E s Q hs hu hq
  subst hs
  obtain ⟨oa, hoa, hca, na, hda⟩ := ha
  obtain ⟨ob, hob, hcb, nb, hdb⟩ := hb
  have hTa : s.TypeIs (.ref a) "tuple" := ⟨oa, hoa, hca⟩
  have hTb : s.TypeIs (.ref b) "tuple" := ⟨ob, hob, hcb⟩
  refine wpAny_richCompare_same_room (op := .Lt) hTa hTb PySem.F.slot_tuple_lt (wpAny_call_entry PySem.F.slot_tuple_lt hTa PySem.F.entry_tuple_lt ?_ (PySem.F.args_tuple_lt_2 _ _)) (by omega)
  show wpAny _ _ (isInstance (.ref b) (.type "tuple") >>= _) _ _ s
  refine wpAny_bind (wpAny_isInstance hTb isSubtype_tuple_tuple ?_)
  simp only [Bool.not_true, Bool.false_eq_true, if_false]
  refine wpAny_bind (wpAny_tupleItemsOf hoa hda (wpAny_bind (wpAny_tupleItemsOf hob hdb (wpAny_bind ?_))))
  refine wpAny_forIn_list _ (fun rest r s' => r.1 = none ∧ s' = s ∧ ∃ es', Pairs P w s.heap dep rest es' ∧ lexRes es' (decide (items.size < items2.size)) = lexRes es (decide (items.size < items2.size))) _ ?_ ?_ _ _ ⟨rfl, rfl, es, hp, rfl⟩
  · rintro ⟨u, v⟩ rest r s' ⟨hr, rfl, es', hp', e⟩
    cases hp' with
    | @cons _ _ e1 l1 _ q h1 h2 h3 =>
      refine wpAny_bind (h1 A.in1 s' rfl (by show A.units + 1 + dep < cLine; omega) P w _ _ ?_)
      cases e1 with
      | true =>
        simp only [Bool.not_true, Bool.false_eq_true, if_false]
        exact wpAny_pure ⟨rfl, rfl, q, h3, e⟩
      | false =>
        simp only [Bool.not_false, if_true]
        have e : l1 = lexRes es (decide (items.size < items2.size)) := e
        rw [← e] at hq
        refine wpAny_bind (wpAny_rule (wpAny_bind (h2 rfl A.in1 _ s' _ rfl (by show A.units + 1 + dep < cLine; omega) (wpAny_bind (wpAny_pure (wpAny_pure (wpAny_pure ?_)))))))
        exact ⟨_, rfl, (fun q => nomatch q), hq⟩
  · rintro ⟨r1, r2⟩ s' ⟨hr, rfl, es', hp', e⟩
    simp only at hr
    subst hr
    cases hp'
    have e : decide (items.size < items2.size) = lexRes es (decide (items.size < items2.size)) := e
    rw [← e] at hq
    exact wpAny_pure ⟨_, rfl, (fun q => nomatch q), hq⟩
theorem eqV_tup {a b : Addr} {items items2 : Array Value} {es : List (Bool × Bool)} (ha : h.IsTuple a items) (hb : h.IsTuple b items2) (hp : Pairs P w h dep (items.toList.zip items2.toList) es) (hsame : a = b → es.all (·.1) = true) :
    EqV h (dep + 1) (.ref a) (.ref b) (es.all (·.1) && items.size == items2.size) := by
  intro A s hs hu
  subst hs
  by_cases hab : a = b
  · subst hab
    have e : items = items2 := by
      obtain ⟨oa, hoa, hca, na, hda⟩ := ha
      obtain ⟨ob, hob, hcb, nb, hdb⟩ := hb
      rw [hoa] at hob
      cases hob
      rw [hda] at hdb
      injection hdb
    subst e
    rw [hsame rfl]
    simp only [beq_self_eq_true, Bool.and_true]
    exact EqAt.same _
  · refine EqAt.of_refs hab ?_
    obtain ⟨hl, he⟩ := hp.eqs
    have hz : (items.toList.zip items2.toList).length = min items.size items2.size := by simp
    have h1 := SeqAt.RcAt.tuples (A := A) (s := s) (e := fun j => (es.getD j (false, false)).1) ha hb (by omega) fun j h1 h2 => by
      have hj : (items.toList.zip items2.toList)[j]? = some (items[j], items2[j]) := by
        rw [List.getElem?_zip_eq_some]
        simp [h1, h2]
      obtain ⟨e, l, e1, e2⟩ := he j _ hj
      have e3 : (es.getD j (false, false)).1 = e := by rw [List.getD_eq_getElem?_getD, e1]; rfl
      show EqAt A.in1 s items[j] items2[j] (es.getD j (false, false)).1
      rw [e3]
      exact e2 A.in1 s rfl (by show A.units + 1 + dep < cLine; omega)
    have e5 : ((List.range (min items.size items2.size)).all fun j => (es.getD j (false, false)).1) = es.all (·.1) := by
      rw [← hz, hl]
      have : (List.range es.length).map (fun j => es.getD j (false, false)) = es := by
        refine List.ext_getElem? fun j => ?_
        by_cases hj : j < es.length
        · rw [List.getElem?_map, List.getElem?_range hj]
          simp [List.getD, hj]
        · rw [List.getElem?_eq_none (by simpa using hj), List.getElem?_eq_none (by omega)]
      conv => rhs; rw [← this]
      rw [List.all_map]
      rfl
    rw [e5] at h1
    exact h1
theorem calmV_tup {a : Addr} {items : Array Value} (ht : h.IsTuple a items) (hi : ∀ v ∈ items.toList, CalmV P w h dep v) : CalmV P w h (dep + 1) (.ref a) := by
  obtain ⟨o, ho, hc, n, hd⟩ := ht
  refine ⟨fun m A E s Q hm hs q => ?_, fun m A E s Q hm hs q => ?_, fun m A E s Q hm hs q => ?_⟩
  · subst hs
    have hT : s.TypeIs (.ref a) "tuple" := ⟨o, ho, hc⟩
    obtain ⟨m, rfl⟩ : ∃ k, m = k + 1 := ⟨m - 1, by omega⟩
    unfold eqIsQuiet
    refine wpAny_bind (wpAny_specialOf hT PySem.F.slot_tuple_eq.lookup ?_)
    show wpAny _ _ (isInstance (.ref a) (.type "tuple") >>= _) _ _ s
    refine wpAny_bind (wpAny_isInstance hT isSubtype_tuple_tuple ?_)
    simp only [Bool.not_true, Bool.false_eq_true, if_false]
    refine wpAny_bind (wpAny_seqItems ho hd (wpAny_bind ?_))
    show wpAny _ _ (forIn items _ _) _ _ s
    rw [← Array.forIn_toList]
    refine wpAny_forIn_list _ (fun rest r s' => r.1 = none ∧ s' = s ∧ ∀ v ∈ rest, CalmV P w s.heap dep v) _ ?_ ?_ _ _ ⟨rfl, rfl, hi⟩
    · rintro v rest r s' ⟨hr, rfl, hall⟩
      refine wpAny_bind ((hall v List.mem_cons_self).quiet m _ _ _ _ (by omega) rfl ?_)
      simp only [Bool.not_true, Bool.false_eq_true, if_false]
      exact wpAny_pure ⟨rfl, rfl, fun u hu' => hall u (List.mem_cons_of_mem _ hu')⟩
    · rintro ⟨r1, r2⟩ s' ⟨hr, rfl, _⟩
      simp only at hr
      subst hr
      exact wpAny_pure q
  · subst hs
    have hT : s.TypeIs (.ref a) "tuple" := ⟨o, ho, hc⟩
    obtain ⟨m, rfl⟩ : ∃ k, m = k + 1 := ⟨m - 1, by omega⟩
    unfold hashByValue
    refine wpAny_bind (wpAny_specialOf hT PySem.F.slot_tuple_hash.lookup ?_)
    dsimp only
    refine wpAny_bind (wpAny_seqItems ho hd (wpAny_bind ?_))
    show wpAny _ _ (forIn items _ _) _ _ s
    rw [← Array.forIn_toList]
    refine wpAny_forIn_list _ (fun rest r s' => r.1 = none ∧ s' = s ∧ ∀ v ∈ rest, CalmV P w s.heap dep v) _ ?_ ?_ _ _ ⟨rfl, rfl, hi⟩
    · rintro v rest r s' ⟨hr, rfl, hall⟩
      refine wpAny_bind ((hall v List.mem_cons_self).byVal m _ _ _ _ (by omega) rfl ?_)
      simp only [Bool.not_true, Bool.false_eq_true, if_false]
      exact wpAny_pure ⟨rfl, rfl, fun u hu' => hall u (List.mem_cons_of_mem _ hu')⟩
    · rintro ⟨r1, r2⟩ s' ⟨hr, rfl, _⟩
      simp only at hr
      subst hr
      exact wpAny_pure q
  · subst hs
    have hT : s.TypeIs (.ref a) "tuple" := ⟨o, ho, hc⟩
    obtain ⟨m, rfl⟩ : ∃ k, m = k + 1 := ⟨m - 1, by omega⟩
    unfold ofAClassStatement
    refine wpAny_bind (wpAny_typeOf hT ?_)
    dsimp only
    simp only [beq_self_eq_true, if_true]
    refine wpAny_bind (wpAny_pure ?_)
    simp only [Bool.not_true, Bool.false_eq_true, if_false]
    refine wpAny_bind (wpAny_seqItems ho hd ?_)
    dsimp only
    refine wpAny_bind ?_
    show wpAny _ _ (forIn items _ _) _ _ s
    rw [← Array.forIn_toList]
    refine wpAny_forIn_list _ (fun rest r s' => r.1 = none ∧ s' = s ∧ ∀ v ∈ rest, CalmV P w s.heap dep v) _ ?_ ?_ _ _ ⟨rfl, rfl, hi⟩
    · rintro v rest r s' ⟨hr, rfl, hall⟩
      refine wpAny_bind ((hall v List.mem_cons_self).plain m _ _ _ _ (by omega) rfl ?_)
      simp only [Bool.false_eq_true, if_false]
      exact wpAny_pure ⟨rfl, rfl, fun u hu' => hall u (List.mem_cons_of_mem _ hu')⟩
    · rintro ⟨r1, r2⟩ s' ⟨hr, rfl, _⟩
      simp only at hr
      subst hr
      exact wpAny_pure q
end
end L3
set_option Elab.async false
set_option linter.all false
set_option maxRecDepth 100000
set_option maxHeartbeats 2000000
namespace L3
open PySem PySem.Spec PyProof.Rows
open PySem.SeqAt (EqAt)
def KeepT (h h' : Heap) : Prop := ∀ b o xs n, h.get? b = some o → o.cls = .type "tuple" → o.data = .seq xs n → h'.get? b = some o
theorem KeepT.all {h h' : Heap} (k : ∀ b o, h.get? b = some o → h'.get? b = some o) : KeepT h h' := fun b o _ _ e _ _ => k b o e
theorem KeepT.but {h h' : Heap} {a : Addr} {oa : Obj} (k : ∀ b o, b ≠ a → h.get? b = some o → h'.get? b = some o) (ha : h.get? a = some oa) (hc : oa.cls ≠ .type "tuple") : KeepT h h' := fun b o _ _ e c _ => by
  by_cases q : b = a
  · subst q; rw [ha] at e; cases e; exact absurd c hc
  · exact k b o q e
theorem KeepT.butD {h h' : Heap} {a : Addr} {oa : Obj} (k : ∀ b o, b ≠ a → h.get? b = some o → h'.get? b = some o) (ha : h.get? a = some oa) (hc : ∀ xs n, oa.data ≠ .seq xs n) : KeepT h h' := fun b o xs n e _ d => by
  by_cases q : b = a
  · subst q; rw [ha] at e; cases e; exact absurd d (hc xs n)
  · exact k b o q e
theorem KeepT.tuple {h h' : Heap} (k : KeepT h h') {a : Addr} {items : Array Value} (t : h.IsTuple a items) : h'.IsTuple a items := let ⟨o, e, c, n, d⟩ := t; ⟨o, k a o items n e c d, c, n, d⟩
structure VKd (P : Program) (w : World) (O : KeyOrd) [DecidableEq O.α] where
  is : Heap → O.α → Value → Prop
  hash : O.α → Int
  draws : O.α → Nat
  dep : Nat
  inj : ∀ {h : Heap} {x y : O.α} {v : Value}, is h x v → is h y v → x = y
  keeps : ∀ {h h' : Heap} {x : O.α} {v : Value}, KeepT h h' → is h x v → is h' x v
  hashV : ∀ {h : Heap} {x : O.α} {v : Value}, is h x v → HashV P w h dep v (hash x) (draws x)
  eqV : ∀ {h : Heap} {x y : O.α} {u v : Value}, is h x u → is h y v → EqV h dep u v (decide (x = y))
  ltV : ∀ {h : Heap} {x y : O.α} {u v : Value}, is h x u → is h y v → LtV P w h dep u v (O.blt x y)
  calm : ∀ {h : Heap} {x : O.α} {v : Value}, is h x v → CalmV P w h dep v
section
variable {P : Program} {w : World} {h : Heap} {dep dep' : Nat}
theorem HashV.more {v : Value} {x : Int} {d : Nat} (q : HashV P w h dep v x d) (l : dep ≤ dep') : HashV P w h dep' v x d := fun A E s Q hs hu => q A E s Q hs (by omega)
theorem EqV.more {u v : Value} {b : Bool} (q : EqV h dep u v b) (l : dep ≤ dep') : EqV h dep' u v b := fun A s hs hu => q A s hs (by omega)
theorem LtV.more {u v : Value} {b : Bool} (q : LtV P w h dep u v b) (l : dep ≤ dep') : LtV P w h dep' u v b := fun A E s Q hs hu => q A E s Q hs (by omega)
theorem CalmV.more {v : Value} (q : CalmV P w h dep v) (l : dep ≤ dep') : CalmV P w h dep' v :=
  ⟨fun n A E s Q hn => q.quiet n A E s Q (by omega), fun n A E s Q hn => q.byVal n A E s Q (by omega), fun n A E s Q hn => q.plain n A E s Q (by omega)⟩
end
instance : DecidableEq natOrd.α := inferInstanceAs (DecidableEq Nat)
instance {O : KeyOrd} [DecidableEq O.α] : DecidableEq (PyProof.Rows.listOrd O).α := inferInstanceAs (DecidableEq (List O.α))
instance {O O' : KeyOrd} [DecidableEq O.α] [DecidableEq O'.α] : DecidableEq (pairOrd O O').α := inferInstanceAs (DecidableEq (O.α × O'.α))
def natV (P : Program) (w : World) : VKd P w natOrd where
  is _ k v := ∃ t, v = .int (k : Nat) t
  hash k := hashInt ((k : Nat) : Int)
  draws _ := 1
  dep := 0
  inj := fun ⟨t, e⟩ ⟨t', e'⟩ => by
    rw [e] at e'
    injection e' with e'
    exact Int.ofNat_inj.mp e'
  keeps := fun _ x => x
  hashV := fun ⟨t, e⟩ => by rw [e]; exact hashV_int _ _
  eqV := fun {h x y u v} ⟨t, e⟩ ⟨t', e'⟩ => by
    rw [e, e']
    have q : decide (x = y) = decide (((x : Nat) : Int) = ((y : Nat) : Int)) := by
      by_cases z : (x : Nat) = y
      · rw [decide_eq_true z, decide_eq_true (by rw [z])]
      · rw [decide_eq_false z, decide_eq_false (fun r => z (Int.ofNat_inj.mp r))]
    rw [q]
    exact eqV_int _ _ _ _
  ltV := fun {h x y u v} ⟨t, e⟩ ⟨t', e'⟩ => by
    rw [e, e']
    have q : natOrd.blt x y = decide (((x : Nat) : Int) < ((y : Nat) : Int)) := by
      show decide ((x : Nat) < y) = _
      by_cases z : (x : Nat) < y
      · rw [decide_eq_true z, decide_eq_true (Int.ofNat_lt.mpr z)]
      · rw [decide_eq_false z, decide_eq_false (fun r => z (Int.ofNat_lt.mp r))]
    rw [q]
    exact ltV_int _ _ _ _
  calm := fun ⟨t, e⟩ => by rw [e]; exact calmV_int _ _
section
variable {P : Program} {w : World} {O O' : KeyOrd} [DecidableEq O.α] [DecidableEq O'.α]
theorem pairs_of (V : VKd P w O) {h : Heap} : ∀ {x y : List O.α} {us vs : List Value}, Paired (V.is h) x us → Paired (V.is h) y vs → Pairs P w h V.dep (us.zip vs) (List.zipWith (fun a b => (decide (a = b), O.blt a b)) x y)
  | _, _, _, _, .nil, _ => by simp; exact .nil
  | _, _, _, _, .cons _ _, .nil => by simp; exact .nil
  | _, _, _, _, .cons a r, .cons b t => by
    rw [List.zip_cons_cons, List.zipWith_cons_cons]
    exact .cons (V.eqV a b) (fun _ => V.ltV a b) (pairs_of V r t)
theorem lexRes_zip : ∀ (x y : List O.α), lexRes (List.zipWith (fun a b => (decide (a = b), O.blt a b)) x y) (decide (x.length < y.length)) = PyProof.Rows.lexLt O x y
  | [], [] => rfl
  | [], _ :: _ => by simp [lexRes, PyProof.Rows.lexLt]
  | _ :: _, [] => by simp [lexRes, PyProof.Rows.lexLt]
  | a :: x, b :: y => by
    rw [List.zipWith_cons_cons]
    show (if decide (a = b) = true then _ else O.blt a b) = _
    by_cases e : a = b
    · subst e
      rw [if_pos (by simp), PyProof.Rows.lex_self, ← lexRes_zip x y]
      simp
    · rw [if_neg (by simpa using e), PyProof.Rows.lex_diff e]
theorem all_zip : ∀ (x y : List O.α), ((List.zipWith (fun a b => (decide (a = b), O.blt a b)) x y).all (·.1) && x.length == y.length) = decide (x = y)
  | [], [] => rfl
  | [], _ :: _ => by simp
  | _ :: _, [] => by simp
  | a :: x, b :: y => by
    have ih := all_zip x y
    rw [List.zipWith_cons_cons, List.all_cons]
    by_cases e : a = b
    · subst e
      simp only [decide_true, Bool.true_and, List.length_cons, List.cons.injEq, true_and]
      rw [← ih]
      simp
    · simp [e]
theorem paired_len {α β : Type} {F : α → β → Prop} : ∀ {l : List α} {m : List β}, Paired F l m → l.length = m.length
  | _, _, .nil => rfl
  | _, _, .cons _ r => by simp [paired_len r]
theorem paired_mono {α β : Type} {F G : α → β → Prop} (f : ∀ a b, F a b → G a b) : ∀ {l : List α} {m : List β}, Paired F l m → Paired G l m
  | _, _, .nil => .nil
  | _, _, .cons a r => .cons (f _ _ a) (paired_mono f r)
theorem paired_map {α β γ : Type} {F : α → β → Prop} (g : γ → α) : ∀ {l : List γ} {m : List β}, Paired (fun c b => F (g c) b) l m → Paired F (l.map g) m
  | _, _, .nil => .nil
  | _, _, .cons a r => .cons a (paired_map g r)
theorem paired_right {α β : Type} {F : α → β → Prop} : ∀ {l : List α} {m : List β}, Paired F l m → ∀ b ∈ m, ∃ a ∈ l, F a b
  | _, _, .nil, b, h => by simp at h
  | _, _, .cons a r, b, h => by
    rcases List.mem_cons.mp h with rfl | h
    · exact ⟨_, List.mem_cons_self, a⟩
    · obtain ⟨c, h1, h2⟩ := paired_right r b h
      exact ⟨c, List.mem_cons_of_mem _ h1, h2⟩
theorem paired_inj {α β : Type} {F : α → β → Prop} (inj : ∀ a a' b, F a b → F a' b → a = a') : ∀ {l l' : List α} {m : List β}, Paired F l m → Paired F l' m → l = l'
  | _, _, _, .nil, .nil => rfl
  | _, _, _, .cons a r, .cons b t => by rw [inj _ _ _ a b, paired_inj inj r t]
def tupV (V : VKd P w O) : VKd P w (PyProof.Rows.listOrd O) where
  is h ks v := ∃ a items, v = .ref a ∧ h.IsTuple a items ∧ Paired (V.is h) ks items.toList
  hash ks := reduceHash (Builtin.Tuple.tupleHashOf (ks.map V.hash))
  draws ks := (ks.map V.draws).sum + 1
  dep := V.dep + 1
  inj := fun {h x y v} ⟨a, items, e, t, p⟩ ⟨a', items', e', t', p'⟩ => by
    rw [e] at e'
    cases e'
    obtain ⟨o, h1, _, n, h2⟩ := t
    obtain ⟨o', h1', _, n', h2'⟩ := t'
    rw [h1] at h1'
    cases h1'
    rw [h2] at h2'
    injection h2' with h3
    rw [← h3] at p'
    exact paired_inj (F := V.is h) (fun _ _ _ a b => V.inj a b) p p'
  keeps := fun k ⟨a, items, e, t, p⟩ => ⟨a, items, e, k.tuple t, paired_mono (fun _ _ q => V.keeps k q) p⟩
  hashV := fun {h x v} ⟨a, items, e, t, p⟩ => by
    rw [e]
    have q := hashV_tup (P := P) (w := w) (dep := V.dep) (xs := x.map fun k => (V.hash k, V.draws k)) t (paired_map _ (paired_mono (fun _ _ q => V.hashV q) p))
    rw [List.map_map, List.map_map] at q
    exact q
  eqV := fun {h x y u v} ⟨a, items, e, t, p⟩ ⟨a', items', e', t', p'⟩ => by
    rw [e, e']
    have q := eqV_tup t t' (pairs_of V p p') fun z => by
      subst z
      obtain ⟨o, h1, _, n, h2⟩ := t
      obtain ⟨o', h1', _, n', h2'⟩ := t'
      rw [h1] at h1'
      cases h1'
      rw [h2] at h2'
      injection h2' with h3
      rw [← h3] at p'
      rw [paired_inj (F := V.is h) (fun _ _ _ a b => V.inj a b) p p']
      have := all_zip (O := O) y y
      rw [decide_eq_true rfl, Bool.and_eq_true] at this
      exact this.1
    have l1 : List.length x = items.size := (paired_len p).trans Array.length_toList
    have l2 : List.length y = items'.size := (paired_len p').trans Array.length_toList
    rw [← l1, ← l2, all_zip] at q
    exact q
  ltV := fun {h x y u v} ⟨a, items, e, t, p⟩ ⟨a', items', e', t', p'⟩ => by
    rw [e, e']
    have q := ltV_tup t t' (pairs_of V p p')
    have l1 : List.length x = items.size := (paired_len p).trans Array.length_toList
    have l2 : List.length y = items'.size := (paired_len p').trans Array.length_toList
    rw [← l1, ← l2, lexRes_zip] at q
    exact q
  calm := fun {h x v} ⟨a, items, e, t, p⟩ => by
    rw [e]
    refine calmV_tup t fun u hu => ?_
    obtain ⟨k, _, hk⟩ := paired_right p u hu
    exact V.calm hk
def pairV (V : VKd P w O) (V' : VKd P w O') : VKd P w (pairOrd O O') where
  is h k v := ∃ a u u', v = .ref a ∧ h.IsTuple a #[u, u'] ∧ V.is h k.1 u ∧ V'.is h k.2 u'
  hash k := reduceHash (Builtin.Tuple.tupleHashOf [V.hash k.1, V'.hash k.2])
  draws k := V.draws k.1 + V'.draws k.2 + 1
  dep := max V.dep V'.dep + 1
  inj := fun {h x y v} ⟨a, u, u', e, t, p, q⟩ ⟨a2, z, z', e', t', p', q'⟩ => by
    rw [e] at e'
    cases e'
    obtain ⟨o, h1, _, n, h2⟩ := t
    obtain ⟨o', h1', _, n', h2'⟩ := t'
    rw [h1] at h1'
    cases h1'
    rw [h2] at h2'
    injection h2' with h3
    have h4 := congrArg Array.toList h3
    simp only [List.cons.injEq, and_true] at h4
    rw [← h4.1] at p'
    rw [← h4.2] at q'
    exact Prod.ext (V.inj p p') (V'.inj q q')
  keeps := fun k ⟨a, u, u', e, t, p, q⟩ => ⟨a, u, u', e, k.tuple t, V.keeps k p, V'.keeps k q⟩
  hashV := fun {h x v} ⟨a, u, u', e, t, p, q⟩ => by
    rw [e]
    have z := hashV_tup (P := P) (w := w) (dep := max V.dep V'.dep) (xs := [(V.hash x.1, V.draws x.1), (V'.hash x.2, V'.draws x.2)]) t (.cons ((V.hashV p).more (Nat.le_max_left _ _)) (.cons ((V'.hashV q).more (Nat.le_max_right _ _)) .nil))
    have e2 : ([(V.hash x.1, V.draws x.1), (V'.hash x.2, V'.draws x.2)].map (·.2)).sum + 1 = V.draws x.1 + V'.draws x.2 + 1 := by simp
    rw [e2] at z
    exact z
  eqV := fun {h x y v v'} ⟨a, u, u', e, t, p, q⟩ ⟨a2, z, z', e', t', p', q'⟩ => by
    rw [e, e']
    have r := eqV_tup (P := P) (w := w) (dep := max V.dep V'.dep) (es := [(decide (x.1 = y.1), O.blt x.1 y.1), (decide (x.2 = y.2), O'.blt x.2 y.2)]) t t'
      (.cons ((V.eqV p p').more (Nat.le_max_left _ _)) (fun _ => (V.ltV p p').more (Nat.le_max_left _ _)) (.cons ((V'.eqV q q').more (Nat.le_max_right _ _)) (fun _ => (V'.ltV q q').more (Nat.le_max_right _ _)) .nil)) fun w => by
        subst w
        obtain ⟨o, h1, _, n, h2⟩ := t
        obtain ⟨o', h1', _, n', h2'⟩ := t'
        rw [h1] at h1'
        cases h1'
        rw [h2] at h2'
        injection h2' with h3
        have h4 := congrArg Array.toList h3
        simp only [List.cons.injEq, and_true] at h4
        rw [← h4.1] at p'
        rw [← h4.2] at q'
        have e1 := V.inj p p'
        have e2 := V'.inj q q'
        simp [e1, e2]
    have e3 : (([(decide (x.1 = y.1), O.blt x.1 y.1), (decide (x.2 = y.2), O'.blt x.2 y.2)].all (·.1)) && (#[u, u'].size == #[z, z'].size)) = decide (x = y) := by
      by_cases a1 : x.1 = y.1
      · by_cases a2 : x.2 = y.2
        · rw [decide_eq_true (show x = y from Prod.ext a1 a2)]
          simp [a1, a2]
        · rw [decide_eq_false (show ¬ x = y from fun w => a2 (by rw [w]))]
          simp [a1, a2]
      · rw [decide_eq_false (show ¬ x = y from fun w => a1 (by rw [w]))]
        simp [a1]
    rw [e3] at r
    exact r
  ltV := fun {h x y v v'} ⟨a, u, u', e, t, p, q⟩ ⟨a2, z, z', e', t', p', q'⟩ => by
    rw [e, e']
    have r := ltV_tup (P := P) (w := w) (dep := max V.dep V'.dep) (es := [(decide (x.1 = y.1), O.blt x.1 y.1), (decide (x.2 = y.2), O'.blt x.2 y.2)]) t t'
      (.cons ((V.eqV p p').more (Nat.le_max_left _ _)) (fun _ => (V.ltV p p').more (Nat.le_max_left _ _)) (.cons ((V'.eqV q q').more (Nat.le_max_right _ _)) (fun _ => (V'.ltV q q').more (Nat.le_max_right _ _)) .nil))
    have e3 : lexRes [(decide (x.1 = y.1), O.blt x.1 y.1), (decide (x.2 = y.2), O'.blt x.2 y.2)] (decide (#[u, u'].size < #[z, z'].size)) = twoLt O O' x y := by
      unfold twoLt
      by_cases a1 : x.1 = y.1
      · by_cases a2 : x.2 = y.2
        · simp [lexRes, a1, a2, O.irrefl, O'.irrefl]
        · simp [lexRes, a1, a2, O.irrefl]
      · have : (O.blt x.1 y.1 || (!O.blt y.1 x.1 && O'.blt x.2 y.2)) = O.blt x.1 y.1 := by
          cases b1 : O.blt x.1 y.1 with
          | true => rfl
          | false =>
            cases b2 : O.blt y.1 x.1 with
            | true => rfl
            | false => exact absurd (O.total _ _ b1 b2) a1
        rw [this]
        simp [lexRes, a1]
    rw [e3] at r
    exact r
  calm := fun {h x v} ⟨a, u, u', e, t, p, q⟩ => by
    rw [e]
    refine calmV_tup t fun z hz => ?_
    simp only [List.mem_cons, List.not_mem_nil, or_false] at hz
    rcases hz with rfl | rfl
    · exact (V.calm p).more (Nat.le_max_left _ _)
    · exact (V'.calm q).more (Nat.le_max_right _ _)
end
abbrev rowV (P : Program) (w : World) := tupV (natV P w)
abbrev rowsV (P : Program) (w : World) := tupV (rowV P w)
abbrev sgV (P : Program) (w : World) := pairV (natV P w) (rowsV P w)
abbrev sgOrd : KeyOrd := pairOrd natOrd (PyProof.Rows.listOrd (PyProof.Rows.listOrd natOrd))
end L3
set_option Elab.async false
set_option linter.all false
set_option maxRecDepth 100000
set_option maxHeartbeats 2000000
namespace L3
open PySem PySem.Spec PyProof.Rows
open PySem.SeqAt (EqAt)
section
variable {P : Program} {w : World} {O : KeyOrd} [DecidableEq O.α]
abbrev byT (w : World) : Bool := w.params.followText "set-order"
structure SetD (V : VKd P w O) (h : Heap) (es : Array (Int × Value)) (t : SetTable) (ks : List O.α) : Prop where
  tab : TOk t (es.toList.map (·.1))
  plain : t.plain = true
  led : t.led = !byT w
  keys : Paired (fun k (e : Int × Value) => V.is h k e.2 ∧ e.1 = V.hash k) ks es.toList
  nd : ks.Nodup
theorem SetD.size {V : VKd P w O} {h : Heap} {es : Array (Int × Value)} {t : SetTable} {ks : List O.α} (d : SetD V h es t ks) : t.place.size = es.size ∧ es.size = ks.length := by
  have h1 := d.tab.len
  have h2 := paired_len d.keys
  rw [List.length_map, Array.length_toList] at h1
  rw [Array.length_toList] at h2
  exact ⟨h1, h2.symm⟩
theorem SetD.fits {V : VKd P w O} {h : Heap} {es : Array (Int × Value)} {t : SetTable} {ks : List O.α} (d : SetD V h es t ks) : t.fits es.size = true := by
  unfold SetTable.fits
  rw [fill_eq d.tab.shape.dum, d.size.1]
  have := d.tab.shape.less
  rw [d.size.1] at this
  simp only [beq_self_eq_true, Bool.true_and, decide_eq_true_eq]
  omega
theorem SetD.heap {V : VKd P w O} {h h' : Heap} {es : Array (Int × Value)} {t : SetTable} {ks : List O.α} (d : SetD V h es t ks) (k : KeepT h h') : SetD V h' es t ks :=
  ⟨d.tab, d.plain, d.led, paired_mono (fun _ _ q => ⟨V.keeps k q.1, q.2⟩) d.keys, d.nd⟩
theorem paired_at {α β : Type} {F : α → β → Prop} : ∀ {l : List α} {m : List β} {i : Nat} {b : β}, Paired F l m → m[i]? = some b → ∃ a, l[i]? = some a ∧ F a b
  | _, _, i, b, .nil, h => by simp at h
  | _, _, 0, b, .cons a r, h => by simp at h; subst h; exact ⟨_, rfl, a⟩
  | _, _, i + 1, b, .cons a r, h => by
    obtain ⟨c, h1, h2⟩ := paired_at r (show _ from by simpa using h)
    exact ⟨c, by simpa using h1, h2⟩
theorem paired_at' {α β : Type} {F : α → β → Prop} : ∀ {l : List α} {m : List β} {i : Nat} {a : α}, Paired F l m → l[i]? = some a → ∃ b, m[i]? = some b ∧ F a b
  | _, _, i, b, .nil, h => by simp at h
  | _, _, 0, b, .cons a r, h => by simp at h; subst h; exact ⟨_, rfl, a⟩
  | _, _, i + 1, b, .cons a r, h => by
    obtain ⟨c, h1, h2⟩ := paired_at' r (show _ from by simpa using h)
    exact ⟨c, by simpa using h1, h2⟩
variable {A : Around} {E : Value → Shared → Prop} {s : Shared}
def Refs (V : VKd P w O) : Prop := ∀ (h : Heap) (k : O.α) (v : Value), V.is h k v → ∃ a, v = .ref a
theorem seen_no (V : VKd P w O) (R : Refs V) (hd : V.dep ≤ 8) {x : Value} {k : O.α} (hx : V.is s.heap k x) {Q : Bool → Shared → Prop} (hq : Q false s) : ∀ (ys : List Value), (∀ y ∈ ys, ∃ k, V.is s.heap k y) → wpAny (model P w) A (searchCouldBeSeen x ys) Q E s := by
  intro ys hys
  unfold searchCouldBeSeen
  refine wpAny_bind ?_
  refine wpAny_forIn_list _ (fun rest r s' => r.1 = none ∧ s' = s ∧ ∀ y ∈ rest, ∃ k, V.is s.heap k y) _ ?_ ?_ _ _ ⟨rfl, rfl, hys⟩
  · rintro y rest r s' ⟨hr, rfl, hall⟩
    obtain ⟨ky, hy⟩ := hall y List.mem_cons_self
    have rest' : ∀ y ∈ rest, ∃ k, V.is s'.heap k y := fun u hu => hall u (List.mem_cons_of_mem _ hu)
    obtain ⟨ax, rfl⟩ := R _ _ _ hx
    obtain ⟨ay, rfl⟩ := R _ _ _ hy
    dsimp only
    refine wpAny_ite_split (fun _ => ?_) (fun _ => ?_)
    · exact wpAny_pure ⟨rfl, rfl, rest'⟩
    · refine wpAny_bind ((V.calm hx).quiet 8 _ _ _ _ hd rfl ?_)
      simp only [Bool.not_true, Bool.false_eq_true, if_false]
      refine wpAny_bind ((V.calm hy).quiet 8 _ _ _ _ hd rfl ?_)
      simp only [Bool.not_true, Bool.false_eq_true, if_false]
      refine wpAny_bind ((V.calm hx).plain 8 _ _ _ _ hd rfl ?_)
      simp only [Bool.false_eq_true, if_false]
      refine wpAny_bind ((V.calm hy).plain 8 _ _ _ _ hd rfl ?_)
      simp only [Bool.false_eq_true, if_false]
      exact wpAny_pure ⟨rfl, rfl, rest'⟩
  · rintro ⟨r1, r2⟩ s' ⟨hr, rfl, _⟩
    simp only at hr
    subst hr
    exact wpAny_pure hq
theorem same_ok {V : VKd P w O} (R : Refs V) {k : O.α} {y : Value} (hy : V.is s.heap k y) {Q : Bool → Shared → Prop} (hq : Q true s) : wpAny (model P w) A (isSame y y) Q E s := by
  obtain ⟨a, rfl⟩ := R _ _ _ hy
  exact wpAny_isSame_ref_self hq
theorem odd_mask {mask : Nat} (h : GoodMask mask) : (mask % 2 == 0) = false := by rcases h with rfl | rfl | rfl <;> decide
theorem first_empty {t : SetTable} (h : TShape t) (x : Int) : ∃ M, M < 10 * SetTable.turns t.mask ∧ (itA t.mask M (pStart t.mask x)).j ∉ t.place.toList ∧ ∀ m, m < M → (itA t.mask m (pStart t.mask x)).j ∈ t.place.toList := by
  obtain ⟨e, he, hn⟩ := has_empty h
  obtain ⟨m, hm, em⟩ := (start_stand t x).meets h.mask he
  rw [start_eq] at em
  have : ∀ n, n ≤ m → (itA t.mask n (pStart t.mask x)).j ∉ t.place.toList → ∃ M, M ≤ n ∧ (itA t.mask M (pStart t.mask x)).j ∉ t.place.toList ∧ ∀ m, m < M → (itA t.mask m (pStart t.mask x)).j ∈ t.place.toList := by
    intro n
    induction n using Nat.strongRecOn with
    | ind n ih =>
      intro hnm hne
      by_cases q : ∃ k, k < n ∧ (itA t.mask k (pStart t.mask x)).j ∉ t.place.toList
      · obtain ⟨k, hk, hk2⟩ := q
        obtain ⟨M, a, b, c⟩ := ih k hk (by omega) hk2
        exact ⟨M, by omega, b, c⟩
      · refine ⟨n, Nat.le_refl _, hne, fun k hk => ?_⟩
        by_cases z : (itA t.mask k (pStart t.mask x)).j ∈ t.place.toList
        · exact z
        · exact absurd ⟨k, hk, z⟩ q
  obtain ⟨M, a, b, c⟩ := this m (Nat.le_refl _) (by rw [em]; exact hn)
  exact ⟨M, by omega, b, c⟩
theorem search_ok (V : VKd P w O) (R : Refs V) (hd8 : V.dep ≤ 8) (hu : A.units + V.dep < cLine) {a : Addr} {o : Obj} {es : Array (Int × Value)} {ep : Nat} {t : SetTable} {ks : List O.α} (ho : s.heap.get? a = some o) (hd : o.data = .set es ep t) (D : SetD V s.heap es t ks)
    {x : Value} {k : O.α} (hx : V.is s.heap k x) {M : Nat} (hM : (itA t.mask M (pStart t.mask (V.hash k))).j ∉ t.place.toList) (hlive : ∀ m, m < M → (itA t.mask m (pStart t.mask (V.hash k))).j ∈ t.place.toList) {Q : SetFound → Shared → Prop}
    (hin : k ∈ ks → Q (.there none) s) (hout : k ∉ ks → Q (.free (itA t.mask M (pStart t.mask (V.hash k))).j false) s) :
    ∀ (fuel k0 : Nat) (stand : Option Pb), k0 ≤ M → M - k0 < fuel → stand.getD (t.probeStart (V.hash k)) = itA t.mask k0 (pStart t.mask (V.hash k)) →
      (∀ (i j : Nat) (m : Nat), ks[i]? = some k → t.place[i]? = some j → (itA t.mask m (pStart t.mask (V.hash k))).j = j → m < M → k0 ≤ m) →
      wpAny (model P w) A (setSearchFrom a x (V.hash k) true fuel stand) Q E s
  | 0, _, _, _, h, _, _ => by omega
  | fuel + 1, k0, stand, hk0, hfu, hst, hb => by
    unfold setSearchFrom
    refine wpAny_bind (wpAny_setState_of ho hd D.fits ?_)
    dsimp only
    rw [show t.gaveWay = false from odd_mask D.tab.shape.mask]
    simp only [Bool.false_eq_true, if_false]
    have hs0 : Stand t.mask (pStart t.mask (V.hash k)) := start_stand t (V.hash k)
    obtain ⟨m, hm1, hm2⟩ := probe_ok D.tab.shape (fun i => (es[i]?.map (·.1)).getD 0) (V.hash k) (hs0.all k0)
    rw [hst]
    generalize hres : t.probe _ (V.hash k) (itA t.mask k0 (pStart t.mask (V.hash k))) = res
    have hsz := D.size
    have entry : ∀ i j : Nat, t.place[i]? = some j → ∃ ki y, es[i]? = some (V.hash ki, y) ∧ ks[i]? = some ki ∧ V.is s.heap ki y := fun i j ei => by
      have hi := (Array.getElem?_eq_some_iff.mp ei).1
      have e1 : es.toList[i]? = some es[i] := by rw [Array.getElem?_toList, Array.getElem?_eq_getElem (by omega)]
      obtain ⟨ki, q1, q2, q3⟩ := paired_at D.keys e1
      refine ⟨ki, es[i].2, ?_, q1, q2⟩
      rw [Array.getElem?_eq_getElem (by omega), ← q3]
    have at_ : ∀ n, itA t.mask n (itA t.mask k0 (pStart t.mask (V.hash k))) = itA t.mask (k0 + n) (pStart t.mask (V.hash k)) := fun n => (itA_add t.mask k0 n _).symm
    have hmM : k0 + m ≤ M := by
      by_cases q : k0 + m ≤ M
      · exact q
      · exfalso
        obtain ⟨i, ei, _⟩ := hm1 (M - k0) (by omega)
        rw [at_, show k0 + (M - k0) = M by omega] at ei
        exact hM (by obtain ⟨hh, e⟩ := Array.getElem?_eq_some_iff.mp ei; rw [← e]; simp)
    rcases hm2 with ⟨hn, e⟩ | ⟨i, ei, hhi, e⟩
    · have eM : k0 + m = M := by
        by_cases q : k0 + m < M
        · exact absurd (hlive _ q) (by rw [← at_]; exact hn)
        · omega
      have nk : k ∉ ks := fun hk => by
        obtain ⟨i, hi, ek⟩ := List.mem_iff_getElem.mp hk
        have ek : ks[i]? = some k := List.getElem?_eq_some_iff.mpr ⟨hi, ek⟩
        have hip : i < t.place.size := by omega
        have ej : t.place[i]? = some t.place[i] := Array.getElem?_eq_getElem hip
        obtain ⟨en, q1, q2, q3⟩ := paired_at' D.keys ek
        have hz : (en.1, t.place[i]) ∈ (es.toList.map (·.1)).zip t.place.toList := by
          refine List.mem_of_getElem? (i := i) ?_
          rw [List.getElem?_zip_eq_some]
          refine ⟨?_, ?_⟩
          · show (es.toList.map (·.1))[i]? = some en.1
            rw [List.getElem?_map, q1]
            rfl
          · rw [Array.getElem?_toList]
            exact ej
        obtain ⟨n, h1, h2⟩ : Comes t.mask t.place.toList en.1 t.place[i] := D.tab.comes _ hz
        rw [q3] at h1 h2
        have hnM : n < M := by
          by_cases q : n < M
          · exact q
          · exfalso
            by_cases q2 : n = M
            · subst q2
              rw [h1] at hM
              exact hM (by simp)
            · exact hM (h2 M (by omega))
        have hge := hb i _ n ek ej h1 hnM
        obtain ⟨i', ei', hne⟩ := hm1 (n - k0) (by omega)
        rw [at_, show k0 + (n - k0) = n by omega, h1] at ei'
        have : i' = i := by
          have r := D.tab.shape.rise
          have a1 := below_at r ei'
          have a2 := below_at r ej
          omega
        subst this
        apply hne
        have e1 : es[i']? = some en := by rw [← Array.getElem?_toList]; exact q1
        rw [e1, ← q3]
        rfl
      have hr := hres.symm.trans e
      subst hr
      dsimp only
      refine wpAny_pure ?_
      rw [at_, eM]
      exact hout nk
    · have hr := hres.symm.trans e
      subst hr
      dsimp only
      obtain ⟨ki, y, e1, e2, e3⟩ := entry i _ ei
      have eh : V.hash ki = V.hash k := by
        have : (es[i]?.map (·.1)).getD 0 = V.hash k := hhi
        rw [e1] at this
        exact this
      have hlt : k0 + m < M := by
        by_cases q : k0 + m < M
        · exact q
        · exfalso
          have : k0 + m = M := by omega
          rw [at_, this] at ei
          exact hM (by obtain ⟨hh, e⟩ := Array.getElem?_eq_some_iff.mp ei; rw [← e]; simp)
      have tail : wpAny (model P w) A (do
          let some (_, y) := es[i]? | unsupported "internal:set-entry"
          let equal ← holding [y] (eqBool y x)
          let (es', _, t') ← setState a
          if true && equal then return .there none
          let some same := t'.sameMemory t.moves t.mask | unsupported "set.changed-during-lookup:is-the-new-block-at-the-old-address"
          let still ← match (if same then t'.slot (itA t.mask m (itA t.mask k0 (pStart t.mask (V.hash k)))).j else .empty) with
            | .live i' => match es'[i']? with
              | some (_, y') => do pure (if ← isSame y' y then some i' else none)
              | none => pure none
            | _ => pure none
          match still with
          | none => rule "set.search.anew"; setSearchFrom a x (V.hash k) true fuel none
          | some i' => if equal then return .there (some i') else setSearchFrom a x (V.hash k) true fuel (some (itA t.mask (m + 1) (itA t.mask k0 (pStart t.mask (V.hash k)))))) Q E s := by
        rw [e1]
        dsimp only
        refine wpAny_bind (wpAny_holding (V.eqV e3 hx A s rfl hu P w _ _ ?_))
        refine wpAny_bind (wpAny_setState_of ho hd D.fits ?_)
        dsimp only
        by_cases hk : ki = k
        · rw [decide_eq_true hk]
          simp only [Bool.and_true, if_true]
          exact wpAny_pure (hin (by rw [← hk]; exact List.mem_of_getElem? e2))
        · rw [decide_eq_false hk]
          simp only [Bool.and_false, Bool.false_eq_true, if_false]
          rw [show t.sameMemory t.moves t.mask = some true from by unfold SetTable.sameMemory; rw [if_pos (beq_self_eq_true _)]]
          dsimp only
          rw [if_pos rfl, slot_live D.tab.shape ei]
          dsimp only
          rw [e1]
          dsimp only
          refine wpAny_bind (same_ok R e3 ?_)
          refine wpAny_bind (wpAny_pure ?_)
          simp only [if_true]
          refine search_ok V R hd8 hu ho hd D hx hM hlive hin hout fuel (k0 + m + 1) _ (by omega) (by omega) ?_ ?_
          · show itA t.mask (m + 1) (itA t.mask k0 (pStart t.mask (V.hash k))) = _
            rw [at_]
            rfl
          · intro i2 j2 m2 a1 a2 a3 a4
            have hge := hb i2 j2 m2 a1 a2 a3 a4
            by_cases q : k0 + m + 1 ≤ m2
            · exact q
            · exfalso
              by_cases q2 : m2 = k0 + m
              · subst q2
                rw [← at_] at a3
                rw [a3] at ei
                have r := D.tab.shape.rise
                have b1 := below_at r ei
                have b2 := below_at r a2
                have : i = i2 := by omega
                subst this
                rw [e2] at a1
                exact hk (Option.some.inj a1)
              · obtain ⟨i', ei', hne⟩ := hm1 (m2 - k0) (by omega)
                rw [at_, show k0 + (m2 - k0) = m2 by omega, a3] at ei'
                have r := D.tab.shape.rise
                have b1 := below_at r ei'
                have b2 := below_at r a2
                have : i' = i2 := by omega
                subst this
                obtain ⟨kk, yy, c1, c2, c3⟩ := entry i' _ a2
                rw [a1] at c2
                cases c2
                apply hne
                rw [c1]
                rfl
      cases hl : t.led with
      | true =>
        simp only [Bool.not_true, Bool.false_eq_true, if_false]
        exact tail
      | false =>
        simp only [Bool.not_false, if_true]
        refine wpAny_bind (seen_no V R hd8 hx ?_ _ fun y' hy' => ?_)
        · simp only [Bool.false_eq_true, if_false]
          exact tail
        · obtain ⟨en, hen, rfl⟩ := List.mem_map.mp hy'
          have hmem : en ∈ es.toList := by
            have := hen
            simp only [Array.toList_filter] at this
            exact (List.mem_filter.mp this).1
          obtain ⟨kk, _, hk2⟩ := paired_right D.keys en hmem
          exact ⟨kk, hk2.1⟩
theorem paired_ins {α β : Type} {F : α → β → Prop} {a : α} {b : β} (hab : F a b) : ∀ (p : Nat) {l : List α} {m : List β}, Paired F l m → Paired F (ins p a l) (ins p b m)
  | 0, _, _, h => .cons hab h
  | _ + 1, _, _, .nil => .cons hab .nil
  | p + 1, _, _, .cons x r => .cons x (paired_ins hab p r)
theorem filterMap_at (es : Array (Int × Value)) : ∀ (l : List Nat), (∀ i ∈ l, i < es.size) → l.filterMap (es[·]?) = l.map fun i => es.getD i (0, .none)
  | [], _ => rfl
  | i :: l, h => by
    have hi := h i List.mem_cons_self
    rw [List.filterMap_cons, Array.getElem?_eq_getElem hi, List.map_cons, filterMap_at es l fun j hj => h j (List.mem_cons_of_mem _ hj)]
    simp [Array.getD, hi]
theorem paired_order {α β γ : Type} {F : α → β → Prop} {f : γ → α} {g : γ → β} : ∀ {l : List γ}, (∀ i ∈ l, F (f i) (g i)) → Paired F (l.map f) (l.map g)
  | [], _ => .nil
  | i :: l, h => .cons (h i List.mem_cons_self) (paired_order fun j hj => h j (List.mem_cons_of_mem _ hj))
theorem addHashed_ok (V : VKd P w O) (R : Refs V) (hd8 : V.dep ≤ 8) (hu : A.units + V.dep < cLine) {a : Addr} {o : Obj} {es : Array (Int × Value)} {ep : Nat} {t : SetTable} {ks : List O.α} (ho : s.heap.get? a = some o) (hex : o.ExactSet) (hd : o.data = .set es ep t)
    {h0 : Heap} (k0 : KeepT h0 s.heap) (D0 : SetD V h0 es t ks) (hk40 : ks.length < 40) {x : Value} {k : O.α} (hx0 : V.is h0 k x) {Q : Bool → Shared → Prop}
    (h : ∀ (b : Bool) (h' : Heap) (o' : Obj) (es' : Array (Int × Value)) (ep' : Nat) (t' : SetTable) (ks' : List O.α), Heap.SameBut a s.heap h' → h'.get? a = some o' → o'.ExactSet → o'.data = .set es' ep' t' → SetD V h0 es' t' ks' → (if k ∈ ks then ks' = ks else ks'.Perm (k :: ks)) → Q b { s with heap := h' }) :
    wpAny (model P w) A (setAddHashed a x (V.hash k)) Q E s := by
  have D := D0.heap k0
  have hx := V.keeps k0 hx0
  obtain ⟨ax, rfl⟩ := R _ _ _ hx
  unfold setAddHashed setAddHashedIn
  refine wpAny_holding (wpAny_bind (wpAny_setState_of ho hd D.fits ?_))
  dsimp only
  rw [show byScan (.ref ax) es = false from rfl]
  simp only [Bool.false_eq_true, if_false]
  obtain ⟨M, hMl, hM, hlive⟩ := first_empty D.tab.shape (V.hash k)
  have hM5 : M < 100000 := by
    have : 10 * SetTable.turns t.mask ≤ 1420 := by
      unfold SetTable.turns
      rcases D.tab.shape.mask with e | e | e <;> rw [e] <;> decide
    omega
  have hcls : o.cls ≠ .type "tuple" := by rw [hex.1]; intro q; injection q with q; exact absurd q (by decide)
  unfold setSearch
  refine wpAny_bind (search_ok V R hd8 hu ho hd D hx hM hlive (fun hk => ?_) (fun hk => ?_) 100000 0 none (Nat.zero_le _) (by omega) (by rw [Option.getD_none, start_eq]; rfl) fun _ _ _ _ _ _ _ => Nat.zero_le _)
  · dsimp only
    refine wpAny_pure ?_
    have e : s = { s with heap := s.heap } := by cases s; rfl
    rw [e]
    exact h false s.heap o es ep t ks (Heap.SameBut.refl a s.heap) ho hex hd D0 (by rw [if_pos hk])
  · dsimp only
    refine wpAny_bind (wpAny_setState_of ho hd D.fits ?_)
    dsimp only
    have hst := (start_stand t (V.hash k)).all M
    rw [start_eq] at hst
    generalize ej : (itA t.mask M (pStart t.mask (V.hash k))).j = j at hM
    have hjm : j ≤ t.mask := by have := hst.jm; rw [ej] at this; omega
    obtain ⟨p, hp, ep2, tp, tm, tl, tpl, tsz⟩ := put_ok D.tab (x := V.hash k) hM hjm ⟨M, ej, hlive⟩
    rw [ep2]
    generalize et : (t.put j).1 = t1 at *
    dsimp only
    rw [tpl, D.plain]
    simp only [if_true]
    refine wpAny_bind ((V.calm hx).byVal 8 _ _ _ _ hd8 rfl ?_)
    simp only [if_true]
    have hsz := D.size
    have el : (SetTable.insertAt es p (V.hash k, Value.ref ax)).toList = ins p (V.hash k, Value.ref ax) es.toList := ins_list _ _ _ (by omega)
    have esz : (SetTable.insertAt es p (V.hash k, Value.ref ax)).size = es.size + 1 := by rw [← Array.length_toList, el, ins_len, Array.length_toList]
    have hle : (SetTable.insertAt es p (V.hash k, Value.ref ax)).size ≤ sizeLine := by rw [esz, sizeLine_eq]; omega
    refine wpAny_bind (wpAny_storeSet_of ho hd ?_ hle)
    have hg : (s.heap.update a (Obj.putSet (SetTable.insertAt es p (V.hash k, Value.ref ax)) t1)).get? a = some { o with data := .set (SetTable.insertAt es p (V.hash k, Value.ref ax)) (ep + 1) t1 } := by
      have := Heap.get?_update_self (Obj.putSet (SetTable.insertAt es p (V.hash k, Value.ref ax)) t1) ho (by rw [putSet_of _ _ hd]; rfl)
      rw [putSet_of _ _ hd] at this
      exact this
    have hsb := Heap.SameBut.update s.heap a (Obj.putSet (SetTable.insertAt es p (V.hash k, Value.ref ax)) t1)
    generalize hH : s.heap.update a (Obj.putSet (SetTable.insertAt es p (V.hash k, Value.ref ax)) t1) = h1 at *
    generalize hE : SetTable.insertAt es p (V.hash k, Value.ref ax) = es1 at *
    have hks : Paired (fun k' (e : Int × Value) => V.is h0 k' e.2 ∧ e.1 = V.hash k') (ins p k ks) es1.toList := by
      rw [el]
      exact paired_ins ⟨hx0, rfl⟩ p D0.keys
    have hnd : (ins p k ks).Nodup := (ins_perm p k ks).nodup_iff.mpr (List.nodup_cons.mpr ⟨hk, D.nd⟩)
    have ehs : es1.toList.map (·.1) = ins p (V.hash k) (es.toList.map (·.1)) := by rw [el, ins_map]
    rw [← ehs] at tp
    simp only [Bool.not_false, Bool.true_and]
    rw [tooFull_eq tp.dum]
    by_cases hfull : t1.mask * 3 ≤ t1.place.size * 5
    · rw [decide_eq_true hfull]
      simp only [if_true]
      have hless := D.tab.shape.less
      have hcase : (t1.mask = 7 ∧ es.size + 1 = 5) ∨ (t1.mask = 31 ∧ es.size + 1 = 19) := by
        rcases tp.mask with e | e | e
        · left; omega
        · right; omega
        · omega
      have hfit : t1.fits es1.size = true := by
        unfold SetTable.fits
        rw [fill_eq tp.dum, tsz, esz]
        simp only [hsz.1, beq_self_eq_true, Bool.true_and, decide_eq_true_eq]
        omega
      have hmap : (es1.map (·.1)).size = es.size + 1 := by rw [Array.size_map, esz]
      obtain ⟨t2, order, r1, r2, r3, r4, r5, r6⟩ := laid_ok (t := t1) (hashes := es1.map (·.1)) (by rw [hmap]; exact hcase)
      rw [hmap] at r1 r2
      refine wpAny_bind ?_
      unfold setRelay
      refine wpAny_bind (wpAny_setState_of hg rfl hfit ?_)
      dsimp only
      have hbig : ¬ SetTable.sizeAbove (SetTable.grown (es.size + 1)) > sizeLine := by
        rcases hcase with ⟨_, e⟩ | ⟨_, e⟩ <;> rw [e] <;> decide +kernel
      rw [if_neg hbig]
      refine wpAny_bind ?_
      show wpAny _ _ (do
        let some (t, order) := t1.relaid (es1.map (·.1)) (SetTable.grown (es.size + 1)) | unsupported "internal:set-table-without-room"
        let es' := order.filterMap (es1[·]?)
        if es'.size != es1.size then unsupported "internal:set-table-lost-an-element"
        pure (es', t)) _ _ _
      rw [r1]
      dsimp only
      have rm : ∀ i ∈ order.toList, i < es1.size := fun i hi => by
        have := List.mem_range.mp (r2.mem_iff.mp hi)
        omega
      have fm : (order.filterMap (es1[·]?)).toList = order.toList.map fun i => es1.getD i (0, .none) := by
        rw [Array.toList_filterMap]
        exact filterMap_at es1 order.toList rm
      have fsz : (order.filterMap (es1[·]?)).size = es1.size := by
        rw [← Array.length_toList, fm, List.length_map, r2.length_eq, List.length_range, esz]
      rw [fsz]
      simp only [bne_self_eq_false, Bool.false_eq_true, if_false]
      refine wpAny_pure ?_
      dsimp only
      generalize hE2 : order.filterMap (es1[·]?) = es2 at fm fsz
      refine wpAny_storeSet_of hg rfl ?_ (by rw [fsz, esz, sizeLine_eq]; omega)
      have hg2 : (h1.update a (Obj.putSet es2 t2)).get? a = some { o with data := .set es2 (ep + 1 + 1) t2 } := by
        have := Heap.get?_update_self (Obj.putSet es2 t2) hg (by rw [putSet_of _ _ rfl]; rfl)
        rw [putSet_of _ _ rfl] at this
        exact this
      have hsb2 := Heap.SameBut.update h1 a (Obj.putSet es2 t2)
      refine wpAny_pure (h true _ _ es2 _ t2 (order.toList.map fun i => (ins p k ks).getD i k) (hsb.trans hsb2) hg2 hex rfl ⟨?_, ?_, ?_, ?_, ?_⟩ ?_)
      · have : es2.toList.map (·.1) = order.toList.map fun i => (es1.map (·.1)).getD i 0 := by
          rw [fm, List.map_map]
          refine List.map_congr_left fun i hi => ?_
          have hlt := rm i hi
          simp [Array.getD, hlt]
        rw [this]
        exact r3
      · rw [r5, tpl, D.plain]
      · rw [r4, tl, D.led]
      · rw [fm]
        refine paired_order (fun i hi => ?_)
        have hlt := rm i hi
        have e1 : es1.toList[i]? = some (es1.getD i (0, .none)) := by
          rw [Array.getElem?_toList, Array.getElem?_eq_getElem hlt]
          simp [Array.getD, hlt]
        obtain ⟨k', q1, q2, q3⟩ := paired_at hks e1
        have : (ins p k ks).getD i k = k' := by rw [List.getD_eq_getElem?_getD, q1]; rfl
        rw [this]
        exact ⟨q2, q3⟩
      · have hp2 : (order.toList.map fun i => (ins p k ks).getD i k).Perm (ins p k ks) := by
          have : (List.range (es.size + 1)).map (fun i => (ins p k ks).getD i k) = ins p k ks := by
            rw [hsz.2, ← ins_len p k ks]
            refine List.ext_getElem? fun j => ?_
            by_cases hj : j < (ins p k ks).length
            · rw [List.getElem?_map, List.getElem?_range hj]
              simp [List.getD, hj]
            · rw [List.getElem?_eq_none (by simpa using hj), List.getElem?_eq_none (by omega)]
          have q := r2.map fun i => (ins p k ks).getD i k
          rw [this] at q
          exact q
        exact hp2.nodup_iff.mpr hnd
      · rw [if_neg hk]
        have hp2 : (order.toList.map fun i => (ins p k ks).getD i k).Perm (ins p k ks) := by
          have : (List.range (es.size + 1)).map (fun i => (ins p k ks).getD i k) = ins p k ks := by
            rw [hsz.2, ← ins_len p k ks]
            refine List.ext_getElem? fun j => ?_
            by_cases hj : j < (ins p k ks).length
            · rw [List.getElem?_map, List.getElem?_range hj]
              simp [List.getD, hj]
            · rw [List.getElem?_eq_none (by simpa using hj), List.getElem?_eq_none (by omega)]
          have q := r2.map fun i => (ins p k ks).getD i k
          rw [this] at q
          exact q
        exact hp2.trans (ins_perm p k ks)
    · rw [decide_eq_false hfull]
      simp only [Bool.false_eq_true, if_false]
      refine wpAny_pure (h true _ _ es1 _ t1 (ins p k ks) hsb hg hex rfl ⟨tp.ok (by omega), by rw [tpl, D.plain], by rw [tl, D.led], hks, hnd⟩ ?_)
      rw [if_neg hk]
      exact ins_perm p k ks
end
end L3
set_option Elab.async false
set_option linter.all false
set_option maxRecDepth 100000
set_option maxHeartbeats 4000000
namespace L3
open PySem PySem.Spec PyProof.Rows
section
variable {P : Program} {w : World} {O : KeyOrd} [DecidableEq O.α]
def SetAt (V : VKd P w O) (h0 h : Heap) (a : Addr) (ks : List O.α) : Prop := ∃ o es ep t, h.get? a = some o ∧ o.ExactSet ∧ o.data = .set es ep t ∧ SetD V h0 es t ks
theorem SetAt.heap {V : VKd P w O} {h0 h h' : Heap} {a : Addr} {ks : List O.α} (x : SetAt V h0 h a ks) (k : ∀ o, h.get? a = some o → h'.get? a = some o) : SetAt V h0 h' a ks :=
  let ⟨o, es, ep, t, h1, h2, h3, h4⟩ := x; ⟨o, es, ep, t, k o h1, h2, h3, h4⟩
theorem set_fresh (V : VKd P w O) (h0 h : Heap) : SetAt V h0 (h.push { cls := .type "set", dict := none, data := .set #[] 0 (.fresh 0 0 (!byT w)) }) h.objs.size [] :=
  ⟨_, #[], 0, _, Heap.get?_push_size _ rfl, ⟨rfl, rfl, rfl⟩, rfl, ⟨fresh_ok _, rfl, rfl, .nil, List.nodup_nil⟩⟩
variable {A : Around} {E : Value → Shared → Prop} {s : Shared}
theorem take_succ_mem {α : Type} {l : List α} {i : Nat} {a b : α} (h : l[i]? = some a) : b ∈ l.take (i + 1) ↔ b ∈ l.take i ∨ b = a := by
  rw [List.take_add_one, h, List.mem_append]
  simp
theorem update_loop (V : VKd P w O) (R : Refs V) (hd8 : V.dep ≤ 8) (hu : A.units + (V.dep + 1) < cLine) {I : Addr} {fp wr : List Addr} {G : Array GenState → Array GenState → Prop} {n : Nat} {Pd : Nat → Value → Prop} {St : Nat → Shared → Prop} {Rz : Result → Shared → Prop}
    (W : WalksS P w A.in1 I fp wr G n Pd St) (S : Addr) (hSf : S ∉ fp) (h0 : Heap) (hw : ∀ b ∈ S :: wr, h0.get? b = none) {kl : List O.α} (hn : kl.length = n) (hn40 : n ≤ 40) (hval : ∀ i v, Pd i v → ∃ k, kl[i]? = some k ∧ V.is h0 k v) :
    ∀ (m i : Nat) (s : Shared) (ks : List O.α), n - i = m → i ≤ n → St i s → (∀ b o, h0.get? b = some o → s.heap.get? b = some o) → SetAt V h0 s.heap S ks → (∀ k, k ∈ ks ↔ k ∈ kl.take i) → ks.length ≤ i →
      (∀ s' ks', Moved (S :: wr) G s s' → SetAt V h0 s'.heap S ks' → (∀ k, k ∈ ks' ↔ k ∈ kl) → Rz (.ok (.ret .none)) s') →
      codeAny (model P w) A (.builtin "set.update.loop" ⟨[.ref S, .ref I], []⟩) Rz s := by
  have hSw : S ∉ wr := fun q => hSf (W.sub _ q)
  have hsub : ∀ b ∈ wr, b ∈ S :: wr := fun b hb => List.mem_cons_of_mem _ hb
  intro m
  induction m with
  | zero =>
    intro i s ks hm hi hst hk0 hS hmem hlen hR
    have hin : i = n := by omega
    subst hin
    refine codeAny_builtin PyProof.Rows.F.entry_set_update_loop ?_
    rw [Around.under_plainId PyProof.Rows.F.plain_set_update_loop _]
    show wpAny _ A.in1 (pyNext (.ref I) >>= _) _ _ s
    refine wpAny_bind (W.done s _ _ hst fun s' hm => wpAny_pure ?_)
    exact hR s' ks (hm.mono hsub) (hS.heap fun o e => hm.heap S o hSw e) fun k => by rw [hmem k, ← hn, List.take_length]
  | succ m ih =>
    intro i s ks hm hi hst hk0 hS hmem hlen hR
    have hlt : i < n := by omega
    refine codeAny_builtin PyProof.Rows.F.entry_set_update_loop ?_
    rw [Around.under_plainId PyProof.Rows.F.plain_set_update_loop _]
    show wpAny _ A.in1 (pyNext (.ref I) >>= _) _ _ s
    refine wpAny_bind (W.item i s _ _ hlt hst fun v s' hP hst' hmv => ?_)
    obtain ⟨k, hk, hv⟩ := hval i v hP
    have hk1 : ∀ b o, h0.get? b = some o → s'.heap.get? b = some o := fun b o e => hmv.heap b o (fun q => by rw [hw b (hsub b q)] at e; cases e) (hk0 b o e)
    have kt : KeepT h0 s'.heap := KeepT.all hk1
    show wpAny _ A.in1 (holding [v] (setAdd S v) >>= _) _ _ s'
    refine wpAny_bind (wpAny_holding ?_)
    unfold setAdd
    refine wpAny_holding (wpAny_bind (V.hashV (V.keeps kt hv) _ _ _ _ rfl (by show A.units + 1 + V.dep < cLine; omega) ?_))
    obtain ⟨o, es, ep, t, ho, hex, hd, D⟩ := hS.heap fun o e => hmv.heap S o hSw e
    refine addHashed_ok (s := { s' with toks := s'.toks + V.draws k }) V R hd8 (by show A.units + 1 + V.dep < cLine; omega) ho hex hd kt D (by omega) hv fun b h' o' es' ep' t' ks' hsb ho' hex' hd' D' hks => ?_
    have hS' : SetAt V h0 h' S ks' := ⟨o', es', ep', t', ho', hex', hd', D'⟩
    have hmem' : ∀ k', k' ∈ ks' ↔ k' ∈ kl.take (i + 1) := fun k' => by
      rw [take_succ_mem hk, ← hmem k']
      by_cases q : k ∈ ks
      · rw [if_pos q] at hks
        rw [hks]
        exact ⟨.inl, fun z => z.elim id fun e => by rw [e]; exact q⟩
      · rw [if_neg q] at hks
        rw [hks.mem_iff, List.mem_cons]
        exact ⟨fun z => z.elim .inr .inl, fun z => z.elim .inr .inl⟩
    have hlen' : ks'.length ≤ i + 1 := by
      by_cases q : k ∈ ks
      · rw [if_pos q] at hks
        rw [hks]
        omega
      · rw [if_neg q] at hks
        have := hks.length_eq
        rw [List.length_cons] at this
        omega
    have hne : ∀ b ∈ fp, b ≠ S := fun b hb e => hSf (by rw [← e]; exact hb)
    refine wpAny_pure ⟨plainId_quiet PyProof.Rows.F.plain_set_update_loop _, ih (i + 1) _ ks' (by omega) hlt (W.frame _ s' h' (s'.toks + V.draws k) hst' (Nat.le_add_right _ _) fun b hb o e => (hsb.2 b (hne b hb)).trans e)
      (fun b o e => (hsb.2 b (fun q => by rw [q, hw S List.mem_cons_self] at e; cases e)).trans (hk1 b o e)) hS' hmem' hlen' fun s'' ks'' hm'' hS'' hk'' => ?_⟩
    refine hR s'' ks'' (Moved.trans W.gtrans ((hmv.mono hsub).then_heap (Nat.le_add_right _ _) fun b o hb e => ?_) hm'') hS'' hk''
    exact (hsb.2 b fun q => hb (by rw [q]; exact List.mem_cons_self)).trans e
theorem set_new {a : Value} {Q₁ : Value → Shared → Prop} (h : Q₁ (.ref s.heap.objs.size) { s with heap := s.heap.push { cls := .type "set", dict := none, data := .set #[] 0 (.fresh 0 0 (!byT w)) } }) :
    codeAny (model P w) A (.call (.builtin "set.__new__") ⟨[.type "set", a], []⟩) (wants Q₁ E) s := by
  refine codeAny_of_tree (?_ : wpAny _ A.in1 (do checkBuiltinCall "set.__new__" ⟨[.type "set", a], []⟩; again (.builtin "set.__new__" ⟨[.type "set", a], []⟩)) _ _ s)
  refine wpAny_bind (wpAny_of_eq (PySem.F.newCall_set_1 a) (wpAny_pure ⟨plainId_quiet PySem.F.plain_set_new _, codeAny_builtin PySem.F.entry_set_new ?_⟩))
  rw [Around.under_plainId PySem.F.plain_set_new _]
  unfold Builtin.«set.__new__» Builtin.Frozenset.newClass
  have hsub := sub_set_self
  obtain ⟨hp, g, d, tk, os⟩ := s
  dsimp only
  wp_walk
  refine wpAny_askSetting (wpAny_pure ?_)
  dsimp only
  simp only [newObj]
  exact wpAny_bind (wpAny_alloc (wpAny_pure (wpAny_pure h)))
theorem call_setV (V : VKd P w O) (R : Refs V) (hd8 : V.dep ≤ 8) (hu : A.units + (V.dep + 4) < cLine) {l : Addr} {items : Array Value} {kl : List O.α} {Q : Value → Shared → Prop} (hh : A.handled = none) (hl : s.heap.IsList l items) (hk : Paired (V.is s.heap) kl items.toList) (hn : items.size ≤ 40)
    (h : ∀ (h' : Heap) (tk : Nat) (ks : List O.α), SetAt V s.heap h' s.heap.objs.size ks → (∀ k, k ∈ ks ↔ k ∈ kl) → (∀ b o, b < s.heap.objs.size → s.heap.get? b = some o → h'.get? b = some o) → Q (.ref s.heap.objs.size) { s with heap := h', toks := tk }) :
    wpAny (model P w) A (call (.type "set") [.ref l]) Q E s := by
  obtain ⟨c, tl, hmro⟩ := PySem.F.called_set.mro
  have hmade := PySem.F.called_set.made
  have hsub := PySem.F.called_set.sub
  refine wpAny_call (codeAny_of_tree (?_ : wpAny _ _ (callAny (.type "set") _) _ _ _))
  refine wpAny_pure ⟨Code.quiet_builtin _ (by decide +kernel), codeAny_builtin PySem.F.entry_type_call ?_⟩
  rw [Around.under_plain (weight_type_call_type "set" [.ref l] []) rfl]
  have h1 := PySem.F.called_set.notType
  have h2 := PySem.F.called_set.canCreate
  have hct := PySem.F.typeCall_set_1 (.ref l)
  repeat (any_goals (first | assumption | wp_step))
  refine codeAny_mono (set_new (a := .ref l) (E := E) (Q₁ := fun obj s₁ => obj = .ref s.heap.objs.size ∧ s₁ = { s with heap := s.heap.push { cls := .type "set", dict := none, data := .set #[] 0 (.fresh 0 0 (!byT w)) } }) ⟨rfl, rfl⟩) fun r s₁ hr => ?_
  cases r with
  | error e => exact hr
  | ok fl =>
    cases fl with
    | ret obj =>
      obtain ⟨rfl, rfl⟩ := hr
      have hS : (s.heap.push { cls := .type "set", dict := none, data := .set #[] 0 (.fresh 0 0 (!byT w)) }).get? s.heap.objs.size = some { cls := .type "set", dict := none, data := .set #[] 0 (.fresh 0 0 (!byT w)) } := Heap.get?_push_size _ rfl
      have hT : Shared.TypeIs { s with heap := s.heap.push { cls := .type "set", dict := none, data := .set #[] 0 (.fresh 0 0 (!byT w)) } } (.ref s.heap.objs.size) "set" := ⟨_, hS, rfl⟩
      have hli := PySem.F.called_set.init.lookup
      have hbi := PySem.F.called_set.init.bind (.ref s.heap.objs.size)
      repeat (any_goals (first | assumption | wp_step))
      refine codeAny_mono (codeAny_call_builtin (R := wants (fun r s₂ => r = .none ∧ ∃ h' tk ks, s₂ = { s with heap := h', toks := tk } ∧ SetAt V s.heap h' s.heap.objs.size ks ∧ (∀ k, k ∈ ks ↔ k ∈ kl) ∧ ∀ b o, b < s.heap.objs.size → s.heap.get? b = some o → h'.get? b = some o) E)
        PySem.F.called_set.init.plain PySem.F.entry_set_init (check_set_init_1 hT ?_)) fun r₂ s₂ hr₂ => ?_
      · obtain ⟨ol, hol, hcl, nl, hdl⟩ := hl
        obtain ⟨ocls, odict, odata, oslots⟩ := ol
        simp only at hcl hdl
        subst hcl
        subst hdl
        have hol' : (s.heap.push { cls := .type "set", dict := none, data := .set #[] 0 (.fresh 0 0 (!byT w)) }).get? l = some { cls := .type "list", dict := odict, data := .seq items nl, slots := oslots } := Heap.get?_push_of_some _ hol
        have hsls := PySem.F.sub_list_set
        have hslf := PySem.F.sub_list_frozenset
        have hne : (Value.type "list" == Value.type "dict") = false := by decide
        have hl1 : (s.heap.push { cls := .type "set", dict := none, data := .set #[] 0 (.fresh 0 0 (!byT w)) }).IsList l items := ⟨_, hol', rfl, nl, rfl⟩
        unfold Builtin.«set.__init__» noKeywords Builtin.Frozenset.updateFrom
        generalize hPI : pyIter = PI
        wp_walk
        subst hPI
        refine wpAny_pyIter_list hl1 (wpAny_bind (wpAny_runValue ?_))
        have hlS : l < s.heap.objs.size := Heap.lt_size hol
        have hh3 : A.in1.in1.in1.handled = none := by simp [hh]
        have sz1 : (s.heap.push { cls := .type "set", dict := none, data := .set #[] 0 (.fresh 0 0 (!byT w)) }).objs.size = s.heap.objs.size + 1 := Heap.size_push ..
        have hneI : l ≠ (s.heap.push { cls := .type "set", dict := none, data := .set #[] 0 (.fresh 0 0 (!byT w)) }).objs.size := by rw [sz1]; exact Nat.ne_of_lt (Nat.lt_succ_of_lt hlS)
        have hSf : s.heap.objs.size ∉ [(s.heap.push { cls := .type "set", dict := none, data := .set #[] 0 (.fresh 0 0 (!byT w)) }).objs.size, l] := by
          rw [sz1]
          simp only [List.mem_cons, List.not_mem_nil, or_false, not_or]
          exact ⟨Nat.ne_of_lt (Nat.lt_succ_self _), Nat.ne_of_gt hlS⟩
        have hval : ∀ (i : Nat) (v : Value), items[i]? = some v → ∃ k, kl[i]? = some k ∧ V.is s.heap k v := fun i v hv => by
          obtain ⟨k, q1, q2⟩ := paired_at hk (show items.toList[i]? = some v by rw [Array.getElem?_toList]; exact hv)
          exact ⟨k, q1, q2⟩
        have hkl : kl.length = items.size := (paired_len hk).trans Array.length_toList
        have k2 : ∀ b o, s.heap.get? b = some o → ((s.heap.push { cls := .type "set", dict := none, data := .set #[] 0 (.fresh 0 0 (!byT w)) }).push { cls := .type "list_iterator", data := .fields #[.ref l, .int 0 0] }).get? b = some o := fun b o e => Heap.get?_push_of_some _ (Heap.get?_push_of_some _ e)
        refine update_loop V R hd8 (by show A.units + 1 + 1 + (V.dep + 1) < cLine; omega) ((Walks.list hh3 _ l hneI items).toS) s.heap.objs.size hSf s.heap (fun b hb => ?_) hkl hn hval (items.size - 0) 0 _ [] (by omega) (Nat.zero_le _)
          ⟨⟨_, Heap.get?_push_size _ rfl, rfl, rfl⟩, (hl1.push _)⟩ k2 ((set_fresh V s.heap s.heap).heap fun o e => Heap.get?_push_of_some _ e) (fun k => by simp) (Nat.le_refl _) fun s' ks' hm hS' hk' => ?_
        · refine Heap.get?_none_of_le ?_
          simp only [List.mem_cons, List.not_mem_nil, or_false] at hb
          rcases hb with rfl | rfl
          · exact Nat.le_refl _
          · rw [sz1]; omega
        · obtain ⟨h', g', d', tk', os'⟩ := s'
          have eg : g' = s.gens := hm.gens
          have ed : d' = s.drawn := hm.drawn
          have eo : os' = s.os := hm.os
          subst eg
          subst ed
          subst eo
          show wpAny _ _ _ _ _ _
          refine wpAny_pure (?_ : wpAny _ _ (ret Value.none) _ _ _)
          refine wpAny_pure ⟨rfl, h', tk', ks', rfl, hS', hk', fun b o hb e => ?_⟩
          refine hm.heap b o ?_ (k2 b o e)
          simp only [List.mem_cons, List.not_mem_nil, or_false, not_or]
          rw [sz1]
          exact ⟨Nat.ne_of_lt hb, Nat.ne_of_lt (Nat.lt_succ_of_lt hb)⟩
      · cases r₂ with
        | error e => exact hr₂
        | ok fl₂ =>
          cases fl₂ with
          | ret r =>
            obtain ⟨rfl, h', tk, ks, rfl, hS', hk', hb'⟩ := hr₂
            repeat (any_goals (first | assumption | wp_step))
            exact h _ _ _ hS' hk' hb'
          | _ => exact hr₂.elim
    | _ => exact hr.elim
end
end L3
set_option Elab.async false
set_option linter.all false
set_option maxRecDepth 100000
set_option maxHeartbeats 4000000
namespace L3
open PySem PySem.Spec PyProof.Rows
theorem setIt_next : Slot "set_iterator" "__next__" "set_iterator.__next__" := .of (owner := "set_iterator") (n := "__next__") (by rw [typeLookup_type, builtinLookup_eq_fast]; kernel_rfl) (by decide +kernel) (by decide +kernel) (by decide +kernel) (by first | exact .inl (by decide +kernel) | exact .inr (by decide +kernel)) (by rw [isSubtype_type]; kernel_rfl)
theorem setIt_iter : Slot "set_iterator" "__iter__" "set_iterator.__iter__" := .of (owner := "set_iterator") (n := "__iter__") (by rw [typeLookup_type, builtinLookup_eq_fast]; kernel_rfl) (by decide +kernel) (by decide +kernel) (by decide +kernel) (by first | exact .inl (by decide +kernel) | exact .inr (by decide +kernel)) (by rw [isSubtype_type]; kernel_rfl)
theorem setIt_nextE : entryFor table "set_iterator.__next__" = some Builtin.«set_iterator.__next__» := entryFor_of_tree (by kernel_rfl)
theorem setIt_iterE : entryFor table "set_iterator.__iter__" = some Builtin.«dict_keyiterator.__iter__» := entryFor_alias (id' := "dict_keyiterator.__iter__") (by kernel_rfl) rfl (by decide +kernel) (by kernel_rfl)
theorem setIt_nextA (a : Value) : argsOk "set_iterator.__next__" ⟨[a], []⟩ := by unfold argsOk; kernel_rfl
theorem setIt_iterA (a : Value) : argsOk "set_iterator.__iter__" ⟨[a], []⟩ := by unfold argsOk; kernel_rfl
theorem set_iterS : Slot "set" "__iter__" "set.__iter__" := .of (owner := "set") (n := "__iter__") (by rw [typeLookup_type, builtinLookup_eq_fast]; kernel_rfl) (by decide +kernel) (by decide +kernel) (by decide +kernel) (by first | exact .inl (by decide +kernel) | exact .inr (by decide +kernel)) (by rw [isSubtype_type]; kernel_rfl)
theorem set_iterE : entryFor table "set.__iter__" = some Builtin.«frozenset.__iter__» := entryFor_alias (id' := "frozenset.__iter__") (by kernel_rfl) rfl (by decide +kernel) (by kernel_rfl)
theorem set_iterA (a : Value) : argsOk "set.__iter__" ⟨[a], []⟩ := by unfold argsOk; kernel_rfl
end L3
set_option Elab.async false
set_option linter.all false
set_option maxRecDepth 100000
set_option maxHeartbeats 4000000
namespace L3
open PySem PySem.Spec PyProof.Rows
theorem pick_go {α : Type} (next : Nat → Nat) : ∀ (fuel k : Nat) (left : List α) (out : Array α), left.length = fuel → (pickOrder.go next fuel k left out).toList.Perm (out.toList ++ left)
  | 0, _, left, out, h => by
    have e : left = [] := List.eq_nil_of_length_eq_zero h
    subst e
    unfold pickOrder.go
    simp
  | fuel + 1, k, left, out, h => by
    have hlt : next k % left.length < left.length := Nat.mod_lt _ (by omega)
    unfold pickOrder.go
    rw [List.getElem?_eq_getElem hlt]
    dsimp only
    refine (pick_go next fuel (k + 1) _ _ (by rw [List.length_eraseIdx_of_lt hlt]; omega)).trans ?_
    rw [Array.toList_push, List.append_assoc]
    refine List.Perm.append_left _ ?_
    rw [List.eraseIdx_eq_take_drop_succ]
    have e : left.take (next k % left.length) ++ left[next k % left.length] :: left.drop (next k % left.length + 1) = left := by
      rw [← List.drop_eq_getElem_cons hlt, List.take_append_drop]
    have q : (left[next k % left.length] :: (left.take (next k % left.length) ++ left.drop (next k % left.length + 1))).Perm (left.take (next k % left.length) ++ left[next k % left.length] :: left.drop (next k % left.length + 1)) := List.perm_middle.symm
    rw [e] at q
    exact q
theorem pick_perm {α : Type} (next : Nat → Nat) (xs : Array α) : (pickOrder next xs).toList.Perm xs.toList := by
  unfold pickOrder
  refine (pick_go next _ 0 _ _ (by simp)).trans ?_
  simp
section
variable {P : Program} {w : World} {O : KeyOrd} [DecidableEq O.α]
def wEnt (w : World) (a : Addr) (ep : Nat) (es : Array (Int × Value)) : List (Int × Value) := if byT w = true then (pickOrder (w.params.setOrder a ep) es).toList else es.toList
theorem wEnt_perm (w : World) (a : Addr) (ep : Nat) (es : Array (Int × Value)) : (wEnt w a ep es).Perm es.toList := by
  unfold wEnt
  split
  · exact pick_perm _ _
  · exact List.Perm.refl _
theorem wEnt_len (w : World) (a : Addr) (ep : Nat) (es : Array (Int × Value)) : (wEnt w a ep es).length = es.size := by rw [(wEnt_perm w a ep es).length_eq, Array.length_toList]
def slotAt (w : World) (t : SetTable) : Nat → Nat
  | 0 => 0
  | i + 1 => if byT w = true then 0 else (t.place[i]?.getD 0) + 1
theorem below_slot {t : SetTable} (h : TShape t) (hb : byT w = false) : ∀ {i : Nat}, i ≤ t.place.size → SetTable.below t.place (slotAt w t i) = i
  | 0, _ => by
    obtain ⟨h1, h2, h3⟩ := below_ok h.rise 0
    rcases Nat.eq_zero_or_pos (SetTable.below t.place 0) with e | e
    · exact e
    · exfalso
      have hlt : 0 < t.place.size := by omega
      have := h2 0 _ e (Array.getElem?_eq_getElem hlt)
      omega
  | i + 1, hi => by
    have hlt : i < t.place.size := by omega
    have ei : t.place[i]? = some t.place[i] := Array.getElem?_eq_getElem hlt
    have es : slotAt w t (i + 1) = t.place[i] + 1 := by
      show (if byT w = true then 0 else (t.place[i]?.getD 0) + 1) = _
      rw [hb, if_neg (by simp), ei]
      rfl
    rw [es]
    obtain ⟨h1, h2, h3⟩ := below_ok h.rise (t.place[i] + 1)
    rcases Nat.lt_trichotomy (SetTable.below t.place (t.place[i] + 1)) (i + 1) with q | q | q
    · have := h3 i _ (by omega) ei
      omega
    · exact q
    · have hl2 : i + 1 < t.place.size := by omega
      have := h2 (i + 1) _ q (Array.getElem?_eq_getElem hl2)
      have hr := h.rise
      rw [List.pairwise_iff_getElem] at hr
      have := hr i (i + 1) (by simpa using hlt) (by simpa using hl2) (Nat.lt_succ_self _)
      simp only [Array.getElem_toList] at this
      omega
variable {A : Around} {E : Value → Shared → Prop} {s : Shared} {V : VKd P w O} {h0 : Heap} {a : Addr} {o : Obj} {es : Array (Int × Value)} {ep : Nat} {t : SetTable} {ks : List O.α}
theorem setNext_ok (ho : s.heap.get? a = some o) (hd : o.data = .set es ep t) (D : SetD V h0 es t ks) {i : Nat} (hi : i ≤ es.size) {Q : Option (Value × Nat) → Shared → Prop} (h : Q ((wEnt w a ep es)[i]?.map fun e => (e.2, slotAt w t (i + 1))) s) :
    wpAny (model P w) A (setNext a (slotAt w t i) i ep) Q E s := by
  unfold setNext
  refine wpAny_bind (wpAny_setState_of ho hd D.fits ?_)
  dsimp only
  unfold setsByText
  refine wpAny_bind (wpAny_bind (wpAny_askSetting (wpAny_pure ?_)))
  show wpAny _ _ (if byT w = true then _ else _) _ _ _
  cases hb : byT w with
  | true =>
    rw [if_pos rfl]
    simp only [bne_self_eq_false, Bool.false_eq_true, if_false]
    unfold setWalk
    refine wpAny_bind (wpAny_bind (wpAny_setState_of ho hd D.fits ?_))
    dsimp only
    unfold setsByText
    refine wpAny_bind (wpAny_bind (wpAny_askSetting (wpAny_pure ?_)))
    show wpAny _ _ (if byT w = true then _ else _) _ _ _
    rw [hb, if_pos rfl]
    refine wpAny_bind (wpAny_askSetting (wpAny_pure (wpAny_pure ?_)))
    have e1 : wEnt w a ep es = (pickOrder (w.params.setOrder a ep) es).toList := by unfold wEnt; rw [hb, if_pos rfl]
    have e2 : slotAt w t i = slotAt w t (i + 1) := by
      cases i with
      | zero => show 0 = (if byT w = true then 0 else _); rw [hb, if_pos rfl]
      | succ i => show (if byT w = true then 0 else _) = (if byT w = true then 0 else _); rw [hb, if_pos rfl, if_pos rfl]
    rw [e1, ← e2, Array.getElem?_toList] at h
    exact h
  | false =>
    rw [if_neg (by simp)]
    refine wpAny_ite_split (fun hab => ?_) (fun _ => ?_)
    · have hab : (!t.plain && decide (es.size > 1)) = true := hab
      rw [D.plain] at hab
      simp at hab
    refine wpAny_bind ?_
    show wpAny _ _ (if (!t.led && !es.isEmpty) = true then unsupported "set:maker-not-led" else pure ()) _ _ _
    rw [D.led, hb]
    simp only [Bool.not_false, Bool.not_true, Bool.false_and, Bool.false_eq_true, if_false]
    refine wpAny_pure ?_
    have hsz := D.size
    rw [below_slot D.tab.shape hb (by omega)]
    have e1 : wEnt w a ep es = es.toList := by unfold wEnt; rw [hb, if_neg (by simp)]
    rw [e1, Array.getElem?_toList] at h
    by_cases hlt : i < es.size
    · rw [Array.getElem?_eq_getElem hlt, Array.getElem?_eq_getElem (show i < t.place.size by omega)]
      rw [Array.getElem?_eq_getElem hlt] at h
      have e2 : slotAt w t (i + 1) = t.place[i]'(by omega) + 1 := by
        show (if byT w = true then 0 else (t.place[i]?.getD 0) + 1) = _
        rw [hb, if_neg (by simp), Array.getElem?_eq_getElem (show i < t.place.size by omega)]
        rfl
      rw [e2] at h
      exact wpAny_pure h
    · rw [Array.getElem?_eq_none (by omega), Array.getElem?_eq_none (by omega)]
      rw [Array.getElem?_eq_none (by omega)] at h
      exact wpAny_pure h
def IsSetIt (h : Heap) (I p slot i n ep : Nat) : Prop := ∃ oI, h.get? I = some oI ∧ oI.cls = .type "set_iterator" ∧ oI.data = .fields #[.int slot 0, .int i 0, .ref p, .int n 0, .int ep 0]
theorem IsSetIt.typeIs {I p slot i n ep : Nat} (x : IsSetIt s.heap I p slot i n ep) : s.TypeIs (.ref I) "set_iterator" := let ⟨o, h, c, _⟩ := x; ⟨o, h, c⟩
theorem IsSetIt.at {h h' : Heap} {I p slot i n ep : Nat} (x : IsSetIt h I p slot i n ep) (e : ∀ o, h.get? I = some o → h'.get? I = some o) : IsSetIt h' I p slot i n ep := let ⟨o, ho, r⟩ := x; ⟨o, e _ ho, r⟩
theorem setIt_item {I : Addr} {i : Nat} {Q : Option Value → Shared → Prop} (hit : IsSetIt s.heap I a (slotAt w t i) i es.size ep) (ho : s.heap.get? a = some o) (hd : o.data = .set es ep t) (D : SetD V h0 es t ks) {x : Int × Value} (hx : (wEnt w a ep es)[i]? = some x)
    (hQ : ∀ h', IsSetIt h' I a (slotAt w t (i + 1)) (i + 1) es.size ep → Heap.SameBut I s.heap h' → Q (some x.2) { s with heap := h' }) : wpAny (model P w) A (pyNext (.ref I)) Q E s := by
  obtain ⟨oI, hoI, hc, hdI⟩ := id hit
  have hlt : i < es.size := by have := (List.getElem?_eq_some_iff.mp hx).1; rw [wEnt_len] at this; exact this
  unfold pyNext
  refine wpAny_bind (wpAny_attempt (wpAny_callSpecial?_slot (name := Str.ofString "__next__") hit.typeIs setIt_next (wpAny_call_entry setIt_next hit.typeIs setIt_nextE ?_ (setIt_nextA _))))
  unfold Builtin.«set_iterator.__next__»
  refine wpAny_bind (wpAny_pure ?_)
  refine wpAny_bind (wpAny_fieldsOf hoI hdI ?_)
  dsimp only
  refine wpAny_bind (wpAny_setEntries_of ho hd D.fits ?_)
  simp only [bne_self_eq_false, Bool.false_eq_true, if_false, Int.toNat_natCast]
  refine wpAny_bind (setNext_ok ho hd D (Nat.le_of_lt hlt) ?_)
  rw [hx]
  dsimp only [Option.map]
  refine wpAny_bind (wpAny_setField hoI hdI (by simp) ?_)
  have ho2 : (s.heap.update I (Obj.mapFields (·.setIfInBounds 0 (rawInt (slotAt w t (i + 1) : Int))))).get? I = some _ := Heap.get?_update_self _ hoI (Obj.isFreed_of_fields (Obj.data_mapFields hdI _))
  have hd2 := Obj.data_mapFields hdI (·.setIfInBounds 0 (rawInt (slotAt w t (i + 1) : Int)))
  refine wpAny_bind (wpAny_setField ho2 hd2 (by simp) ?_)
  refine wpAny_pure ⟨_, rfl, wpAny_pure (hQ _ ⟨_, Heap.get?_update_self _ ho2 (Obj.isFreed_of_fields (Obj.data_mapFields hd2 _)), ?_, ?_⟩ ((Heap.SameBut.update ..).trans (Heap.SameBut.update ..)))⟩
  · rw [Obj.cls_mapFields, Obj.cls_mapFields, hc]
  · rw [Obj.data_mapFields hd2]
    simp [rawInt]
theorem setIt_end {I : Addr} {Q : Option Value → Shared → Prop} (hh : A.handled = none) (hit : IsSetIt s.heap I a (slotAt w t es.size) es.size es.size ep) (ho : s.heap.get? a = some o) (hd : o.data = .set es ep t) (D : SetD V h0 es t ks)
    (hQ : ∀ h', Heap.ExtBut I s.heap h' → Q none { s with heap := h' }) : wpAny (model P w) A (pyNext (.ref I)) Q E s := by
  obtain ⟨oI, hoI, hc, hdI⟩ := id hit
  unfold pyNext
  refine wpAny_bind (wpAny_attempt (wpAny_callSpecial?_slot (name := Str.ofString "__next__") hit.typeIs setIt_next (wpAny_call_entry setIt_next hit.typeIs setIt_nextE ?_ (setIt_nextA _))))
  unfold Builtin.«set_iterator.__next__»
  refine wpAny_bind (wpAny_pure ?_)
  refine wpAny_bind (wpAny_fieldsOf hoI hdI ?_)
  dsimp only
  refine wpAny_bind (wpAny_setEntries_of ho hd D.fits ?_)
  simp only [bne_self_eq_false, Bool.false_eq_true, if_false, Int.toNat_natCast]
  refine wpAny_bind (setNext_ok ho hd D (Nat.le_refl _) ?_)
  rw [List.getElem?_eq_none (by rw [wEnt_len]; exact Nat.le_refl _)]
  dsimp only [Option.map]
  refine wpAny_bind (wpAny_setField hoI hdI (by simp) (wpAny_bind ?_))
  simp only [newExc, newTuple]
  refine wpAny_bind (wpAny_newObj_type ?_ (by size_fits))
  refine wpAny_bind (m := firstArgMember _ _) (wpAny_of_eq (a := Value.none) (by first | rfl | (simp only [firstArgMember]; rfl)) (wpAny_newObj_type ?_ (by size_fits)))
  simp only [raiseNew]
  refine wpAny_bind (wpAny_handled ?_)
  rw [show A.in1.handled = none from hh]
  refine wpAny_bind (wpAny_pure (wpAny_throw ?_)); refine wpAny_bind (wpAny_isInstance (T := "StopIteration") (b := true) ⟨_, Heap.get?_push_size _ rfl, rfl⟩ isSubtype_stop ?_)
  exact wpAny_pure (hQ _ (((Heap.SameBut.update ..).extBut.push _).push _))
theorem paired_perm {α β : Type} {F : α → β → Prop} {l : List α} {m m' : List β} (h : Paired F l m) (hp : m'.Perm m) : ∃ l', Paired F l' m' ∧ l'.Perm l := by
  induction hp generalizing l with
  | nil => exact ⟨[], .nil, by cases h; exact List.Perm.refl _⟩
  | @cons x m1 m2 _ ih =>
    cases h with
    | @cons a _ l1 _ q r =>
      obtain ⟨l', h1, h2⟩ := ih r
      exact ⟨a :: l', .cons q h1, h2.cons a⟩
  | swap x y m =>
    cases h with
    | @cons a _ l1 _ q r =>
      cases r with
      | @cons b _ l2 _ q2 r2 => exact ⟨b :: a :: l2, .cons q2 (.cons q r2), List.Perm.swap a b l2⟩
  | trans _ _ ih1 ih2 =>
    obtain ⟨l1, h1, h2⟩ := ih2 h
    obtain ⟨l2, h3, h4⟩ := ih1 h1
    exact ⟨l2, h3, h4.trans h2⟩
theorem paired_mapR {α β γ : Type} {F : α → γ → Prop} (g : β → γ) : ∀ {l : List α} {m : List β}, Paired (fun a b => F a (g b)) l m → Paired F l (m.map g)
  | _, _, .nil => .nil
  | _, _, .cons a r => .cons a (paired_mapR g r)
theorem set_src (ho : s.heap.get? a = some o) (hex : o.ExactSet) (hd : o.data = .set es ep t) (D : SetD V h0 es t ks) :
    PySem.W.KdlSrc P w "set" a a es.size (fun i v => ∃ x, (wEnt w a ep es)[i]? = some x ∧ v = x.2) (fun h => h.get? a = some o) where
  type := fun s' h => ⟨o, h, hex.1⟩
  there := fun h e => ⟨Heap.lt_size e, Heap.lt_size e⟩
  keep := fun h h' e k => k a (.inl rfl) o e
  notList := by decide
  notTuple := by decide
  hint := fun A E s' Q h hq => by
    have hT : s'.TypeIs (.ref a) "set" := ⟨o, h, hex.1⟩
    unfold Builtin.List.listLengthHint
    refine wpAny_bind (wpAny_specialOf hT PySem.F.slot_set_len.lookup ?_)
    generalize hid : ("set.__len__" : String) = id0
    wp_delta
    rw [show splitId id0 = some ("set", "__len__") from by subst hid; decide +kernel]
    subst hid
    refine wpAny_bind (wpAny_isInstance (T := "set") (b := true) hT sub_set_self (wpAny_ite_split (fun hab => absurd hab (by decide)) (fun _ => wpAny_ite_split (fun _ => ?_) (fun hab => absurd (by decide +kernel) hab))))
    exact wpAny_bind (wpAny_typeOf hT (wpAny_pure hq))
  iter := fun A s' hh h => by
    refine ⟨{ cls := .type "set_iterator", data := .fields #[.int 0 0, .int 0 0, .ref a, .int es.size 0, .int ep 0] }, fun i h => IsSetIt h s'.heap.objs.size a (slotAt w t i) i es.size ep ∧ h.get? a = some o, fun E Q hq => ?_, ?_, ?_⟩
    · have hT : s'.TypeIs (.ref a) "set" := ⟨o, h, hex.1⟩
      refine wpAny_pyIter_slot hT set_iterS (wpAny_call_entry set_iterS hT set_iterE ?_ (set_iterA _))
      unfold Builtin.«frozenset.__iter__»
      refine wpAny_bind (m := Builtin.Frozenset.slot0 "__iter__" _) (wpAny_pure ?_)
      unfold Builtin.Frozenset.sizeOf
      refine wpAny_bind (wpAny_bind (wpAny_setEntries_of h hd D.fits (wpAny_pure ?_)))
      unfold setDrawn setsByText
      refine wpAny_bind (wpAny_bind (wpAny_setState_of h hd D.fits (wpAny_bind (wpAny_bind (wpAny_askSetting (wpAny_pure (wpAny_pure ?_)))))))
      have hno : ∀ b c : Bool, (!b && (!t.plain && c)) = false := fun b c => by rw [D.plain]; simp
      refine wpAny_ite_split (fun hab => ?_) (fun _ => ?_)
      · have hab : (!byT w && (!t.plain && decide (es.size > 1))) = true := hab
        rw [hno] at hab
        cases hab
      refine wpAny_bind (wpAny_pure (wpAny_bind (wpAny_setEpoch_of h hd D.fits ?_)))
      refine wpAny_bind (wpAny_newObj_type ?_)
      exact wpAny_pure ⟨_, rfl, "set_iterator", _, ⟨_, Heap.get?_push_size _ rfl, rfl⟩, setIt_next.lookup, hq⟩
    · have hne : a ≠ s'.heap.objs.size := Nat.ne_of_lt (Heap.lt_size h)
      refine ⟨fun b hb => by simp at hb; simp [hb], fun i h1 h2 st hk => ⟨st.1.at fun o e => hk _ (by simp) o e, hk a (by simp) o st.2⟩, fun i s1 Q E hi st hQ => ?_, fun s1 Q E st hQ => ?_, fun i s1 Q E st hQ => ?_⟩
      · have hx : (wEnt w a ep es)[i]? = some ((wEnt w a ep es)[i]'(by rw [wEnt_len]; exact hi)) := List.getElem?_eq_getElem _
        refine setIt_item st.1 st.2 hd D hx fun h' hit' hs' => ?_
        exact hQ _ h' s1.toks ⟨_, hx, rfl⟩ ⟨hit', hs'.extBut a o hne st.2⟩ fun b o hb e => hs'.extBut b o (fun q => hb (by simp [q])) e
      · exact setIt_end hh st.1 st.2 hd D fun h' he' => hQ h' s1.toks fun b o hb e => he' b o (fun q => hb (by simp [q])) e
      · refine wpAny_pyIter_slot st.1.typeIs setIt_iter (wpAny_call_entry setIt_iter st.1.typeIs setIt_iterE ?_ (setIt_iterA _))
        show wpAny _ _ (ret (.ref s'.heap.objs.size)) _ _ s1
        exact wpAny_pure ⟨_, rfl, "set_iterator", _, st.1.typeIs, setIt_next.lookup, hQ⟩
    · exact ⟨⟨_, Heap.get?_push_size _ rfl, rfl, rfl⟩, Heap.get?_push_of_some _ h⟩
def ColR (w : World) (a : Addr) (ep : Nat) (es : Array (Int × Value)) (s : Shared) (r : Result) (s' : Shared) : Prop := ∃ h' tk acc' c', r = .ok (.ret (.ref s.heap.objs.size)) ∧ s' = { s with heap := h', toks := tk } ∧ (∀ b ob, s.heap.get? b = some ob → h'.get? b = some ob) ∧
  h'.get? s.heap.objs.size = some { cls := .type "list", dict := none, data := .seq acc' c', slots := #[] } ∧ ItemsOf (fun i v => ∃ x, (wEnt w a ep es)[i]? = some x ∧ v = x.2) acc' es.size
theorem collect_s (hh : A.handled = none) (ho : s.heap.get? a = some o) (hex : o.ExactSet) (hd : o.data = .set es ep t) (D : SetD V h0 es t ks) (hn : es.size ≤ sizeLine) {Q' : List Value → Shared → Prop}
    (h : ∀ (vs : List Value) (ks' : List O.α) (h' : Heap) (tk : Nat), (∀ b o, s.heap.get? b = some o → h'.get? b = some o) → s.heap.objs.size ≤ h'.objs.size → Paired (V.is h0) ks' vs → ks'.Perm ks → Q' vs { s with heap := h', toks := tk }) :
    wpAny (model P w) A (collect (.ref a)) Q' E s := by
  have hlt : a < s.heap.objs.size := Heap.lt_size ho
  unfold collect
  refine wpAny_bind (wpAny_runValue (codeAny_mono (R := ColR w a ep es s) (codeAny_builtin PySem.F.entry_proto_collect ?_) fun r s' hr => ?_))
  · rw [Around.under_plainId PySem.F.plain_proto_collect _]
    show wpAny _ A.in1 (newList [] >>= fun l => again (.builtin "list.__iadd__" ⟨[l, .ref a], []⟩)) _ _ s
    refine wpAny_bind (wpAny_newObj_type (wpAny_pure ⟨plainId_quiet PySem.F.plain_list_iadd _, codeAny_builtin PySem.F.entry_list_iadd ?_⟩))
    rw [Around.under_plainId PySem.F.plain_list_iadd _]
    have hS : (s.heap.push { cls := .type "list", data := .seq #[] }).get? s.heap.objs.size = some { cls := .type "list", data := .seq #[] } := Heap.get?_push_size _ rfl
    have ho1 : (s.heap.push { cls := .type "list", data := .seq #[] }).get? a = some o := Heap.get?_push_of_some _ ho
    have K := set_src (s := { s with heap := s.heap.push { cls := .type "list", data := .seq #[] } }) ho1 hex hd D
    exact PySem.W.kdl_extend (R := ColR w a ep es s) (s := { s with heap := s.heap.push { cls := .type "list", data := .seq #[] } }) K hh ho1 s.heap.objs.size (Nat.ne_of_gt hlt) (Nat.ne_of_gt hlt) (.ref s.heap.objs.size) 0 hS (fun h' tk acc' c' hk hS' hacc =>
      ⟨h', tk, acc', c', rfl, rfl, fun b ob e => hk b ob (Nat.ne_of_lt (Heap.lt_size e)) (Heap.get?_push_of_some _ e), hS', hacc⟩) hn
  obtain ⟨h', tk, acc', c', rfl, rfl, hk, hS', hacc⟩ := hr
  show wpAny _ A (load s.heap.objs.size >>= _) _ _ _
  refine wpAny_bind (wpAny_load hS' (wpAny_pure ?_))
  have hvs : acc'.toList = (wEnt w a ep es).map (·.2) := by
    refine List.ext_getElem? fun j => ?_
    have hsz : acc'.size = es.size := hacc.1
    by_cases hj : j < acc'.size
    · obtain ⟨x, hx, hv⟩ := hacc.2 j acc'[j] (Array.getElem?_eq_getElem hj)
      rw [Array.getElem?_toList, Array.getElem?_eq_getElem hj, List.getElem?_map, hx, hv]
      rfl
    · rw [Array.getElem?_toList, Array.getElem?_eq_none (by omega), List.getElem?_eq_none (by rw [List.length_map, wEnt_len]; omega)]
  obtain ⟨ks', hp, hpm⟩ := paired_perm D.keys (wEnt_perm w a ep es)
  refine h acc'.toList ks' h' tk hk ?_ ?_ hpm
  · have := Heap.lt_size hS'
    exact Nat.le_of_lt this
  · rw [hvs]
    exact paired_mapR (·.2) (paired_mono (fun _ _ q => q.1) hp)
end
end L3
set_option Elab.async false
set_option linter.all false
set_option maxRecDepth 100000
set_option maxHeartbeats 2000000
namespace L3
open PySem PySem.Spec PyProof.Rows
open PySem.W (KasT kas_rev kas_asc kas_desc kas_tail3 kas_descPart kas_count kas_place kas_bin kas_sort)
def Sat (lt : Nat → Nat → Bool) (n : Nat) {α : Type} : KasT α → (α → Prop) → Prop
  | .ret a, Q => Q a
  | .ask i j k, Q => i < n ∧ j < n ∧ Sat lt n (k (lt i j)) Q
theorem Sat.mono {lt : Nat → Nat → Bool} {n : Nat} {α : Type} {Q Q' : α → Prop} (hq : ∀ a, Q a → Q' a) : ∀ {t : KasT α}, Sat lt n t Q → Sat lt n t Q'
  | .ret _, h => hq _ h
  | .ask _ _ k, h => ⟨h.1, h.2.1, Sat.mono hq h.2.2⟩
theorem Sat.bind {lt : Nat → Nat → Bool} {n : Nat} {α β : Type} {f : α → KasT β} {Q : β → Prop} : ∀ {t : KasT α}, Sat lt n t (fun a => Sat lt n (f a) Q) → Sat lt n (t.bind f) Q
  | .ret _, h => h
  | .ask _ _ k, h => ⟨h.1, h.2.1, Sat.bind h.2.2⟩
theorem Sat.wp {lt : Nat → Nat → Bool} {n : Nat} {α : Type} {cmp : Nat → Nat → (Bool → Shared → Prop) → Shared → Prop} {G : α → Shared → Prop} {s : Shared} (hc : ∀ i j (C : Bool → Shared → Prop), i < n → j < n → C (lt i j) s → cmp i j C s) {Q : α → Prop} (hG : ∀ a, Q a → G a s) : ∀ {t : KasT α}, Sat lt n t Q → t.kasWp cmp G s
  | .ret _, h => hG _ h
  | .ask i j k, h => hc i j _ h.1 h.2.1 (Sat.wp hc hG h.2.2)
section
variable {O : KeyOrd} (K : Nat → O.α)
abbrev kp (p : Array Nat) (i : Nat) : O.α := K (p.getD i 0)
def Up (p : Array Nat) (n : Nat) : Prop := ∀ i j, i ≤ j → j < n → O.kle (kp K p i) (kp K p j)
def Down (p : Array Nat) (n : Nat) : Prop := ∀ i j, i ≤ j → j < n → O.kle (kp K p j) (kp K p i)
structure Px (n : Nat) (p : Array Nat) : Prop where
  size : p.size = n
  perm : p.toList.Perm (List.range n)
variable {K} {n : Nat} {p : Array Nat}
theorem Px.lt (h : Px n p) {i : Nat} (hi : i < n) : p.getD i 0 < n := by
  have hs : i < p.size := by rw [h.size]; exact hi
  have e : p.getD i 0 = p[i] := by simp [Array.getD, hs]
  rw [e]
  exact List.mem_range.mp (h.perm.mem_iff.mp (by simp))
theorem Px.of (h : Px n p) {q : Array Nat} (hq : q.Perm p) : Px n q := ⟨hq.size_eq.trans h.size, (Array.perm_iff_toList_perm.mp hq).trans h.perm⟩
theorem Px.rev (h : Px n p) (i j : Nat) : Px n (kas_rev p i j) := h.of (mirror_perm _ _ _ _)
theorem Px.bub (h : Px n p) (k d : Nat) : Px n (bubble p k d) := h.of (bubble_perm _ _ _)
theorem kp_eq (q : Array Nat) (k : Nat) : kp K q k = K (q[k]?.getD 0) := by
  show K (q.getD k 0) = _
  rw [Array.getD_eq_getD_getElem?]
theorem kp_rev {i j : Nat} (hj : j ≤ p.size) (k : Nat) : kp K (kas_rev p i j) k = if i ≤ k ∧ k < j then kp K p (i + j - 1 - k) else kp K p k := by
  have e := getElem?_mirror_all (xs := p) (i := i) hj k
  rw [kp_eq, kp_eq, kp_eq, show (kas_rev p i j)[k]? = _ from e]
  by_cases h1 : i ≤ k ∧ k < j
  · rw [if_pos h1, if_pos h1]
  · rw [if_neg h1, if_neg h1]
theorem kp_bub {src d : Nat} (hs : src < p.size) (hd : d ≤ src) (k : Nat) : kp K (bubble p src d) k = if k = src - d then kp K p src else if src - d < k ∧ k ≤ src then kp K p (k - 1) else kp K p k := by
  have e := getElem?_bubble (xs := p) hs d hd k
  rw [kp_eq, kp_eq, kp_eq, kp_eq, e]
  by_cases h1 : k = src - d
  · rw [if_pos h1, if_pos h1]
  · rw [if_neg h1, if_neg h1]
    by_cases h2 : src - d < k ∧ k ≤ src
    · rw [if_pos h2, if_pos h2]
    · rw [if_neg h2, if_neg h2]
theorem Up.snoc {m : Nat} (h : Up K p m) (hm : 1 ≤ m) (hk : O.kle (kp K p (m - 1)) (kp K p m)) : Up K p (m + 1) := fun i j hij hj => by
  by_cases q : j < m
  · exact h i j hij q
  · have e : j = m := by omega
    subst e
    by_cases q2 : i = j
    · subst q2; exact KeyOrd.kle_refl _
    · exact KeyOrd.kle_trans (h i (j - 1) (by omega) (by omega)) hk
theorem Down.snoc {m : Nat} (h : Down K p m) (hm : 1 ≤ m) (hk : O.kle (kp K p m) (kp K p (m - 1))) : Down K p (m + 1) := fun i j hij hj => by
  by_cases q : j < m
  · exact h i j hij q
  · have e : j = m := by omega
    subst e
    by_cases q2 : i = j
    · subst q2; exact KeyOrd.kle_refl _
    · exact KeyOrd.kle_trans hk (h i (j - 1) (by omega) (by omega))
theorem asc_ok (hp : Px n p) : ∀ (f m : Nat) {Q : Nat → Prop}, 1 ≤ m → m + f = n → Up K p m → (∀ m', m ≤ m' → m' ≤ n → Up K p m' → (m' < n → O.klt (kp K p m') (kp K p (m' - 1))) → Q m') → Sat (fun i j => O.blt (K i) (K j)) n (kas_asc p f m) Q
  | 0, m, Q, h1, e, hu, hq => hq m (Nat.le_refl _) (by omega) hu (fun h => by omega)
  | f + 1, m, Q, h1, e, hu, hq => by
    refine ⟨hp.lt (by omega), hp.lt (by omega), ?_⟩
    dsimp only
    cases hb : O.blt (K (p.getD m 0)) (K (p.getD (m - 1) 0)) with
    | true => rw [if_pos rfl]; exact hq m (Nat.le_refl _) (by omega) hu fun _ => hb
    | false => rw [if_neg (by simp)]; exact asc_ok hp f (m + 1) (by omega) (by omega) (hu.snoc h1 hb) fun m' a b c d => hq m' (by omega) b c d
theorem desc_ok : ∀ (f m q : Nat) (p : Array Nat) {Q : Array Nat × Nat × Nat → Prop}, Px n p → q + 1 ≤ m → m + f = n → Down K p m → (∀ i, m - (q + 1) ≤ i → i < m → kp K p i = kp K p (m - 1)) →
    (∀ p' m' q', Px n p' → q' + 1 ≤ m' → m' ≤ n → Down K p' m' → (∀ i, m' - (q' + 1) ≤ i → i < m' → kp K p' i = kp K p' (m' - 1)) → Q (p', m', q')) → Sat (fun i j => O.blt (K i) (K j)) n (kas_desc f p m q) Q
  | 0, m, q, p, Q, hp, h1, e, hd, he, hq => hq p m q hp h1 (by omega) hd he
  | f + 1, m, q, p, Q, hp, h1, e, hd, he, hq => by
    refine ⟨hp.lt (by omega), hp.lt (by omega), ?_⟩
    dsimp only
    cases hb : O.blt (K (p.getD m 0)) (K (p.getD (m - 1) 0)) with
    | true =>
      rw [if_pos rfl]
      have hk : O.kle (kp K p m) (kp K p (m - 1)) := KeyOrd.kle_of_klt hb
      have hd' := hd.snoc (by omega) hk
      split
      · have hz : m ≤ p.size := by rw [hp.size]; omega
        have same : ∀ k, kp K (kas_rev p (m - (q + 1)) m) k = kp K p k := fun k => by
          rw [kp_rev hz]
          split
          · rw [he _ (by omega) (by omega), he k (by omega) (by omega)]
          · rfl
        refine desc_ok f (m + 1) 0 _ (hp.rev _ _) (by omega) (by omega) (fun i j a b => by rw [same, same]; exact hd' i j a b) (fun i a b => ?_) hq
        have : i = m := by omega
        subst this
        rfl
      · refine desc_ok f (m + 1) 0 p hp (by omega) (by omega) hd' (fun i a b => ?_) hq
        have : i = m := by omega
        subst this
        rfl
    | false =>
      rw [if_neg (by simp)]
      refine ⟨hp.lt (by omega), hp.lt (by omega), ?_⟩
      dsimp only
      cases hb2 : O.blt (K (p.getD (m - 1) 0)) (K (p.getD m 0)) with
      | true => rw [if_pos rfl]; exact hq p m q hp h1 (by omega) hd he
      | false =>
        rw [if_neg (by simp)]
        have eq : kp K p m = kp K p (m - 1) := O.total _ _ hb hb2
        refine desc_ok f (m + 1) (q + 1) p hp (by omega) (by omega) (hd.snoc (by omega) (by rw [eq]; exact KeyOrd.kle_refl _)) (fun i a b => ?_) hq
        show kp K p i = kp K p m
        by_cases q2 : i = m
        · rw [q2]
        · rw [he i (by omega) (by omega), eq]
theorem rev_up (hp : Px n p) {m : Nat} (hm : m ≤ n) (h : Down K p m) : Up K (kas_rev p 0 m) m := fun i j hij hj => by
  have hz : m ≤ p.size := by rw [hp.size]; exact hm
  rw [kp_rev hz, kp_rev hz, if_pos ⟨Nat.zero_le _, by omega⟩, if_pos ⟨Nat.zero_le _, by omega⟩]
  exact h _ _ (by omega) (by omega)
def RunOk (n : Nat) (K : Nat → O.α) (r : Nat × Array Nat) : Prop := Px n r.2 ∧ r.1 ≤ n ∧ Up K r.2 r.1
theorem tail3_ok (hp : Px n p) {m : Nat} (h1 : 1 ≤ m) (hm : m ≤ n) (h : Down K p m) : Sat (fun i j => O.blt (K i) (K j)) n (kas_tail3 m n p) (RunOk n K) :=
  Sat.bind (asc_ok (hp.rev 0 m) (n - m) m h1 (by omega) (rev_up hp hm h) fun m' a b c _ => ⟨hp.rev 0 m, b, c⟩)
theorem descPart_ok (hp : Px n p) {m : Nat} (h1 : 1 ≤ m) (hm : m + 1 ≤ n) (h : Down K p (m + 1)) : Sat (fun i j => O.blt (K i) (K j)) n (kas_descPart m n p) (RunOk n K) := by
  refine Sat.bind (desc_ok (n - (m + 1)) (m + 1) 0 p hp (by omega) (by omega) h (fun i a b => ?_) fun p' m' q' hp' a b hd he => ?_)
  · have : i = m := by omega
    subst this
    rfl
  · dsimp only
    split
    · have hz : m' ≤ p'.size := by rw [hp'.size]; exact b
      have same : ∀ k, kp K (kas_rev p' (m' - (q' + 1)) m') k = kp K p' k := fun k => by
        rw [kp_rev hz]
        split
        · rw [he _ (by omega) (by omega), he k (by omega) (by omega)]
        · rfl
      exact tail3_ok (hp'.rev _ _) (by omega) b fun i j x y => by rw [same, same]; exact hd i j x y
    · exact tail3_ok hp' (by omega) b hd
theorem count_ok (hp : Px n p) (hn : 1 ≤ n) : Sat (fun i j => O.blt (K i) (K j)) n (kas_count n p) (RunOk n K) := by
  refine Sat.bind (asc_ok hp (n - 1) 1 (Nat.le_refl _) (by omega) (fun i j a b => ?_) fun m a b hu hs => ?_)
  · have : i = j := by omega
    subst this
    exact KeyOrd.kle_refl _
  · split
    · exact ⟨hp, b, hu⟩
    · rename_i hne
      have hlt : m < n := by
        have : m ≠ n := by simpa using hne
        omega
      have hk : O.klt (kp K p m) (kp K p (m - 1)) := hs hlt
      split
      · refine ⟨hp.lt (by omega), hp.lt (by omega), ?_⟩
        dsimp only
        cases hb : O.blt (K (p.getD 0 0)) (K (p.getD (m - 1) 0)) with
        | true => rw [if_pos rfl]; exact ⟨hp, b, hu⟩
        | false =>
          rw [if_neg (by simp)]
          have all : ∀ i, i < m → kp K p i = kp K p (m - 1) := fun i hi => KeyOrd.kle_antisymm (hu i (m - 1) (by omega) (by omega)) (KeyOrd.kle_trans (show O.kle (kp K p (m - 1)) (kp K p 0) from hb) (hu 0 i (Nat.zero_le _) hi))
          have hz : m ≤ p.size := by rw [hp.size]; exact b
          have same : ∀ k, kp K (kas_rev p 0 m) k = kp K p k := fun k => by
            rw [kp_rev hz]
            split
            · rw [all _ (by omega), all k (by omega)]
            · rfl
          refine descPart_ok (hp.rev _ _) a hlt (Down.snoc (fun i j x y => ?_) a ?_)
          · rw [same, same, all i (by omega), all j y]
            exact KeyOrd.kle_refl _
          · rw [same, same]
            exact KeyOrd.kle_of_klt hk
      · refine descPart_ok hp a hlt (Down.snoc (fun i j x y => ?_) a (KeyOrd.kle_of_klt hk))
        have : i = j := by omega
        subst this
        exact KeyOrd.kle_refl _
theorem place_ok (hp : Px n p) {k : Nat} (hk : k < n) (hu : Up K p k) : ∀ (f l r : Nat) {Q : Nat → Prop}, l ≤ r → r ≤ k → r - l ≤ f → (∀ i, i < l → O.kle (kp K p i) (kp K p k)) → (∀ i, r ≤ i → i < k → O.kle (kp K p k) (kp K p i)) →
    (∀ l', l' ≤ k → (∀ i, i < l' → O.kle (kp K p i) (kp K p k)) → (∀ i, l' ≤ i → i < k → O.kle (kp K p k) (kp K p i)) → Q l') → Sat (fun i j => O.blt (K i) (K j)) n (kas_place p k f l r) Q
  | 0, l, r, Q, h1, h2, h3, h4, h5, hq => hq l (by omega) h4 fun i a b => h5 i (by omega) b
  | f + 1, l, r, Q, h1, h2, h3, h4, h5, hq => by
    unfold kas_place
    split
    · exact hq l (by omega) h4 fun i a b => h5 i (by omega) b
    · refine ⟨hp.lt hk, hp.lt (by omega), ?_⟩
      dsimp only
      cases hb : O.blt (K (p.getD k 0)) (K (p.getD ((l + r) / 2) 0)) with
      | true =>
        rw [if_pos rfl]
        refine place_ok hp hk hu f l ((l + r) / 2) (by omega) (by omega) (by omega) h4 (fun i a b => ?_) hq
        exact KeyOrd.kle_trans (KeyOrd.kle_of_klt hb) (hu _ i a b)
      | false =>
        rw [if_neg (by simp)]
        refine place_ok hp hk hu f ((l + r) / 2 + 1) r (by omega) (by omega) (by omega) (fun i a => ?_) h5 hq
        exact KeyOrd.kle_trans (hu i ((l + r) / 2) (by omega) (by omega)) hb
theorem bin_ok : ∀ (f k : Nat) (p : Array Nat), Px n p → k + f = n → Up K p k → Sat (fun i j => O.blt (K i) (K j)) n (kas_bin f p k) (fun p' => Px n p' ∧ Up K p' n)
  | 0, k, p, hp, e, hu => ⟨hp, by have : k = n := by omega
                                  subst this; exact hu⟩
  | f + 1, k, p, hp, e, hu => by
    refine Sat.bind (place_ok hp (by omega) hu k 0 k (Nat.zero_le _) (Nat.le_refl _) (by omega) (fun i h => by omega) (fun i a b => by omega) fun l hl h1 h2 => ?_)
    refine bin_ok f (k + 1) _ (hp.bub _ _) (by omega) fun i j hij hj => ?_
    have hz : k < p.size := by rw [hp.size]; omega
    rw [kp_bub hz (by omega), kp_bub hz (by omega), show k - (k - l) = l by omega]
    by_cases a1 : i = l
    · rw [if_pos a1]
      by_cases a2 : j = l
      · rw [if_pos a2]; exact KeyOrd.kle_refl _
      · rw [if_neg a2, if_pos ⟨by omega, by omega⟩]
        exact h2 (j - 1) (by omega) (by omega)
    · rw [if_neg a1]
      by_cases a2 : j = l
      · rw [if_pos a2, if_neg (by omega)]
        exact h1 i (by omega)
      · rw [if_neg a2]
        by_cases b1 : l < i ∧ i ≤ k
        · rw [if_pos b1, if_pos ⟨by omega, by omega⟩]
          exact hu _ _ (by omega) (by omega)
        · rw [if_neg b1]
          by_cases b2 : l < j ∧ j ≤ k
          · rw [if_pos b2]
            exact hu _ _ (by omega) (by omega)
          · rw [if_neg b2]
            exact hu _ _ hij (by omega)
theorem sort_ok (hn : 1 ≤ n) : Sat (fun i j => O.blt (K i) (K j)) n (kas_sort n) (fun p => Px n p ∧ Up K p n) := by
  refine Sat.bind (Sat.mono (fun r hr => ?_) (count_ok (K := K) (p := List.toArray (List.range n)) ⟨by simp, by simp⟩ hn))
  obtain ⟨m, p⟩ := r
  obtain ⟨h1, h2, h3⟩ := hr
  have h2 : m ≤ n := h2
  have h3 : Up K p m := h3
  dsimp only
  split
  · refine bin_ok _ _ p h1 (by omega) ?_
    by_cases q : 1 ≤ m
    · rw [Nat.max_eq_left q]; exact h3
    · intro i j a b
      have : i = j := by omega
      subst this
      exact KeyOrd.kle_refl _
  · have : m = n := by omega
    subst this
    exact ⟨h1, h3⟩
end
end L3
set_option Elab.async false
set_option linter.all false
set_option maxRecDepth 100000
set_option maxHeartbeats 4000000
namespace L3
open PySem PySem.Spec PyProof.Rows
open PySem.W (KasT KatLex KatGo KatTups kat_cons kat_nil kat_yes kat_no kat_go kat_lt kat_one kat_kind kat_run kas_ask kas_item kas_sort)
section
variable {P : Program} {w : World} {O : KeyOrd} [DecidableEq O.α] {A : Around} {E : Value → Shared → Prop} {s : Shared} {dep : Nat}
theorem lex_tail {Q : Bool → Shared → Prop} {fin : Bool} (hu : A.units + dep < cLine) : ∀ {zs : List (Value × Value)} {es : List (Bool × Bool)} (i : Nat), Pairs P w s.heap dep zs es → Q (lexRes es fin) s → KatLex P w A true fin Q zs (i + 1) s
  | _, _, i, .nil, h => kat_nil h
  | _, _, i, .cons (u := u) (v := v) (e := e) (l := l) h1 h2 r, h => by
    refine kat_cons (h1 A s rfl hu P w _ _ (kat_go (fun e1 => kat_yes ?_) (fun e1 => kat_no ?_)))
    · subst e1
      exact lex_tail hu (i + 1) r h
    · subst e1
      rw [show (true && (i + 1 == 0)) = false from rfl, oneLt'_eq]
      simp only [Bool.false_eq_true, if_false]
      exact wpAny_bind (h2 rfl A _ s _ rfl hu (wpAny_truthy_bool h))
theorem lex_head {Q : Bool → Shared → Prop} {fin : Bool} (hu : A.units + dep < cLine) {a b : Int} {t t' : Tok} {zs : List (Value × Value)} {es : List (Bool × Bool)} (r : Pairs P w s.heap dep zs es) (h : Q (lexRes ((decide (a = b), decide (a < b)) :: es) fin) s) :
    KatLex P w A true fin Q ((.int a t, .int b t') :: zs) 0 s := by
  refine kat_cons (eqV_int (h := s.heap) a b t t' A s rfl (by omega) P w _ _ (kat_go (fun e1 => kat_yes ?_) (fun e1 => kat_no ?_)))
  · have h : Q (if decide (a = b) = true then lexRes es fin else decide (a < b)) s := h
    rw [e1, if_pos rfl] at h
    exact lex_tail hu 0 r h
  · have h : Q (if decide (a = b) = true then lexRes es fin else decide (a < b)) s := h
    rw [e1, if_neg (by simp)] at h
    exact oneLt_any_int h
def FirstInt (h : Heap) (v : Value) : Prop := ∃ a o xs n k t, v = .ref a ∧ h.get? a = some o ∧ o.cls = .type "tuple" ∧ o.data = .seq xs n ∧ xs[0]? = some (.int k t)
structure SortV (V : VKd P w O) (ok : O.α → Prop) : Prop where
  first : ∀ {h : Heap} {k : O.α} {v : Value}, V.is h k v → ok k → FirstInt h v
  lt : ∀ {h : Heap} {x y : O.α} {u v : Value}, V.is h x u → V.is h y v → ok x → ok y → ∀ (A : Around) (E : Value → Shared → Prop) (s : Shared) (Q : Bool → Shared → Prop), s.heap = h → A.units + V.dep < cLine → Q (O.blt x y) s → wpAny (model P w) A (keyLt' (tuples' true) u v) Q E s
theorem row_sort (P : Program) (w : World) : SortV (rowV P w) (fun r => r ≠ []) where
  first := fun {h k v} ⟨a, items, e, ⟨o, h1, h2, n, h3⟩, p⟩ hk => by
    cases hp : items.toList with
    | nil => rw [hp] at p; cases p; exact absurd rfl hk
    | cons x r =>
      rw [hp] at p
      cases p with
      | @cons k1 _ _ _ q _ =>
        obtain ⟨t, rfl⟩ := q
        refine ⟨a, o, items, n, ((k1 : Nat) : Int), t, e, h1, h2, h3, ?_⟩
        rw [← Array.getElem?_toList, hp]
        rfl
  lt := fun {h x y u v} ⟨a, items, e, ⟨o, h1, h2, n, h3⟩, p⟩ ⟨a', items', e', ⟨o', h1', h2', n', h3'⟩, p'⟩ hx hy A E s Q hs hu hq => by
    subst hs
    rw [e, e']
    have l1 : List.length x = items.size := (paired_len p).trans Array.length_toList
    have l2 : List.length y = items'.size := (paired_len p').trans Array.length_toList
    refine kat_lt h1 h3 h1' h3' ?_
    rw [← l1, ← l2]
    have hq : Q (PyProof.Rows.lexLt natOrd x y) s := hq
    rw [← lexRes_zip (O := natOrd) x y] at hq
    generalize decide (List.length x < List.length y) = fin at hq ⊢
    cases hp : items.toList with
    | nil => rw [hp] at p; cases p; exact absurd rfl hx
    | cons u1 r =>
      cases hp' : items'.toList with
      | nil => rw [hp'] at p'; cases p'; exact absurd rfl hy
      | cons u2 r' =>
        rw [hp] at p
        rw [hp'] at p'
        cases p with
        | @cons k1 _ ks _ q pr =>
          cases p' with
          | @cons k2 _ ks' _ q' pr' =>
            obtain ⟨t, rfl⟩ := q
            obtain ⟨t', rfl⟩ := q'
            rw [List.zip_cons_cons]
            refine lex_head (dep := 0) (show A.units + 0 < cLine by have : A.units + (0 + 1) < cLine := hu; omega) (pairs_of (natV P w) pr pr') ?_
            rw [List.zipWith_cons_cons] at hq
            have e1 : decide ((k1 : Nat) = k2) = decide (((k1 : Nat) : Int) = ((k2 : Nat) : Int)) := by
              by_cases z : (k1 : Nat) = k2
              · rw [decide_eq_true z, decide_eq_true (by rw [z])]
              · rw [decide_eq_false z, decide_eq_false (fun r => z (Int.ofNat_inj.mp r))]
            have e2 : natOrd.blt k1 k2 = decide (((k1 : Nat) : Int) < ((k2 : Nat) : Int)) := by
              show decide ((k1 : Nat) < k2) = _
              by_cases z : (k1 : Nat) < k2
              · rw [decide_eq_true z, decide_eq_true (Int.ofNat_lt.mpr z)]
              · rw [decide_eq_false z, decide_eq_false (fun r => z (Int.ofNat_lt.mp r))]
            rw [← e1, ← e2]
            exact hq
theorem sg_sort (P : Program) (w : World) : SortV (sgV P w) (fun _ => True) where
  first := fun {h k v} ⟨a, u, u', e, ⟨o, h1, h2, n, h3⟩, ⟨t, p⟩, q⟩ _ => ⟨a, o, #[u, u'], n, ((k.1 : Nat) : Int), t, e, h1, h2, h3, by subst p; rfl⟩
  lt := fun {h x y v v'} ⟨a, u, u', e, ⟨o, h1, h2, n, h3⟩, ⟨t, p⟩, q⟩ ⟨a2, z, z', e', ⟨o', h1', h2', n', h3'⟩, ⟨t', p'⟩, q'⟩ _ _ A E s Q hs hu hq => by
    subst hs
    rw [e, e']
    refine kat_lt h1 h3 h1' h3' ?_
    subst p
    subst p'
    have hu2 : A.units + (rowsV P w).dep < cLine := by
      have : A.units + (max (natV P w).dep (rowsV P w).dep + 1) < cLine := hu
      have := Nat.le_max_right (natV P w).dep (rowsV P w).dep
      omega
    refine lex_head (dep := (rowsV P w).dep) hu2 (zs := [(u', z')]) (es := [(decide (x.2 = y.2), (PyProof.Rows.listOrd (PyProof.Rows.listOrd natOrd)).blt x.2 y.2)]) (.cons ((rowsV P w).eqV q q') (fun _ => (rowsV P w).ltV q q') .nil) ?_
    have e1 : decide ((x.1 : Nat) = y.1) = decide (((x.1 : Nat) : Int) = ((y.1 : Nat) : Int)) := by
      by_cases z : (x.1 : Nat) = y.1
      · rw [decide_eq_true z, decide_eq_true (by rw [z])]
      · rw [decide_eq_false z, decide_eq_false (fun r => z (Int.ofNat_inj.mp r))]
    have e2 : natOrd.blt x.1 y.1 = decide (((x.1 : Nat) : Int) < ((y.1 : Nat) : Int)) := by
      show decide ((x.1 : Nat) < y.1) = _
      by_cases z : (x.1 : Nat) < y.1
      · rw [decide_eq_true z, decide_eq_true (Int.ofNat_lt.mpr z)]
      · rw [decide_eq_false z, decide_eq_false (fun r => z (Int.ofNat_lt.mp r))]
    rw [← e1, ← e2]
    have e3 : lexRes [(decide ((x.1 : Nat) = y.1), natOrd.blt x.1 y.1), (decide (x.2 = y.2), (PyProof.Rows.listOrd (PyProof.Rows.listOrd natOrd)).blt x.2 y.2)] (decide (#[Value.int ((x.1 : Nat) : Int) t, u'].size < #[Value.int ((y.1 : Nat) : Int) t', z'].size)) = twoLt natOrd (PyProof.Rows.listOrd (PyProof.Rows.listOrd natOrd)) x y := by
      unfold twoLt
      by_cases a1 : x.1 = y.1
      · by_cases a2 : x.2 = y.2
        · simp [lexRes, a1, a2, natOrd.irrefl, PyProof.Rows.lex_irrefl]
        · simp [lexRes, a1, a2, natOrd.irrefl]
      · have : (natOrd.blt x.1 y.1 || (!natOrd.blt y.1 x.1 && (PyProof.Rows.listOrd (PyProof.Rows.listOrd natOrd)).blt x.2 y.2)) = natOrd.blt x.1 y.1 := by
          cases b1 : natOrd.blt x.1 y.1 with
          | true => rfl
          | false =>
            cases b2 : natOrd.blt y.1 x.1 with
            | true => rfl
            | false => exact absurd (natOrd.total _ _ b1 b2) a1
        rw [this]
        simp [lexRes, a1]
    rw [e3]
    exact hq
theorem tups_of (V : VKd P w O) {ok : O.α → Prop} (SV : SortV V ok) {h : Heap} : ∀ {ks : List O.α} {vs : List Value}, Paired (V.is h) ks vs → (∀ k ∈ ks, ok k) → ∃ fs, fs.length = vs.length ∧ KatTups h vs fs ∧ ∀ f ∈ fs, ∃ k t, f = .int k t
  | _, _, .nil, _ => ⟨[], rfl, KatTups.nil, fun f hf => by simp at hf⟩
  | _, _, .cons a r, hk => by
    obtain ⟨fs, h1, h2, h3⟩ := tups_of V SV r fun k hk' => hk k (List.mem_cons_of_mem _ hk')
    obtain ⟨ad, o, xs, n, k, t, rfl, q1, q2, q3, q4⟩ := SV.first a (hk _ List.mem_cons_self)
    refine ⟨.int k t :: fs, by simp [h1], KatTups.cons q1 q2 q3 q4 h2, fun f hf => ?_⟩
    rcases List.mem_cons.mp hf with rfl | hf
    · exact ⟨k, t, rfl⟩
    · exact h3 f hf
theorem kind_of (V : VKd P w O) {ok : O.α → Prop} (SV : SortV V ok) {ks : List O.α} {vs : List Value} (hp : Paired (V.is s.heap) ks vs) (hk : ∀ k ∈ ks, ok k) (h2 : 0 < vs.length) {Q : SortKind → Shared → Prop} (h : Q (tuples' true) s) : wpAny (model P w) A (keyKind' vs.toArray) Q E s := by
  obtain ⟨fs, h3, h4, h5⟩ := tups_of V SV hp hk
  refine kat_kind (T := Value.type "int") h4 (by omega) (fun v hv => ?_) rfl h
  obtain ⟨k, t, rfl⟩ := h5 v hv
  exact PySem.W.Looks.of_pure rfl
theorem sorted_list {V : VKd P w O} {h : Heap} {ks : List O.α} {vs : List Value} (hp : Paired (V.is h) ks vs) {p : Array Nat} (px : Px vs.length p) (d : O.α) : Paired (V.is h) (p.toList.map fun i => ks.getD i d) (p.toList.map fun i => vs.getD i .none) := by
  refine paired_order fun i hi => ?_
  have hlt : i < vs.length := List.mem_range.mp (px.perm.mem_iff.mp hi)
  have e1 : vs[i]? = some (vs.getD i .none) := by rw [List.getD_eq_getElem?_getD, List.getElem?_eq_getElem hlt]; rfl
  obtain ⟨k, q1, q2⟩ := paired_at hp e1
  have : ks.getD i d = k := by rw [List.getD_eq_getElem?_getD, q1]; rfl
  rw [this]
  exact q2
structure Sorted (ks ks' : List O.α) : Prop where
  perm : ks'.Perm ks
  up : ks'.Pairwise O.kle
theorem sorted_keys {ks : List O.α} {p : Array Nat} (d : O.α) (px : Px ks.length p) (hu : Up (fun i => ks.getD i d) p ks.length) : Sorted ks (p.toList.map fun i => ks.getD i d) := by
  refine ⟨?_, ?_⟩
  · have q := px.perm.map fun i => ks.getD i d
    have e : (List.range ks.length).map (fun i => ks.getD i d) = ks := by
      refine List.ext_getElem? fun j => ?_
      by_cases hj : j < ks.length
      · rw [List.getElem?_map, List.getElem?_range hj]
        simp [List.getD, hj]
      · rw [List.getElem?_eq_none (by simpa using hj), List.getElem?_eq_none (by omega)]
    rw [e] at q
    exact q
  · rw [List.pairwise_map, List.pairwise_iff_getElem]
    intro i j hi hj hij
    rw [Array.length_toList, px.size] at hi hj
    have h := hu i j (Nat.le_of_lt hij) hj
    have e : ∀ i (hi : i < ks.length), p.getD i 0 = p.toList[i]'(by rw [Array.length_toList, px.size]; exact hi) := fun i hi => by
      have : i < p.size := by rw [px.size]; exact hi
      simp [Array.getD, this]
    unfold kp at h
    rw [e i hi, e j hj] at h
    exact h
theorem list_sort_V (V : VKd P w O) {ok : O.α → Prop} (SV : SortV V ok) (d : O.α) (hu : A.units + V.dep < cLine) {a : Addr} {vs : List Value} {n : Nat} {ks : List O.α} {Pf : PySem.Fin → Shared → Prop} (ho : s.heap.get? a = some (seqObj "list" vs.toArray n)) {h0 : Heap} (k0 : KeepT h0 s.heap) (hp : Paired (V.is h0) ks vs) (hk : ∀ k ∈ ks, ok k) (h64 : vs.length < 64)
    (h : ∀ (out : List Value) (ks' : List O.α), Sorted ks ks' → Paired (V.is h0) ks' out → Pf (.done (.ret .none)) { s with heap := sortedHeap s.heap a vs out.toArray }) :
    wpAny (model P w) A (Builtin.«list.sort» ⟨[.ref a], []⟩) Pf E s := by
  have hL2 : vs.length ≤ sizeLine := by rw [sizeLine_eq]; omega
  have hkl : ks.length = vs.length := paired_len hp
  rw [list_sort_plain]
  have ha : a < s.heap.objs.size := Heap.lt_size ho
  refine wpAny_bind (listItems_at ho rfl (wpAny_bind (listUpdate_at ho rfl ?_)))
  obtain ⟨e1, ho1⟩ : ∃ e1, (s.heap.update a (Obj.mapSeq fun _ => #[])).get? a = some (seqObj "list" #[] e1) := ⟨_, get?_update_seq ho (fun _ => #[])⟩
  refine wpAny_bind (seqEpoch_at ho1 rfl (wpAny_bind (wpAny_newTuple (wpAny_bind (wpAny_newList (wpAny_holding ?_))))))
  have ho6 : (((s.heap.update a (Obj.mapSeq fun _ => #[])).push (seqObj "tuple" vs.toArray 0)).push (seqObj "list" #[] 0)).get? a = some (seqObj "list" #[] e1) := by
    rw [Heap.get?_push_ne _ _ _ (by rw [size_push', Heap.size_update]; exact Nat.ne_of_lt (Nat.lt_succ_of_lt ha)), Heap.get?_push_ne _ _ _ (by rw [Heap.size_update]; exact Nat.ne_of_lt ha)]
    exact ho1
  show wpAny (model P w) A _ Pf E { s with heap := ((s.heap.update a (Obj.mapSeq fun _ => #[])).push (seqObj "tuple" vs.toArray 0)).push (seqObj "list" #[] 0) }
  have kt : KeepT s.heap (((s.heap.update a (Obj.mapSeq fun _ => #[])).push (seqObj "tuple" vs.toArray 0)).push (seqObj "list" #[] 0)) := by
    refine KeepT.but (a := a) (fun b o q e => Heap.get?_push_of_some _ (Heap.get?_push_of_some _ ?_)) ho (by show Value.type "list" ≠ Value.type "tuple"; intro q; injection q with q; exact absurd q (by decide))
    rw [Heap.get?_update_ne _ _ _ _ q]
    exact e
  dsimp only
  have hsz : vs.toArray.size = vs.length := by simp
  by_cases h2 : vs.toArray.size < 2
  · rw [if_pos h2, if_pos h2]
    refine wpAny_bind (wpAny_pure ?_)
    rw [StateT.run_pure]
    refine wpAny_bind (wpAny_pure ?_)
    dsimp only
    refine wpAny_bind (seqEpoch_at ho6 rfl ?_)
    refine wpAny_bind (listUpdate_at ho6 rfl ?_ (hsz2 := by rw [Array.size_map]; show (pairsOf vs).size ≤ _; rw [pairsOf_size, sizeLine_eq]; omega))
    simp only [bne_self_eq_false, Bool.false_eq_true, if_false]
    refine wpAny_pure ?_
    have e : (arrOf (SortSt.mk' general' (vs.toArray.zip vs.toArray) #[] 7 none)).map (·.2) = vs.toArray := by
      show (vs.toArray.zip vs.toArray).map (·.2) = _
      refine Array.toList_inj.mp ?_
      simp only [Array.toList_map, Array.toList_zip, List.toList_toArray]
      exact List.map_snd_zip (Nat.le_refl _)
    have q := h vs ks ⟨List.Perm.refl _, ?_⟩ hp
    · have e' : (fun (_ : Array Value) => (arrOf (SortSt.mk' general' (vs.toArray.zip vs.toArray) #[] 7 none)).map (·.2)) = fun _ => vs.toArray := by rw [e]
      first
        | (rw [e]; exact q)
        | (simp only [e]; exact q)
        | exact (by rw [e'] ; exact q)
    · rw [hsz] at h2
      match ks, hkl with
      | [], _ => exact List.Pairwise.nil
      | [_], _ => exact List.pairwise_singleton _ _
      | _ :: _ :: _, hkl => simp at hkl; omega
  · rw [if_neg h2, if_neg h2]
    have h2' : 2 ≤ vs.length := by omega
    generalize hH : ((s.heap.update a (Obj.mapSeq fun _ => #[])).push (seqObj "tuple" vs.toArray 0)).push (seqObj "list" #[] 0) = h6 at kt ho6
    have hp6 : Paired (V.is h6) ks vs := paired_mono (fun _ _ q => V.keeps kt (V.keeps k0 q)) hp
    refine wpAny_bind (kind_of (s := { s with heap := h6 }) V SV hp6 hk (by omega) ?_)
    have hask : ∀ i j (C : Bool → Shared → Prop), i < vs.length → j < vs.length → C (O.blt (ks.getD i d) (ks.getD j d)) { s with heap := h6 } → kas_ask P w A (tuples' true) vs i j C { s with heap := h6 } := fun i j C hi hj hc => by
      have at_ : ∀ i, i < vs.length → V.is h6 (ks.getD i d) (vs.getD i .none) ∧ ok (ks.getD i d) := fun i hi => by
        have e1 : vs[i]? = some (vs.getD i .none) := by rw [List.getD_eq_getElem?_getD, List.getElem?_eq_getElem hi]; rfl
        obtain ⟨k, q1, q2⟩ := paired_at hp6 e1
        have : ks.getD i d = k := by rw [List.getD_eq_getElem?_getD, q1]; rfl
        rw [this]
        exact ⟨q2, hk k (List.mem_of_getElem? q1)⟩
      exact SV.lt (at_ i hi).1 (at_ j hj).1 (at_ i hi).2 (at_ j hj).2 A _ { s with heap := h6 } C rfl hu hc
    have hsat := Sat.wp (cmp := kas_ask P w A (tuples' true) vs) (s := { s with heap := h6 }) (G := fun p s' => s' = { s with heap := h6 } ∧ Px vs.length p ∧ Up (fun i => ks.getD i d) p vs.length) hask (fun p hq => ⟨rfl, hq⟩) (sort_ok (K := fun i => ks.getD i d) (n := vs.length) (by omega))
    refine wpAny_bind (wpAny_mono (kat_run (vs := vs) (ks := vs) (Q := fun st' s' => s' = { s with heap := h6 } ∧ ∃ p, arrOf st' = p.map (kas_item (vs.toArray.zip vs.toArray)) ∧ failedOf st' = none ∧ Px vs.length p ∧ Up (fun i => ks.getD i d) p vs.length) rfl h2' h64 (fun p st' s' _ b c ⟨e, f1, f2⟩ => ⟨e, p, b, c, f1, f2⟩) hsat) ?_ fun _ _ e => e)
    rintro ⟨⟨⟩, st'⟩ s' ⟨rfl, p, har, hf, px, hup⟩
    dsimp only
    have hsnd := PySem.W.kat_snds (ks := vs) (vs := vs) rfl har
    refine wpAny_bind (seqEpoch_at ho6 rfl ?_)
    refine wpAny_bind (listUpdate_at ho6 rfl ?_ (hsz2 := ?_))
    · rw [hf]
      simp only [bne_self_eq_false, Bool.false_eq_true, if_false]
      refine wpAny_pure ?_
      have q := h (p.toList.map fun i => vs.getD i .none) _ (sorted_keys d (by rw [hkl]; exact px) (by rw [hkl]; exact hup)) (sorted_list hp px d)
      rw [← hsnd] at q
      subst hH
      exact q
    · rw [hsnd, List.size_toArray, List.length_map, Array.length_toList, px.size]
      exact Nat.le_succ_of_le hL2
theorem sorted_V (V : VKd P w O) {ok : O.α → Prop} (SV : SortV V ok) (d : O.α) (hu : A.units + (V.dep + 2) < cLine) {l : Value} {KS : List O.α → Prop} {Q : Value → Shared → Prop}
    (hcol : ∀ (E' : Value → Shared → Prop) (Q' : List Value → Shared → Prop), (∀ (vs : List Value) (ks : List O.α) (h' : Heap) (tk : Nat), (∀ b o, s.heap.get? b = some o → h'.get? b = some o) → s.heap.objs.size ≤ h'.objs.size → Paired (V.is s.heap) ks vs → KS ks → Q' vs { s with heap := h', toks := tk }) → wpAny (model P w) A.in1 (collect l) Q' E' s)
    (hks : ∀ ks, KS ks → ks.length < 64 ∧ ∀ k ∈ ks, ok k)
    (h : ∀ (h' : Heap) (tk : Nat) (L : Addr) (e : Nat) (out : List Value) (ks ks' : List O.α), (∀ b o, s.heap.get? b = some o → h'.get? b = some o) → s.heap.objs.size ≤ L → h'.get? L = some (seqObj "list" out.toArray e) → KS ks → Sorted ks ks' → Paired (V.is s.heap) ks' out → Q (.ref L) { s with heap := h', toks := tk }) :
    wpAny (model P w) A (call (.builtin "sorted") [l]) Q E s := by
  refine Calls.call_function_entry kind_sorted plain_sorted entry_sorted (args_sorted1 _) ?_
  unfold Builtin.«sorted»
  refine wpAny_bind (m := checkCount "sorted" 1 1 _) (wpAny_pure (wpAny_bind (hcol _ _ fun vs ks h1 tk hk1 hle hp hK => ?_)))
  obtain ⟨h64, hok⟩ := hks ks hK
  have hvl : vs.length < 64 := by rw [← paired_len hp]; exact h64
  refine wpAny_bind (wpAny_newList ?_ (by rw [sizeLine_eq]; omega))
  have hoL : (h1.push (seqObj "list" vs.toArray 0)).get? h1.objs.size = some (seqObj "list" vs.toArray 0) := Heap.get?_push_size _ rfl
  have hk2 : ∀ b o, s.heap.get? b = some o → (h1.push (seqObj "list" vs.toArray 0)).get? b = some o := fun b o e => Heap.get?_push_of_some _ (hk1 b o e)
  show wpAny _ _ _ _ _ { s with heap := h1.push (seqObj "list" vs.toArray 0), toks := tk }
  refine wpAny_bind (wpAny_holding (wpAny_call_entry slot_list_sort ⟨_, hoL, rfl⟩ entry_list_sort (list_sort_V (s := { s with heap := h1.push (seqObj "list" vs.toArray 0), toks := tk }) V SV d (by show A.units + 1 + 1 + V.dep < cLine; omega) hoL (KeepT.all hk2) hp hok hvl fun out ks' hs ho => ⟨_, rfl, ?_⟩) (args_list_sort _)))
  obtain ⟨e, he⟩ := sortedHeap_at (vs := vs) (out := out.toArray) hoL
  refine wpAny_pure ⟨_, rfl, h _ tk h1.objs.size e out ks ks' (fun b o q => ?_) hle he hK hs ho⟩
  · have hlt := Heap.lt_size (hk1 b o q)
    rw [sortedHeap_old (Nat.ne_of_lt hlt) (by rw [size_push']; exact Nat.lt_succ_of_lt hlt)]
    exact hk2 b o q
theorem collect_l {l : Addr} {vs : List Value} (hl : s.heap.IsList l vs.toArray) (hz : vs.length ≤ sizeLine) {Q' : List Value → Shared → Prop} (h : ∀ (h' : Heap) (tk : Nat), (∀ b o, s.heap.get? b = some o → h'.get? b = some o) → s.heap.objs.size ≤ h'.objs.size → Q' vs { s with heap := h', toks := tk }) :
    wpAny (model P w) A (collect (.ref l)) Q' E s := by
  refine collect_list hl (h _ s.toks (fun b o e => ?_) (by rw [Heap.size_update, size_push']; exact Nat.le_succ _)) hz
  have hlt := Heap.lt_size e
  rw [Heap.get?_update_ne _ _ _ _ (Nat.ne_of_lt hlt)]
  exact Heap.get?_push_of_some _ e
end
end L3
set_option Elab.async false
set_option linter.all false
set_option maxRecDepth 100000
set_option maxHeartbeats 2000000
namespace L3
open PySem PySem.Spec PyProof.Rows
section
variable {P : Program} {w : World} {O : KeyOrd} [DecidableEq O.α]
def VKd.res (V : VKd P w O) (pd : O.α → Value → Prop) : VKd P w O where
  is h k v := V.is h k v ∧ pd k v
  hash := V.hash
  draws := V.draws
  dep := V.dep
  inj := fun a b => V.inj a.1 b.1
  keeps := fun k a => ⟨V.keeps k a.1, a.2⟩
  hashV := fun a => V.hashV a.1
  eqV := fun a b => V.eqV a.1 b.1
  ltV := fun a b => V.ltV a.1 b.1
  calm := fun a => V.calm a.1
theorem SortV.res {V : VKd P w O} {ok : O.α → Prop} (S : SortV V ok) (pd : O.α → Value → Prop) : SortV (V.res pd) ok where
  first := fun a hk => S.first a.1 hk
  lt := fun a b hx hy => S.lt a.1 b.1 hx hy
theorem sg_refs (P : Program) (w : World) : Refs (sgV P w) := fun h k v ⟨a, _, _, e, _⟩ => ⟨a, e⟩
theorem Refs.res {V : VKd P w O} (R : Refs V) (pd : O.α → Value → Prop) : Refs (V.res pd) := fun h k v q => R h k v q.1
end
def srt (O : KeyOrd) (l : List O.α) : List O.α := l.mergeSort fun a b => !O.blt b a
theorem srt_perm (O : KeyOrd) (l : List O.α) : (srt O l).Perm l := List.mergeSort_perm _ _
theorem srt_up (O : KeyOrd) (l : List O.α) : (srt O l).Pairwise O.kle := by
  have h := List.pairwise_mergeSort (le := fun a b => !O.blt b a) (fun a b c h1 h2 => by
    simp only [Bool.not_eq_true'] at *
    exact KeyOrd.kle_trans (O := O) h1 h2) (fun a b => by
    cases q : O.blt b a with
    | false => simp
    | true => simp [KeyOrd.klt_asymm (O := O) q, show O.blt a b = false from KeyOrd.klt_asymm (O := O) q]) l
  refine List.Pairwise.imp (fun {a b} q => ?_) h
  have q : (!O.blt b a) = true := q
  show O.blt b a = false
  simpa using q
theorem srt_eq {O : KeyOrd} {l m : List O.α} (hp : m.Perm l) (hu : m.Pairwise O.kle) : m = srt O l :=
  List.Perm.eq_of_pairwise (le := O.kle) (fun a b _ _ h1 h2 => KeyOrd.kle_antisymm h1 h2) hu (srt_up O l) (hp.trans (srt_perm O l).symm)
theorem Sorted.eq {O : KeyOrd} [DecidableEq O.α] {l m : List O.α} (h : Sorted l m) : m = srt O l := srt_eq h.perm h.up
abbrev rowOrd : KeyOrd := PyProof.Rows.listOrd natOrd
end L3
set_option Elab.async false
set_option linter.all false
set_option maxRecDepth 100000
set_option maxHeartbeats 2000000
namespace L2
open PySem PySem.Spec PyProof.Rows
def metInts (ns : List Int) : List Int := firstMet (fun i => ns.getD i 0) ns.length
theorem step_nodup {l : List Int} {v : Int} (h : l.Nodup) : (step_dedup l v).Nodup := by
  unfold step_dedup
  by_cases q : l.any (· == v) = true
  · rw [if_pos q]; exact h
  · rw [if_neg q]
    refine nd_snoc h fun m => q (List.any_eq_true.mpr ⟨v, m, by simp⟩)
theorem firstMet_nodup (val : Nat → Int) : ∀ i, (firstMet val i).Nodup
  | 0 => by rw [firstMet_zero]; simp
  | i + 1 => by rw [firstMet_succ]; exact step_nodup (firstMet_nodup val i)
theorem metInts_nodup (ns : List Int) : (metInts ns).Nodup := firstMet_nodup _ _
theorem metInts_mem {ns : List Int} {k : Int} : k ∈ metInts ns ↔ k ∈ ns := by
  have e : ((List.range ns.length).map fun i => ns.getD i 0) = ns := by
    refine List.ext_getElem? fun j => ?_
    by_cases hj : j < ns.length
    · rw [List.getElem?_map, List.getElem?_range hj]
      simp [List.getD, hj]
    · rw [List.getElem?_eq_none (by simpa using hj), List.getElem?_eq_none (by omega)]
  have h := firstMet_any (fun i => ns.getD i 0) ns.length k
  rw [e] at h
  have a1 : (metInts ns).any (· == k) = true ↔ k ∈ metInts ns := by
    rw [List.any_eq_true]
    exact ⟨fun ⟨x, hx, e⟩ => (eq_of_beq e) ▸ hx, fun hx => ⟨k, hx, by simp⟩⟩
  have a2 : ns.any (· == k) = true ↔ k ∈ ns := by
    rw [List.any_eq_true]
    exact ⟨fun ⟨x, hx, e⟩ => (eq_of_beq e) ▸ hx, fun hx => ⟨k, hx, by simp⟩⟩
  rw [← a1, ← a2]
  show ((firstMet (fun i => ns.getD i 0) ns.length).any (· == k) = true) ↔ _
  rw [h]
section
variable {X : Cx}
theorem call_setL (hc : X.calm = true) : CallR X (.type "set") (fun xs H Q => ∃ (a : Addr) (ns : List Int), xs = [.ref a] ∧ SqL X.K H a (ns.map V.int) ∧ ns.length < 4000 ∧
    ∀ p, H p = none → Q (.ref p) (upd H p (.set (fun k => (metInts ns).any (· == k)) (metInts ns).length))) := by
  intro pins s σ H xs us Q I r h
  obtain ⟨a, ns, rfl, hq, hn, q⟩ := h
  obtain ⟨u, rfl, rx⟩ := vals1 r
  cases rx
  obtain ⟨its, r', pl, hz⟩ := I.list hq
  have hi := intsAre_of r'
  have hlen : its.length = ns.length := by
    have := r'.length
    rw [List.length_map] at this
    omega
  refine PySem.call_set_list (items := its.toArray) (ns := ns) (I.ok.hd hc) pl.isList (by simpa using hi) (by rw [List.size_toArray, hlen]; unfold scanBound; omega) fun h' tk hS hk => ?_
  have hsz : its.toArray.size = ns.length := by rw [List.size_toArray, hlen]
  rw [hsz] at hS
  exact ⟨.ref s.heap.objs.size, _, I.laid (t' := tk) (o := .set (fun k => (metInts ns).any (· == k)) (metInts ns).length) (fun b o e => hk b o (Heap.lt_size e) e) (Nat.le_refl _) hS, rfl, q _ (I.hok.fresh (Nat.le_refl _))⟩
theorem call_lenS : CallR X (.builtin "len") (fun xs H Q => ∃ (a : Addr) (S : Int → Bool) (n : Nat), xs = [.ref a] ∧ H a = some (.set S n) ∧ Q (.int n) H) := by
  intro pins s σ H xs us Q I r h
  obtain ⟨a, S, n, rfl, ha, q⟩ := h
  obtain ⟨u, rfl, rx⟩ := vals1 r
  cases rx
  obtain ⟨o, es, ep, t, ho, hex, hd, _, _, hb, hf, hn⟩ := (show s.heap.SetOf (intKind X.prog X.w) a S n from I.hok a _ ha)
  exact call_len_set ho hex hd hf (by unfold scanBound at hb; omega) ⟨.int n, H, I.tok _, ⟨_, by rw [hn]⟩, q⟩
end
end L2
set_option linter.all false
namespace My
open Rd12
theorem all_iff {n : Nat} {f : Nat → Bool} : Rd12.all n f = true ↔ ∀ x, x < n → f x = true := by
  unfold Rd12.all
  rw [List.all_eq_true]
  exact ⟨fun h x hx => h x (List.mem_range.mpr hx), fun h x hx => h x (List.mem_range.mp hx)⟩
theorem all_false {n i : Nat} {f : Nat → Bool} (hi : i < n) (hf : f i = false) : Rd12.all n f = false := by
  cases h : Rd12.all n f with
  | false => rfl
  | true => rw [all_iff.mp h i hi] at hf; cases hf
theorem all_true {n : Nat} {f : Nat → Bool} (h : ∀ x, x < n → f x = true) : Rd12.all n f = true := all_iff.mpr h
theorem upto_succ {i : Nat} {f : Nat → Bool} (h : ∀ x, x < i → f x = true) (hi : f i = true) : ∀ x, x < i + 1 → f x = true := fun x hx => by
  by_cases e : x = i
  · rw [e]; exact hi
  · exact h x (by omega)
theorem ix_lt {n x y : Nat} (hx : x < n) (hy : y < n) : x * n + y < n * n := by
  have h1 : (x + 1) * n ≤ n * n := Nat.mul_le_mul_right n hx
  rw [Nat.succ_mul] at h1
  omega
theorem turn_def (n : Nat) (T : List Nat) (x y : Nat) : Table.turn ⟨n, T⟩ x y = T.getD (x * n + y) 0 := rfl
theorem turn_at {n : Nat} {T : List Nat} {x y : Nat} (h : x * n + y < T.length) : T[x * n + y]? = some (Table.turn ⟨n, T⟩ x y) := by
  rw [turn_def, List.getD_eq_getElem?_getD, List.getElem?_eq_getElem h]
  rfl
theorem turn_lt {n : Nat} {T : List Nat} {x y : Nat} (hl : T.length = n * n) (hb : ∀ v ∈ T, v < n) (hx : x < n) (hy : y < n) : Table.turn ⟨n, T⟩ x y < n := by
  have h : x * n + y < T.length := by rw [hl]; exact ix_lt hx hy
  exact hb _ (List.mem_of_getElem? (turn_at h))
theorem nodup_len_le {α : Type} [DecidableEq α] : ∀ {l m : List α}, l.Nodup → (∀ x ∈ l, x ∈ m) → l.length ≤ m.length
  | [], m, _, _ => Nat.zero_le _
  | a :: l, m, hn, hs => by
    obtain ⟨h1, h2⟩ := List.nodup_cons.mp hn
    have ha : a ∈ m := hs a List.mem_cons_self
    have h3 : ∀ x ∈ l, x ∈ m.erase a := fun x hx => by
      have : x ≠ a := fun e => h1 (e ▸ hx)
      exact (List.mem_erase_of_ne this).mpr (hs x (List.mem_cons_of_mem _ hx))
    have h4 := nodup_len_le h2 h3
    have h5 := List.length_erase_of_mem ha
    have h6 : 0 < m.length := List.length_pos_of_mem ha
    rw [List.length_cons]
    omega
theorem nodup_len_eq {α : Type} [DecidableEq α] {l m : List α} (hl : l.Nodup) (hm : m.Nodup) (h : ∀ x, x ∈ l ↔ x ∈ m) : l.length = m.length :=
  Nat.le_antisymm (nodup_len_le hl fun x hx => (h x).mp hx) (nodup_len_le hm fun x hx => (h x).mpr hx)
theorem eraseDups_nodup {α : Type} [DecidableEq α] : ∀ (k : Nat) (l : List α), l.length ≤ k → l.eraseDups.Nodup
  | 0, l, h => by
    have : l = [] := List.eq_nil_of_length_eq_zero (by omega)
    subst this
    simp
  | k + 1, [], _ => by simp
  | k + 1, a :: l, h => by
    rw [List.eraseDups_cons]
    refine List.nodup_cons.mpr ⟨fun hm => ?_, eraseDups_nodup k _ ?_⟩
    · have h1 := List.mem_eraseDups.mp hm
      have h2 := (List.mem_filter.mp h1).2
      simp at h2
    · have := List.length_filter_le (fun b => !b == a) l
      rw [List.length_cons] at h
      omega
theorem nodup_erase {α : Type} [DecidableEq α] (l : List α) : l.eraseDups.Nodup := eraseDups_nodup l.length l (Nat.le_refl _)
theorem nodup_of_len {α : Type} [DecidableEq α] : ∀ {l : List α}, l.eraseDups.length = l.length → l.Nodup
  | [], _ => by simp
  | a :: l, h => by
    rw [List.eraseDups_cons, List.length_cons, List.length_cons] at h
    have h0 : (l.filter fun b => !b == a).eraseDups.length = l.length := by omega
    have h1 : (l.filter fun b => !b == a).eraseDups.length ≤ (l.filter fun b => !b == a).length :=
      nodup_len_le (nodup_erase _) fun x hx => List.mem_eraseDups.mp hx
    have h2 := List.length_filter_le (fun b => !b == a) l
    have h3 : (l.filter fun b => !b == a).length = l.length := by omega
    have h4 : (l.filter fun b => !b == a) = l := by
      refine List.filter_eq_self.mpr ?_
      exact List.length_filter_eq_length_iff.mp h3
    rw [h4] at h0
    refine List.nodup_cons.mpr ⟨fun hm => ?_, nodup_of_len h0⟩
    have := List.filter_eq_self.mp h4 a hm
    simp at this
theorem len_of_nodup {α : Type} [DecidableEq α] {l : List α} (h : l.Nodup) : l.eraseDups.length = l.length :=
  nodup_len_eq (nodup_erase l) h fun _ => List.mem_eraseDups
def rowOf (n : Nat) (T : List Nat) (x : Nat) : List Nat := (T.drop (x * n)).take n
theorem row_len {n : Nat} {T : List Nat} {x : Nat} (hl : T.length = n * n) (hx : x < n) : (rowOf n T x).length = n := by
  unfold rowOf
  rw [List.length_take, List.length_drop, hl]
  have h1 : (x + 1) * n ≤ n * n := Nat.mul_le_mul_right n hx
  rw [Nat.succ_mul] at h1
  omega
theorem row_at {n : Nat} {T : List Nat} {x y : Nat} (hl : T.length = n * n) (hx : x < n) (hy : y < n) : (rowOf n T x)[y]? = some (Table.turn ⟨n, T⟩ x y) := by
  unfold rowOf
  rw [List.getElem?_take, if_pos hy, List.getElem?_drop]
  exact turn_at (by rw [hl]; exact ix_lt hx hy)
def noMerge (n : Nat) (T : List Nat) (x : Nat) : Bool := Rd12.all n fun y => Rd12.all n fun z => y == z || Table.turn ⟨n, T⟩ x y != Table.turn ⟨n, T⟩ x z
theorem row_merge {n : Nat} {T : List Nat} {x : Nat} (hl : T.length = n * n) (hx : x < n) : noMerge n T x = decide ((rowOf n T x).eraseDups.length = n) := by
  have hrl := row_len hl hx
  by_cases h : (rowOf n T x).eraseDups.length = n
  · rw [decide_eq_true h]
    have hn : (rowOf n T x).Nodup := nodup_of_len (by rw [hrl]; exact h)
    refine all_true fun y hy => all_true fun z hz => ?_
    by_cases e : y = z
    · simp [e]
    · have h1 := row_at hl hx hy
      have h2 := row_at hl hx hz
      have : Table.turn ⟨n, T⟩ x y ≠ Table.turn ⟨n, T⟩ x z := fun q => by
        rw [q] at h1
        obtain ⟨a1, b1⟩ := List.getElem?_eq_some_iff.mp h1
        obtain ⟨a2, b2⟩ := List.getElem?_eq_some_iff.mp h2
        exact e ((List.getElem_inj hn).mp (b1.trans b2.symm))
      simp [e, this]
  · rw [decide_eq_false h]
    cases hm : noMerge n T x with
    | false => rfl
    | true =>
      refine absurd ?_ h
      rw [len_of_nodup (l := rowOf n T x) ?_, hrl]
      refine List.pairwise_iff_getElem.mpr fun i j hi hj hij q => ?_
      rw [hrl] at hi hj
      have h1 := all_iff.mp (all_iff.mp hm i hi) j hj
      have e1 := row_at hl hx hi
      have e2 := row_at hl hx hj
      obtain ⟨_, b1⟩ := List.getElem?_eq_some_iff.mp e1
      obtain ⟨_, b2⟩ := List.getElem?_eq_some_iff.mp e2
      rw [b1, b2] at q
      simp [q] at h1
      omega
end My
set_option linter.all false
namespace My
open Rd12
def cast (k : Nat) : Int := (k : Int)
theorem nats_cast : ∀ {t : List Int}, (∀ z ∈ t, 0 ≤ z) → (Rd12Neutral.nats t).map cast = t
  | [], _ => rfl
  | z :: t, h => by
    show ((z.toNat : Nat) : Int) :: (Rd12Neutral.nats t).map cast = z :: t
    rw [nats_cast fun y hy => h y (List.mem_cons_of_mem _ hy), Int.toNat_of_nonneg (h z List.mem_cons_self)]
theorem square_in {n : Int} {t : List Int} {hi : Int} (h : Rd12Neutral.square (Rd12Neutral.upTo n hi) n t = true) :
    0 ≤ n ∧ (∀ z ∈ t, 0 ≤ z) ∧ ((1 ≤ n ∧ n ≤ hi) → t.length = n.toNat * n.toNat) := by
  unfold Rd12Neutral.square Rd12Neutral.natural Rd12Neutral.row at h
  rw [Bool.and_eq_true, Bool.and_eq_true, Bool.and_eq_true, List.all_eq_true] at h
  obtain ⟨⟨h1, h2⟩, h3, h4⟩ := h
  have h1 := of_decide_eq_true h1
  have h4 := of_decide_eq_true h4
  refine ⟨h1, fun z hz => ?_, fun ⟨a, b⟩ => ?_⟩
  · have := h3 z hz
    unfold Rd12Neutral.natural at this
    rw [Bool.and_eq_true] at this
    exact of_decide_eq_true this.1
  · have e : Rd12Neutral.upTo n hi = true := by
      unfold Rd12Neutral.upTo
      rw [decide_eq_true a, decide_eq_true b]
      rfl
    rw [e, if_pos rfl] at h4
    have e2 : ((n.toNat : Nat) : Int) = n := Int.toNat_of_nonneg h1
    have : ((t.length : Nat) : Int) = ((n.toNat * n.toNat : Nat) : Int) := by rw [h4, Int.natCast_mul, e2]
    exact Int.ofNat.inj this
theorem few_true {x y : Bool} (h : (x && y) = true) : y = true := by
  cases x with
  | true => exact h
  | false => cases h
theorem asked_one {c : Rd12Neutral.Call} (h : Rd12Neutral.asked [c] = true) : Rd12Neutral.asked1 c = true := by
  unfold Rd12Neutral.asked at h
  rw [Bool.and_eq_true, List.all_eq_true] at h
  exact h.1 c List.mem_cons_self
theorem inRange_iff {k : Nat} {T : List Nat} : inRange ⟨k, T⟩ = decide (1 ≤ k ∧ k ≤ 16) := by
  show (decide (1 ≤ k) && decide (k ≤ 16)) = _
  by_cases a : 1 ≤ k <;> by_cases b : k ≤ 16 <;> simp [a, b]
end My
set_option linter.all false
namespace My
open Rd12
end My
set_option linter.all false
namespace My
open Rd12
structure Turning (n : Nat) (T : List Nat) : Prop where
  one : 1 ≤ n
  len : T.length = n * n
  lt : ∀ v ∈ T, v < n
  self : ∀ x, x < n → Table.turn ⟨n, T⟩ x x = x
  inj : ∀ x y z, x < n → y < n → z < n → Table.turn ⟨n, T⟩ x y = Table.turn ⟨n, T⟩ x z → y = z
  dist : ∀ x y z, x < n → y < n → z < n → Table.turn ⟨n, T⟩ x (Table.turn ⟨n, T⟩ y z) = Table.turn ⟨n, T⟩ (Table.turn ⟨n, T⟩ x y) (Table.turn ⟨n, T⟩ x z)
theorem turning {n : Nat} {T : List Nat} (h : isTurns ⟨n, T⟩ = true) : Turning n T := by
  unfold isTurns Whole at h
  rw [Bool.and_eq_true, Bool.and_eq_true, Bool.and_eq_true, Bool.and_eq_true, Bool.and_eq_true] at h
  obtain ⟨⟨h1, h2, h3⟩, h4, h5, h6⟩ := h
  refine ⟨of_decide_eq_true h1, of_decide_eq_true h2, fun v hv => of_decide_eq_true (List.all_eq_true.mp h3 v hv), fun x hx => eq_of_beq (all_iff.mp h4 x hx), fun x y z hx hy hz e => ?_, fun x y z hx hy hz => eq_of_beq (all_iff.mp (all_iff.mp (all_iff.mp h6 x hx) y hy) z hz)⟩
  have q := all_iff.mp (all_iff.mp (all_iff.mp h5 x hx) y hy) z hz
  rw [Bool.or_eq_true] at q
  rcases q with q | q
  · exact eq_of_beq q
  · rw [e] at q
    simp at q
theorem same_of_len {α : Type} [DecidableEq α] {l m : List α} (hl : l.Nodup) (hm : m.Nodup) (hs : ∀ x ∈ l, x ∈ m) (e : m.length = l.length) : ∀ x ∈ m, x ∈ l := by
  intro x hx
  refine Classical.byContradiction fun hn => ?_
  have h1 : (x :: l).Nodup := List.nodup_cons.mpr ⟨hn, hl⟩
  have h2 := nodup_len_le h1 (m := m) fun y hy => by
    rcases List.mem_cons.mp hy with q | q
    · rw [q]; exact hx
    · exact hs y q
  rw [List.length_cons] at h2
  omega
end My
set_option linter.all false
namespace My
open Rd12
theorem mem_rows : ∀ {n k : Nat} {f : List Nat}, f ∈ rows n k ↔ f.length = k ∧ ∀ v ∈ f, v < n
  | n, 0, f => by
    show f ∈ [[]] ↔ _
    rw [List.mem_singleton]
    constructor
    · intro e; rw [e]; exact ⟨rfl, fun v h => nomatch h⟩
    · intro h; exact List.eq_nil_of_length_eq_zero h.1
  | n, k + 1, f => by
    show f ∈ ((List.range n).flatMap fun x => (rows n k).map fun r => x :: r) ↔ _
    rw [List.mem_flatMap]
    constructor
    · rintro ⟨x, hx, hf⟩
      obtain ⟨r, hr, rfl⟩ := List.mem_map.mp hf
      obtain ⟨h1, h2⟩ := mem_rows.mp hr
      refine ⟨by rw [List.length_cons, h1], fun v hv => ?_⟩
      rcases List.mem_cons.mp hv with e | m
      · rw [e]; exact List.mem_range.mp hx
      · exact h2 v m
    · rintro ⟨h1, h2⟩
      match f, h1, h2 with
      | [], h1, _ => simp at h1
      | x :: r, h1, h2 =>
        refine ⟨x, List.mem_range.mpr (h2 x List.mem_cons_self), List.mem_map.mpr ⟨r, mem_rows.mpr ⟨by rw [List.length_cons] at h1; omega, fun v hv => h2 v (List.mem_cons_of_mem _ hv)⟩, rfl⟩⟩
end My
set_option linter.all false
namespace My
open Rd12
theorem table_cast (k : Nat) (T : List Nat) : Rd12Neutral.table (cast k) (T.map cast) = ⟨k, T⟩ := by
  unfold Rd12Neutral.table Rd12Neutral.nats cast
  rw [List.map_map]
  have : (Int.toNat ∘ fun k : Nat => (k : Int)) = id := by funext x; rfl
  rw [this, List.map_id]
  rfl
theorem nats_map (T : List Nat) : Rd12Neutral.nats (T.map cast) = T := by
  unfold Rd12Neutral.nats cast
  rw [List.map_map]
  have : (Int.toNat ∘ fun k : Nat => (k : Int)) = id := by funext x; rfl
  rw [this, List.map_id]
theorem few_of {x y : Bool} (h : (x && y) = true) : x = true := by
  cases x with
  | true => rfl
  | false => cases h
theorem or_not {a b c : Bool} (h : (!a || (b || !c)) = true) (ha : a = true) (hc : c = true) : b = true := by
  subst ha hc
  simpa using h
theorem same_in {n : Int} {t u : List Int} (h : PyRd12.same_asked n t u = true) : 0 ≤ n ∧ (∀ z ∈ t, 0 ≤ z) ∧ (∀ z ∈ u, 0 ≤ z) ∧ ((1 ≤ n ∧ n ≤ 16) → t.length = n.toNat * n.toNat ∧ u.length = n.toNat * n.toNat) ∧
    ((1 ≤ n ∧ n ≤ 16) → isTurns ⟨n.toNat, Rd12Neutral.nats t⟩ = true → isTurns ⟨n.toNat, Rd12Neutral.nats u⟩ = true → n.toNat ≤ 6) := by
  have q : (Rd12Neutral.square (Rd12Neutral.upTo n 16) n t && Rd12Neutral.square (Rd12Neutral.upTo n 16) n u) = true := few_true (asked_one h)
  rw [Bool.and_eq_true] at q
  obtain ⟨a, b, c⟩ := square_in (hi := 16) q.1
  obtain ⟨_, b', c'⟩ := square_in (hi := 16) q.2
  refine ⟨a, b, b', fun h => ⟨c h, c' h⟩, fun ⟨h1, h2⟩ ht hu => ?_⟩
  have f : (!(inRange ⟨n.toNat, Rd12Neutral.nats t⟩) || (decide (n.toNat ≤ 6) || !(isTurns ⟨n.toNat, Rd12Neutral.nats t⟩ && isTurns ⟨n.toNat, Rd12Neutral.nats u⟩))) = true := few_of (asked_one h)
  exact of_decide_eq_true (or_not f (by rw [inRange_iff]; exact decide_eq_true (by omega)) (by rw [ht, hu]; rfl))
theorem same_due (k : Nat) (T U : List Nat) : PyRd12.same (cast k) (T.map cast) (U.map cast) = if 1 ≤ k ∧ k ≤ 16 then (if isTurns ⟨k, T⟩ = true ∧ isTurns ⟨k, U⟩ = true then (match sameOf ⟨k, T⟩ ⟨k, U⟩ with
    | some f => 0 :: f.map cast
    | none => [-5]) else [-3]) else [-2] := by
  have e1 : PyRd12.same (cast k) (T.map cast) (U.map cast) = (answer (.same (Rd12Neutral.table (cast k) (T.map cast)) (Rd12Neutral.table (cast k) (U.map cast)))).v :: (answer (.same (Rd12Neutral.table (cast k) (T.map cast)) (Rd12Neutral.table (cast k) (U.map cast)))).l.map fun (x : Nat) => (x : Int) := rfl
  rw [e1, table_cast, table_cast]
  have e2 : answer (.same ⟨k, T⟩ ⟨k, U⟩) = if (inRange ⟨k, T⟩ && (k == k && (isTurns ⟨k, T⟩ && isTurns ⟨k, U⟩))) = true then (match sameOf ⟨k, T⟩ ⟨k, U⟩ with
    | some f => ⟨0, f⟩
    | none => ok (-5)) else on (inRange ⟨k, T⟩ && k == k) false (ok 0) := rfl
  rw [e2, inRange_iff, beq_self_eq_true]
  by_cases h : 1 ≤ k ∧ k ≤ 16
  · rw [decide_eq_true h, if_pos h]
    cases h2 : isTurns ⟨k, T⟩ with
    | true =>
      cases h3 : isTurns ⟨k, U⟩ with
      | true =>
        rw [if_pos (by rfl), if_pos ⟨rfl, rfl⟩]
        cases sameOf ⟨k, T⟩ ⟨k, U⟩ with
        | some f => rfl
        | none => rfl
      | false => rw [if_neg (by simp), if_neg (by simp)]; rfl
    | false => rw [if_neg (by simp), if_neg (by simp)]; rfl
  · rw [decide_eq_false h, if_neg h]
    rfl
end My
set_option linter.all false
namespace My
open Rd12
section
variable {n : Nat} {good : List Nat → Prop} {f : Nat → List Nat → List Nat} {L : List (List Nat)} {done x : Nat} {p : List Nat}
end
end My
set_option linter.all false
namespace My
open Rd12
theorem single_iff : ∀ {f : List Nat}, single f = true ↔ f.Nodup
  | [] => by simp [single]
  | x :: r => by
    show (!r.contains x && single r) = true ↔ _
    rw [Bool.and_eq_true, single_iff, List.nodup_cons]
    simp
end My
set_option linter.all false
namespace My
open Rd12
def okAt (n m : Nat) (T U r : List Nat) (x y : Nat) : Bool := !decide (Table.turn ⟨n, T⟩ x y < r.length) || r.getD (Table.turn ⟨n, T⟩ x y) 0 == Table.turn ⟨m, U⟩ (r.getD x 0) (r.getD y 0)
def okRow (n m : Nat) (T U r : List Nat) : Bool := Rd12.all r.length fun x => Rd12.all r.length fun y => okAt n m T U r x y
theorem ok_full {n m : Nat} {T U r : List Nat} (hl : T.length = n * n) (hb : ∀ v ∈ T, v < n) (hr : r.length = n) : okRow n m T U r = isImage ⟨n, T⟩ ⟨m, U⟩ r := by
  unfold okRow isImage
  rw [hr]
  show (List.range n).all _ = (List.range n).all _
  rw [Bool.eq_iff_iff, List.all_eq_true, List.all_eq_true]
  refine forall_congr' fun x => forall_congr' fun hx => ?_
  have hx := List.mem_range.mp hx
  show (List.range n).all _ = true ↔ (List.range n).all _ = true
  rw [List.all_eq_true, List.all_eq_true]
  refine forall_congr' fun y => forall_congr' fun hy => ?_
  have hy := List.mem_range.mp hy
  unfold okAt
  rw [decide_eq_true (show Table.turn ⟨n, T⟩ x y < r.length by rw [hr]; exact turn_lt hl hb hx hy)]
  exact Iff.rfl
end My
set_option linter.all false
namespace My
open Rd12
section
variable {α β : Type}
def tab (N : Nat) (s : Nat → α) : List α := (List.range N).map s
theorem tab_len (N : Nat) (s : Nat → α) : (tab N s).length = N := by unfold tab; rw [List.length_map, List.length_range]
theorem tab_at {N : Nat} {s : Nat → α} {i : Nat} (h : i < N) : (tab N s)[i]? = some (s i) := by
  unfold tab
  rw [List.getElem?_map, List.getElem?_range h]
  rfl
theorem tab_mem {N : Nat} {s : Nat → α} {a : α} : a ∈ tab N s ↔ ∃ i, i < N ∧ s i = a := by
  unfold tab
  rw [List.mem_map]
  exact ⟨fun ⟨i, h, e⟩ => ⟨i, List.mem_range.mp h, e⟩, fun ⟨i, h, e⟩ => ⟨i, List.mem_range.mpr h, e⟩⟩
theorem tab_congr {N : Nat} {s t : Nat → α} (h : ∀ i, i < N → s i = t i) : tab N s = tab N t := List.map_congr_left fun i hi => h i (List.mem_range.mp hi)
theorem tab_map (N : Nat) (s : Nat → α) (g : α → β) : (tab N s).map g = tab N fun i => g (s i) := by
  unfold tab
  rw [List.map_map]
  rfl
theorem tab_get (l : List α) (d : α) : tab l.length (fun i => l.getD i d) = l := by
  refine List.ext_getElem? fun i => ?_
  by_cases h : i < l.length
  · rw [tab_at h, List.getD_eq_getElem?_getD, List.getElem?_eq_getElem h]
    rfl
  · rw [List.getElem?_eq_none (by rw [tab_len]; omega), List.getElem?_eq_none (by omega)]
theorem tab_getD {N : Nat} {s : Nat → α} {i : Nat} (h : i < N) (d : α) : (tab N s).getD i d = s i := by
  rw [List.getD_eq_getElem?_getD, tab_at h]
  rfl
structure Bij (N : Nat) (π : Nat → Nat) : Prop where
  lt : ∀ i, i < N → π i < N
  inj : ∀ i j, i < N → j < N → π i = π j → i = j
theorem Bij.perm {N : Nat} {π : Nat → Nat} (b : Bij N π) : (tab N π).Perm (List.range N) := by
  have hn : (tab N π).Nodup := by
    unfold tab
    refine List.pairwise_map.mpr (List.Pairwise.imp_of_mem ?_ List.nodup_range)
    intro i j hi hj hij e
    exact hij (b.inj i j (List.mem_range.mp hi) (List.mem_range.mp hj) e)
  have hs : ∀ x ∈ tab N π, x ∈ List.range N := fun x hx => by
    obtain ⟨i, hi, rfl⟩ := tab_mem.mp hx
    exact List.mem_range.mpr (b.lt i hi)
  refine (List.perm_ext_iff_of_nodup hn List.nodup_range).mpr fun x => ⟨hs x, ?_⟩
  exact same_of_len hn List.nodup_range hs (by rw [tab_len, List.length_range]) x
theorem Bij.onto {N : Nat} {π : Nat → Nat} (b : Bij N π) {j : Nat} (h : j < N) : ∃ i, i < N ∧ π i = j := tab_mem.mp (b.perm.mem_iff.mpr (List.mem_range.mpr h))
theorem Bij.tab {N : Nat} {π : Nat → Nat} (b : Bij N π) (s : Nat → α) : (My.tab N fun i => s (π i)).Perm (My.tab N s) := by
  have e : (My.tab N fun i => s (π i)) = (My.tab N π).map s := (tab_map N π s).symm
  rw [e]
  exact b.perm.map s
theorem Bij.tab_of {N : Nat} {π : Nat → Nat} (b : Bij N π) {s t : Nat → α} (h : ∀ i, i < N → t (π i) = s i) : (My.tab N s).Perm (My.tab N t) := by
  rw [← tab_congr h]
  exact b.tab t
end
section
variable {α β : Type} [DecidableEq α] [DecidableEq β]
def cnt (l : List α) : Nat := l.eraseDups.length
theorem dd_mem {l : List α} {a : α} : a ∈ l.eraseDups ↔ a ∈ l := List.mem_eraseDups
theorem dd_perm {l m : List α} (h : ∀ a, a ∈ l ↔ a ∈ m) : l.eraseDups.Perm m.eraseDups :=
  (List.perm_ext_iff_of_nodup (nodup_erase l) (nodup_erase m)).mpr fun a => by rw [dd_mem, dd_mem]; exact h a
theorem cnt_perm {l m : List α} (h : l.Perm m) : cnt l = cnt m := (dd_perm fun _ => h.mem_iff).length_eq
theorem cnt_le (N : Nat) (s : Nat → α) : cnt (tab N s) ≤ N := by
  have h := nodup_len_le (nodup_erase (tab N s)) (m := tab N s) fun x hx => dd_mem.mp hx
  rw [tab_len] at h
  exact h
theorem cnt_pos {N : Nat} (s : Nat → α) (h : 1 ≤ N) : 1 ≤ cnt (tab N s) := by
  have hm : s 0 ∈ (tab N s).eraseDups := dd_mem.mpr (tab_mem.mpr ⟨0, h, rfl⟩)
  exact List.length_pos_of_mem hm
def Finer (N : Nat) (s' : Nat → β) (s : Nat → α) : Prop := ∀ i j, i < N → j < N → s' i = s' j → s i = s j
theorem Finer.refl (N : Nat) (s : Nat → α) : Finer N s s := fun _ _ _ _ e => e
theorem rep (N : Nat) (s : Nat → α) : ∃ r : α → Nat, ∀ a ∈ (tab N s).eraseDups, r a < N ∧ s (r a) = a := by
  refine ⟨fun a => (tab N s).idxOf a, fun a ha => ?_⟩
  have hm := dd_mem.mp ha
  have hl := List.idxOf_lt_length_of_mem hm
  have e := List.getElem_idxOf hl
  have hl' := hl
  rw [tab_len] at hl'
  refine ⟨hl', ?_⟩
  have h2 : (tab N s)[(tab N s).idxOf a]? = some a := List.getElem?_eq_some_iff.mpr ⟨hl, e⟩
  rw [tab_at hl'] at h2
  exact Option.some.inj h2
theorem reps {N : Nat} {s' : Nat → β} {s : Nat → α} (h : Finer N s' s) {r : α → Nat} (hr : ∀ a ∈ (tab N s).eraseDups, r a < N ∧ s (r a) = a) : (((tab N s).eraseDups).map fun a => s' (r a)).Nodup ∧ ∀ b ∈ (((tab N s).eraseDups).map fun a => s' (r a)), b ∈ (tab N s').eraseDups := by
  refine ⟨List.pairwise_map.mpr (List.Pairwise.imp_of_mem ?_ (nodup_erase (tab N s))), fun b hb => ?_⟩
  · intro a c ha hc hac e
    have h2 := h _ _ (hr a ha).1 (hr c hc).1 e
    rw [(hr a ha).2, (hr c hc).2] at h2
    exact hac h2
  · obtain ⟨a, ha, rfl⟩ := List.mem_map.mp hb
    exact dd_mem.mpr (tab_mem.mpr ⟨r a, (hr a ha).1, rfl⟩)
theorem Finer.le {N : Nat} {s' : Nat → β} {s : Nat → α} (h : Finer N s' s) : cnt (tab N s) ≤ cnt (tab N s') := by
  obtain ⟨r, hr⟩ := rep N s
  obtain ⟨h1, h2⟩ := reps h hr
  have h3 := nodup_len_le h1 h2
  rw [List.length_map] at h3
  exact h3
theorem Finer.lt {N : Nat} {s' : Nat → β} {s : Nat → α} (h : Finer N s' s) {i j : Nat} (hi : i < N) (hj : j < N) (e : s i = s j) (ne : s' i ≠ s' j) : cnt (tab N s) < cnt (tab N s') := by
  obtain ⟨r, hr⟩ := rep N s
  obtain ⟨h1, h2⟩ := reps h hr
  have hm : s i ∈ (tab N s).eraseDups := dd_mem.mpr (tab_mem.mpr ⟨i, hi, rfl⟩)
  obtain ⟨k, hk, ek, nk⟩ : ∃ k, k < N ∧ s k = s i ∧ s' k ≠ s' (r (s i)) := by
    by_cases q : s' i = s' (r (s i))
    · exact ⟨j, hj, e.symm, fun z => ne (q.trans z.symm)⟩
    · exact ⟨i, hi, rfl, q⟩
  have hn : (s' k :: ((tab N s).eraseDups).map fun a => s' (r a)).Nodup := by
    refine List.nodup_cons.mpr ⟨fun m => ?_, h1⟩
    obtain ⟨a, ha, ea⟩ := List.mem_map.mp m
    have h3 := h _ _ (hr a ha).1 hk ea
    rw [(hr a ha).2, ek] at h3
    rw [h3] at ea
    exact nk ea.symm
  have h3 := nodup_len_le hn (m := (tab N s').eraseDups) fun b hb => by
    rcases List.mem_cons.mp hb with rfl | hb
    · exact dd_mem.mpr (tab_mem.mpr ⟨k, hk, rfl⟩)
    · exact h2 b hb
  rw [List.length_cons, List.length_map] at h3
  exact h3
theorem Finer.back {N : Nat} {s' : Nat → β} {s : Nat → α} (h : Finer N s' s) (hc : cnt (tab N s') ≤ cnt (tab N s)) : Finer N s s' := fun i j hi hj e => by
  by_cases q : s' i = s' j
  · exact q
  · have := h.lt hi hj e q
    omega
theorem cnt_full {N : Nat} {s : Nat → α} (h : N ≤ cnt (tab N s)) : ∀ i j, i < N → j < N → s i = s j → i = j := by
  have f : Finer N (fun i => i) s := fun i j _ _ e => by rw [show i = j from e]
  have b := f.back (Nat.le_trans (cnt_le N _) h)
  exact fun i j hi hj e => b i j hi hj e
structure Canon (f : List α → List α) : Prop where
  perm : ∀ l, (f l).Perm l
  one : ∀ {l m}, l.Perm m → f l = f m
theorem Canon.inj {f : List α → List α} (c : Canon f) {l m : List α} (h : f l = f m) : l.Perm m := (c.perm l).symm.trans (h ▸ c.perm m)
def rk (ss : List α → List α) (N : Nat) (s : Nat → α) (i : Nat) : Nat := (ss (tab N s).eraseDups).idxOf (s i)
section
variable {ss : List α → List α} (c : Canon ss) {N : Nat} {s s' : Nat → α}
include c
theorem rk_mem {i : Nat} (hi : i < N) : s i ∈ ss (tab N s).eraseDups := (c.perm _).mem_iff.mpr (dd_mem.mpr (tab_mem.mpr ⟨i, hi, rfl⟩))
theorem rk_at {i : Nat} (hi : i < N) : (ss (tab N s).eraseDups)[rk ss N s i]? = some (s i) := by
  have hl := List.idxOf_lt_length_of_mem (rk_mem c (s := s) hi)
  exact List.getElem?_eq_some_iff.mpr ⟨hl, List.getElem_idxOf hl⟩
theorem rk_inj {i j : Nat} (hi : i < N) (hj : j < N) (e : rk ss N s i = rk ss N s j) : s i = s j := by
  have h1 := rk_at c (s := s) hi
  rw [e, rk_at c hj] at h1
  exact (Option.some.inj h1).symm
theorem rk_list (h : (tab N s).Perm (tab N s')) : ss (tab N s).eraseDups = ss (tab N s').eraseDups := c.one (dd_perm fun _ => h.mem_iff)
theorem rk_eq (h : (tab N s).Perm (tab N s')) {i j : Nat} (e : s i = s' j) : rk ss N s i = rk ss N s' j := by
  unfold rk
  rw [rk_list c h, e]
theorem rk_inj2 (h : (tab N s).Perm (tab N s')) {i j : Nat} (hi : i < N) (hj : j < N) (e : rk ss N s i = rk ss N s' j) : s i = s' j := by
  have h1 := rk_at c (s := s) hi
  rw [e, rk_list c h, rk_at c hj] at h1
  exact (Option.some.inj h1).symm
theorem rk_finer : Finer N (rk ss N s) s := fun i j hi hj e => rk_inj c hi hj e
theorem rk_back : Finer N s (rk ss N s) := fun i j _ _ e => by unfold rk; rw [e]
theorem rk_perm (h : (tab N s).Perm (tab N s')) : (tab N (rk ss N s)).Perm (tab N (rk ss N s')) := by
  have e : ∀ r : Nat → α, tab N (rk ss N r) = (tab N r).map fun g => (ss (tab N r).eraseDups).idxOf g := fun r => (tab_map N r fun g => (ss (tab N r).eraseDups).idxOf g).symm
  rw [e, e, rk_list c h]
  exact h.map _
theorem rk_cnt : cnt (tab N (rk ss N s)) = cnt (tab N s) := Nat.le_antisymm (rk_back c).le (rk_finer c).le
end
end
end My
set_option linter.all false
namespace My
open Rd12
section
variable {α : Type} [DecidableEq α]
def it (ss : List α → List α) (N : Nat) (f : (Nat → Nat) → Nat → α) (m : Nat → Nat) : Nat → Nat → Nat
  | 0 => m
  | k + 1 => rk ss N (f (it ss N f m k))
structure Stop (ss : List α → List α) (N : Nat) (f : (Nat → Nat) → Nat → α) (m : Nat → Nat) (K : Nat) : Prop where
  last : cnt (tab N (it ss N f m (K + 1))) ≤ cnt (tab N (it ss N f m K))
  grow : ∀ k, k < K → cnt (tab N (it ss N f m k)) < cnt (tab N (it ss N f m (k + 1)))
def seen (ss : List α → List α) (N : Nat) (f : (Nat → Nat) → Nat → α) (m : Nat → Nat) (K : Nat) : List (List α) := (List.range (K + 1)).map fun k => tab N (f (it ss N f m k))
def alike (ss : List α → List α) (a b : List (List α)) : Prop := a.map ss = b.map ss
def Fst (N : Nat) (f : (Nat → Nat) → Nat → α) (g : α → Nat) : Prop := ∀ m i, i < N → g (f m i) = m i
def FinerF (N : Nat) (f : (Nat → Nat) → Nat → α) : Prop := ∀ m' m, Finer N m' m → Finer N (f m') (f m)
section
variable {ss : List α → List α} {N : Nat} {f f' : (Nat → Nat) → Nat → α} {m m' : Nat → Nat} {g : α → Nat} {K K' : Nat}
theorem Stop.one (h : Stop ss N f m K) (h' : Stop ss N f m K') : K = K' := by
  rcases Nat.lt_trichotomy K K' with q | q | q
  · have := h'.grow K q
    have := h.last
    omega
  · exact q
  · have := h.grow K' q
    have := h'.last
    omega
theorem seen_len : (seen ss N f m K).length = K + 1 := by unfold seen; rw [List.length_map, List.length_range]
theorem seen_at {k : Nat} (h : k ≤ K) : (seen ss N f m K)[k]? = some (tab N (f (it ss N f m k))) := by
  unfold seen
  rw [List.getElem?_map, List.getElem?_range (by omega)]
  rfl
theorem alike_perm (c : Canon ss) (h : alike ss (seen ss N f m K) (seen ss N f' m' K')) : K = K' ∧ ∀ k, k ≤ K → (tab N (f (it ss N f m k))).Perm (tab N (f' (it ss N f' m' k))) := by
  have hl : (seen ss N f m K).length = (seen ss N f' m' K').length := by
    have := congrArg List.length h
    rw [List.length_map, List.length_map] at this
    exact this
  rw [seen_len, seen_len] at hl
  have e : K = K' := by omega
  subst e
  refine ⟨rfl, fun k hk => ?_⟩
  have h2 : ((seen ss N f m K).map ss)[k]? = ((seen ss N f' m' K).map ss)[k]? := by rw [show (seen ss N f m K).map ss = _ from h]
  rw [List.getElem?_map, List.getElem?_map, seen_at hk, seen_at hk] at h2
  exact c.inj (Option.some.inj h2)
theorem alike_of (c : Canon ss) (h : ∀ k, k ≤ K → (tab N (f (it ss N f m k))).Perm (tab N (f' (it ss N f' m' k)))) : alike ss (seen ss N f m K) (seen ss N f' m' K) := by
  unfold alike seen
  rw [List.map_map, List.map_map]
  refine List.map_congr_left fun k hk => ?_
  exact c.one (h k (by have := List.mem_range.mp hk; omega))
theorem it_finer (c : Canon ss) (hf : Fst N f g) (k : Nat) : Finer N (it ss N f m (k + 1)) (it ss N f m k) := fun i j hi hj e => by
  have h1 := rk_inj c hi hj (show rk ss N (f (it ss N f m k)) i = rk ss N (f (it ss N f m k)) j from e)
  have h2 := congrArg g h1
  rw [hf _ i hi, hf _ j hj] at h2
  exact h2
theorem it_two (c : Canon ss) (hF : FinerF N f) (h0 : Finer N m' m) : ∀ k, Finer N (it ss N f m' k) (it ss N f m k)
  | 0 => h0
  | k + 1 => fun i j hi hj e => rk_back c i j hi hj (hF _ _ (it_two c hF h0 k) i j hi hj (rk_inj c hi hj e))
theorem Stop.next (c : Canon ss) (hf : Fst N f g) (h : Stop ss N f m K) : Finer N (it ss N f m K) (it ss N f m (K + 1)) := (it_finer c hf K).back h.last
theorem Stop.stay (c : Canon ss) (hf : Fst N f g) (hF : FinerF N f) (h : Stop ss N f m K) : ∀ j, Finer N (it ss N f m (K + j)) (it ss N f m (K + j + 1))
  | 0 => h.next c hf
  | j + 1 => fun a b ha hb e => rk_back c a b ha hb (hF _ _ (Stop.stay c hf hF h j) a b ha hb (rk_inj c ha hb e))
theorem Stop.all (c : Canon ss) (hf : Fst N f g) (hF : FinerF N f) (h : Stop ss N f m K) : ∀ j, Finer N (it ss N f m K) (it ss N f m (K + j))
  | 0 => Finer.refl _ _
  | j + 1 => fun a b ha hb e => h.stay c hf hF j a b ha hb (Stop.all c hf hF h j a b ha hb e)
theorem it_down (c : Canon ss) (hf : Fst N f g) (k : Nat) : ∀ j, Finer N (it ss N f m (k + j)) (it ss N f m k)
  | 0 => Finer.refl _ _
  | j + 1 => fun a b ha hb e => it_down c hf k j a b ha hb (it_finer c hf (k + j) a b ha hb e)
theorem Stop.finer (c : Canon ss) (hf : Fst N f g) (hF : FinerF N f) (h0 : Finer N m' m) (h : Stop ss N f m K) (h' : Stop ss N f m' K') : Finer N (it ss N f m' (K' + 1)) (it ss N f m (K + 1)) := fun a b ha hb e => by
  have e1 := it_finer c hf K' a b ha hb e
  have e2 := h'.all c hf hF (K + 1) a b ha hb e1
  have e3 := it_two c hF h0 (K' + (K + 1)) a b ha hb e2
  rw [show K' + (K + 1) = (K + 1) + K' by omega] at e3
  exact it_down c hf (K + 1) K' a b ha hb e3
structure Pin (N : Nat) (m m' : Nat → Nat) (a b : Nat) : Prop where
  same : m' b = m a
  one : ∀ x, x < N → m x = m a → x = a
  one' : ∀ x, x < N → m' x = m' b → x = b
theorem Pin.next (c : Canon ss) (hf : Fst N f g) (hf' : Fst N f' g) {a b : Nat} (ha : a < N) (hb : b < N) {p q : Nat → Nat} (hp : (tab N (f p)).Perm (tab N (f' q))) (h : Pin N p q a b) : Pin N (rk ss N (f p)) (rk ss N (f' q)) a b := by
  have e : f' q b = f p a := by
    have hm : f p a ∈ tab N (f' q) := hp.mem_iff.mp (tab_mem.mpr ⟨a, ha, rfl⟩)
    obtain ⟨z, hz, ez⟩ := tab_mem.mp hm
    have h2 := congrArg g ez
    rw [hf' _ z hz, hf _ a ha, ← h.same] at h2
    rw [← h.one' z hz h2]
    exact ez
  refine ⟨(rk_eq c hp e.symm).symm, fun x hx ex => ?_, fun x hx ex => ?_⟩
  · have h2 := congrArg g (rk_inj c hx ha ex)
    rw [hf _ x hx, hf _ a ha] at h2
    exact h.one x hx h2
  · have h2 := congrArg g (rk_inj c hx hb ex)
    rw [hf' _ x hx, hf' _ b hb] at h2
    exact h.one' x hx h2
theorem Pin.all (c : Canon ss) (hf : Fst N f g) (hf' : Fst N f' g) {a b : Nat} (ha : a < N) (hb : b < N) (h : Pin N m m' a b) : ∀ k, (∀ j, j < k → (tab N (f (it ss N f m j))).Perm (tab N (f' (it ss N f' m' j)))) → Pin N (it ss N f m k) (it ss N f' m' k) a b
  | 0, _ => h
  | k + 1, hp => (Pin.all c hf hf' ha hb h k fun j hj => hp j (by omega)).next c hf hf' ha hb (hp k (Nat.lt_succ_self k))
def Moved (N : Nat) (π : Nat → Nat) (f f' : (Nat → Nat) → Nat → α) : Prop := ∀ m m', (∀ i, i < N → m' (π i) = m i) → ∀ i, i < N → f' m' (π i) = f m i
theorem it_moved (c : Canon ss) {π : Nat → Nat} (b : Bij N π) (hm : Moved N π f f') (h0 : ∀ i, i < N → m' (π i) = m i) : ∀ k i, i < N → it ss N f' m' k (π i) = it ss N f m k i
  | 0, i, hi => h0 i hi
  | k + 1, i, hi => by
    have h := hm _ _ (it_moved c b hm h0 k)
    exact (rk_eq c (b.tab_of h) (h i hi).symm).symm
theorem seen_moved (c : Canon ss) {π : Nat → Nat} (b : Bij N π) (hm : Moved N π f f') (h0 : ∀ i, i < N → m' (π i) = m i) (k : Nat) : (tab N (f (it ss N f m k))).Perm (tab N (f' (it ss N f' m' k))) := b.tab_of (hm _ _ (it_moved c b hm h0 k))
theorem Stop.moved (c : Canon ss) {π : Nat → Nat} (b : Bij N π) (hm : Moved N π f f') (h0 : ∀ i, i < N → m' (π i) = m i) (h : Stop ss N f m K) : Stop ss N f' m' K := by
  have e : ∀ k, cnt (tab N (it ss N f' m' k)) = cnt (tab N (it ss N f m k)) := fun k => (cnt_perm (b.tab_of (it_moved c b hm h0 k))).symm
  exact ⟨by rw [e, e]; exact h.last, fun k hk => by rw [e, e]; exact h.grow k hk⟩
theorem alike_moved (c : Canon ss) {π : Nat → Nat} (b : Bij N π) (hm : Moved N π f f') (h0 : ∀ i, i < N → m' (π i) = m i) (h : Stop ss N f m K) (h' : Stop ss N f' m' K') : K = K' ∧ alike ss (seen ss N f m K) (seen ss N f' m' K') := by
  have e := (h.moved c b hm h0).one h'
  subst e
  exact ⟨rfl, alike_of c fun k _ => seen_moved c b hm h0 k⟩
end
end
end My
set_option linter.all false
namespace My
open Rd12
abbrev Sg := Nat × List (List Nat)
abbrev tq (n : Nat) (T : List Nat) (x y : Nat) : Nat := Table.turn ⟨n, T⟩ x y
section
variable (sr : List (List Nat) → List (List Nat))
def met4 (n : Nat) (T : List Nat) (d m : Nat → Nat) (x y : Nat) : List Nat := [d (x * n + y), m y, m (tq n T x y), m (tq n T y x)]
def sgn (n : Nat) (T : List Nat) (d m : Nat → Nat) (x : Nat) : Sg := (m x, sr (tab n (met4 n T d m x)))
def met7 (n : Nat) (T : List Nat) (d : Nat → Nat) (x y z : Nat) : List Nat :=
  [d (x * n + z), d (y * n + z), d (tq n T x z * n + tq n T y z), d (tq n T x z * n + y), d (tq n T y z * n + x), d (tq n T z x * n + y), d (tq n T z y * n + x)]
def tsg (n : Nat) (T : List Nat) (d : Nat → Nat) (k : Nat) : Sg := (d (k / n * n + k % n), sr (tab n (met7 n T d (k / n) (k % n))))
end
def at0 (p : List Nat) (x : Nat) : Nat := if x ∈ p then p.idxOf x + 1 else 0
def tie0 (n k : Nat) : Nat := if k / n = k % n then 1 else 0
structure Iso (n : Nat) (T U : List Nat) (σ : Nat → Nat) : Prop where
  bij : Bij n σ
  hom : ∀ x y, x < n → y < n → σ (tq n T x y) = tq n U (σ x) (σ y)
structure Tb (n : Nat) (T : List Nat) : Prop where
  len : T.length = n * n
  lt : ∀ v ∈ T, v < n
theorem Tb.turn {n : Nat} {T : List Nat} (h : Tb n T) {x y : Nat} (hx : x < n) (hy : y < n) : tq n T x y < n := turn_lt h.len h.lt hx hy
def MovedD (n : Nat) (σ d d' : Nat → Nat) : Prop := ∀ x y, x < n → y < n → d' (σ x * n + σ y) = d (x * n + y)
section
variable {sr : List (List Nat) → List (List Nat)} {n : Nat} {T U : List Nat} {σ d d' : Nat → Nat}
theorem moved_sgn (cr : Canon sr) (hT : Tb n T) (h : Iso n T U σ) (hd : MovedD n σ d d') : Moved n σ (sgn sr n T d) (sgn sr n U d') := fun m m' hm x hx => by
  have e : ∀ y, y < n → met4 n U d' m' (σ x) (σ y) = met4 n T d m x y := fun y hy => by
    unfold met4
    rw [hd x y hx hy, hm y hy, ← h.hom x y hx hy, ← h.hom y x hy hx, hm _ (hT.turn hx hy), hm _ (hT.turn hy hx)]
  unfold sgn
  rw [hm x hx, cr.one (h.bij.tab_of e)]
def pairσ (n : Nat) (σ : Nat → Nat) (k : Nat) : Nat := σ (k / n) * n + σ (k % n)
theorem pair_div {n x y : Nat} (hy : y < n) : (x * n + y) / n = x := by rw [Nat.mul_comm, Nat.mul_add_div (by omega), Nat.div_eq_of_lt hy, Nat.add_zero]
theorem pair_mod {n x y : Nat} (hy : y < n) : (x * n + y) % n = y := by rw [Nat.mul_comm, Nat.mul_add_mod, Nat.mod_eq_of_lt hy]
theorem pair_lt {n k : Nat} (h : k < n * n) : k / n < n ∧ k % n < n := by
  have hn : 0 < n := by
    rcases Nat.eq_zero_or_pos n with e | e
    · subst e; omega
    · exact e
  exact ⟨Nat.div_lt_of_lt_mul h, Nat.mod_lt _ hn⟩
theorem pair_bij (b : Bij n σ) : Bij (n * n) (pairσ n σ) := by
  refine ⟨fun k hk => ?_, fun k j hk hj e => ?_⟩
  · obtain ⟨h1, h2⟩ := pair_lt hk
    exact ix_lt (b.lt _ h1) (b.lt _ h2)
  · obtain ⟨h1, h2⟩ := pair_lt hk
    obtain ⟨h3, h4⟩ := pair_lt hj
    have e1 := congrArg (· / n) e
    have e2 := congrArg (· % n) e
    simp only [pairσ] at e1 e2
    rw [pair_div (b.lt _ h2), pair_div (b.lt _ h4)] at e1
    rw [pair_mod (b.lt _ h2), pair_mod (b.lt _ h4)] at e2
    have e3 := b.inj _ _ h1 h3 e1
    have e4 := b.inj _ _ h2 h4 e2
    have a1 := Nat.div_add_mod k n
    have a2 := Nat.div_add_mod j n
    rw [e3, e4] at a1
    omega
theorem pair_tie0 (b : Bij n σ) {k : Nat} (hk : k < n * n) : tie0 n (pairσ n σ k) = tie0 n k := by
  obtain ⟨h1, h2⟩ := pair_lt hk
  unfold tie0 pairσ
  rw [pair_div (b.lt _ h2), pair_mod (b.lt _ h2)]
  by_cases e : k / n = k % n
  · rw [if_pos e, if_pos (by rw [e])]
  · rw [if_neg e, if_neg fun q => e (b.inj _ _ h1 h2 q)]
theorem moved_tsg (cr : Canon sr) (hT : Tb n T) (h : Iso n T U σ) : Moved (n * n) (pairσ n σ) (tsg sr n T) (tsg sr n U) := fun m m' hm k hk => by
  obtain ⟨h1, h2⟩ := pair_lt hk
  have hd : ∀ x y, x < n → y < n → m' (σ x * n + σ y) = m (x * n + y) := fun x y hx hy => by
    have q := hm (x * n + y) (ix_lt hx hy)
    unfold pairσ at q
    rw [pair_div hy, pair_mod hy] at q
    exact q
  have e : ∀ z, z < n → met7 n U m' (σ (k / n)) (σ (k % n)) (σ z) = met7 n T m (k / n) (k % n) z := fun z hz => by
    have t1 := hT.turn h1 hz
    have t2 := hT.turn h2 hz
    have t3 := hT.turn hz h1
    have t4 := hT.turn hz h2
    unfold met7
    rw [← h.hom _ _ h1 hz, ← h.hom _ _ h2 hz, ← h.hom _ _ hz h1, ← h.hom _ _ hz h2, hd _ _ h1 hz, hd _ _ h2 hz, hd _ _ t1 t2, hd _ _ t1 h2, hd _ _ t2 h1, hd _ _ t3 h2, hd _ _ t4 h1]
  unfold tsg
  rw [show pairσ n σ k / n = σ (k / n) from pair_div (h.bij.lt _ h2), show pairσ n σ k % n = σ (k % n) from pair_mod (h.bij.lt _ h2), hd _ _ h1 h2, cr.one (h.bij.tab_of e)]
theorem sgn_fst (d : Nat → Nat) : Fst n (sgn sr n T d) Prod.fst := fun _ _ _ => rfl
theorem sgn_finer (cr : Canon sr) (hT : Tb n T) (d : Nat → Nat) : FinerF n (sgn sr n T d) := fun m' m hf x y hx hy e => by
  have e1 : m' x = m' y := congrArg Prod.fst e
  have e2 : (tab n (met4 n T d m' x)).Perm (tab n (met4 n T d m' y)) := cr.inj (congrArg Prod.snd e)
  obtain ⟨r, hr⟩ := rep n m'
  have hg : ∀ z, z < n → m (r (m' z)) = m z := fun z hz => by
    obtain ⟨q1, q2⟩ := hr (m' z) (dd_mem.mpr (tab_mem.mpr ⟨z, hz, rfl⟩))
    exact hf _ _ q1 hz q2
  have ph : ∀ z, z < n → (tab n (met4 n T d m' z)).map (fun l => match l with | [a, b, c, e] => [a, m (r b), m (r c), m (r e)] | l => l) = tab n (met4 n T d m z) := fun z hz => by
    rw [tab_map]
    refine tab_congr fun w hw => ?_
    show [d (z * n + w), m (r (m' w)), m (r (m' (tq n T z w))), m (r (m' (tq n T w z)))] = [d (z * n + w), m w, m (tq n T z w), m (tq n T w z)]
    rw [hg w hw, hg _ (hT.turn hz hw), hg _ (hT.turn hw hz)]
  have e3 := e2.map (fun l => match l with | [a, b, c, e] => [a, m (r b), m (r c), m (r e)] | l => l)
  rw [ph x hx, ph y hy] at e3
  unfold sgn
  rw [hf x y hx hy e1, cr.one e3]
end
section
variable (ss : List Sg → List Sg) (sr : List (List Nat) → List (List Nat))
abbrev lkIt (n : Nat) (T : List Nat) (d : Nat → Nat) (p : List Nat) (k : Nat) : Nat → Nat := it ss n (sgn sr n T d) (at0 p) k
abbrev LkStop (n : Nat) (T : List Nat) (d : Nat → Nat) (p : List Nat) (K : Nat) : Prop := Stop ss n (sgn sr n T d) (at0 p) K
abbrev lkSeen (n : Nat) (T : List Nat) (d : Nat → Nat) (p : List Nat) (K : Nat) : List (List Sg) := seen ss n (sgn sr n T d) (at0 p) K
end
theorem idx_map {σ : Nat → Nat} {x : Nat} : ∀ {p : List Nat}, (∀ y ∈ p, σ y = σ x → y = x) → (p.map σ).idxOf (σ x) = p.idxOf x
  | [], _ => rfl
  | y :: p, h => by
    rw [List.map_cons, List.idxOf_cons, List.idxOf_cons]
    by_cases e : y = x
    · subst e; simp
    · have e2 : ¬ σ y = σ x := fun q => e (h y List.mem_cons_self q)
      rw [show (σ y == σ x) = false from beq_false_of_ne e2, show (y == x) = false from beq_false_of_ne e, idx_map fun z hz => h z (List.mem_cons_of_mem _ hz)]
theorem at0_map {n : Nat} {σ : Nat → Nat} (b : Bij n σ) {p : List Nat} (hp : ∀ x ∈ p, x < n) {x : Nat} (hx : x < n) : at0 (p.map σ) (σ x) = at0 p x := by
  have hi : ∀ y ∈ p, σ y = σ x → y = x := fun y hy e => b.inj y x (hp y hy) hx e
  unfold at0
  by_cases h : x ∈ p
  · rw [if_pos h, if_pos (List.mem_map_of_mem h), idx_map hi]
  · rw [if_neg h, if_neg fun q => ?_]
    obtain ⟨y, hy, e⟩ := List.mem_map.mp q
    rw [hi y hy e] at hy
    exact h hy
theorem at0_in {p : List Nat} (hp : p.Nodup) {i a : Nat} (h : p[i]? = some a) : at0 p a = i + 1 := by
  unfold at0
  have hm := List.mem_of_getElem? h
  rw [if_pos hm]
  have hl := List.idxOf_lt_length_of_mem hm
  have e : p[p.idxOf a]? = some a := List.getElem?_eq_some_iff.mpr ⟨hl, List.getElem_idxOf hl⟩
  have hl2 := (List.getElem?_eq_some_iff.mp h).1
  have := (List.getElem?_inj hl2 hp).mp (h.trans e.symm)
  omega
theorem at0_out {p : List Nat} {a : Nat} (h : a ∉ p) : at0 p a = 0 := if_neg h
theorem at0_of {p : List Nat} {i x : Nat} (h : at0 p x = i + 1) : p[i]? = some x := by
  unfold at0 at h
  by_cases hm : x ∈ p
  · rw [if_pos hm] at h
    have hl := List.idxOf_lt_length_of_mem hm
    have e : p.idxOf x = i := by omega
    rw [← e]
    exact List.getElem?_eq_some_iff.mpr ⟨hl, List.getElem_idxOf hl⟩
  · rw [if_neg hm] at h
    omega
section
variable {ss : List Sg → List Sg} {sr : List (List Nat) → List (List Nat)} (cs : Canon ss) (cr : Canon sr) {n : Nat} {T U : List Nat} {σ d d' : Nat → Nat} {p q : List Nat} {K K' : Nat}
include cs cr
theorem look_iso (hT : Tb n T) (h : Iso n T U σ) (hd : MovedD n σ d d') (hp : ∀ x ∈ p, x < n) (s : LkStop ss sr n T d p K) (s' : LkStop ss sr n U d' (p.map σ) K') : alike ss (lkSeen ss sr n T d p K) (lkSeen ss sr n U d' (p.map σ) K') :=
  (alike_moved cs h.bij (moved_sgn cr hT h hd) (fun x hx => at0_map h.bij hp hx) s s').2
theorem look_full (hn : 1 ≤ n) (hT : Tb n T) (hU : Tb n U) (hq : q.Nodup) (hl : q.length = n) (hlt : ∀ x ∈ q, x < n) (a : alike ss (lkSeen ss sr n U d' q K') (lkSeen ss sr n T d (List.range n) K)) : Iso n T U (fun x => q.getD x 0) := by
  obtain ⟨_, ap⟩ := alike_perm cs a
  have p0 := ap 0 (Nat.zero_le _)
  have at_ : ∀ x, x < n → q[x]? = some (q.getD x 0) := fun x hx => by
    rw [List.getD_eq_getElem?_getD, List.getElem?_eq_getElem (by omega)]
    rfl
  have lt_ : ∀ x, x < n → q.getD x 0 < n := fun x hx => hlt _ (List.mem_of_getElem? (at_ x hx))
  have mq : ∀ x, x < n → at0 q (q.getD x 0) = x + 1 := fun x hx => at0_in hq (at_ x hx)
  have mr : ∀ x, x < n → at0 (List.range n) x = x + 1 := fun x hx => at0_in List.nodup_range (List.getElem?_range hx)
  have bq : Bij n (fun x => q.getD x 0) := ⟨lt_, fun i j hi hj e => by
    have a1 := mq i hi
    have e : q.getD i 0 = q.getD j 0 := e
    rw [e, mq j hj] at a1
    omega⟩
  have inj : ∀ z x, x < n → at0 q z = x + 1 → z = q.getD x 0 := fun z x hx e => by
    have := at0_of e
    rw [at_ x hx] at this
    exact (Option.some.inj this).symm
  refine ⟨bq, fun x y hx hy => ?_⟩
  have hm : sgn sr n T d (at0 (List.range n)) x ∈ tab n (sgn sr n U d' (at0 q)) := p0.symm.mem_iff.mp (tab_mem.mpr ⟨x, hx, rfl⟩)
  obtain ⟨z, hz, ez⟩ := tab_mem.mp hm
  have e1 : at0 q z = at0 (List.range n) x := congrArg Prod.fst ez
  rw [mr x hx] at e1
  have e2 := inj z x hx e1
  have e3 : (tab n (met4 n U d' (at0 q) z)).Perm (tab n (met4 n T d (at0 (List.range n)) x)) := cr.inj (congrArg Prod.snd ez)
  have hm2 := e3.symm.mem_iff.mp (tab_mem.mpr ⟨y, hy, rfl⟩)
  obtain ⟨w, hw, ew⟩ := tab_mem.mp hm2
  unfold met4 at ew
  simp only [List.cons.injEq, and_true] at ew
  obtain ⟨_, e4, e5, _⟩ := ew
  rw [mr y hy] at e4
  have e6 := inj w y hy e4
  have ht := hT.turn hx hy
  rw [mr _ ht] at e5
  have e7 := inj _ _ ht e5
  rw [e2, e6] at e7
  exact e7.symm
theorem look_pin (hp : p.Nodup) (hq : q.Nodup) (hpl : ∀ x ∈ p, x < n) (hql : ∀ x ∈ q, x < n) (a : alike ss (lkSeen ss sr n U d p K) (lkSeen ss sr n U d q K')) {i x z : Nat} (hx : p[i]? = some x) (hz : q[i]? = some z) :
    K = K' ∧ Pin n (lkIt ss sr n U d p (K + 1)) (lkIt ss sr n U d q (K + 1)) x z ∧ (tab n (lkIt ss sr n U d p (K + 1))).Perm (tab n (lkIt ss sr n U d q (K + 1))) := by
  obtain ⟨rfl, ap⟩ := alike_perm cs a
  refine ⟨rfl, Pin.all cs (sgn_fst d) (sgn_fst d) (hpl x (List.mem_of_getElem? hx)) (hql z (List.mem_of_getElem? hz)) ⟨?_, fun y _ e => ?_, fun y _ e => ?_⟩ (K + 1) fun j hj => ap j (by omega), ?_⟩
  · rw [at0_in hp hx, at0_in hq hz]
  · rw [at0_in hp hx] at e
    have := at0_of e
    rw [hx] at this
    exact (Option.some.inj this).symm
  · rw [at0_in hq hz] at e
    have := at0_of e
    rw [hz] at this
    exact (Option.some.inj this).symm
  · have hk := ap K (Nat.le_refl _)
    exact rk_perm cs hk
theorem look_perm (a : alike ss (lkSeen ss sr n U d p K) (lkSeen ss sr n U d q K')) : K = K' ∧ (tab n (lkIt ss sr n U d p (K + 1))).Perm (tab n (lkIt ss sr n U d q (K + 1))) := by
  obtain ⟨rfl, ap⟩ := alike_perm cs a
  refine ⟨rfl, ?_⟩
  have hk := ap K (Nat.le_refl _)
  exact rk_perm cs hk
theorem look_discrete (hU : Tb n U) (s : LkStop ss sr n U d p K) (a : alike ss (lkSeen ss sr n U d p K) (lkSeen ss sr n U d q K')) (hc : n ≤ cnt (tab n (lkIt ss sr n U d p (K + 1)))) {φ : Nat → Nat} (bφ : Bij n φ)
    (hφ : ∀ x, x < n → lkIt ss sr n U d q (K + 1) (φ x) = lkIt ss sr n U d p (K + 1) x) : Iso n U U φ := by
  obtain ⟨rfl, ap⟩ := alike_perm cs a
  have hk := ap K (Nat.le_refl _)
  generalize em : it ss n (sgn sr n U d) (at0 p) K = m at hk
  generalize eq : it ss n (sgn sr n U d) (at0 q) K = m' at hk
  have e1 : ∀ x, x < n → sgn sr n U d m' (φ x) = sgn sr n U d m x := fun x hx => by
    have h := hφ x hx
    refine (rk_inj2 cs hk hx (bφ.lt x hx) ?_).symm
    rw [← em, ← eq]
    exact h.symm
  have mx : ∀ x, x < n → m' (φ x) = m x := fun x hx => congrArg Prod.fst (e1 x hx)
  have mi : ∀ x y, x < n → y < n → m x = m y → x = y := by
    have h2 := s.last
    rw [em] at h2
    exact cnt_full (Nat.le_trans hc h2)
  have mi' : ∀ x y, x < n → y < n → m' x = m' y → x = y := fun x y hx hy e => by
    obtain ⟨x', hx', rfl⟩ := bφ.onto hx
    obtain ⟨y', hy', rfl⟩ := bφ.onto hy
    rw [mx x' hx', mx y' hy'] at e
    rw [mi x' y' hx' hy' e]
  refine ⟨bφ, fun x y hx hy => ?_⟩
  have e3 : (tab n (met4 n U d m' (φ x))).Perm (tab n (met4 n U d m x)) := cr.inj (congrArg Prod.snd (e1 x hx))
  obtain ⟨w, hw, ew⟩ := tab_mem.mp (e3.symm.mem_iff.mp (tab_mem.mpr ⟨y, hy, rfl⟩))
  unfold met4 at ew
  simp only [List.cons.injEq, and_true] at ew
  obtain ⟨_, e4, e5, _⟩ := ew
  rw [← mx y hy] at e4
  have e6 := mi' w (φ y) hw (bφ.lt y hy) e4
  have ht := hU.turn hx hy
  rw [← mx _ ht, e6] at e5
  exact (mi' _ _ (hU.turn (bφ.lt x hx) (bφ.lt y hy)) (bφ.lt _ ht) e5).symm
theorem look_more (hU : Tb n U) (hp : p.Nodup) (hpl : ∀ x ∈ p, x < n) {x y : Nat} (hx : x < n) (hy : y < n) (hxy : y ≠ x) (hxp : x ∉ p) (s : LkStop ss sr n U d p K) (e : lkIt ss sr n U d p (K + 1) y = lkIt ss sr n U d p (K + 1) x) (s' : LkStop ss sr n U d (p ++ [x]) K') :
    cnt (tab n (lkIt ss sr n U d p (K + 1))) < cnt (tab n (lkIt ss sr n U d (p ++ [x]) (K' + 1))) := by
  have hp' : (p ++ [x]).Nodup := by
    rw [List.nodup_append]
    exact ⟨hp, by simp, fun a ha b hb e => hxp (by rw [List.mem_singleton] at hb; rw [← hb, ← e]; exact ha)⟩
  have hx' : (p ++ [x])[p.length]? = some x := by rw [List.getElem?_append_right (Nat.le_refl _), Nat.sub_self]; rfl
  have f0 : Finer n (at0 (p ++ [x])) (at0 p) := fun a b ha hb e => by
    by_cases h : a ∈ p ++ [x]
    · have e1 : at0 (p ++ [x]) a = (p ++ [x]).idxOf a + 1 := if_pos h
      rw [e1] at e
      have e2 := at0_of e.symm
      have hl := List.idxOf_lt_length_of_mem h
      have e3 : (p ++ [x])[(p ++ [x]).idxOf a]? = some a := List.getElem?_eq_some_iff.mpr ⟨hl, List.getElem_idxOf hl⟩
      rw [e3] at e2
      rw [Option.some.inj e2]
    · rw [at0_out h] at e
      have hb : b ∉ p ++ [x] := fun q => by
        have e1 : at0 (p ++ [x]) b = (p ++ [x]).idxOf b + 1 := if_pos q
        omega
      rw [at0_out fun q => h (List.mem_append_left _ q), at0_out fun q => hb (List.mem_append_left _ q)]
  have f := s.finer cs (sgn_fst d) (sgn_finer cr hU d) f0 s'
  refine f.lt hy hx e fun q => hxy ?_
  have pin : Pin n (lkIt ss sr n U d (p ++ [x]) (K' + 1)) (lkIt ss sr n U d (p ++ [x]) (K' + 1)) x x := Pin.all cs (sgn_fst d) (sgn_fst d) hx hx ⟨rfl, fun y _ e => ?_, fun y _ e => ?_⟩ (K' + 1) fun _ _ => List.Perm.refl _
  · exact pin.one y hy q
  · rw [at0_in hp' hx'] at e
    have := at0_of e
    rw [hx'] at this
    exact (Option.some.inj this).symm
  · rw [at0_in hp' hx'] at e
    have := at0_of e
    rw [hx'] at this
    exact (Option.some.inj this).symm
end
theorem sorted_maps {l l' : List Nat} {m m' : Nat → Nat} (hp : (l.map m).Perm (l'.map m')) (h : l.Pairwise fun a b => m a ≤ m b) (h' : l'.Pairwise fun a b => m' a ≤ m' b) : l.map m = l'.map m' :=
  List.Perm.eq_of_pairwise (le := fun a b : Nat => a ≤ b) (fun a b _ _ h1 h2 => Nat.le_antisymm h1 h2) (List.pairwise_map.mpr h) (List.pairwise_map.mpr h') hp
theorem by_marks {n : Nat} {l l' : List Nat} {m m' : Nat → Nat} (hl : l.Perm (List.range n)) (hl' : l'.Perm (List.range n)) (hp : (tab n m).Perm (tab n m')) (h : l.Pairwise fun a b => m a ≤ m b) (h' : l'.Pairwise fun a b => m' a ≤ m' b) :
    Bij n (fun x => l'.getD (l.idxOf x) 0) ∧ ∀ x, x < n → m' (l'.getD (l.idxOf x) 0) = m x := by
  have e := sorted_maps (((hl.map m).trans hp).trans (hl'.map m').symm) h h'
  have ln : l.length = n := by rw [hl.length_eq, List.length_range]
  have ln' : l'.length = n := by rw [hl'.length_eq, List.length_range]
  have nd' : l'.Nodup := hl'.nodup_iff.mpr List.nodup_range
  have ix : ∀ x, x < n → l.idxOf x < n ∧ l[l.idxOf x]? = some x := fun x hx => by
    have hm : x ∈ l := hl.mem_iff.mpr (List.mem_range.mpr hx)
    have hlt := List.idxOf_lt_length_of_mem hm
    exact ⟨by omega, List.getElem?_eq_some_iff.mpr ⟨hlt, List.getElem_idxOf hlt⟩⟩
  have at_ : ∀ j, j < n → l'[j]? = some (l'.getD j 0) := fun j hj => by
    rw [List.getD_eq_getElem?_getD, List.getElem?_eq_getElem (by omega)]
    rfl
  refine ⟨⟨fun x hx => ?_, fun x y hx hy q => ?_⟩, fun x hx => ?_⟩
  · exact List.mem_range.mp (hl'.mem_iff.mp (List.mem_of_getElem? (at_ _ (ix x hx).1)))
  · have q : l'.getD (l.idxOf x) 0 = l'.getD (l.idxOf y) 0 := q
    have a1 := at_ _ (ix x hx).1
    rw [q, ← at_ _ (ix y hy).1] at a1
    have a2 := (List.getElem?_inj (by rw [ln']; exact (ix x hx).1) nd').mp a1
    have a3 := (ix x hx).2
    rw [a2, (ix y hy).2] at a3
    exact (Option.some.inj a3).symm
  · have a1 : (l.map m)[l.idxOf x]? = (l'.map m')[l.idxOf x]? := by rw [e]
    rw [List.getElem?_map, List.getElem?_map, (ix x hx).2, at_ _ (ix x hx).1] at a1
    exact (Option.some.inj a1).symm
end My
set_option linter.all false
namespace My
open Rd12
theorem lower_cons {a b : Nat} {r s : List Nat} : lower (a :: r) (b :: s) = (decide (a < b) || (a == b && lower r s)) := rfl
theorem lower_irrefl : ∀ r : List Nat, lower r r = false
  | [] => rfl
  | a :: r => by rw [lower_cons, lower_irrefl r]; simp
theorem lower_asymm : ∀ {r s : List Nat}, lower r s = true → lower s r = false
  | [], _, h => by simp [lower] at h
  | _ :: _, [], h => by simp [lower] at h
  | a :: r, b :: s, h => by
    rw [lower_cons] at h ⊢
    rcases Nat.lt_trichotomy a b with q | q | q
    · simp only [Bool.or_eq_false_iff, decide_eq_false_iff_not, Bool.and_eq_false_iff]
      exact ⟨by omega, .inl (beq_false_of_ne (by omega))⟩
    · subst q
      simp only [Nat.lt_irrefl, decide_false, beq_self_eq_true, Bool.true_and, Bool.false_or] at h ⊢
      exact lower_asymm h
    · simp [show ¬ a < b by omega, show ¬ a = b by omega] at h
theorem lower_same {a : Nat} {r s : List Nat} : lower (a :: r) (a :: s) = lower r s := by rw [lower_cons]; simp
theorem lower_pre : ∀ (p : List Nat) {r s : List Nat}, lower (p ++ r) (p ++ s) = lower r s
  | [], _, _ => rfl
  | a :: p, r, s => by
    show lower (a :: (p ++ r)) (a :: (p ++ s)) = _
    rw [lower_same]
    exact lower_pre p
theorem lower_more : ∀ {r s : List Nat}, r.length = s.length → lower r s = true → ∀ x y, lower (r ++ x) (s ++ y) = true
  | [], _, _, h, _, _ => by simp [lower] at h
  | _ :: _, [], e, _, _, _ => by simp at e
  | a :: r, b :: s, e, h, x, y => by
    show lower (a :: (r ++ x)) (b :: (s ++ y)) = true
    rw [lower_cons] at h ⊢
    simp only [Bool.or_eq_true, decide_eq_true_eq, Bool.and_eq_true, beq_iff_eq] at h ⊢
    rcases h with h | ⟨h1, h2⟩
    · exact .inl h
    · exact .inr ⟨h1, lower_more (by simpa using e) h2 x y⟩
theorem rows_sorted : ∀ (n k : Nat), (rows n k).Pairwise fun a b => lower a b = true
  | n, 0 => by show List.Pairwise _ [[]]; simp
  | n, k + 1 => by
    show ((List.range n).flatMap fun x => (rows n k).map fun r => x :: r).Pairwise _
    rw [List.pairwise_flatMap]
    refine ⟨fun x _ => List.pairwise_map.mpr ((rows_sorted n k).imp fun h => by rw [lower_same]; exact h), ?_⟩
    refine List.pairwise_lt_range.imp fun {x y} hxy => ?_
    intro a ha b hb
    obtain ⟨r, _, rfl⟩ := List.mem_map.mp ha
    obtain ⟨s, _, rfl⟩ := List.mem_map.mp hb
    rw [lower_cons, decide_eq_true hxy]
    rfl
theorem find_first {p : List Nat → Bool} : ∀ {l : List (List Nat)}, l.Pairwise (fun a b => lower a b = true) → ∀ {f e : List Nat}, l.find? p = some f → e ∈ l → p e = true → e = f ∨ lower f e = true
  | [], _, _, _, h, _, _ => by simp at h
  | a :: l, hs, f, e, h, hm, hp => by
    obtain ⟨h1, h2⟩ := List.pairwise_cons.mp hs
    by_cases q : p a = true
    · rw [List.find?_cons_of_pos q] at h
      have h := Option.some.inj h
      subst h
      rcases List.mem_cons.mp hm with r | r
      · exact .inl r
      · exact .inr (h1 e r)
    · rw [List.find?_cons_of_neg q] at h
      rcases List.mem_cons.mp hm with r | r
      · subst r; exact absurd hp q
      · exact find_first h2 h r hp
theorem iso_row {n : Nat} {T U : List Nat} (hT : Tb n T) {σ : Nat → Nat} (h : Iso n T U σ) : tab n σ ∈ rows n n ∧ (single (tab n σ) && isImage ⟨n, T⟩ ⟨n, U⟩ (tab n σ)) = true := by
  refine ⟨mem_rows.mpr ⟨tab_len _ _, fun v hv => ?_⟩, ?_⟩
  · obtain ⟨i, hi, rfl⟩ := tab_mem.mp hv
    exact h.bij.lt i hi
  · rw [Bool.and_eq_true]
    refine ⟨single_iff.mpr (h.bij.perm.nodup_iff.mpr List.nodup_range), all_iff.mpr fun x hx => all_iff.mpr fun y hy => ?_⟩
    rw [beq_iff_eq]
    show (tab n σ).getD (tq n T x y) 0 = tq n U ((tab n σ).getD x 0) ((tab n σ).getD y 0)
    rw [tab_getD (hT.turn hx hy), tab_getD hx, tab_getD hy]
    exact h.hom x y hx hy
theorem row_iso {n : Nat} {T U f : List Nat} (hm : f ∈ rows n n) (h : (single f && isImage ⟨n, T⟩ ⟨n, U⟩ f) = true) : Iso n T U (fun x => f.getD x 0) := by
  obtain ⟨hl, hlt⟩ := mem_rows.mp hm
  rw [Bool.and_eq_true] at h
  have nd := single_iff.mp h.1
  have at_ : ∀ j, j < n → f[j]? = some (f.getD j 0) := fun j hj => by
    rw [List.getD_eq_getElem?_getD, List.getElem?_eq_getElem (by omega)]
    rfl
  refine ⟨⟨fun i hi => hlt _ (List.mem_of_getElem? (at_ i hi)), fun i j hi hj e => ?_⟩, fun x y hx hy => ?_⟩
  · have e : f.getD i 0 = f.getD j 0 := e
    have a1 := at_ i hi
    rw [e, ← at_ j hj] at a1
    exact (List.getElem?_inj (by omega) nd).mp a1
  · have h2 := all_iff.mp (all_iff.mp (show (Rd12.all n fun x => Rd12.all n fun y => f.getD (tq n T x y) 0 == tq n U (f.getD x 0) (f.getD y 0)) = true from h.2) x hx) y hy
    exact beq_iff_eq.mp h2
theorem same_none {n : Nat} {T U : List Nat} (hT : Tb n T) : sameOf ⟨n, T⟩ ⟨n, U⟩ = none ↔ ∀ σ, ¬ Iso n T U σ := by
  constructor
  · intro h σ i
    obtain ⟨h1, h2⟩ := iso_row hT i
    have h3 := List.find?_eq_none.mp (show (rows n n).find? _ = none from h) _ h1
    exact h3 h2
  · intro h
    refine List.find?_eq_none.mpr fun f hf hp => ?_
    exact h _ (row_iso hf hp)
theorem Iso.inv {n : Nat} {T U : List Nat} (hT : Tb n T) {σ : Nat → Nat} (h : Iso n T U σ) : ∃ ρ, Iso n U T ρ ∧ (∀ x, x < n → ρ (σ x) = x) ∧ ∀ x, x < n → σ (ρ x) = x := by
  have on : ∀ x, x < n → (tab n σ).idxOf x < n ∧ σ ((tab n σ).idxOf x) = x := fun x hx => by
    have hm : x ∈ tab n σ := tab_mem.mpr (h.bij.onto hx)
    have hl := List.idxOf_lt_length_of_mem hm
    have hl' := hl
    rw [tab_len] at hl'
    have e : (tab n σ)[(tab n σ).idxOf x]? = some x := List.getElem?_eq_some_iff.mpr ⟨hl, List.getElem_idxOf hl⟩
    rw [tab_at hl'] at e
    exact ⟨hl', Option.some.inj e⟩
  have back : ∀ x, x < n → (tab n σ).idxOf (σ x) = x := fun x hx => h.bij.inj _ _ (on _ (h.bij.lt x hx)).1 hx (on _ (h.bij.lt x hx)).2
  refine ⟨fun x => (tab n σ).idxOf x, ⟨⟨fun x hx => (on x hx).1, fun x y hx hy e => ?_⟩, fun x y hx hy => ?_⟩, back, fun x hx => (on x hx).2⟩
  · have := (on x hx).2
    have e : (tab n σ).idxOf x = (tab n σ).idxOf y := e
    rw [e, (on y hy).2] at this
    exact this.symm
  · have e := h.hom _ _ (on x hx).1 (on y hy).1
    rw [(on x hx).2, (on y hy).2] at e
    show (tab n σ).idxOf (tq n U x y) = _
    rw [← e]
    exact back _ (hT.turn (on x hx).1 (on y hy).1)
theorem Iso.comp {n : Nat} {T U V : List Nat} {σ τ : Nat → Nat} (h : Iso n T U σ) (g : Iso n U V τ) : Iso n T V (fun x => τ (σ x)) :=
  ⟨⟨fun x hx => g.bij.lt _ (h.bij.lt x hx), fun x y hx hy e => h.bij.inj x y hx hy (g.bij.inj _ _ (h.bij.lt x hx) (h.bij.lt y hy) e)⟩, fun x y hx hy => by
    show τ (σ (tq n T x y)) = _
    rw [h.hom x y hx hy, g.hom _ _ (h.bij.lt x hx) (h.bij.lt y hy)]⟩
def Auto (n : Nat) (U p q : List Nat) : Prop := ∃ α, Iso n U U α ∧ p.map α = q
theorem Auto.pull {n : Nat} {T U : List Nat} (hU : Tb n U) {p q ps : List Nat} {τ : Nat → Nat} (ha : Auto n U p q) (hp : ∀ x ∈ p, x < n) (ht : Iso n T U τ) (e : ps.map τ = q) : ∃ τ', Iso n T U τ' ∧ ps.map τ' = p := by
  obtain ⟨α, ia, ea⟩ := ha
  obtain ⟨ρ, ir, r1, r2⟩ := ia.inv hU
  refine ⟨_, ht.comp ir, ?_⟩
  have e2 : ps.map (fun x => ρ (τ x)) = (ps.map τ).map ρ := (List.map_map ..).symm
  rw [e2, e, ← ea, List.map_map]
  have : p.map (ρ ∘ α) = p.map id := List.map_congr_left fun x hx => r1 x (hp x hx)
  rw [this, List.map_id]
structure LR (n : Nat) (U : List Nat) (A : List Nat → Prop) (row zs : List Nat) : Prop where
  up : zs.Pairwise (· < ·)
  ok : ∀ z ∈ zs, z < n ∧ z ∉ row ∧ A (row ++ [z])
  all : ∀ z, z < n → z ∉ row → A (row ++ [z]) → z ∉ zs → ∃ z' ∈ zs, z' < z ∧ Auto n U (row ++ [z']) (row ++ [z])
inductive Lev (n : Nat) (U : List Nat) (A : List Nat → Prop) : List (List Nat) → List (List Nat) → Prop
  | nil : Lev n U A [] []
  | snoc {rs out : List (List Nat)} {r zs : List Nat} : Lev n U A rs out → LR n U A r zs → Lev n U A (rs ++ [r]) (out ++ zs.map fun z => r ++ [z])
inductive Reach (n : Nat) (U : List Nat) (A : Nat → List Nat → Prop) : Nat → List (List Nat) → Prop
  | zero : Reach n U A 0 [[]]
  | succ {k : Nat} {rs rs' : List (List Nat)} : Reach n U A k rs → Lev n U (A k) rs rs' → Reach n U A (k + 1) rs'
section
variable {n : Nat} {T U : List Nat}
theorem Lev.from {A : List Nat → Prop} {rs out : List (List Nat)} (h : Lev n U A rs out) : ∀ s ∈ out, ∃ r ∈ rs, ∃ z, z < n ∧ z ∉ r ∧ s = r ++ [z] ∧ A s := by
  induction h with
  | nil => intro s hs; simp at hs
  | @snoc rs out r zs _ lr ih =>
    intro s hs
    rcases List.mem_append.mp hs with q | q
    · obtain ⟨r', h1, h2⟩ := ih s q
      exact ⟨r', List.mem_append_left _ h1, h2⟩
    · obtain ⟨z, hz, rfl⟩ := List.mem_map.mp q
      obtain ⟨a, b, c⟩ := lr.ok z hz
      exact ⟨r, List.mem_append_right _ (List.mem_singleton.mpr rfl), z, a, b, rfl, c⟩
theorem Lev.of {A : List Nat → Prop} {rs out : List (List Nat)} (h : Lev n U A rs out) : ∀ r ∈ rs, ∃ zs, LR n U A r zs ∧ ∀ z ∈ zs, r ++ [z] ∈ out := by
  induction h with
  | nil => intro s hs; simp at hs
  | @snoc rs out r zs _ lr ih =>
    intro s hs
    rcases List.mem_append.mp hs with q | q
    · obtain ⟨zs', h1, h2⟩ := ih s q
      exact ⟨zs', h1, fun z hz => List.mem_append_left _ (h2 z hz)⟩
    · have e := List.mem_singleton.mp q
      subst e
      exact ⟨zs, lr, fun z hz => List.mem_append_right _ (List.mem_map.mpr ⟨z, hz, rfl⟩)⟩
theorem Lev.sorted {A : List Nat → Prop} {rs out : List (List Nat)} {k : Nat} (h : Lev n U A rs out) (hl : ∀ r ∈ rs, r.length = k) (hs : rs.Pairwise fun a b => lower a b = true) : out.Pairwise fun a b => lower a b = true := by
  induction h with
  | nil => exact List.Pairwise.nil
  | @snoc rs out r zs lev lr ih =>
    obtain ⟨h1, h2, h3⟩ := List.pairwise_append.mp hs
    refine List.pairwise_append.mpr ⟨ih (fun s hs => hl s (List.mem_append_left _ hs)) h1, List.pairwise_map.mpr (lr.up.imp fun {x y} hxy => ?_), fun a ha b hb => ?_⟩
    · rw [lower_pre, lower_cons, decide_eq_true hxy]
      rfl
    · obtain ⟨r', hr', z, _, _, rfl, _⟩ := lev.from a ha
      obtain ⟨w, _, rfl⟩ := List.mem_map.mp hb
      have q := h3 r' hr' r (List.mem_singleton.mpr rfl)
      exact lower_more (by rw [hl r' (List.mem_append_left _ hr'), hl r (List.mem_append_right _ (List.mem_singleton.mpr rfl))]) q _ _
theorem Reach.row {A : Nat → List Nat → Prop} {k : Nat} {rs : List (List Nat)} (h : Reach n U A k rs) : ∀ r ∈ rs, r.length = k ∧ r.Nodup ∧ (∀ x ∈ r, x < n) ∧ ∀ j, k = j + 1 → A j r := by
  induction h with
  | zero =>
    intro r hr
    rw [List.mem_singleton.mp hr]
    exact ⟨rfl, List.nodup_nil, fun x hx => by simp at hx, fun j e => by omega⟩
  | @succ k rs rs' _ lev ih =>
    intro s hs
    obtain ⟨r, hr, z, hz, hzr, rfl, hA⟩ := lev.from s hs
    obtain ⟨h1, h2, h3, _⟩ := ih r hr
    refine ⟨by rw [List.length_append, h1]; rfl, ?_, fun x hx => ?_, fun j e => ?_⟩
    · rw [List.nodup_append]
      exact ⟨h2, by simp, fun a ha b hb e => hzr (by rw [List.mem_singleton] at hb; rw [← hb, ← e]; exact ha)⟩
    · rcases List.mem_append.mp hx with q | q
      · exact h3 x q
      · rw [List.mem_singleton.mp q]; exact hz
    · have e : k = j := by omega
      subst e; exact hA
theorem Reach.sorted {A : Nat → List Nat → Prop} {k : Nat} {rs : List (List Nat)} (h : Reach n U A k rs) : rs.Pairwise fun a b => lower a b = true := by
  induction h with
  | zero => simp
  | @succ k rs rs' re lev ih => exact lev.sorted (fun r hr => (re.row r hr).1) ih
theorem take_map {ps : List Nat} {k x : Nat} (τ : Nat → Nat) (h : ps[k]? = some x) : (ps.take (k + 1)).map τ = (ps.take k).map τ ++ [τ x] := by
  rw [List.take_add_one, h, List.map_append]
  rfl
theorem Reach.has {A : Nat → List Nat → Prop} (hU : Tb n U) {ps : List Nat} (hn : ps.Nodup) (hlt : ∀ x ∈ ps, x < n) (hA : ∀ τ, Iso n T U τ → ∀ k, k < ps.length → A k ((ps.take (k + 1)).map τ)) (hi : ∃ σ, Iso n T U σ)
    {k : Nat} {rs : List (List Nat)} (h : Reach n U A k rs) : k ≤ ps.length → ∃ τ, Iso n T U τ ∧ (ps.take k).map τ ∈ rs := by
  induction h with
  | zero =>
    intro _
    obtain ⟨σ, i⟩ := hi
    exact ⟨σ, i, by simp⟩
  | @succ k rs rs' re lev ih =>
    intro hk
    obtain ⟨τ, it, hm⟩ := ih (by omega)
    obtain ⟨x, hx⟩ : ∃ x, ps[k]? = .some x := ⟨_, List.getElem?_eq_getElem (by omega)⟩
    have hxm := List.mem_of_getElem? hx
    have tm := take_map τ hx
    obtain ⟨zs, lr, hz⟩ := lev.of _ hm
    have hA' := hA τ it k (by omega)
    rw [tm] at hA'
    have hnot : τ x ∉ (ps.take k).map τ := fun q => by
      obtain ⟨y, hy, e⟩ := List.mem_map.mp q
      have hym := List.mem_of_mem_take hy
      have e2 := it.bij.inj y x (hlt y hym) (hlt x hxm) e
      subst e2
      obtain ⟨j, hj, ej⟩ := List.mem_iff_getElem.mp hy
      rw [List.length_take] at hj
      rw [List.getElem_take] at ej
      have e3 : ps[j]? = .some y := List.getElem?_eq_some_iff.mpr ⟨by omega, ej⟩
      have := (List.getElem?_inj (by omega) hn).mp (e3.trans hx.symm)
      omega
    by_cases q : τ x ∈ zs
    · exact ⟨τ, it, by rw [tm]; exact hz _ q⟩
    · obtain ⟨z', hz', _, au⟩ := lr.all _ (it.bij.lt _ (hlt x hxm)) hnot hA' q
      have hp : ∀ y ∈ (ps.take k).map τ ++ [z'], y < n := fun y hy => by
        rcases List.mem_append.mp hy with r | r
        · obtain ⟨w, hw, rfl⟩ := List.mem_map.mp r
          exact it.bij.lt _ (hlt w (List.mem_of_mem_take hw))
        · rw [List.mem_singleton.mp r]; exact (lr.ok z' hz').1
      obtain ⟨τ', it', e⟩ := au.pull hU hp it tm
      exact ⟨τ', it', by rw [e]; exact hz z' hz'⟩
theorem Reach.first {A : Nat → List Nat → Prop} (hT : Tb n T) (hU : Tb n U) (hA : ∀ τ, Iso n T U τ → ∀ k, k < n → A k (((List.range n).take (k + 1)).map τ)) {f : List Nat} (hf : sameOf ⟨n, T⟩ ⟨n, U⟩ = some f)
    {k : Nat} {rs : List (List Nat)} (h : Reach n U A k rs) : k ≤ n → f.take k ∈ rs := by
  have hm := List.mem_of_find?_eq_some (show (rows n n).find? _ = .some f from hf)
  have hp := List.find?_some (show (rows n n).find? _ = .some f from hf)
  have fi := row_iso hm hp
  have hl := (mem_rows.mp hm).1
  have ft : ∀ k, k ≤ n → ((List.range n).take k).map (fun x => f.getD x 0) = f.take k := fun k hk => by
    have e : (List.range n).map (fun x => f.getD x 0) = f := by rw [← hl]; exact tab_get f 0
    rw [List.map_take, e]
  induction h with
  | zero => intro _; simp
  | @succ k rs rs' re lev ih =>
    intro hk
    have hr := ih (by omega)
    obtain ⟨zs, lr, hz⟩ := lev.of _ hr
    have hx : f[k]? = .some (f.getD k 0) := by
      rw [List.getD_eq_getElem?_getD, List.getElem?_eq_getElem (by omega)]
      rfl
    have tk : f.take (k + 1) = f.take k ++ [f.getD k 0] := by rw [List.take_add_one, hx]; rfl
    have hA' := hA _ fi k (by omega)
    rw [ft (k + 1) hk, tk] at hA'
    have nd : f.Nodup := single_iff.mp (Bool.and_eq_true_iff.mp hp).1
    have hnot : f.getD k 0 ∉ f.take k := fun q => by
      obtain ⟨j, hj, ej⟩ := List.mem_iff_getElem.mp q
      rw [List.length_take] at hj
      rw [List.getElem_take] at ej
      have e3 : f[j]? = .some (f.getD k 0) := List.getElem?_eq_some_iff.mpr ⟨by omega, ej⟩
      have := (List.getElem?_inj (by omega) nd).mp (e3.trans hx.symm)
      omega
    rw [tk]
    by_cases q : f.getD k 0 ∈ zs
    · exact hz _ q
    · exfalso
      obtain ⟨z', hz', hlt', au⟩ := lr.all _ (fi.bij.lt k (by omega)) hnot hA' q
      have hp2 : ∀ y ∈ f.take k ++ [z'], y < n := fun y hy => by
        rcases List.mem_append.mp hy with r | r
        · exact (mem_rows.mp hm).2 y (List.mem_of_mem_take r)
        · rw [List.mem_singleton.mp r]; exact (lr.ok z' hz').1
      obtain ⟨τ', it', e⟩ := au.pull hU hp2 fi (show ((List.range n).take (k + 1)).map (fun x => f.getD x 0) = f.take k ++ [f.getD k 0] by rw [ft (k + 1) hk, tk])
      obtain ⟨w1, w2⟩ := iso_row hT it'
      have e1 : (tab n τ').take (k + 1) = f.take k ++ [z'] := by
        unfold tab
        rw [← e, List.map_take]
      have lo : lower (tab n τ') f = true := by
        have e5 : tab n τ' = f.take k ++ (z' :: (tab n τ').drop (k + 1)) := by
          have := (List.take_append_drop (k + 1) (tab n τ')).symm
          rw [e1, List.append_assoc] at this
          exact this
        have e6 : f = f.take k ++ (f.getD k 0 :: f.drop (k + 1)) := by
          have := (List.take_append_drop (k + 1) f).symm
          rw [tk, List.append_assoc] at this
          exact this
        have e7 : lower (f.take k ++ (z' :: (tab n τ').drop (k + 1))) (f.take k ++ (f.getD k 0 :: f.drop (k + 1))) = true := by
          rw [lower_pre, lower_cons, decide_eq_true hlt']
          rfl
        rw [← e5, ← e6] at e7
        exact e7
      rcases find_first (rows_sorted n n) (show (rows n n).find? _ = .some f from hf) w1 w2 with r | r
      · rw [r, lower_irrefl] at lo
        cases lo
      · rw [lower_asymm r] at lo
        cases lo
theorem Reach.answer {A : Nat → List Nat → Prop} (hT : Tb n T) (hU : Tb n U) (hA : ∀ τ, Iso n T U τ → ∀ k, k < n → A k (((List.range n).take (k + 1)).map τ))
    (hF : ∀ r : List Nat, r.length = n → r.Nodup → (∀ x ∈ r, x < n) → (∀ j, n = j + 1 → A j r) → Iso n T U (fun x => r.getD x 0)) {rs : List (List Nat)} (h : Reach n U A n rs) : rs.head? = sameOf ⟨n, T⟩ ⟨n, U⟩ := by
  have all : ∀ r ∈ rs, r ∈ rows n n ∧ (single r && isImage ⟨n, T⟩ ⟨n, U⟩ r) = true := fun r hr => by
    obtain ⟨h1, h2, h3, h4⟩ := h.row r hr
    have i := iso_row hT (hF r h1 h2 h3 h4)
    have e : tab n (fun x => r.getD x 0) = r := by rw [← h1]; exact tab_get r 0
    rw [e] at i
    exact i
  cases e : sameOf ⟨n, T⟩ ⟨n, U⟩ with
  | none =>
    cases rs with
    | nil => rfl
    | cons r rs =>
      exfalso
      obtain ⟨h1, h2⟩ := all r List.mem_cons_self
      exact List.find?_eq_none.mp (show (rows n n).find? _ = none from e) r h1 h2
  | some f =>
    have hl := (mem_rows.mp (List.mem_of_find?_eq_some (show (rows n n).find? _ = .some f from e))).1
    have hm := Reach.first hT hU hA e h (Nat.le_refl n)
    rw [List.take_of_length_le (by omega)] at hm
    cases rs with
    | nil => simp at hm
    | cons r rs =>
      obtain ⟨h1, h2⟩ := all r List.mem_cons_self
      have hs := (List.pairwise_cons.mp h.sorted).1
      rcases List.mem_cons.mp hm with q | q
      · rw [q]; rfl
      · have q2 := hs f q
        rcases find_first (rows_sorted n n) (show (rows n n).find? _ = .some f from e) h1 h2 with w | w
        · rw [w]; rfl
        · rw [lower_asymm w] at q2
          cases q2
end
end My
set_option Elab.async false
set_option linter.all false
set_option maxRecDepth 100000
set_option maxHeartbeats 2000000
namespace L2
open PySem PySem.Spec PyProof.Rows
open AutoSeq1 (wpAny_loadPart')
def UpTo (n : Nat) (acc : Array Value) : Prop := ItemsOf (fun i v => ∃ t, v = .int (0 + i * 1) t) acc n
theorem paired_ix {α β : Type} {F : α → β → Prop} : ∀ {l : List α} {m : List β}, l.length = m.length → (∀ (i : Nat) (a : α) (b : β), l[i]? = some a → m[i]? = some b → F a b) → Paired F l m
  | [], [], _, _ => .nil
  | [], _ :: _, h, _ => by simp at h
  | _ :: _, [], h, _ => by simp at h
  | a :: l, b :: m, h, f => .cons (f 0 a b rfl rfl) (paired_ix (by simpa using h) fun i c d h1 h2 => f (i + 1) c d (by simpa using h1) (by simpa using h2))
theorem UpTo.vals {n : Nat} {acc : Array Value} (h : UpTo n acc) : Vals ((List.range n).map fun i : Nat => V.int (i : Int)) acc.toList := by
  obtain ⟨h1, h2⟩ := h
  refine paired_ix (by rw [List.length_map, List.length_range, Array.length_toList, h1]) fun i a b ha hb => ?_
  rw [Array.getElem?_toList] at hb
  obtain ⟨t, rfl⟩ := h2 i b hb
  rw [List.getElem?_map] at ha
  by_cases hi : i < n
  · rw [List.getElem?_range hi] at ha
    cases ha
    exact ⟨t, by rw [Int.zero_add, Int.mul_one]⟩
  · rw [List.getElem?_eq_none (by rw [List.length_range]; omega)] at ha
    cases ha
section
variable {prog : Program} {w : World} {A : Around} {E : Value → Shared → Prop} {s : Shared}
end
section
variable {X : Cx}
theorem call_rng1 : CallR X (.type "range") (fun xs H Q => ∃ j : Int, xs = [.int j] ∧ ∀ p, H p = none → Q (.ref p) (upd H p (.rng 0 j))) := by
  intro pins s σ H xs us Q I r h
  obtain ⟨j, rfl, q⟩ := h
  obtain ⟨u, rfl, rx⟩ := vals1 r
  obtain ⟨t, rfl⟩ := rx
  refine call_range_1 ⟨.ref s.heap.objs.size, _, I.laid (t' := s.toks + 1 + 1) (o := .rng 0 j) (fun b o e => Heap.get?_push_of_some _ e) (Nat.le_refl _) ⟨_, _, _, Heap.get?_push_size _ rfl⟩, rfl, q _ (I.hok.fresh (Nat.le_refl _))⟩
theorem rng_facts {n : Nat} (hn : n ≤ 1000) : Builtin.Range.small 0 (n : Int) 1 = true ∧ Builtin.Range.rangeSize 0 (n : Int) 1 = n ∧ n ≤ 2 ^ 24 := by
  refine ⟨small_one (by omega) (by omega) (by omega) (by omega), ?_, by omega⟩
  rw [rangeSize_one]
  split <;> omega
theorem call_list_rng (hc : X.calm = true) : CallR X (.type "list") (fun xs H Q => ∃ (p : Addr) (n : Nat), xs = [.ref p] ∧ H p = some (.rng 0 n) ∧ n ≤ 1000 ∧ ∀ l, H l = none → Q (.ref l) (upd H l (.lst ((List.range n).map fun i : Nat => V.int (i : Int))))) := by
  intro pins s σ H xs us Q I r h
  obtain ⟨p, n, rfl, hp, hn, q⟩ := h
  obtain ⟨u, rfl, rx⟩ := vals1 r
  cases rx
  obtain ⟨t, u, v, e⟩ := (show ObjOk X.prog X.w H s.heap p (.rng 0 n) from I.hok p _ hp)
  obtain ⟨f1, f2, f3⟩ := rng_facts hn
  refine call_list_range (I.ok.hd hc) e f1 f2 f3 fun h' tk acc c hk e' ha => ?_
  have hz : ((List.range n).map fun i : Nat => V.int (i : Int)).length ≤ sizeLine := by rw [List.length_map, List.length_range, sizeLine_eq]; omega
  have I2 := I.laid (t' := tk) (a := s.heap.objs.size) (o := .lst ((List.range n).map fun i : Nat => V.int (i : Int))) (h' := h') hk (Nat.le_refl _) ⟨hz, acc.toList, c, UpTo.vals ha, by rw [Array.toArray_toList]; exact e'⟩
  exact ⟨.ref s.heap.objs.size, _, I2, rfl, q _ (I.hok.fresh (Nat.le_refl _))⟩
theorem ix_listK (K : PySem.W.Frag) (hK : X.K = K) : IxR X (rIxL K) := by
  subst hK
  exact ix_list
end
end L2
set_option Elab.async false
set_option linter.all false
set_option maxRecDepth 100000
set_option maxHeartbeats 2000000
namespace L2
open PySem PySem.Spec PyProof.Rows L3
abbrev Sgn := Nat × List (List Nat)
def RowH (H : Hp) (r : List Nat) (a : Addr) : Prop := H a = some (.tup (r.map fun (k : Nat) => V.int (k : Int)))
def SgH (H : Hp) (g : Sgn) (a : Addr) : Prop := ∃ b cs, H a = some (.tup [V.int (g.1 : Int), .ref b]) ∧ H b = some (.tup (cs.map V.ref)) ∧ Paired (RowH H) g.2 cs
def TupK (H H' : Hp) : Prop := ∀ b xs, H b = some (.tup xs) → H' b = some (.tup xs)
theorem TupK.trans {H H' H'' : Hp} (a : TupK H H') (b : TupK H' H'') : TupK H H'' := fun c xs e => b c xs (a c xs e)
theorem TupK.new {H : Hp} {p : Addr} {o : HO} (h : H p = none) : TupK H (upd H p o) := fun b xs e => by rw [upd_ne (ne_of_none e h)]; exact e
theorem TupK.set {H : Hp} {p : Addr} {o u : HO} (h : H p = some u) (hu : ∀ xs, u ≠ .tup xs) : TupK H (upd H p o) := fun b xs e => by rw [upd_ne (ne_of e h (fun q => hu xs q.symm))]; exact e
theorem RowH.keep {H H' : Hp} {r : List Nat} {a : Addr} (h : RowH H r a) (k : TupK H H') : RowH H' r a := k _ _ h
theorem SgH.keep {H H' : Hp} {g : Sgn} {a : Addr} (h : SgH H g a) (k : TupK H H') : SgH H' g a := let ⟨b, cs, h1, h2, h3⟩ := h; ⟨b, cs, k _ _ h1, k _ _ h2, paired_mono (fun _ _ q => RowH.keep q k) h3⟩
section
variable {P : Program} {w : World} {H : Hp} {h : Heap}
theorem nats_is (V0 : Heap) : ∀ {r : List Nat} {its : List Value}, Vals (r.map fun (k : Nat) => V.int (k : Int)) its → Paired ((natV P w).is V0) r its
  | [], _, .nil => .nil
  | k :: r, _, .cons q t => .cons q (nats_is V0 t)
theorem row_is (ok : HOk P w H h) {r : List Nat} {a : Addr} (x : RowH H r a) : (rowV P w).is h r (.ref a) := by
  obtain ⟨_, its, rv, tp⟩ := (show ObjOk P w H h a (.tup _) from ok a _ x)
  exact ⟨a, its.toArray, rfl, tp, by simpa using nats_is h rv⟩
theorem refs_is {F : List Nat → Addr → Prop} (f : ∀ r a, F r a → (rowV P w).is h r (.ref a)) : ∀ {rs : List (List Nat)} {cs : List Addr} {its : List Value}, Paired F rs cs → Vals (cs.map V.ref) its → Paired ((rowV P w).is h) rs its
  | _, _, _, .nil, r => by
    rw [List.map_nil] at r
    cases r
    exact .nil
  | _, _, _, .cons q t, r => by
    rw [List.map_cons] at r
    cases r with
    | cons r1 r2 =>
      have e : _ = Value.ref _ := r1
      rw [e]
      exact .cons (f _ _ q) (refs_is f t r2)
theorem sg_is (ok : HOk P w H h) {g : Sgn} {a : Addr} (x : SgH H g a) : (sgV P w).is h g (.ref a) := by
  obtain ⟨b, cs, h1, h2, h3⟩ := x
  obtain ⟨_, its, rv, tp⟩ := (show ObjOk P w H h a (.tup _) from ok a _ h1)
  obtain ⟨_, its2, rv2, tp2⟩ := (show ObjOk P w H h b (.tup _) from ok b _ h2)
  cases rv with
  | cons r1 r2 =>
    cases r2 with
    | cons r3 r4 =>
      cases r4
      have e : _ = Value.ref b := r3
      subst e
      exact ⟨a, _, _, rfl, tp, r1, b, its2.toArray, rfl, tp2, by simpa using refs_is (fun _ _ q => row_is ok q) h3 rv2⟩
end
section
variable {X : Cx}
theorem val_refs {F : α → Addr → Prop} : ∀ {gs : List α} {ads : List Addr} {its : List Value}, Paired F gs ads → Vals (ads.map V.ref) its → Paired (fun g v => ∃ a, v = Value.ref a ∧ F g a) gs its
  | _, _, _, .nil, r => by
    rw [List.map_nil] at r
    cases r
    exact .nil
  | _, _, _, .cons q t, r => by
    rw [List.map_cons] at r
    cases r with
    | cons r1 r2 => exact .cons ⟨_, r1, q⟩ (val_refs t r2)
theorem refs_val {F : α → Addr → Prop} : ∀ {gs : List α} {its : List Value}, Paired (fun g v => ∃ a, v = Value.ref a ∧ F g a) gs its → ∃ ads : List Addr, Paired F gs ads ∧ Vals (ads.map V.ref) its
  | _, _, .nil => ⟨[], .nil, .nil⟩
  | _, _, .cons ⟨a, e, q⟩ t => by
    obtain ⟨ads, h1, h2⟩ := refs_val t
    exact ⟨a :: ads, .cons q h1, .cons e h2⟩
def rSortRow (K : PySem.W.Frag) : List V → Hp → VK → Prop := fun vs H Q => ∃ (a : Addr) (ads : List Addr) (rs : List (List Nat)), vs = [V.ref a] ∧ SqL K H a (ads.map V.ref) ∧ Paired (RowH H) rs ads ∧ rs.length < 64 ∧ (∀ r ∈ rs, r ≠ []) ∧
  ∀ (ads' : List Addr) (p : Addr), Paired (RowH H) (srt rowOrd rs) ads' → H p = none → Q (.ref p) (upd H p (.lst (ads'.map V.ref)))
def rSortSg (K : PySem.W.Frag) : List V → Hp → VK → Prop := fun vs H Q => ∃ (a : Addr) (ads : List Addr) (gs : List Sgn), vs = [V.ref a] ∧ SqL K H a (ads.map V.ref) ∧ Paired (SgH H) gs ads ∧ gs.length < 64 ∧
  ∀ (ads' : List Addr) (p : Addr), Paired (SgH H) (srt sgOrd gs) ads' → H p = none → Q (.ref p) (upd H p (.lst (ads'.map V.ref)))
theorem sortedK (hu : X.A.units + 64 < cLine) {O : KeyOrd} [DecidableEq O.α] (V0 : VKd X.prog X.w O) {okk : O.α → Prop} (SV : SortV V0 okk) (dd : O.α) (h8 : V0.dep ≤ 8) {F : Hp → O.α → Addr → Prop} (hF : ∀ {H : Hp} {h : Heap} {k : O.α} {a : Addr}, HOk X.prog X.w H h → F H k a → V0.is h k (.ref a)) :
    CallR X (.builtin "sorted") (fun vs H Q => ∃ (a : Addr) (ads : List Addr) (gs : List O.α), vs = [V.ref a] ∧ SqL X.K H a (ads.map V.ref) ∧ Paired (F H) gs ads ∧ gs.length < 64 ∧ (∀ g ∈ gs, okk g) ∧
      ∀ (ads' : List Addr) (p : Addr), Paired (F H) (srt O gs) ads' → H p = none → Q (.ref p) (upd H p (.lst (ads'.map V.ref)))) := by
  intro pins s σ H vs us Q I r h
  obtain ⟨a, ads, gs, rfl, hs, hp, h64, hok, q⟩ := h
  obtain ⟨its, rv, hl, hz⟩ := I.list hs
  rw [Vals.ref1 r]
  have hvk : Paired ((V0.res fun g v => ∃ a, v = Value.ref a ∧ F H g a).is s.heap) gs its := paired_mono (fun g v ⟨b, e, q⟩ => ⟨by rw [e]; exact hF I.hok q, b, e, q⟩) (val_refs hp rv)
  refine sorted_V (V0.res fun g v => ∃ a, v = Value.ref a ∧ F H g a) (SV.res _) dd (by show X.A.units + (V0.dep + 2) < cLine; omega) (KS := fun ks => ks = gs) (fun E' Q' hq => collect_l hl.isList (by have := paired_len hvk; rw [sizeLine_eq]; omega) fun h' tk hk hle => hq its gs h' tk hk hle hvk rfl)
    (fun ks e => by rw [e]; exact ⟨h64, hok⟩) fun h' tk L e out ks ks' hk hle hL hks hsrt hpo => ?_
  subst hks
  obtain ⟨ads', h1, h2⟩ := refs_val (paired_mono (fun g v q => q.2) hpo)
  rw [hsrt.eq] at h1
  have hlen : (ads'.map V.ref).length ≤ sizeLine := by
    rw [List.length_map, ← paired_len h1, (srt_perm _ _).length_eq, sizeLine_eq]
    omega
  exact ⟨.ref L, upd H L (.lst (ads'.map V.ref)), I.laid (t' := tk) hk hle ⟨hlen, out, e, h2, hL⟩, rfl, q ads' L h1 (I.hok.fresh hle)⟩
theorem cr_sortRow (hu : X.A.units + 64 < cLine) : CallR X (.builtin "sorted") (rSortRow X.K) := by
  intro pins s σ H vs us Q I r h
  obtain ⟨a, ads, rs, h1, h2, h3, h4, h5, h6⟩ := h
  exact sortedK hu (rowV X.prog X.w) (row_sort X.prog X.w) [] (by show 0 + 1 ≤ 8; decide) (F := RowH) (fun ok q => row_is ok q) pins s σ H vs us Q I r ⟨a, ads, rs, h1, h2, h3, h4, h5, h6⟩
theorem cr_sortSg (hu : X.A.units + 64 < cLine) : CallR X (.builtin "sorted") (rSortSg X.K) := by
  intro pins s σ H vs us Q I r h
  obtain ⟨a, ads, gs, h1, h2, h3, h4, h6⟩ := h
  exact sortedK hu (sgV X.prog X.w) (sg_sort X.prog X.w) (0, []) (by show max 0 (0 + 1 + 1) + 1 ≤ 8; decide) (F := SgH) (fun ok q => sg_is ok q) pins s σ H vs us Q I r ⟨a, ads, gs, h1, h2, h3, h4, fun _ _ => trivial, h6⟩
end
abbrev sgK (P : Program) (w : World) (H : Hp) : VKd P w sgOrd := (sgV P w).res fun g v => ∃ a, v = Value.ref a ∧ SgH H g a
theorem sg_dep (P : Program) (w : World) : (sgV P w).dep = 3 := rfl
def SetSg (P : Program) (w : World) (H : Hp) (p : Addr) (ks : List Sgn) : Prop := ∃ φ, H p = some (.ext φ) ∧ ∀ h, φ h → ∃ h0 o es ep t, h.get? p = some o ∧ o.ExactSet ∧ o.data = .set es ep t ∧ SetD (sgK P w H) h0 es t ks
theorem setD_keep {P : Program} {w : World} {H H' : Hp} (k : TupK H H') {h0 : Heap} {es : Array (Int × Value)} {t : SetTable} {ks : List Sgn} (d : SetD (sgK P w H) h0 es t ks) : SetD (sgK P w H') h0 es t ks :=
  ⟨d.tab, d.plain, d.led, paired_mono (fun _ _ q => ⟨⟨q.1.1, let ⟨a, e, z⟩ := q.1.2; ⟨a, e, z.keep k⟩⟩, q.2⟩) d.keys, d.nd⟩
section
variable {X : Cx}
theorem cr_setSg (hc : X.calm = true) (hu : X.A.units + 64 < cLine) : CallR X (.type "set") (fun vs H Q => ∃ (a : Addr) (ads : List Addr) (gs : List Sgn), vs = [V.ref a] ∧ SqL X.K H a (ads.map V.ref) ∧ Paired (SgH H) gs ads ∧ gs.length ≤ 40 ∧
    ∀ (p : Addr) (φ : Heap → Prop) (ks : List Sgn), H p = none → ks.Nodup → (∀ k, k ∈ ks ↔ k ∈ gs) → SetSg X.prog X.w (upd H p (.ext φ)) p ks → Q (.ref p) (upd H p (.ext φ))) := by
  intro pins s σ H vs us Q I r h
  obtain ⟨a, ads, gs, rfl, hs, hp, h40, q⟩ := h
  obtain ⟨its, rv, hl, hz⟩ := I.list hs
  rw [Vals.ref1 r]
  have hvk : Paired ((sgK X.prog X.w H).is s.heap) gs its := paired_mono (fun g v ⟨b, e, q⟩ => ⟨by rw [e]; exact sg_is I.hok q, b, e, q⟩) (val_refs hp rv)
  have hlen := paired_len hvk
  refine call_setV (sgK X.prog X.w H) ((sg_refs X.prog X.w).res _) (by show (sgV X.prog X.w).dep ≤ 8; rw [sg_dep]; decide) (by show X.A.units + ((sgV X.prog X.w).dep + 4) < cLine; rw [sg_dep]; omega) (I.ok.hd hc) hl.isList (by simpa using hvk) (by rw [List.size_toArray]; omega) fun h' tk ks hS hm hk => ?_
  have hf : H s.heap.objs.size = none := I.hok.fresh (Nat.le_refl _)
  obtain ⟨o, es, ep, t, ho, hex, hd, D⟩ := id hS
  refine ⟨.ref s.heap.objs.size, upd H s.heap.objs.size (.ext fun h => SetAt (sgK X.prog X.w H) s.heap h s.heap.objs.size ks), I.laid (t' := tk) (fun b o e => hk b o (Heap.lt_size e) e) (Nat.le_refl _) ⟨hS, ⟨o, ho⟩, fun h1 h2 x k => x.heap k⟩, rfl, ?_⟩
  refine q _ _ ks hf D.nd hm ⟨_, upd_same, fun h x => ?_⟩
  obtain ⟨o, es, ep, t, h1, h2, h3, h4⟩ := x
  exact ⟨_, o, es, ep, t, h1, h2, h3, setD_keep (TupK.new hf) h4⟩
theorem cr_lenSg : CallR X (.builtin "len") (fun vs H Q => ∃ (p : Addr) (ks : List Sgn), vs = [V.ref p] ∧ SetSg X.prog X.w H p ks ∧ Q (.int (ks.length : Nat)) H) := by
  intro pins s σ H vs us Q I r h
  obtain ⟨p, ks, rfl, ⟨φ, hp, hφ⟩, q⟩ := h
  rw [Vals.ref1 r]
  obtain ⟨x, _, _⟩ := (show ObjOk X.prog X.w H s.heap p (.ext φ) from I.hok p _ hp)
  obtain ⟨h0, o, es, ep, t, ho, hex, hd, D⟩ := hφ _ x
  have hsz := D.size
  have hl := D.tab.shape.less
  have hm : t.mask ≤ 127 := by rcases D.tab.shape.mask with e | e | e <;> omega
  exact call_len_set ho hex hd D.fits (by omega) ⟨.int (ks.length : Nat), H, I.tok _, ⟨_, by rw [hsz.2]⟩, q⟩
theorem cr_sortSetSg (hc : X.calm = true) (hu : X.A.units + 64 < cLine) : CallR X (.builtin "sorted") (fun vs H Q => ∃ (p : Addr) (ks : List Sgn), vs = [V.ref p] ∧ SetSg X.prog X.w H p ks ∧ ks.length < 64 ∧
    ∀ (ads' : List Addr) (q : Addr), Paired (SgH H) (srt sgOrd ks) ads' → H q = none → Q (.ref q) (upd H q (.lst (ads'.map V.ref)))) := by
  intro pins s σ H vs us Q I r h
  obtain ⟨p, ks, rfl, ⟨φ, hp, hφ⟩, h64, q⟩ := h
  rw [Vals.ref1 r]
  obtain ⟨x, _, _⟩ := (show ObjOk X.prog X.w H s.heap p (.ext φ) from I.hok p _ hp)
  obtain ⟨h0, o, es, ep, t, ho, hex, hd, D⟩ := hφ _ x
  have hsz := D.size
  refine sorted_V (sgK X.prog X.w H) ((sg_sort X.prog X.w).res _) (0, []) (by show X.A.units + ((sgV X.prog X.w).dep + 2) < cLine; rw [sg_dep]; omega) (KS := fun ks' => ks'.Perm ks)
    (fun E' Q' hq => collect_s (A := X.A.in1) (show X.A.in1.handled = none from I.ok.hd hc) ho hex hd D (by rw [sizeLine_eq]; omega) fun vs ks' h' tk hk hle hp' hpm => hq vs ks' h' tk hk hle (paired_mono (fun g v z => ⟨let ⟨b, e, w⟩ := z.2; by rw [e]; exact sg_is I.hok w, z.2⟩) hp') hpm)
    (fun ks' e => ⟨by rw [e.length_eq]; exact h64, fun _ _ => trivial⟩) fun h' tk L e out ks' ks'' hk hle hL hks hsrt hpo => ?_
  obtain ⟨ads', h1, h2⟩ := refs_val (paired_mono (fun g v q => q.2) hpo)
  have e2 : ks'' = srt sgOrd ks := srt_eq (hsrt.perm.trans hks) hsrt.up
  rw [e2] at h1
  have hlen : (ads'.map V.ref).length ≤ sizeLine := by
    rw [List.length_map, ← paired_len h1, (srt_perm _ _).length_eq, sizeLine_eq]
    omega
  exact ⟨.ref L, upd H L (.lst (ads'.map V.ref)), I.laid (t' := tk) hk hle ⟨hlen, out, e, h2, hL⟩, rfl, q ads' L h1 (I.hok.fresh hle)⟩
end
def sgHK (P : Program) (w : World) : HeapKind P w Sgn where
  is h k a := (sgV P w).is h k (.ref a)
  hash := (sgV P w).hash
  draws := (sgV P w).draws
  room A := A.units + 3 < cLine
  inj := fun a b => (sgV P w).inj a b
  keeps := fun {h h' k a d o es ep} x ho hd hs => (sgV P w).keeps (KeepT.butD (a := d) (fun b ob q e => (hs.2 b q).trans e) ho (fun xs n q => by rw [hd] at q; cases q)) x
  pyHash := fun hu hk hq => (sgV P w).hashV hk _ _ _ _ rfl hu hq
  eqBool := fun hu hx hy hq => (sgV P w).eqV hx hy _ _ rfl hu _ _ _ _ hq
  quiet := fun hk hq => ((sgV P w).calm hk).quiet 8 _ _ _ _ (by rw [sg_dep]; decide) rfl hq
theorem paired_snoc {α β : Type} {F : α → β → Prop} : ∀ {l : List α} {m : List β} {a : α} {b : β}, Paired F l m → F a b → Paired F (l ++ [a]) (m ++ [b])
  | _, _, _, _, .nil, h => .cons h .nil
  | _, _, _, _, .cons x r, h => .cons x (paired_snoc r h)
abbrev KvSg (H : Hp) : List (Sgn × V) → List (Sgn × Addr × Value) → Prop := Paired fun kv x => kv.1 = x.1 ∧ SgH H kv.1 x.2.1 ∧ RelV kv.2 x.2.2
def DObj (P : Program) (w : World) (d : Addr) (xs : List (Sgn × Addr × Value)) (h : Heap) : Prop := ∃ o es ep, h.get? d = some o ∧ o.ExactDict ∧ o.data = .dict es ep ∧ es.toList = xs.map (entryOfKey (sgHK P w)) ∧ (xs.map (·.1)).Nodup
def DictSg (P : Program) (w : World) (H : Hp) (d : Addr) (kvs : List (Sgn × V)) : Prop := ∃ xs, H d = some (.ext (DObj P w d xs)) ∧ KvSg H kvs xs
theorem DictSg.keep {P : Program} {w : World} {H H' : Hp} {d : Addr} {kvs : List (Sgn × V)} (x : DictSg P w H d kvs) (k : TupK H H') (e : H' d = H d) : DictSg P w H' d kvs := by
  obtain ⟨xs, h1, h2⟩ := x
  exact ⟨xs, by rw [e]; exact h1, paired_mono (fun _ _ q => ⟨q.1, q.2.1.keep k, q.2.2⟩) h2⟩
section
variable {X : Cx} {pins : List (Addr × Obj)} {σ : St} {H : Hp} {s : Shared}
theorem dobj_ext {P : Program} {w : World} {H : Hp} {h : Heap} {d : Addr} {xs : List (Sgn × Addr × Value)} (x : DObj P w d xs h) : ObjOk P w H h d (.ext (DObj P w d xs)) := by
  refine ⟨x, ?_, fun h1 h2 y k => ?_⟩
  · obtain ⟨o, _, _, e, _⟩ := x
    exact ⟨o, e⟩
  · obtain ⟨o, es, ep, e, r⟩ := y
    exact ⟨o, es, ep, k o e, r⟩
theorem DictSg.of (I : Inv X pins σ H s) {d : Addr} {kvs : List (Sgn × V)} (x : DictSg X.prog X.w H d kvs) : ∃ xs, H d = some (.ext (DObj X.prog X.w d xs)) ∧ KvSg H kvs xs ∧ s.heap.DictOfH (sgHK X.prog X.w) d xs := by
  obtain ⟨xs, h1, h2⟩ := x
  obtain ⟨⟨o, es, ep, e1, e2, e3, e4, e5⟩, _, _⟩ := (show ObjOk X.prog X.w H s.heap d (.ext _) from I.hok d _ h1)
  refine ⟨xs, h1, h2, o, es, ep, e1, e2, e3, e4, fun y hy => ?_, e5⟩
  obtain ⟨kv, _, q1, q2, _⟩ := paired_right h2 y hy
  rw [← q1]
  exact sg_is I.hok q2
theorem KvSg.val {H : Hp} : ∀ {kvs : List (Sgn × V)} {xs : List (Sgn × Addr × Value)}, KvSg H kvs xs → ∀ (k : Sgn), RelO (valV kvs k) ((atKey xs k).map (·.2))
  | _, _, .nil, k => True.intro
  | _, _, .cons (a := p) (b := q) (l₁ := ps) (l₂ := qs) h t, k => by
    obtain ⟨h1, _, h2⟩ := h
    by_cases e : p.1 = k
    · have e' : q.1 = k := h1.symm.trans e
      have b : atKey (q :: qs) k = some q.2 := by simp [atKey, List.find?_cons, e']
      rw [valV_pos e, b]; exact h2
    · have e' : ¬ q.1 = k := fun z => e (h1.trans z)
      have b : atKey (q :: qs) k = atKey qs k := by simp [atKey, List.find?_cons, e']
      rw [valV_neg e, b]; exact KvSg.val t k
theorem pe_dnewSg {pos : Pos} : PE X (.Dict [] [] pos) (fun _ H Q => ∀ p φ, H p = none → DictSg X.prog X.w (upd H p (.ext φ)) p [] → Q (.ref p) (upd H p (.ext φ))) := fun pins s σ H Q I h =>
  wpAny_Dict_empty ⟨.ref s.heap.objs.size, _, I.laid (a := s.heap.objs.size) (o := .ext (DObj X.prog X.w s.heap.objs.size [])) (t' := s.toks) (fun _ _ q => Heap.get?_push_of_some _ q) (Nat.le_refl _)
    (dobj_ext ⟨_, #[], 0, Heap.get?_push_size _ rfl, ⟨rfl, rfl, rfl⟩, rfl, rfl, List.nodup_nil⟩), rfl, h _ _ (I.hok.fresh (Nat.le_refl _)) ⟨[], upd_same, .nil⟩⟩
def tSgGet (P : Program) (w : World) (td ty : TE) : TE := fun σ H Q => td σ H fun x H1 => ty σ H1 fun y H2 => ∃ d kvs g a v, x = .ref d ∧ y = .ref a ∧ DictSg P w H2 d kvs ∧ SgH H2 g a ∧ valV kvs g = some v ∧ Q v H2
theorem pe_sgGet {o i : Expr} {pos : Pos} {td ty : TE} (hu : X.A.units + 64 < cLine) (ho : PE X o td) (hi : PE X i ty) (hs : NoSl i) : PE X (.Subscript o i pos) (tSgGet X.prog X.w td ty) := by
  intro pins s σ H Q I h
  refine subD_of PySem.F.slot_dict_getitem.lookup hs (thn (ho pins s σ H _ I h) fun u s1 ⟨x, H1, I1, rx, q1⟩ => thn (hi pins s1 σ H1 _ I1 q1) fun iv s2 ⟨y, H2, I2, ry, d, kvs, g, a, v, ex, ey, hd, hg, hv, q2⟩ => ?_)
  subst ex ey
  obtain rfl : u = Value.ref d := rx
  obtain rfl : iv = Value.ref a := ry
  obtain ⟨xs, h1, h2, dd⟩ := hd.of I2
  obtain ⟨w', hw, rw'⟩ := RelO.some_of (v := v) (o := (atKey xs g).map (·.2)) (by rw [← hv]; exact h2.val g)
  obtain ⟨p, hp, hp2⟩ := Option.map_eq_some_iff.mp hw
  refine ⟨dd.typeIs, wpAny_getItem_heap (knd := sgHK X.prog X.w) (by show X.A.units + 1 + 3 < cLine; omega) (sg_is I2.hok hg) dd hp ?_⟩
  rw [hp2]
  exact ⟨v, H2, I2.tok _, rw', q2⟩
def sSgPut (P : Program) (w : World) (td ty tv : TE) : TS := fun D σ H => tv σ H fun v H1 => td σ H1 fun x H2 => ty σ H2 fun y H3 => ∃ d kvs g a, x = .ref d ∧ y = .ref a ∧ DictSg P w H3 d kvs ∧ SgH H3 g a ∧ valV kvs g = none ∧ kvs.length < 1000 ∧
  ∀ φ, DictSg P w (upd H3 d (.ext φ)) d (kvs ++ [(g, v)]) → D.nx σ (upd H3 d (.ext φ))
theorem ps_sgPut {o i value : Expr} {pos pos' : Pos} {td ty tv : TE} (hu : X.A.units + 64 < cLine) (ho : PE X o td) (hi : PE X i ty) (hv : PE X value tv) (hs : swapsWith value (some (.Subscript o i pos')) pos.line X.env = pure false) :
    PS X (.Assign [.Subscript o i pos'] value pos) (sSgPut X.prog X.w td ty tv) := by
  intro pins s σ H D I h
  refine wpAny_Assign_Subscript (thn (hv pins s σ H _ I h) fun r s1 ⟨v, H1, I1, rv, q1⟩ => thn (ho pins s1 σ H1 _ I1 q1) fun u s2 ⟨x, H2, I2, rx, q2⟩ => thn (hi pins s2 σ H2 _ I2 q2) fun iv s3 ⟨y, H3, I3, ry, d, kvs, g, a, ex, ey, hd, hg, hn, hl, q3⟩ => ?_) hs
  subst ex ey
  obtain rfl : u = Value.ref d := rx
  obtain rfl : iv = Value.ref a := ry
  obtain ⟨xs, h1, h2, dd⟩ := hd.of I3
  have hno : atKey xs g = none := by
    have q := RelO.none_of (o := (atKey xs g).map (·.2)) (by rw [← hn]; exact h2.val g)
    exact Option.map_eq_none_iff.mp q
  have hxl : xs.length = kvs.length := (paired_len h2).symm
  refine wpAny_setItem_heap (knd := sgHK X.prog X.w) (hsz := by rw [sizeLine_eq]; omega) (by show X.A.units + 1 + 3 < cLine; omega) (sg_is I3.hok hg) dd fun h' dd' hsb => ?_
  rw [storedH_new hno] at dd'
  obtain ⟨o', es, ep, e1, e2, e3, e4, _, e5⟩ := dd'
  have tk : TupK H3 (upd H3 d (.ext (DObj X.prog X.w d (xs ++ [(g, a, r)])))) := TupK.set h1 (fun xs q => nomatch q)
  refine ⟨σ, upd H3 d (.ext (DObj X.prog X.w d (xs ++ [(g, a, r)]))), I3.write (x := d) (e := d) (by rw [h1]; exact True.intro) (.inl rfl) (fun b q hb z => (hsb.2 b hb).trans z) ⟨o', e1⟩ (dobj_ext ⟨o', es, ep, e1, e2, e3, e4, e5⟩), q3 _ ⟨_, upd_same, ?_⟩⟩
  exact paired_snoc (paired_mono (fun _ _ q => ⟨q.1, q.2.1.keep tk, q.2.2⟩) h2) ⟨rfl, hg.keep tk, rv⟩
end
end L2
set_option Elab.async false
set_option linter.all false
set_option maxRecDepth 100000
set_option maxHeartbeats 2000000
namespace L2
open PySem PySem.Spec PyProof.Rows L3
def HO.isTbl : HO → Bool
  | .tbl _ => true
  | _ => false
abbrev CodeO (c : Addr) (qual : Str) : HO := .ext fun h => h.CodeRec (.ref c) qual
def TabOk (H : Hp) (P : Addr) (qual : Str) : Prop := ∃ ps : Array Value, H P = some (.tbl ps) ∧ TriplesOk ps.toList ∧ ∀ pos cv, codeAmong pos ps.toList = some cv → ∃ c', cv = .ref c' ∧ H c' = some (CodeO c' qual)
def Tabs (T : List (Addr × Str)) (H : Hp) : Prop := ∀ p ∈ T, TabOk H p.1 p.2
structure SameT (T : List (Addr × Str)) (H H' : Hp) : Prop where
  keep : ∀ a o, H a = some o → o.isTbl = false → H' a = some o
  free : ∀ a, H' a = none → H a = none
  tabs : Tabs T H → Tabs T H'
section
variable {T : List (Addr × Str)} {H H1 H2 : Hp}
theorem SameT.refl (H : Hp) : SameT T H H := ⟨fun _ _ e _ => e, fun _ e => e, fun h => h⟩
theorem SameT.trans (a : SameT T H H1) (b : SameT T H1 H2) : SameT T H H2 :=
  ⟨fun c o e n => b.keep c o (a.keep c o e n) n, fun c e => a.free c (b.free c e), fun h => b.tabs (a.tabs h)⟩
theorem SameT.of (h : ∀ a o, H a = some o → H1 a = some o) : SameT T H H1 := by
  refine ⟨fun a o e _ => h a o e, fun a e => ?_, fun t p hp => ?_⟩
  · cases q : H a with
    | none => rfl
    | some o => rw [h a o q] at e; cases e
  · obtain ⟨ps, h1, h2, h3⟩ := t p hp
    refine ⟨ps, h _ _ h1, h2, fun pos cv e => ?_⟩
    obtain ⟨c', h4, h5⟩ := h3 pos cv e
    exact ⟨c', h4, h _ _ h5⟩
theorem SameT.new {p : Addr} {o : HO} (h : H p = none) : SameT T H (upd H p o) := .of fun b u e => by
  rw [upd_ne (ne_of_none e h)]; exact e
theorem SameT.tupk (a : SameT T H H1) : TupK H H1 := fun b xs e => a.keep b _ e rfl
end
theorem codeRec_at {h : Heap} {c : Addr} {q : Str} (x : h.CodeRec (.ref c) q) : ∃ o, h.get? c = some o := let ⟨_, o, _, _, e, g, _⟩ := x; by cases e; exact ⟨o, g⟩
theorem codeRec_stay {c : Addr} {q : Str} (h1 h2 : Heap) (x : h1.CodeRec (.ref c) q) (k : ∀ o, h1.get? c = some o → h2.get? c = some o) : h2.CodeRec (.ref c) q := by
  obtain ⟨c', o, vs, t, e, g, r⟩ := x
  cases e
  exact ⟨c, o, vs, t, rfl, k _ g, r⟩
theorem among_snoc {pos : Pos} {a b : Int} {c cv : Value} (l : List Value) (h : TriplesOk l) (q : codeAmong pos (l ++ [rawInt a, rawInt b, c]) = some cv) : codeAmong pos l = some cv ∨ cv = c := by
  fun_induction TriplesOk l with
  | case1 =>
    simp only [List.nil_append, codeAmong, rawInt] at q
    split at q
    · exact .inr (Option.some.inj q).symm
    · cases q
  | case2 a' t b' u x rest ih =>
    simp only [List.cons_append, codeAmong] at q ⊢
    split at q
    · rename_i hc
      rw [if_pos hc]
      exact .inl q
    · rename_i hc
      rw [if_neg hc]
      exact ih h q
  | case3 l h1 h2 => exact h.elim
structure LamAt (base : Heap) (mg : Str → Option Value) (c P : Addr) : Prop where
  hd : PySem.W.CodeHd base c P
  ba : base.BuiltinsAt mg P
  ne : mainGlobals ≠ P
abbrev lamQ : Str := "<lambda>"
abbrev LamO (f : Addr) (qual : Str) (params : Arguments) (body : Expr) (scope : Scope) (clos : List (Str × Addr)) (pm : Value) (c' : Addr) (ctv : Value) : HO :=
  .ext fun h => h.get? f = some (PySem.W.kla_obj lamQ qual params body scope clos pm c' ctv)
def LamF (H : Hp) (f : Addr) (qual : Str) (params : Arguments) (body : Expr) (scope : Scope) (clos : List (Str × Addr)) : Prop :=
  ∃ pm c' ctv, H f = some (LamO f qual params body scope clos pm c' ctv) ∧ H c' = some (CodeO c' qual)
def tLam (T : List (Addr × Str)) (qual : Str) (params : Arguments) (body : Expr) (scope : Scope) (clos : List (Str × Addr)) : TE := fun _ H Q =>
  Tabs T H ∧ ∀ f H1, SameT T H H1 → H f = none → LamF H1 f qual params body scope clos → Q (.ref f) H1
section
variable {X : Cx} {T : List (Addr × Str)} {c P : Addr} {qual : Str} {params : Arguments} {body : Expr} {scope : Scope} {pos : Pos}
theorem lam_frees {X : Cx} {pins : List (Addr × Obj)} {σ : St} {H : Hp} {s : Shared} (I : Inv X pins σ H s) (hfr : ∀ y ∈ scope.names, y.2 = .free → X.env.scope.names.lookup y.1 = some .cell ∨ X.env.scope.names.lookup y.1 = some .free) :
    ∀ y ∈ scope.names, y.2 = .free → ∃ c, X.env.cells.lookup y.1 = some c := fun y hy e => by
  rcases hfr y hy e with k | k
  · exact I.ok.has _ (.inl k)
  · exact I.ok.has _ (.inr k)
theorem pe_lam (L : LamAt X.base X.mg c P) (hc : X.env.code = .ref c) (hT : (P, qual) ∈ T) (hT1 : ∀ q, (P, q) ∈ T → q = qual) (hq : X.env.qual ++ lamQ = qual)
    (hfr : ∀ y ∈ scope.names, y.2 = .free → X.env.scope.names.lookup y.1 = some .cell ∨ X.env.scope.names.lookup y.1 = some .free) (hdef : defaultsOf params X.env = ([], []) := by rfl) :
    PE X (.Lambda params body scope pos) (tLam T qual params body scope (cloFrom X.env.cells scope.names [])) := by
  intro pins s σ H Q I h
  obtain ⟨ht, h⟩ := h
  refine PySem.W.kla_eval hdef ?_
  have hq' : X.env.qual ++ "<lambda>" = qual := hq
  rw [hq']
  obtain ⟨ps, h1, h2, h3⟩ := ht _ hT
  have hcl := closure_ok (lam_frees (scope := scope) I hfr)
  have hP : s.heap.get? P = some (PySem.W.tabObj ps) := I.hok P _ h1
  have G := I.mod.glob.keeps I.bk
  have hb := L.ba.keeps I.bk
  have C := L.hd.keeps I.bk
  cases e : codeAmong pos ps.toList with
  | none =>
    refine PySem.W.kla_makeFunction hcl I.ok.glob G hc C hP h2 e L.ne hb fun c' ctv h' tk hx hge hlt hrec htb => ?_
    let pm : Value := (X.mg "__name__").getD .none
    let fo := PySem.W.kla_obj lamQ qual params body scope (cloFrom X.env.cells scope.names []) pm c' ctv
    let more : Array Value := #[rawInt pos.line, rawInt pos.col, .ref c']
    have lt : ∀ {b o}, H b = some o → b < s.heap.objs.size := fun q => I.hok.lt q
    have hPs : P < s.heap.objs.size := lt h1
    have hsz : s.heap.objs.size ≤ h'.objs.size := Nat.le_of_lt (Nat.lt_of_le_of_lt hge hlt)
    have cP : c' ≠ P := Nat.ne_of_gt (Nat.lt_of_lt_of_le hPs hge)
    have fP : h'.objs.size ≠ P := Nat.ne_of_gt (Nat.lt_of_lt_of_le hPs hsz)
    have fc : h'.objs.size ≠ c' := Nat.ne_of_gt hlt
    let H1 : Hp := upd (upd (upd H P (.tbl (ps ++ more))) c' (CodeO c' qual)) h'.objs.size (LamO h'.objs.size qual params body scope (cloFrom X.env.cells scope.names []) pm c' ctv)
    have at_old : ∀ {b}, b < s.heap.objs.size → b ≠ P → H1 b = H b := fun {b} hb hp => by
      show upd _ _ _ b = _
      rw [upd_ne (Nat.ne_of_lt (Nat.lt_of_lt_of_le hb hsz)), upd_ne (Nat.ne_of_lt (Nat.lt_of_lt_of_le hb hge)), upd_ne hp]
    have at_P : H1 P = some (.tbl (ps ++ more)) := by
      show upd _ _ _ P = _
      rw [upd_ne (Ne.symm fP), upd_ne (Ne.symm cP), upd_same]
    have at_c : H1 c' = some (CodeO c' qual) := by
      show upd _ _ _ c' = _
      rw [upd_ne (Ne.symm fc), upd_same]
    have at_f : H1 h'.objs.size = some (LamO h'.objs.size qual params body scope (cloFrom X.env.cells scope.names []) pm c' ctv) := upd_same
    have kp : ∀ b o, b ≠ P → s.heap.get? b = some o → (h'.push fo).get? b = some o := fun b o hb q => Heap.get?_push_of_some _ (hx b o hb q)
    have un : Un X.fs [] H H1 s.heap (h'.push fo) := by
      refine ⟨fun b o q n _ _ => kp b o (Ne.symm (ne_of_none h1 n)) q, fun b o q n _ _ => ⟨o.slots, kp b o (Ne.symm (ne_of_none h1 n)) q⟩, fun b o q n _ => ?_, fun b o q _ => ?_, fun b xs q => ?_, fun b o u q => ?_, fun b ps' q => ?_⟩
      · rw [at_old (Heap.lt_size q) (Ne.symm (ne_of_none h1 n))]; exact n
      · by_cases hb : b = P
        · subst hb; exact ⟨_, Heap.get?_push_of_some _ htb⟩
        · exact ⟨o, kp b o hb q⟩
      · rw [at_old (lt q) (ne_of q h1 (fun z => nomatch z))]; exact q
      · rw [at_old (lt q) (ne_of q h1 (fun z => nomatch z))]; exact q
      · by_cases hb : b = P
        · subst hb
          rw [h1] at q
          cases q
          exact ⟨more, at_P⟩
        · exact ⟨#[], by rw [at_old (lt q) hb, q]; simp⟩
    have hok : HOk X.prog X.w H1 (h'.push fo) := fun b u q => by
      by_cases hf : b = h'.objs.size
      · subst hf
        rw [at_f] at q
        cases q
        have z : (h'.push fo).get? h'.objs.size = some fo := Heap.get?_push_size _ rfl
        exact ⟨z, ⟨_, z⟩, fun h1 h2 p k => k _ p⟩
      · by_cases hc' : b = c'
        · subst hc'
          rw [at_c] at q
          cases q
          obtain ⟨o, z⟩ := codeRec_at hrec
          exact ⟨hrec.push _, ⟨o, Heap.get?_push_of_some _ z⟩, fun h1 h2 p k => codeRec_stay h1 h2 p k⟩
        · by_cases hp : b = P
          · subst hp
            rw [at_P] at q
            cases q
            exact Heap.get?_push_of_some _ htb
          · have q' : H b = some u := by
              have z : H1 b = H b := by
                show upd _ _ _ b = _
                rw [upd_ne hf, upd_ne hc', upd_ne hp]
              rw [← z]; exact q
            refine (I.hok b u q').stay (fun d o hd r => kp d o ?_ r) (fun d r => ?_) fun d xs r => ?_
            · rcases hd with z | z
              · rw [z]; exact hp
              · exact ne_of z h1 (fun z => nomatch z)
            · rw [at_old (lt r) (ne_of r h1 (fun z => nomatch z))]; exact r
            · rw [at_old (lt r) (ne_of r h1 (fun z => nomatch z))]; exact r
    have sm : SameT T H H1 := by
      refine ⟨fun a o q n => ?_, fun a q => ?_, fun _ p hp => ?_⟩
      · rw [at_old (lt q) (fun z => by subst z; rw [h1] at q; cases q; cases n)]; exact q
      · cases r : H a with
        | none => rfl
        | some o =>
          by_cases z : a = P
          · subst z; rw [at_P] at q; cases q
          · rw [at_old (lt r) z, r] at q; cases q
      · obtain ⟨ps1, g1, g2, g3⟩ := ht p hp
        have keepC : ∀ d, H d = some (CodeO d p.2) → H1 d = some (CodeO d p.2) := fun d r => by
          rw [at_old (lt r) (fun z => by subst z; rw [h1] at r; cases r)]; exact r
        by_cases z : p.1 = P
        · rw [z, h1] at g1
          cases g1
          have zq : p.2 = qual := hT1 p.2 (by rw [← z]; exact hp)
          refine ⟨_, by rw [z]; exact at_P, ?_, fun pos' cv r => ?_⟩
          · rw [Array.toList_append]
            exact TriplesOk_snoc _ _ _ _ h2
          · rw [Array.toList_append] at r
            rcases among_snoc _ h2 r with r | r
            · obtain ⟨d, r1, r2⟩ := g3 pos' cv r
              exact ⟨d, r1, keepC d r2⟩
            · exact ⟨c', r, by rw [zq]; exact at_c⟩
        · refine ⟨ps1, by rw [at_old (lt g1) z]; exact g1, g2, fun pos' cv r => ?_⟩
          obtain ⟨d, r1, r2⟩ := g3 pos' cv r
          exact ⟨d, r1, keepC d r2⟩
    exact ⟨.ref h'.objs.size, H1, I.un un hok, rfl, h _ _ sm (I.hok.fresh hsz) ⟨pm, c', ctv, at_f, at_c⟩⟩
  | some cv =>
    obtain ⟨c', rfl, h5⟩ := h3 pos cv e
    refine PySem.W.kla_makeFunctionHit hcl I.ok.glob G hc C hP h2 e hb fun ctv h' tk hk hsz => ?_
    have hn : H h'.objs.size = none := I.hok.fresh hsz
    refine ⟨.ref h'.objs.size, _, I.laid (a := h'.objs.size) (o := LamO h'.objs.size qual params body scope (cloFrom X.env.cells scope.names []) ((X.mg "__name__").getD .none) c' ctv) (t' := tk) (fun b u q => Heap.get?_push_of_some _ (hk b u q)) hsz ?_, rfl,
      h _ _ (.new hn) hn ⟨_, c', ctv, upd_same, by rw [upd_ne (ne_of_none h5 hn)]; exact h5⟩⟩
    have z : (h'.push (PySem.W.kla_obj lamQ qual params body scope (cloFrom X.env.cells scope.names []) ((X.mg "__name__").getD .none) c' ctv)).get? h'.objs.size = some (PySem.W.kla_obj lamQ qual params body scope (cloFrom X.env.cells scope.names []) ((X.mg "__name__").getD .none) c' ctv) := Heap.get?_push_size _ rfl
    exact ⟨z, ⟨_, z⟩, fun h1 h2 p k => k _ p⟩
end
end L2
set_option Elab.async false
set_option linter.all false
set_option maxRecDepth 100000
set_option maxHeartbeats 2000000
namespace L2
open PySem PySem.Spec PyProof.Rows L3
structure LamScope (N : List Str) (p : Str) (scope : Scope) : Prop where
  kind : scope.kind = .function
  co : scope.isCoroutine = false
  gen : scope.isGenerator = false
  nd : N.Nodup
  par : N[0]? = some p
  loc : scope.names.lookup p = some .local ∨ scope.names.lookup p = some .cell
  uniq : ∀ y ∈ scope.names, scope.names.lookup y.1 = some y.2
structure Clo (scope : Scope) (clos : List (Str × Addr)) (N : List Str) (σ : St) (H : Hp) (h : Heap) : Prop where
  len : σ.length = N.length
  cell : ∀ y c, (y, c) ∈ clos → (∃ v, h.IsCell c v) ∧ H c = none
  inj : ∀ y z c, (y, c) ∈ clos → (z, c) ∈ clos → y = z
  has : ∀ y, scope.names.lookup y = some .free → ∃ c, (y, c) ∈ clos
  only : ∀ y c, (y, c) ∈ clos → scope.names.lookup y = some .free
  val : ∀ (i : Nat) (x : Str) (v : V), N[i]? = some x → σ[i]? = some (some v) → scope.names.lookup x = some .free ∧ ∃ u, RelV v u ∧ ∀ c, (x, c) ∈ clos → h.IsCell c (some u)
abbrev lamEnv (qual : Str) (scope : Scope) (L f : Addr) (cd : Value) (clos : List (Str × Addr)) : Env := newEnv scope L mainGlobals (cellsFrom (L + 1) scope.names clos) (qual ++ ".<locals>.") (some f) cd none builtinsNs
def cxLam (P : Program) (w : World) (K : PySem.W.Frag) (mg : Str → Option Value) (base : Heap) (N : List Str) (qual : Str) (scope : Scope) (f : Addr) (cd : Value) (clos : List (Str × Addr)) (A : Around) (outer : List Env) (s : Shared) (H : Hp) : Cx where
  prog := P
  w := w
  K := K
  mg := mg
  base := base
  A := A.deeper (lamEnv qual scope s.heap.objs.size f cd clos)
  N := N
  s_0 := s
  H_0 := H
  env := lamEnv qual scope s.heap.objs.size f cd clos
  outer := outer
  stack := lamEnv qual scope s.heap.objs.size f cd clos :: outer
  ex := []
  calm := true
  fn := fun x => scope.names.lookup x == some .cell
  pn := []
  xe := fun _ _ => False
section
variable {P : Program} {w : World} {K : PySem.W.Frag} {mg : Str → Option Value} {base : Heap} {N : List Str} {p qual : Str} {scope : Scope} {f : Addr} {cd : Value} {clos : List (Str × Addr)} {A : Around} {outer : List Env} {s : Shared} {H : Hp} {σ : St}
theorem lam_start (S : LamScope N p scope) (hd : A.handled = none) (e0 : Env0 P w K mg base A outer s H) (C : Clo scope clos N σ H s.heap) :
    Inv (cxLam P w K mg base N qual scope f cd clos A outer s H) [] σ H { s with heap := pushCells (s.heap.push { cls := .type "frame", data := .dict #[] }) scope.names } := by
  have kp : ∀ b o, s.heap.get? b = some o → (pushCells (s.heap.push { cls := .type "frame", data := .dict #[] }) scope.names).get? b = some o := fun b o e => pushCells_keeps _ _ _ _ (Heap.get?_push_of_some _ e)
  have hcl : (lamEnv qual scope s.heap.objs.size f cd clos).cells = cellsFrom (s.heap.push { cls := .type "frame", data := .dict #[] }).objs.size scope.names clos := by rw [Heap.size_push]; rfl
  have clt : ∀ {y c}, (y, c) ∈ clos → c < s.heap.objs.size := fun {y c} hm => let ⟨⟨_, z⟩, _⟩ := C.cell y c hm; z.lt
  have mem : ∀ {y c}, (lamEnv qual scope s.heap.objs.size f cd clos).cells.lookup y = some c → (y, c) ∈ clos ∨ ((y, NameKind.cell) ∈ scope.names ∧ s.heap.objs.size + 1 ≤ c ∧ CellAt (pushCells (s.heap.push { cls := .type "frame", data := .dict #[] }) scope.names) c none) := fun {y c} e => by
    rw [hcl] at e
    rcases cells_mem (PySem.mem_of_lookup e) with hm | ⟨h1, h2, h3⟩
    · exact .inl hm
    · rw [Heap.size_push] at h2; exact .inr ⟨h1, h2, h3⟩
  have look : ∀ {y}, scope.names.lookup y = some .free → ∃ c, (lamEnv qual scope s.heap.objs.size f cd clos).cells.lookup y = some c ∧ (y, c) ∈ clos := fun {y} hl => by
    obtain ⟨c, hc⟩ := C.has y hl
    obtain ⟨c', e'⟩ := mem_lookup (cells_acc (names := scope.names) (n := (s.heap.push { cls := .type "frame", data := .dict #[] }).objs.size) hc)
    rw [← hcl] at e'
    refine ⟨c', e', ?_⟩
    rcases mem e' with hm | ⟨h1, _⟩
    · exact hm
    · have := S.uniq _ h1
      rw [hl] at this; cases this
  have noA : ∀ b : Addr, b ∉ (cxLam P w K mg base N qual scope f cd clos A outer s H).ex := fun b z => absurd (show b ∈ ([] : List Addr) from z) (by simp)
  refine ⟨⟨e0.mod, S.kind, rfl, rfl, Nat.le_refl _, fun y z c e1 e2 => ?_, fun y hy => ?_, fun y c z e => ?_, fun _ => hd, Around.frames_deeper e0.frames, .inr ⟨rfl, rfl⟩, fun b z => absurd z (noA b), e0.bs, e0.bsz, fun b _ _ => noA b, fun b z => absurd z (noA b), e0.funs, e0.frf⟩,
    rfl, e0.bare, Un.kept kp, ⟨fun _ => none, ?_, fun i y v h1 h2 h3 => ?_⟩, fun y c e => ?_, e0.hok.fresh (Nat.le_refl _), fun y c e => ?_, fun q hq => absurd (show q ∈ ([] : List (Addr × Obj)) from hq) (by simp), e0.hok.kept kp, C.len⟩
  · have e1 : (lamEnv qual scope s.heap.objs.size f cd clos).cells.lookup y = some c := e1
    have e2 : (lamEnv qual scope s.heap.objs.size f cd clos).cells.lookup z = some c := e2
    rw [hcl] at e1 e2
    refine cells_inj (fun q hq => ?_) (fun y z c a b => C.inj y z c a b) (PySem.mem_of_lookup e1) (PySem.mem_of_lookup e2)
    rw [Heap.size_push]
    exact Nat.lt_succ_of_lt (clt (y := q.1) (c := q.2) hq)
  · have hy : scope.names.lookup y = some .cell ∨ scope.names.lookup y = some .free := hy
    show ∃ c, (lamEnv qual scope s.heap.objs.size f cd clos).cells.lookup y = some c
    rcases hy with hy | hy
    · obtain ⟨c, hm⟩ := cells_has (n := (s.heap.push { cls := .type "frame", data := .dict #[] }).objs.size) (acc := clos) (PySem.mem_of_lookup hy)
      rw [hcl]
      exact mem_lookup hm
    · obtain ⟨c, h1, _⟩ := look hy
      exact ⟨c, h1⟩
  · have z : (scope.names.lookup y == some NameKind.cell) = true := z
    have z : scope.names.lookup y = some .cell := by simpa using z
    rcases mem e with hm | ⟨_, h2, _⟩
    · have q := C.only y c hm
      rw [z] at q; cases q
    · exact Nat.le_of_succ_le h2
  · exact Heap.Ns.keeps (Heap.Ns.new ..) fun b o e => pushCells_keeps _ _ _ _ e
  · obtain ⟨hf, u, r, hu⟩ := C.val i y v h1 h2
    obtain ⟨c, h4, h5⟩ := look hf
    exact ⟨u, r, .inr ⟨.inr hf, c, h4, (hu c h5).keeps kp⟩⟩
  · rcases mem e with hm | ⟨_, _, z⟩
    · obtain ⟨⟨v, z⟩, _⟩ := C.cell y c hm
      exact ⟨v, z.keeps kp⟩
    · exact ⟨_, z⟩
  · rcases mem e with hm | ⟨_, h2, _⟩
    · exact (C.cell y c hm).2
    · exact e0.hok.fresh (Nat.le_of_succ_le h2)
theorem lam_run {k : Nat} {params : Arguments} {body : Expr} {pm ctv : Value} {c' : Addr} {v : V} {u : Value} {Q : VK} {E : XK} {t : TE} (S : LamScope N p scope) (hr : Room (k + 1) A) (e0 : Env0 P w K mg base A outer s H) (C : Clo scope clos N σ H s.heap)
    (ho : s.heap.get? f = some (PySem.W.kla_obj lamQ qual params body scope clos pm c' ctv)) (hcd : s.heap.CodeRec (.ref c') qual)
    (hbind : bindArgs (PySem.W.kla_fn lamQ qual params body scope clos pm (.ref c') ctv) ⟨[u], []⟩ = pure [(p, u)]) (r : RelV v u)
    (hb : PE (cxLam P w K mg base N qual scope f (.ref c') clos A outer s H) body t) (ht : t (σ.set 0 (some v)) H Q) :
    codeAny (model P w) A (.call (.ref f) ⟨[u], []⟩) (CR CX0 outer P w H s Q E) s := by
  refine PySem.W.kla_callFunE hr.depth ho rfl S.co S.gen rfl hcd ?_
  rw [hbind]
  refine wpAny_pure ?_
  show wpAny _ _ (newFunctionEnv scope mainGlobals clos [(p, u)] (qual ++ ".<locals>.") (some f) (.ref c') none builtinsNs) _ _ s
  simp only [newFunctionEnv, Option.isSome_none, Bool.false_eq_true, if_false]
  refine wpAny_bind (wpAny_alloc ?_)
  refine wpAny_bind (wpAny_layCells _ (fun name kind cells => by cases hkc : kind == NameKind.cell <;> simp [hkc]) _ _ _ _ ?_)
  rw [show ({ s with heap := s.heap.push { cls := .type "frame", data := .dict #[] } } : Shared).heap.objs.size = s.heap.objs.size + 1 from Heap.size_push ..]
  have I := lam_start (qual := qual) (f := f) (cd := .ref c') S hr.hd e0 C
  rw [List.forIn_cons]
  refine wpAny_bind (wpAny_bind (wpAny_bind (store_ok (X := cxLam P w K mg base N qual scope f (.ref c') clos A outer s H) I S.nd S.par S.loc r (fun s1 I1 => wpAny_pure ?_) ?_)))
  · dsimp only
    rw [List.forIn_nil]
    refine wpAny_pure (wpAny_pure ⟨I1.nolimit, ?_⟩)
    refine PySem.W.kla_codeExpr (wpAny_mono (hb [] s1 _ H Q I1 ht) (fun u' s' h => ?_) fun e s' h => h.elim)
    obtain ⟨v', H', J, rv, q⟩ := h
    exact ⟨v', H', J.os, J.bare, J.base, J.hok, rv, q⟩
  · rcases S.loc with q | q
    · exact .inr q
    · refine .inl ?_
      show (scope.names.lookup p == some NameKind.cell) = true
      rw [q]; rfl
end
structure FV (P : Program) (w : World) (K : PySem.W.Frag) (mg : Str → Option Value) (base : Heap) (T : List (Addr × Str)) (k : Nat) (outer : List Env) (s0 : Shared) (H0 : Hp) (f : Addr) (sp : V → Hp → VK → Prop) : Prop where
  fn : ∃ fd, H0 f = some (.ext fun h => h.get? f = some { cls := .type "function", data := .func fd })
  run : ∀ (A : Around) (outer' : List Env) (s : Shared) (H : Hp) (u : Value) (v : V) (Q : VK), Room k A → Env0 P w K mg base A outer' s H → Un (frs outer) [] H0 H s0.heap s.heap → SameT T H0 H → RelV v u → sp v H Q →
    codeAny (model P w) A (.call (.ref f) ⟨[u], []⟩) (CR CX0 outer' P w H s Q E0) s
section
variable {X : Cx} {T : List (Addr × Str)} {k : Nat} {N : List Str} {p qual : Str} {params : Arguments} {body : Expr} {scope : Scope} {f : Addr} {pins : List (Addr × Obj)} {σ σ0 : St} {H : Hp} {s : Shared} {sp : V → Hp → VK → Prop}
theorem cloFrom_free {cells : List (Str × Addr)} {names : List (Str × NameKind)} {y : Str} {c : Addr} (h : (y, c) ∈ cloFrom cells names []) : (y, NameKind.free) ∈ names ∧ c = (cells.lookup y).getD 0 := by
  rcases cloFrom_mem h with h | h
  · cases h
  · exact h
theorem lam_fv (I : Inv X pins σ H s) (F : LamF H f qual params body scope (cloFrom X.env.cells scope.names [])) (S : LamScope N p scope)
    (hfr : ∀ y ∈ scope.names, y.2 = .free → X.env.scope.names.lookup y.1 = some .cell ∨ X.env.scope.names.lookup y.1 = some .free) (hl : σ0.length = N.length)
    (hσ : ∀ (i : Nat) (x : Str) (v : V), N[i]? = some x → σ0[i]? = some (some v) → scope.names.lookup x = some .free ∧ ∃ j : Nat, X.N[j]? = some x ∧ σ[j]? = some (some v))
    (hbind : ∀ (clos : List (Str × Addr)) (pm : Value) (c' : Addr) (ctv u : Value), bindArgs (PySem.W.kla_fn lamQ qual params body scope clos pm (.ref c') ctv) ⟨[u], []⟩ = pure [(p, u)])
    (hb : ∀ (A : Around) (outer : List Env) (s' : Shared) (H' : Hp) (cdv : Value) (clos : List (Str × Addr)) (v : V) (Q : VK), Room k (A.deeper (lamEnv qual scope s'.heap.objs.size f cdv clos)) → SameT T H H' → sp v H' Q →
      ∃ t, PE (cxLam X.prog X.w X.K X.mg X.base N qual scope f cdv clos A outer s' H') body t ∧ t (σ0.set 0 (some v)) H' Q) :
    FV X.prog X.w X.K X.mg X.base T (k + 1) X.stack s H f sp := by
  obtain ⟨pm, c', ctv, h1, h2⟩ := F
  refine ⟨⟨_, h1⟩, fun A outer s' H' u v Q hr e0 un sm r hq => ?_⟩
  have ho : s'.heap.get? f = some (PySem.W.kla_obj lamQ qual params body scope (cloFrom X.env.cells scope.names []) pm c' ctv) := (e0.hok f _ (sm.keep f _ h1 rfl)).1
  have hcd : s'.heap.CodeRec (.ref c') qual := (e0.hok c' _ (sm.keep c' _ h2 rfl)).1
  have cm : ∀ {y c}, (y, c) ∈ cloFrom X.env.cells scope.names [] → X.env.cells.lookup y = some c ∧ scope.names.lookup y = some .free := fun {y c} hm => by
    obtain ⟨h1, rfl⟩ := cloFrom_free hm
    obtain ⟨c, hc⟩ := lam_frees I hfr _ h1 rfl
    have hc' : X.env.cells.lookup y = some c := hc
    rw [hc']
    exact ⟨rfl, S.uniq _ h1⟩
  have kc : ∀ {y c v}, X.env.cells.lookup y = some c → s.heap.IsCell c v → s'.heap.IsCell c v := fun {y c v} hc ⟨o, ho, hd⟩ => by
    obtain ⟨sl, e⟩ := un.any ho (I.freeC y c hc) (by simp)
    exact ⟨_, e, hd⟩
  have C : Clo scope (cloFrom X.env.cells scope.names []) N σ0 H' s'.heap := by
    refine ⟨hl, fun y c hm => ?_, fun y z c a b => I.ok.inj y z c (cm a).1 (cm b).1, fun y hy => ⟨_, cloFrom_has (PySem.mem_of_lookup hy)⟩, fun y c hm => (cm hm).2, fun i x v e1 e2 => ?_⟩
    · obtain ⟨v, z⟩ := I.cell y c (cm hm).1
      obtain ⟨o, ho, _⟩ := id z
      exact ⟨⟨v, kc (cm hm).1 z⟩, un.free c o ho (I.freeC y c (cm hm).1) (by simp)⟩
    · obtain ⟨hf, j, g1, g2⟩ := hσ i x v e1 e2
      obtain ⟨m, hn, hl⟩ := I.loc
      have hk := hfr _ (PySem.mem_of_lookup hf) rfl
      obtain ⟨u, r, l⟩ := hl j x v g1 g2 (.inr hk)
      refine ⟨hf, u, r, fun c hm => ?_⟩
      rcases l with ⟨l, _⟩ | ⟨_, d, l, z⟩
      · have l : X.env.scope.names.lookup x = some .local := l
        rcases hk with hk | hk <;> rw [l] at hk <;> cases hk
      · have q := (cm hm).1
        rw [l] at q
        cases q
        exact kc l z
  obtain ⟨t, g1, g2⟩ := hb A outer s' H' (.ref c') (cloFrom X.env.cells scope.names []) v Q (hr.deeper _) sm hq
  exact lam_run S hr e0 C ho hcd (hbind _ _ _ _ _) r g1 g2
end
def tCallV (X : Cx) (T : List (Addr × Str)) (k i : Nat) (te : TE) : TE := fun σ H Q => ∃ f sp, σ[i]? = some (some (.ref f)) ∧ FV X.prog X.w X.K X.mg X.base T k X.outer X.s_0 X.H_0 f sp ∧ SameT T X.H_0 H ∧
  te σ H fun v H1 => SameT T X.H_0 H1 ∧ sp v H1 Q
theorem pe_callV {X : Cx} {T : List (Addr × Str)} {k i : Nat} {x : Str} {p pos : Pos} {e : Expr} {te : TE} (hr : Room k X.A) (hx : X.ex = []) (hN : X.N[i]? = some x) (hv : Vis X.env.scope x) (he : PE X e te)
    (hd : (x == ("__debug__" : Str)) = false := by decide) (hcd : (x == ("__classdict__" : Str)) = false := by decide) (hst : starEach [e] X.env = [(false, eval e X.env)] := by rfl) :
    PE X (.Call (.Name x p) [e] [] pos) (tCallV X T k i te) := by
  intro pins s σ H Q I h
  obtain ⟨f, sp, h1, F, sm, h⟩ := h
  obtain ⟨fd, hf⟩ := F.fn
  have fnAt : ∀ {s1 : Shared} {H1 : Hp}, SameT T X.H_0 H1 → Inv X pins σ H1 s1 → PySem.W.FnAt f s1.heap := fun {s1 H1} sm I1 => ⟨_, _, _, _, (I1.hok f _ (sm.keep f _ hf rfl)).1⟩
  have main : wpAny (model X.prog X.w) X.A (callWith pos (.ref f) [] (backTo pos (starEach [e] X.env)) []) (EP X pins σ Q) X.xe s := by
    refine PySem.W.callWith_F (fnAt sm I) (thn ((pa_cons he pa_nil hst) pos pins s σ H (fun vs H1 => ∃ v, vs = [v] ∧ SameT T X.H_0 H1 ∧ sp v H1 Q) I ?_) fun us s1 ⟨vs, H1, I1, r, v, hv, sm1, q⟩ => ⟨fnAt sm1 I1, ?_⟩) hst
    · show te σ H fun x H1 => _
      have mono : te σ H (fun v H1 => SameT T X.H_0 H1 ∧ sp v H1 Q) := h
      exact cast (by congr 1; funext x H1; exact propext ⟨fun q => ⟨x, rfl, q⟩, fun ⟨v, e, q⟩ => by cases e; exact q⟩) mono
    · subst hv
      cases r with
      | cons r1 r2 =>
        cases r2
        refine wpAny_call (codeAny_mono (F.run X.A X.stack s1 H1 _ v Q hr I1.env0 (by have b := I1.base; rw [hx] at b; exact b) sm1 r1 q) fun r s' hq => ?_)
        cases r with
        | error e => exact hq.elim
        | ok fl =>
          cases fl with
          | ret u => exact I1.after hq
          | next => exact False.elim hq
          | brk => exact False.elim hq
          | cont => exact False.elim hq
  refine wpAny_Call_Name_kw ?_
  obtain ⟨m, hn, hl⟩ := I.loc
  obtain ⟨u, r, l⟩ := hl i x _ hN h1 hv
  have r : u = .ref f := r
  subst r
  rcases l with ⟨hk, hm⟩ | ⟨hk, c, hc, hcell⟩
  · exact wpAny_Name (wpAny_loadName_local I.ok.kind hk hn hm main) hd
  · rcases hk with hk | hk
    · exact wpAny_Name (wpAny_loadName_cell I.ok.kind hk hc hcell main) hd
    · exact wpAny_Name (wpAny_loadName_free I.ok.kind hk hc hcell main hcd) hd
abbrev SpS := List Env → Shared → Sp
structure FnOkS (P : Program) (w : World) (K : PySem.W.Frag) (mg : Str → Option Value) (base : Heap) (k : Nat) (f : Addr) (fd : FuncData) (ps : List Str) (sp : SpS) : Prop where
  len : ∀ outer s vs H Q E, sp outer s vs H Q E → vs.length = ps.length
  run : ∀ (A : Around) (outer : List Env) (s : Shared) (H : Hp) (args : Args) (us : List Value) (vs : List V) (Q : VK) (E : XK), Room k A → Env0 P w K mg base A outer s H → BindsTo s fd args (ps.zip us) → Vals vs us → sp outer s vs H Q E →
    codeAny (model P w) A (.call (.ref f) args) (CR CX0 outer P w H s Q E) s
section
variable {P : Program} {w : World} {K : PySem.W.Frag} {mg : Str → Option Value} {base : Heap}
theorem Fun.okS {x qual : Str} {st : Stmt} {f : Addr} {fd : FuncData} {N ps : List Str} {k : Nat} {sp : SpS} (F : Fun K x qual st f fd) (S : FnScope N ps (defScope st)) (len : ∀ outer s vs H Q E, sp outer s vs H Q E → vs.length = ps.length)
    (hbody : ∀ (A : Around) (outer : List Env) (s : Shared) (H : Hp) (vs : List V) (Q : VK) (E : XK), Room k (A.deeper (envOfC qual (defScope st) s.heap.objs.size f fd.code)) → sp outer s vs H Q E →
      ∃ t, PSs (cxOf CX0 P w K mg base N qual (defScope st) f fd.code A outer s H E).nox (defBody st) t ∧ t { nx := fun _ H' => Q .non H', rt := Q } (start N vs) H) : FnOkS P w K mg base (k + 1) f fd ps sp := by
  obtain ⟨oc, od, kV, doc, pm, an, cdv, ct, osl, rfl, lk, hcd⟩ := F.ex
  refine ⟨len, fun A outer s H args us vs Q E hr e0 hb r hsp => ?_⟩
  have KX : K.In s.heap := e0.mod.kin.keeps fun b o e => (e0.bs b o e).1
  have lim : s.heap.NoLimit := e0.mod.nolimit.keeps fun b o e => (e0.bs b o e).1
  have hl := len _ _ _ _ _ _ hsp
  refine codeAny_call_function hr.depth (KX _ _ lk) rfl S.co S.gen rfl (PySem.W.codeRec_of KX hcd) (hb _ _ _ _ ?_)
  refine wpAny_newFunctionEnv_cells S.kind (fun ⟨n, v⟩ hy => ?_) fun env he s1 y => ?_
  · rcases S.par n (List.of_mem_zip hy).1 with q | q
    · exact .inl q
    · exact .inr ⟨q, PySem.W.cellsFrom_some _ _ _ (.inl q)⟩
  subst he
  refine ⟨lim.keeps y.toInCall.keep, codeAny_func ?_⟩
  obtain ⟨t, ht, hq⟩ := hbody A outer s H vs Q E (hr.deeper _) hsp
  have I : Inv (cxOf CX0 P w K mg base N qual (defScope st) f cdv A outer s H E) [] (start N vs) H s1 := inv_start S hr.hd e0 hl r y
  refine wpAny_mono (ht.nox [] s1 (start N vs) H _ I hq) (fun fl s' hs => ?_) fun e s' hs => hs
  match fl, hs with
  | .ret u, ⟨v, σ', H', J, rv, q⟩ => exact ⟨v, H', J.os, J.bare, J.base, J.hok, rv, q⟩
  | .next, ⟨σ', H', J, q⟩ => exact ⟨V.non, H', J.os, J.bare, J.base, J.hok, rfl, q⟩
  | .brk, ⟨_, _, _, q⟩ => exact q.elim
  | .cont, ⟨_, _, _, q⟩ => exact q.elim
theorem FnOkS.plain {f : Addr} {fd : FuncData} {ps : List Str} {k : Nat} {sp : Sp} (F : FnOkS P w K mg base k f fd ps (fun _ _ => sp)) : FnOk P w K mg base CX0 k f fd ps sp :=
  ⟨fun vs H Q E h => F.len [] {} vs H Q E h, fun A outer s H args us vs Q E hr e0 hb r h => F.run A outer s H args us vs Q E hr e0 hb r h⟩
end
def tCallS (X : Cx) (sp : SpS) (t : TA) : TE := fun σ H Q => t σ H fun vs H1 => ∀ pins s, Inv X pins σ H1 s → sp X.stack s vs H1 Q E0
theorem pe_callS {X : Cx} {k : Nat} {f : Addr} {fd : FuncData} {ps : List Str} {sp : SpS} {x : Str} {p pos : Pos} {e : Expr} {es : List Expr} {t : TA} (F : FnOkS X.prog X.w X.K X.mg X.base k f fd ps sp) (hr : Room k X.A) (hg : Gl X x) (hm : X.mg x = some (.ref f)) (hk : PySem.W.keepIn X.K (.ref f) = true) (hb : Binds X.K fd ps [])
    (ha : PA X (e :: es) t) (hdb : (x == ("__debug__" : Str)) = false := by decide) (he : starEach (e :: es) X.env = (false, eval e X.env) :: starEach es X.env := by rfl) (hpl : (backTo pos (starEach es X.env)).any (·.1) = false := by rfl) :
    PE X (.Call (.Name x p) (e :: es) [] pos) (tCallS X sp t) := by
  intro pins s σ H Q I h
  refine wpAny_Call_Name_kw (ld_glob I hg hm ?_ hdb)
  refine PySem.W.callWith_K (h₀ := X.base) I.ok.mod.kin hk (thn (ha pos pins s σ H _ I h) fun us s1 ⟨vs, H1, I1, r, q⟩ => ⟨I1.kIn, ?_⟩) he hpl
  have q' := q pins s1 I1
  have hl : (us ++ []).length = ps.length := by rw [List.append_nil, ← r.length]; exact F.len _ _ _ _ _ _ q'
  have bd := hb s1 us I1.kIn hl
  rw [List.append_nil] at bd
  refine wpAny_call (codeAny_mono (F.run X.A X.stack s1 H1 ⟨us, []⟩ us vs Q E0 hr I1.env0 bd r q') fun r s' hq => ?_)
  match r, hq with
  | .error e, hq => exact hq.elim
  | .ok (.ret u), hq => exact I1.after hq
  | .ok .next, hq => exact hq.elim
  | .ok .brk, hq => exact hq.elim
  | .ok .cont, hq => exact hq.elim
end L2
set_option Elab.async false
set_option linter.all false
set_option maxRecDepth 100000
set_option maxHeartbeats 2000000
namespace L2
open PySem PySem.Spec PyProof.Rows L3
abbrev vN (k : Nat) : V := V.int (k : Int)
section
variable {prog : Program} {w : World} {A : Around} {E : Value → Shared → Prop} {s : Shared} {a kS : Addr} {vs : List Value} {kz : List Int} {keys : Array Value} {e e1 : Nat} {P : PySem.Fin → Shared → Prop}
def endHeap (h : Heap) (kS a : Addr) (out : Array Value) : Heap := (h.update kS (Obj.mapSeq fun _ => (#[] : Array Value))).update a (Obj.mapSeq fun _ => out)
theorem key_tail {st : SortSt} (hk : s.heap.get? kS = some (seqObj "list" keys e)) (ha : s.heap.get? a = some (seqObj "list" #[] e1)) (hka : kS ≠ a) (hkz : keys.size < 64) (hoz : (arrOf st).size < 64) (hf : failedOf st = none)
    (h : P (.done (.ret .none)) { s with heap := endHeap s.heap kS a ((arrOf st).map (·.2)) }) : wpAny (model prog w) A (ksk_tail a false e1 (.ref kS) st) P E s := by
  have ha1 : (s.heap.update kS (Obj.mapSeq fun _ => (#[] : Array Value))).get? a = some (seqObj "list" #[] e1) := by rw [Heap.get?_update_ne _ _ _ _ (Ne.symm hka)]; exact ha
  unfold ksk_tail
  dsimp only
  refine wpAny_bind (listUpdate_at hk rfl (wpAny_bind (wpAny_letGo (wpAny_bind (seqEpoch_at ha1 rfl (wpAny_bind (listUpdate_at ha1 rfl ?_ (Nat.zero_le _) ?_)))))) (by rw [sizeLine_eq]; omega) (Nat.zero_le _))
  · rw [hf]
    simp only [bne_self_eq_false, Bool.false_eq_true, if_false]
    exact wpAny_pure h
  · simp only [Bool.false_eq_true, if_false]
    rw [Array.size_map, sizeLine_eq]
    omega
theorem key_end (hk : s.heap.get? kS = some (seqObj "list" keys e)) (ha : s.heap.get? a = some (seqObj "list" #[] e1)) (hka : kS ≠ a) (hi : IntsAre keys.toList kz) (hlen : kz.length = vs.length) (h64 : vs.length < 64)
    (h : ∀ out : Array Value, KskOut false kz vs out.toList → P (.done (.ret .none)) { s with heap := endHeap s.heap kS a out }) :
    wpAny (model prog w) A (ksk_end a false vs.toArray e1 (.ref kS) keys) P E s := by
  have hsz : keys.size = vs.length := by
    have q := hi.length
    rw [Array.length_toList] at q
    omega
  have hzs : (keys.zip vs.toArray).size = vs.length := by rw [Array.size_zip, hsz, List.size_toArray, Nat.min_self]
  have fin : ∀ {st : SortSt}, (arrOf st).Perm (keys.zip vs.toArray) → SortedTo (arrOf st) (arrOf st).size → failedOf st = none → wpAny (model prog w) A (ksk_tail a false e1 (.ref kS) st) P E s := fun {st} hp hs hf =>
    key_tail hk ha hka (by omega) (by rw [hp.size_eq, hzs]; exact h64) hf (h _ (by have q := ksk_out (b := false) hi hp hs; simpa using q))
  unfold ksk_end
  dsimp only
  rw [if_neg (by simp)]
  by_cases h2 : vs.toArray.size < 2
  · rw [if_pos h2, if_pos h2]
    refine wpAny_bind (wpAny_pure ?_)
    rw [StateT.run_pure]
    refine wpAny_bind (wpAny_pure ?_)
    dsimp only
    refine fin (st := SortSt.mk' general' _ #[] 7 none) (Array.Perm.refl _) (fun i j hij hj => ?_) rfl
    have hj2 : j < (keys.zip vs.toArray).size := hj
    rw [hzs] at hj2
    rw [List.size_toArray] at h2
    have q : i = j := by omega
    rw [q]
    exact Int.le_refl _
  · rw [if_neg h2, if_neg h2]
    rw [List.size_toArray] at h2
    rw [ksk_kind hi (by rw [hsz]; omega)]
    refine wpAny_bind (wpAny_pure ?_)
    refine wpAny_bind (wpAny_mono (wpS_sortRuns (a₀ := keys.zip vs.toArray) (st := SortSt.mk' oneType' (keys.zip vs.toArray) #[] 7 none)
      (Q := fun _ st' => (arrOf st').Perm (keys.zip vs.toArray) ∧ failedOf st' = none ∧ SortedTo (arrOf st') (keys.zip vs.toArray).size)
      (ksk_intKeys hi) ⟨Array.Perm.refl _, rfl, rfl, rfl⟩ (by rw [hzs]; omega) (by rw [hzs]; exact h64) fun st' a1 a2 a3 => ⟨a1, a2, a3⟩) ?_ fun _ _ e => e)
    rintro ⟨⟨⟩, st'⟩ s' ⟨rfl, hp, hf, hs⟩
    dsimp only
    exact fin hp (by rw [hp.size_eq]; exact hs) hf
end
section
variable {prog : Program} {w : World} {A : Around} {E : Value → Shared → Prop} {s : Shared}
theorem collectZ {Q : List Value → Shared → Prop} {r : Addr} {hi : Int} {t u v : Tok} {n : Nat} (hh : A.handled = none) (hr : IsRange s.heap r 0 hi 1 t u v) (hsm : Builtin.Range.small 0 hi 1 = true) (hn : Builtin.Range.rangeSize 0 hi 1 = n) (hl : n ≤ 2 ^ 24)
    (hQ : ∀ (h' : Heap) (tk : Nat) (acc : Array Value), (∀ b o, s.heap.get? b = some o → h'.get? b = some o) → s.heap.objs.size ≤ h'.objs.size → UpTo n acc → Q acc.toList { s with heap := h', toks := tk }) : wpAny (model prog w) A (collect (.ref r)) Q E s := by
  unfold collect
  refine wpAny_bind (wpAny_runValue (codeAny_builtin F.entry_proto_collect ?_))
  rw [Around.under_plainId F.plain_proto_collect _]
  show wpAny _ A.in1 (newList [] >>= fun l => again (.builtin "list.__iadd__" ⟨[l, .ref r], []⟩)) _ _ s
  refine wpAny_bind (wpAny_newObj_type (wpAny_pure ⟨plainId_quiet F.plain_list_iadd _, codeAny_builtin F.entry_list_iadd ?_⟩))
  rw [Around.under_plainId F.plain_list_iadd _]
  show wpAny _ A.in1 (Builtin.List.listExtendWith (.ref s.heap.objs.size) (.ref r) (.ref s.heap.objs.size)) _ _ _
  have key := wpAny_extend_range (prog := prog) (w := w) (A := A) (n := n) (s := { s with heap := s.heap.push { cls := .type "list", data := .seq ([] : List Value).toArray } })
    (R := fun f s' => f = .ok (.ret (.ref s.heap.objs.size)) ∧ ∃ (h' : Heap) (tk : Nat) (acc : Array Value) (c : Nat), s' = { s with heap := h', toks := tk } ∧ (∀ b o, s.heap.get? b = some o → h'.get? b = some o) ∧ UpTo n acc ∧
      h'.get? s.heap.objs.size = some { cls := .type "list", dict := none, data := .seq acc c, slots := #[] }) hh (Heap.get?_push_of_some _ hr) hsm hn hl s.heap.objs.size (.ref s.heap.objs.size) 0 (Heap.get?_push_size _ rfl)
    (fun h' tk acc c hk e ha => ⟨rfl, h', tk, acc, c, rfl, fun b o q => hk b o (Nat.ne_of_lt (Heap.lt_size q)) (Heap.get?_push_of_some _ q), ha, e⟩)
  have done : ∀ (h' : Heap) (tk : Nat) (acc : Array Value) (c : Nat), (∀ b o, s.heap.get? b = some o → h'.get? b = some o) → UpTo n acc → h'.get? s.heap.objs.size = some { cls := .type "list", dict := none, data := .seq acc c, slots := #[] } →
      wpAny (model prog w) A (load s.heap.objs.size >>= fun ob => match ob.data with | Data.seq xs _ => pure xs.toList | _ => unsupported "internal:collect") Q E { s with heap := h', toks := tk } := fun h' tk acc c hk ha e =>
    wpAny_bind (wpAny_load e (wpAny_pure (hQ h' tk acc hk (Nat.le_of_lt (Heap.lt_size e)) ha)))
  refine wpAny_mono key (fun fin s' h => ?_) (fun e s' h => absurd h.1 (by simp))
  match fin, h with
  | .done f, ⟨e, h', tk, acc, c, hs, hk, ha, q⟩ =>
    subst hs
    cases e
    exact done h' tk acc c hk ha q
  | .again c', h =>
    refine ⟨h.1, codeAny_mono h.2 fun f s'' hf => ?_⟩
    obtain ⟨rfl, h', tk, acc, c, rfl, hk, ha, q⟩ := hf
    exact done h' tk acc c hk ha q
end
def spKey (n : Nat) (g : Nat → Nat) : V → Hp → VK → Prop := fun v H Q => ∃ i : Nat, v = vN i ∧ i < n ∧ Q (vN (g i)) H
theorem ints_of_vals {l : List Nat} : ∀ {its : List Value}, Vals (l.map vN) its → IntsAre its (l.map fun k : Nat => (k : Int)) := by
  induction l with
  | nil => intro its r; cases r; exact .nil
  | cons k l ih =>
    intro its r
    cases r with
    | cons q t =>
      obtain ⟨tk, rfl⟩ := q
      exact .cons _ _ (ih t)
def natOf : Value → Nat
  | .int i _ => i.toNat
  | _ => 0
theorem key_out {n : Nat} {g : Nat → Nat} {acc : Array Value} {out : List Value} (hu : UpTo n acc) (ko : KskOut false (((List.range n).map g).map fun k : Nat => (k : Int)) acc.toList out) :
    ∃ os : List Nat, os.Perm (List.range n) ∧ os.Pairwise (fun x y => g x ≤ g y) ∧ Vals (os.map vN) out := by
  obtain ⟨ps, hp, ho, hs⟩ := ko
  have hl : acc.toList.length = n := by rw [Array.length_toList]; exact hu.1
  have hz : (((List.range n).map g).map fun k : Nat => (k : Int)).zip acc.toList = (List.range n).map fun i => ((g i : Int), acc.toList.getD i .none) := by
    have key : ∀ (n : Nat) (f : Nat → Int) (l : List Value), l.length = n → ((List.range n).map f).zip l = (List.range n).map fun i => (f i, l.getD i .none) := by
      intro n f l e
      apply List.ext_getElem (by simp [e])
      intro i h1 h2
      have hi : i < l.length := by rw [e]; simpa using h2
      rw [List.getElem_zip, List.getElem_map, List.getElem_map, List.getElem_range, List.getD_eq_getElem?_getD, List.getElem?_eq_getElem hi]
      rfl
    rw [List.map_map]
    exact key n _ _ hl
  rw [hz] at hp
  have item : ∀ i, i < n → ∃ t, acc.toList.getD i .none = .int (i : Int) t := fun i hi => by
    obtain ⟨t, ht⟩ := hu.2 i _ (Array.getElem?_eq_getElem (by rw [hu.1]; exact hi))
    refine ⟨t, ?_⟩
    rw [List.getD_eq_getElem?_getD, Array.getElem?_toList, Array.getElem?_eq_getElem (by rw [hu.1]; exact hi), ht]
    simp
  have hm : ∀ p ∈ ps, p.1 = (g (natOf p.2) : Int) ∧ ∃ t, p.2 = .int (natOf p.2 : Int) t := fun p h => by
    obtain ⟨i, hi, rfl⟩ := List.mem_map.mp (hp.mem_iff.mp h)
    obtain ⟨t, ht⟩ := item i (List.mem_range.mp hi)
    dsimp only
    rw [ht]
    exact ⟨rfl, t, rfl⟩
  refine ⟨ps.map fun p => natOf p.2, ?_, ?_, ?_⟩
  · have q := hp.map fun p : Int × Value => natOf p.2
    rw [List.map_map] at q
    have e : (List.range n).map ((fun p : Int × Value => natOf p.2) ∘ fun i => ((g i : Int), acc.toList.getD i .none)) = List.range n := by
      have e2 : ∀ i ∈ List.range n, ((fun p : Int × Value => natOf p.2) ∘ fun i => ((g i : Int), acc.toList.getD i .none)) i = id i := fun i hi => by
        obtain ⟨t, ht⟩ := item i (List.mem_range.mp hi)
        show natOf (acc.toList.getD i .none) = i
        rw [ht]
        rfl
      rw [List.map_congr_left e2, List.map_id]
    rw [e] at q
    exact q
  · rw [List.pairwise_map]
    refine hs.imp_of_mem fun {p q} h1 h2 h => ?_
    have h : p.1 ≤ q.1 := h
    rw [(hm p h1).1, (hm q h2).1] at h
    exact Int.ofNat_le.mp h
  · rw [ho]
    clear hs hp ho
    induction ps with
    | nil => exact .nil
    | cons p ps ih => exact .cons (let ⟨t, ht⟩ := (hm p List.mem_cons_self).2; ⟨t, ht⟩) (ih fun q hq => hm q (List.mem_cons_of_mem _ hq))
section
variable {X : Cx} {T : List (Addr × Str)} {k : Nat}
theorem key_loop {pins : List (Addr × Obj)} {σ : St} {H0 H2 : Hp} {s0 s : Shared} {a kS f : Addr} {n : Nat} {g : Nat → Nat} {acc : Array Value} {e1 : Nat} {P : PySem.Fin → Shared → Prop} {E : Value → Shared → Prop} (hr : Room (k + 2) X.A) (F : FV X.prog X.w X.K X.mg X.base T k X.stack s0 H0 f (spKey n g)) (hn : n < 64) (hu : UpTo n acc)
    (hH : H2 = upd (upd H0 a (.ext fun h => h.get? a = some (seqObj "list" #[] e1))) kS (.lst [])) (h0a : H0 a = none) (h0k : H0 kS = none) (hka : kS ≠ a) (I : Inv X pins σ H2 s) (un : Un (frs X.stack) [] H0 H2 s0.heap s.heap)
    (h : ∀ (s' : Shared) (H' : Hp) (os : List Nat), Inv X pins σ H' s' → (∀ b o, H0 b = some o → H' b = some o) → H' a = some (.lst (os.map vN)) → os.Perm (List.range n) → os.Pairwise (fun x y => g x ≤ g y) → P (.done (.ret .none)) s') :
    wpAny (model X.prog X.w) X.A.in1.in1 (ksk_rest a (.ref f) false acc e1 (.ref kS)) P E s := by
  let Hi : Nat → Hp := fun i => upd (upd H0 a (.ext fun h => h.get? a = some (seqObj "list" #[] e1))) kS (.lst (((List.range i).map g).map vN))
  have hs : ∀ i, ∀ b o, H0 b = some o → Hi i b = some o := fun i b o q => by
    show upd _ _ _ b = _
    rw [upd_ne (ne_of_none q h0k), upd_ne (ne_of_none q h0a)]
    exact q
  have hik : ∀ i, Hi i kS = some (.lst (((List.range i).map g).map vN)) := fun i => upd_same
  have hia : ∀ i, Hi i a = some (.ext fun h => h.get? a = some (seqObj "list" #[] e1)) := fun i => by
    show upd _ _ _ a = _
    rw [upd_ne (Ne.symm hka), upd_same]
  have hl : acc.toList.length = n := by rw [Array.length_toList]; exact hu.1
  unfold ksk_rest
  refine wpAny_bind (wpAny_rule ?_)
  rw [← Array.forIn_toList]
  refine wpAny_bind (ksk_fold (fun i s' => Inv X pins σ (Hi i) s' ∧ Un (frs X.stack) [] H0 (Hi i) s0.heap s'.heap) acc.toList 0 s ⟨by rw [hH] at I; exact I, by rw [hH] at un; exact un⟩ ?_ ?_)
  · intro j x s' hx hJ
    rw [Nat.zero_add] at hJ ⊢
    obtain ⟨J, unJ⟩ := hJ
    have hj : j < n := by rw [← hl]; exact (List.getElem?_eq_some_iff.mp hx).1
    obtain ⟨t, rfl⟩ := hu.2 j x (by rw [← Array.getElem?_toList]; exact hx)
    have rel : RelV (vN j) (.int (0 + (j : Int) * 1) t) := ⟨t, by congr 1; omega⟩
    have run := F.run X.A.in1.in1 X.stack s' (Hi j) _ (vN j) (fun v H' => v = vN (g j) ∧ H' = Hi j) ((hr.in1).in1) J.env0.in1.in1 unJ (.of (hs j)) rel ⟨j, rfl, hj, rfl, rfl⟩
    refine wpAny_bind (wpAny_attempt (wpAny_call (codeAny_mono run fun rr s'' hq => ?_)))
    match rr, hq with
    | .error e, hq => exact hq.elim
    | .ok .next, hq => exact hq.elim
    | .ok .brk, hq => exact hq.elim
    | .ok .cont, hq => exact hq.elim
    | .ok (.ret u), ⟨v, H', os', bare', un', hok', rv, hv, hH'⟩ =>
      subst hv hH'
      have J2 : Inv X pins σ (Hi j) s'' := J.call' os' un' hok' bare' (fun b z => absurd z (by simp))
      have un2 := unJ.trans un'
      obtain ⟨hz, its, ne, rvs, ho⟩ := J2.hok kS _ (hik j)
      have hln : its.length = j := by rw [← rvs.length]; simp
      dsimp only
      refine wpAny_bind (listUpdate_at ho rfl (wpAny_pure ⟨rfl, ?_⟩) (by simp [hln, sizeLine_eq]; omega) (by simp [hln, sizeLine_eq]; omega))
      have ho' := get?_update_seq (c := "list") ho (fun xs => xs.push u)
      have kp : ∀ b o, b ≠ kS → s''.heap.get? b = some o → (s''.heap.update kS (Obj.mapSeq fun xs => xs.push u)).get? b = some o := fun b o hb q => by rw [Heap.get?_update_ne _ _ _ _ hb]; exact q
      have eH : Hi (j + 1) = upd (Hi j) kS (.lst (((List.range j).map g).map vN ++ [vN (g j)])) := by
        show upd _ kS _ = upd (upd _ kS _) kS _
        rw [upd_upd, List.range_succ, List.map_append, List.map_append]
        rfl
      have new : ObjOk X.prog X.w (upd (Hi j) kS (.lst (((List.range j).map g).map vN ++ [vN (g j)]))) (s''.heap.update kS (Obj.mapSeq fun xs => xs.push u)) kS (.lst (((List.range j).map g).map vN ++ [vN (g j)])) := by
        have ea : its.toArray.push u = (its ++ [u]).toArray := by simp
        have ho2 := ho'
        rw [ea] at ho2
        exact ⟨by simp [sizeLine_eq]; omega, its ++ [u], _, rvs.append (.cons rv .nil), ho2⟩
      rw [eH]
      exact ⟨J2.write (e := kS) (t' := s''.toks) (by rw [hik]; trivial) (.inl rfl) kp ⟨_, ho'⟩ new, un2.trans (Un.write (by rw [hik]; trivial) (.inl rfl) kp ⟨_, ho'⟩)⟩
  · intro s' hJ
    obtain ⟨J, unJ⟩ := hJ
    rw [Nat.zero_add, hl] at J unJ
    obtain ⟨hz, its, ne, rvs, ho⟩ := J.hok kS _ (hik n)
    have ha : s'.heap.get? a = some (seqObj "list" #[] e1) := (J.hok a _ (hia n)).1
    refine wpAny_bind (listItems_at ho rfl ?_)
    have hi := ints_of_vals rvs
    have q := key_end (prog := X.prog) (w := X.w) (A := X.A.in1.in1) (E := E) (P := P) (vs := acc.toList) (keys := its.toArray) (kz := ((List.range n).map g).map fun k : Nat => (k : Int)) (e := ne) (e1 := e1) ho ha hka (by simpa using hi) (by simp [hu.1]) (by rw [hl]; exact hn) fun out ko => ?_
    · rw [Array.toArray_toList] at q
      exact q
    · obtain ⟨os, p1, p2, p3⟩ := key_out hu ko
      have h1 := get?_update_seq (c := "list") ho (fun _ => (#[] : Array Value))
      have ha1 : (s'.heap.update kS (Obj.mapSeq fun _ => (#[] : Array Value))).get? a = some (seqObj "list" #[] e1) := by rw [Heap.get?_update_ne _ _ _ _ (Ne.symm hka)]; exact ha
      have h2 := get?_update_seq (c := "list") ha1 (fun _ => out)
      have J1 := J.write (x := kS) (e := kS) (o := .lst []) (t' := s'.toks) (h' := s'.heap.update kS (Obj.mapSeq fun _ => (#[] : Array Value))) (by rw [hik]; trivial) (.inl rfl) (fun b o hb q => by rw [Heap.get?_update_ne _ _ _ _ hb]; exact q) ⟨_, h1⟩
        ⟨Nat.zero_le _, [], _, .nil, h1⟩
      have aH : upd (Hi n) kS (.lst []) a = some (.ext fun h => h.get? a = some (seqObj "list" #[] e1)) := by rw [upd_ne (Ne.symm hka)]; exact hia n
      have hol : os.length = n := by rw [p1.length_eq, List.length_range]
      have J2 := J1.write (x := a) (e := a) (o := .lst (os.map vN)) (t' := s'.toks) (h' := endHeap s'.heap kS a out) (by rw [aH]; trivial) (.inl rfl) (fun b o hb q => by
          show (Heap.update _ a _).get? b = _
          rw [Heap.get?_update_ne _ _ _ _ hb]; exact q) ⟨_, h2⟩ ⟨by rw [List.length_map, hol, sizeLine_eq]; omega, out.toList, _, p3, by rw [Array.toArray_toList]; exact h2⟩
      refine h _ _ os J2 (fun b o q => ?_) upd_same p1 p2
      rw [upd_ne (ne_of_none q h0a), upd_ne (ne_of_none q h0k)]
      exact hs n b o q
theorem boot_sorted3 : bootBuiltins "sorted" = some (.builtin "sorted") := by decide +kernel
def tSortKey (X : Cx) (T : List (Addr × Str)) (k : Nat) (te tl : TE) : TE := fun σ H Q => te σ H fun v H1 => tl σ H1 fun vf H2 => ∃ (r f : Addr) (n : Nat) (g : Nat → Nat), v = .ref r ∧ vf = .ref f ∧ H2 r = some (.rng 0 n) ∧ n < 64 ∧
  (∀ pins s, Inv X pins σ H2 s → FV X.prog X.w X.K X.mg X.base T k X.stack s H2 f (spKey n g)) ∧
  ∀ (H3 : Hp) (p : Addr) (os : List Nat), (∀ a o, H2 a = some o → H3 a = some o) → H2 p = none → H3 p = some (.lst (os.map vN)) → os.Perm (List.range n) → os.Pairwise (fun x y => g x ≤ g y) → Q (.ref p) H3
theorem pe_sortKey {p pos kpos : Pos} {e l : Expr} {te tl : TE} (hr : Room (k + 2) X.A) (hg : Gl X "sorted") (hm : X.mg "sorted" = none) (he : PE X e te) (hl : PE X l tl)
    (hst : starEach [e] X.env = [(false, eval e X.env)] := by rfl) (hall : (backToKw pos (keywordEach [⟨some "key", l, kpos⟩] X.env)).all (·.1.isSome) = true := by rfl)
    (hks : (backToKw pos (keywordEach [⟨some "key", l, kpos⟩] X.env)).filterMap (·.1) = [Str.ofString "key"] := by rfl) : PE X (.Call (.Name "sorted" p) [e] [⟨some "key", l, kpos⟩] pos) (tSortKey X T k te tl) := by
  intro pins s σ H Q I h
  refine wpAny_Call_Name_kw (ld_blt I hg hm boot_sorted3 ?_ (by decide) (by decide))
  refine callWith_kw (thn ((pa_cons he pa_nil hst) pos pins s σ H _ I (show (tCons te tNil) σ H (fun vs H1 => ∃ v, vs = [v] ∧ tl σ H1 fun vf H2 => ∃ (r f : Addr) (n : Nat) (g : Nat → Nat), v = .ref r ∧ vf = .ref f ∧ H2 r = some (.rng 0 n) ∧ n < 64 ∧
      (∀ pins s, Inv X pins σ H2 s → FV X.prog X.w X.K X.mg X.base T k X.stack s H2 f (spKey n g)) ∧
      ∀ (H3 : Hp) (p : Addr) (os : List Nat), (∀ a o, H2 a = some o → H3 a = some o) → H2 p = none → H3 p = some (.lst (os.map vN)) → os.Perm (List.range n) → os.Pairwise (fun x y => g x ≤ g y) → Q (.ref p) H3) from ?_)) fun us s1 ⟨vs, H1, I1, r1, v, hv, q1⟩ => ?_) (by rw [hst]; rfl) (by rw [hst]; rfl) hall rfl
  · have e1 : ∀ (A B : VK), (∀ x H, A x H ↔ B x H) → te σ H A → te σ H B := fun A B ab ha => by
      have : A = B := by funext x H'; exact propext (ab x H')
      rw [← this]; exact ha
    exact e1 _ _ (fun x H' => ⟨fun q => ⟨x, rfl, q⟩, fun ⟨v, ev, q⟩ => by cases ev; exact q⟩) h
  · subst hv
    obtain ⟨u, rfl, ru⟩ := vals1 r1
    have e2 : (backToKw pos (keywordEach [⟨some "key", l, kpos⟩] X.env)).map (·.2) = (backToKw pos (keywordEach [⟨some "key", l, kpos⟩] X.env)).map (·.2) := rfl
    refine thn ((pk_cons (nm := some "key") (kpos := kpos) hl pk_nil) pos pins s1 σ H1 _ I1 (show (tCons tl tNil) σ H1 (fun vs H2 => ∃ vf, vs = [vf] ∧ ∃ (r f : Addr) (n : Nat) (g : Nat → Nat), v = .ref r ∧ vf = .ref f ∧ H2 r = some (.rng 0 n) ∧ n < 64 ∧
      (∀ pins s, Inv X pins σ H2 s → FV X.prog X.w X.K X.mg X.base T k X.stack s H2 f (spKey n g)) ∧
      ∀ (H3 : Hp) (p : Addr) (os : List Nat), (∀ a o, H2 a = some o → H3 a = some o) → H2 p = none → H3 p = some (.lst (os.map vN)) → os.Perm (List.range n) → os.Pairwise (fun x y => g x ≤ g y) → Q (.ref p) H3) from ?_)) fun ws s2 ⟨ys, H2, I2, r2, vf, hvf, q2⟩ => ?_
    · have e1 : ∀ (A B : VK), (∀ x H, A x H ↔ B x H) → tl σ H1 A → tl σ H1 B := fun A B ab ha => by
        have : A = B := by funext x H'; exact propext (ab x H')
        rw [← this]; exact ha
      exact e1 _ _ (fun x H' => ⟨fun q => ⟨x, rfl, q⟩, fun ⟨v, ev, q⟩ => by cases ev; exact q⟩) q1
    · subst hvf
      obtain ⟨u2, rfl, ru2⟩ := vals1 r2
      obtain ⟨r, f, n, g, rfl, rfl, hrn, hn, hF, hQ⟩ := q2
      have eu : u = .ref r := ru
      have eu2 : u2 = .ref f := ru2
      subst eu eu2
      rw [hks]
      show wpAny _ _ (call (.builtin "sorted") [.ref r] [(Str.ofString "key", .ref f)]) _ _ s2
      refine call_function_entry_kw kind_sorted plain_sorted entry_sorted (ksk_s1 _ _) ?_
      unfold Builtin.«sorted»
      obtain ⟨t, u, v, er⟩ := (show ObjOk X.prog X.w H2 s2.heap r (.rng 0 n) from I2.hok r _ hrn)
      obtain ⟨f1, f2, f3⟩ := rng_facts (n := n) (by omega)
      refine wpAny_bind (m := checkCount "sorted" 1 1 _) (wpAny_pure (wpAny_bind (collectZ (A := X.A.in1) hr.hd er f1 f2 f3 fun h1 tk acc hk1 hge hu => ?_)))
      have hsz : acc.toList.length = n := by rw [Array.length_toList]; exact hu.1
      refine wpAny_bind (wpAny_newList ?_ (by rw [hsz, sizeLine_eq]; omega))
      have hoL : (h1.push (seqObj "list" acc.toList.toArray 0)).get? h1.objs.size = some (seqObj "list" acc.toList.toArray 0) := Heap.get?_push_size _ rfl
      refine wpAny_bind (wpAny_holding (wpAny_call_entry_kw slot_list_sort ⟨_, hoL, rfl⟩ entry_list_sort ?_ (ksk_l1 _ _)))
      show wpAny (model X.prog X.w) X.A.in1.in1 (Builtin.«list.sort» ⟨[.ref h1.objs.size], [(Str.ofString "key", .ref f)]⟩) _ _ _
      rw [ksk_t1]
      have hkp1 : ∀ b o, s2.heap.get? b = some o → h1.get? b = some o := hk1
      have ne_a : ∀ {b o}, s2.heap.get? b = some o → b ≠ h1.objs.size := fun q => Nat.ne_of_lt (Heap.lt_size (hk1 _ _ q))
      obtain ⟨e1, ho1⟩ : ∃ e1, ((h1.push (seqObj "list" acc.toList.toArray 0)).update h1.objs.size (Obj.mapSeq fun _ => (#[] : Array Value))).get? h1.objs.size = some (seqObj "list" #[] e1) := ⟨_, get?_update_seq hoL (fun _ => #[])⟩
      have k3 : ∀ b o, s2.heap.get? b = some o → ((h1.push (seqObj "list" acc.toList.toArray 0)).update h1.objs.size (Obj.mapSeq fun _ => (#[] : Array Value))).get? b = some o := fun b o q => by
        rw [Heap.get?_update_ne _ _ _ _ (ne_a q)]
        exact Heap.get?_push_of_some _ (hk1 b o q)
      have I3 := I2.laid (a := h1.objs.size) (o := .ext fun h => h.get? h1.objs.size = some (seqObj "list" #[] e1)) (t' := tk) k3 hge ⟨ho1, ⟨_, ho1⟩, fun _ _ p k => k _ p⟩
      have n2a : H2 h1.objs.size = none := I2.hok.fresh hge
      unfold ksk_tree
      refine wpAny_bind (listItems_at hoL rfl (wpAny_bind (listUpdate_at hoL rfl (wpAny_bind (seqEpoch_at ho1 rfl ?_)) (by simp [hu.1, sizeLine_eq]; omega) (Nat.zero_le _))))
      refine wpAny_bind (wpAny_newTuple (wpAny_bind (wpAny_newList (wpAny_holding ?_) (Nat.zero_le _))) (by simp [hu.1, sizeLine_eq]; omega))
      let h3 := (h1.push (seqObj "list" acc.toList.toArray 0)).update h1.objs.size (Obj.mapSeq fun _ => (#[] : Array Value))
      have hkz : h3.objs.size = h1.objs.size + 1 := by
        show (Heap.update _ _ _).objs.size = _
        rw [Heap.size_update, size_push']
      have ek : (h3.push (seqObj "tuple" acc.toList.toArray 0)).objs.size = h1.objs.size + 2 := by rw [size_push', hkz]
      have I4 := I3.laid (a := (h3.push (seqObj "tuple" acc.toList.toArray 0)).objs.size) (o := .lst []) (t' := tk) (h' := (h3.push (seqObj "tuple" acc.toList.toArray 0)).push (seqObj "list" #[] 0))
        (fun b o q => Heap.get?_push_of_some _ (Heap.get?_push_of_some _ q)) (by rw [ek]; show h3.objs.size ≤ _; rw [hkz]; omega) ⟨Nat.zero_le _, [], 0, .nil, Heap.get?_push_size _ rfl⟩
      have n2k : H2 (h3.push (seqObj "tuple" acc.toList.toArray 0)).objs.size = none := I2.hok.fresh (by rw [ek]; omega)
      have kne : (h3.push (seqObj "tuple" acc.toList.toArray 0)).objs.size ≠ h1.objs.size := by rw [ek]; omega
      have un : Un (frs X.stack) [] H2 (upd (upd H2 h1.objs.size (.ext fun h => h.get? h1.objs.size = some (seqObj "list" #[] e1))) (h3.push (seqObj "tuple" acc.toList.toArray 0)).objs.size (.lst [])) s2.heap ((h3.push (seqObj "tuple" acc.toList.toArray 0)).push (seqObj "list" #[] 0)) :=
        (Un.laid (h' := h3) k3 hge n2a).trans (Un.laid (fun b o q => Heap.get?_push_of_some _ (Heap.get?_push_of_some _ q)) (by rw [ek]; show h3.objs.size ≤ _; rw [hkz]; omega) (by rw [upd_ne kne]; exact n2k))
      rw [Array.toArray_toList]
      refine key_loop hr (hF pins s2 I2) hn hu rfl n2a n2k kne (by rw [← Array.toArray_toList (xs := acc)]; exact I4) (by rw [← Array.toArray_toList (xs := acc)]; exact un) fun s' H' os J hs hD p1 p2 => ⟨.none, rfl, wpAny_pure ⟨_, rfl, ?_⟩⟩
      exact ⟨.ref h1.objs.size, H', J, rfl, hQ H' _ os hs n2a hD p1 p2⟩
end
end L2
set_option Elab.async false
set_option linter.all false
set_option maxRecDepth 100000
set_option maxHeartbeats 2000000
namespace L2
open PySem PySem.Spec PyProof.Rows L3
abbrev dN (k : Nat) : PyData := .int (k : Int)
def dRowT (r : List Nat) : PyData := .tuple (r.map dN)
def dSg (g : Sgn) : PyData := .tuple [dN g.1, .tuple (g.2.map dRowT)]
def dSgs (l : List Sgn) : PyData := .list (l.map dSg)
def dLook (l : List (List Sgn)) : PyData := .list (l.map dSgs)
theorem eqvAll_map {α : Type} [DecidableEq α] {f : α → PyData} (h : ∀ a b, PyData.eqv (f a) (f b) = decide (a = b)) : ∀ xs ys : List α, PyData.eqvAll (xs.map f) (ys.map f) = decide (xs = ys)
  | [], [] => rfl
  | [], _ :: _ => rfl
  | _ :: _, [] => rfl
  | x :: xs, y :: ys => by
    rw [List.map_cons, List.map_cons, PyData.eqvAll, h, eqvAll_map h xs ys]
    by_cases e : x = y
    · subst e
      simp
    · simp [e]
theorem eqv_dN (a b : Nat) : PyData.eqv (dN a) (dN b) = decide (a = b) := by
  show ((a : Int) == (b : Int)) = _
  by_cases e : a = b
  · subst e; simp
  · rw [decide_eq_false e]
    have e2 : ¬ (a : Int) = (b : Int) := fun q => e (Int.ofNat.inj q)
    simpa using e2
theorem eqv_dRowT (a b : List Nat) : PyData.eqv (dRowT a) (dRowT b) = decide (a = b) := by
  show PyData.eqvAll _ _ = _
  exact eqvAll_map eqv_dN a b
theorem eqv_dSg (a b : Sgn) : PyData.eqv (dSg a) (dSg b) = decide (a = b) := by
  show PyData.eqvAll _ _ = _
  rw [PyData.eqvAll, PyData.eqvAll, PyData.eqvAll, eqv_dN]
  have e : PyData.eqv (.tuple (a.2.map dRowT)) (.tuple (b.2.map dRowT)) = decide (a.2 = b.2) := eqvAll_map eqv_dRowT a.2 b.2
  rw [e]
  obtain ⟨a1, a2⟩ := a
  obtain ⟨b1, b2⟩ := b
  by_cases h1 : a1 = b1 <;> by_cases h2 : a2 = b2 <;> simp [h1, h2]
theorem eqv_dSgs (a b : List Sgn) : PyData.eqv (dSgs a) (dSgs b) = decide (a = b) := eqvAll_map eqv_dSg a b
theorem eqv_dLook (a b : List (List Sgn)) : PyData.eqv (dLook a) (dLook b) = decide (a = b) := eqvAll_map eqv_dSgs a b
theorem shape_map {α : Type} {f : α → PyData} {k : Nat} (h : ∀ a, PyData.canLay0 (f a) = true ∧ PyData.depth (f a) ≤ k) (hk : 1 ≤ k) : ∀ xs : List α, PyData.canLayAll0 (xs.map f) = true ∧ PyData.depthAll (xs.map f) ≤ k
  | [] => ⟨rfl, by simp [PyData.depthAll]⟩
  | x :: xs => by
    obtain ⟨h1, h2⟩ := shape_map h hk xs
    obtain ⟨h3, h4⟩ := h x
    rw [List.map_cons]
    simp only [PyData.canLayAll0, PyData.depthAll, h1, h3, Bool.and_true, true_and]
    omega
theorem shape_dN (a : Nat) : PyData.canLay0 (dN a) = true ∧ PyData.depth (dN a) ≤ 1 := by simp [PyData.canLay0, PyData.depth]
theorem shape_dRowT (r : List Nat) : PyData.canLay0 (dRowT r) = true ∧ PyData.depth (dRowT r) ≤ 2 := by
  obtain ⟨h1, h2⟩ := shape_map shape_dN (Nat.le_refl 1) r
  unfold dRowT
  simp only [PyData.canLay0, PyData.depth, h1, true_and]
  omega
theorem shape_dSg (g : Sgn) : PyData.canLay0 (dSg g) = true ∧ PyData.depth (dSg g) ≤ 4 := by
  obtain ⟨h1, h2⟩ := shape_map shape_dRowT (by decide) g.2
  unfold dSg
  simp only [PyData.canLay0, PyData.canLayAll0, PyData.depth, PyData.depthAll, h1, Bool.and_true, true_and]
  omega
theorem shape_dSgs (l : List Sgn) : PyData.canLay0 (dSgs l) = true ∧ PyData.depth (dSgs l) ≤ 5 := by
  obtain ⟨h1, h2⟩ := shape_map shape_dSg (by decide) l
  unfold dSgs
  simp only [PyData.canLay0, PyData.depth, h1, true_and]
  omega
theorem shaped_dLook (l : List (List Sgn)) : SeqAt.shaped (dLook l) = true := by
  obtain ⟨h1, h2⟩ := shape_map shape_dSgs (by decide) l
  unfold SeqAt.shaped dLook
  simp only [PyData.canLay0, PyData.depth, h1, Bool.true_and]
  exact decide_eq_true (by omega)
def SgsH (H : Hp) (l : List Sgn) (a : Addr) : Prop := ∃ ads, H a = some (.lst (ads.map V.ref)) ∧ Paired (SgH H) l ads
def LookH (H : Hp) (L : List (List Sgn)) (a : Addr) : Prop := ∃ ads, H a = some (.lst (ads.map V.ref)) ∧ Paired (SgsH H) L ads
section
variable {K : PySem.W.Frag} {H : Hp}
theorem dp_nats : ∀ r : List Nat, DpAll K H (r.map fun (k : Nat) => V.int (k : Int)) (r.map dN)
  | [] => .nil
  | k :: r => .cons (.int _) (dp_nats r)
theorem dp_all {α : Type} {F : α → Addr → Prop} {f : α → PyData} (h : ∀ x a, F x a → Dp K H (.ref a) (f x)) : ∀ {xs : List α} {ads : List Addr}, Paired F xs ads → DpAll K H (ads.map V.ref) (xs.map f)
  | _, _, .nil => .nil
  | _, _, .cons q t => .cons (h _ _ q) (dp_all h t)
theorem dp_row {r : List Nat} {a : Addr} (h : RowH H r a) : Dp K H (.ref a) (dRowT r) := .tup (SqT.of h) (dp_nats r)
theorem dp_sg {g : Sgn} {a : Addr} (h : SgH H g a) : Dp K H (.ref a) (dSg g) := by
  obtain ⟨b, cs, h1, h2, h3⟩ := h
  exact .tup (SqT.of h1) (.cons (.int _) (.cons (.tup (SqT.of h2) (dp_all (fun _ _ q => dp_row q) h3)) .nil))
theorem dp_sgs {l : List Sgn} {a : Addr} (h : SgsH H l a) : Dp K H (.ref a) (dSgs l) := by
  obtain ⟨ads, h1, h2⟩ := h
  exact .lst (SqL.of h1) (dp_all (fun _ _ q => dp_sg q) h2)
theorem dp_look {L : List (List Sgn)} {a : Addr} (h : LookH H L a) : Dp K H (.ref a) (dLook L) := by
  obtain ⟨ads, h1, h2⟩ := h
  exact .lst (SqL.of h1) (dp_all (fun _ _ q => dp_sgs q) h2)
theorem eq_look {x y : Addr} {L M : List (List Sgn)} {Q : VK} (h1 : LookH H L x) (h2 : LookH H M y) (q : Q (.bl (decide (L = M))) H) : rEqD K (.ref x) (.ref y) H Q :=
  ⟨_, _, dp_look h1, dp_look h2, shaped_dLook L, shaped_dLook M, by rw [eqv_dLook]; exact q⟩
end
section
variable {X : Cx}
def rCountN (K : PySem.W.Frag) : V → List V → Hp → VK → Prop := fun x xs H Q => ∃ (a : Addr) (ys : List V) (y : V), x = V.ref a ∧ xs = [y] ∧ SqL K H a ys ∧ flatV y = true ∧ ys.all flatV = true ∧ Q (.int ((ys.countP fun z => eqV z y : Nat) : Int)) H
theorem count_rel {y : V} : ∀ {ys : List V} {its : List Value}, Vals ys its → ys.all flatV = true → its.countP (eqU y) = ys.countP fun z => eqV z y
  | _, _, .nil, _ => rfl
  | z :: ys, u :: its, .cons q t, f => by
    rw [List.all_cons, Bool.and_eq_true] at f
    rw [List.countP_cons, List.countP_cons, count_rel t f.2, eqU_of q f.1]
theorem mt_countN : MtR X "list.count" (rCountN X.K) := by
  intro pins s σ H x xs v us Q I rx rxs h
  obtain ⟨a, ys, y, rfl, rfl, hs, fy, fys, q⟩ := h
  cases rx
  cases rxs with
  | cons ry rt =>
    rename_i uy ut
    cases rt
    obtain ⟨its, rv, ⟨⟨cls, dd, data, sl⟩, n, ho, hc, hdn, hd⟩, hlen⟩ := I.list hs
    simp only at hc hd
    subst hc hd
    have ec : its.toArray.toList.countP (eqU y) = ys.countP fun z => eqV z y := by
      rw [List.toList_toArray]
      exact count_rel rv fys
    refine call_meets PySem.F.slot_list_count ⟨_, ho, rfl⟩ PySem.F.entry_list_count (PySem.F.args_list_count_2 _ _)
      (SeqAt.list_countAt a its.toArray n dd sl uy (eqU y)) ⟨ho, fun u' hu' => mem_eqAt ry fy rv fys u' (by simpa using hu'), ?_⟩
    rw [ec]
    exact ⟨.int _, H, I.tok _, ⟨_, rfl⟩, q⟩
end
end L2
set_option Elab.async false
set_option linter.all false
set_option maxRecDepth 100000
set_option maxHeartbeats 2000000
namespace L2
open PySem PySem.Spec PyProof.Rows L3
open PySem.W (WData Codec OpenSpec Well WellAll ReadsW ReadsAllW)
mutual
theorem Dw.mono {K : PySem.W.Frag} {H H' : Hp} (k : ∀ a o, H a = some o → H' a = some o) : ∀ {v : V} {d : WData}, Dw K H v d → Dw K H' v d
  | _, _, .non => .non
  | _, _, .bl b => .bl b
  | _, _, .int i => .int i
  | _, _, .str x => .str x
  | _, _, .byt b => .byt b
  | _, _, .lst h t => .lst (h.imp (fun h => h.imp (k _ _) fun ⟨o, q⟩ => ⟨o, k _ _ q⟩) id) (DwAll.mono k t)
  | _, _, .tup h t => .tup (h.imp (fun h => h.imp (k _ _) fun ⟨o, q⟩ => ⟨o, k _ _ q⟩) id) (DwAll.mono k t)
theorem DwAll.mono {K : PySem.W.Frag} {H H' : Hp} (k : ∀ a o, H a = some o → H' a = some o) : ∀ {vs : List V} {ds : List WData}, DwAll K H vs ds → DwAll K H' vs ds
  | _, _, .nil => .nil
  | _, _, .cons h t => .cons (h.mono k) (DwAll.mono k t)
end
theorem spec_callT {P : Program} {w : World} {K : PySem.W.Frag} {mg mb : Str → Option Value} {k : Nat} {fa : Addr} {fd : FuncData} {ps : List Str} {sp : Sp} {s₁ : Shared} {vals : List Value} {ds : List WData} {R : PySem.W.WRecords} {cl : Str → Option Addr} {d0 : WData} {tabs : List (Addr × Addr)}
    (KX : K.In s₁.heap) (hns : s₁.heap.Ns mainGlobals mg) (hb : s₁.heap.Ns builtinsNs mb) (hbb : ∀ x : Str, x ≠ "__name__" → mb x = bootBuiltins x) (hlim : s₁.heap.NoLimit) (hg : s₁.gens = #[])
    (hbm : ∃ bm ob, mg "__builtins__" = some (.ref bm) ∧ bm ≠ builtinsNs ∧ s₁.heap.get? bm = some ob ∧ ob.cls = .type "module" ∧ ob.dict = some builtinsNs ∧ ob.data = .plain) (hT : PySem.W.TabsAt tabs s₁.heap) (hK0 : PySem.W.noTabs K = true)
    (hwl : WellAll w.params s₁.heap vals ds) (hpl : plWs ds = true) (hwt : ∀ d ∈ ds, d.weight ≤ 1048576) (hr : Room k callerA)
    (F : ∀ base : Heap, K.In base → base.Ns mainGlobals mg → (∀ q ∈ tabs, LamAt base mg q.1 q.2) → FnOk P w K mg base CX0 k fa fd ps sp) (hbind : ∀ (s : Shared) (us : List Value), us.length = ps.length → BindsTo s fd ⟨us, []⟩ (ps.zip us)) (hlen : ds.length = ps.length)
    (hsp : ∀ (H : Hp) (xs : List V), (∀ q ∈ tabs, H q.2 = some (.tbl #[])) → DwAll K H xs ds → sp xs H (fun v H' => Dw K H' v d0) fun _ _ _ => False) :
    codeAny (model P w) callerA (.call (.ref fa) ⟨vals, []⟩) (fun r s' => ∃ u as, r = .ok (.ret u) ∧ ReadsW R cl s'.heap u d0 as ∧ OldK s₁.heap s'.heap ∧ s'.os = s₁.os ∧ AllBare s'.gens) s₁ := by
  obtain ⟨A, ho, ar⟩ := area_all ds vals hwl hpl hwt
  have hO : OnlyF (argH K s₁.heap A) := argH_only ar
  have hok0 : HOk P w (argH K s₁.heap A) s₁.heap := argH_ok ar
  have hS0 := dw_all KX ar ds vals hwl hpl ho
  have hV := vals_toV ho
  have hK : ∀ b u, argH K s₁.heap A b = some u → K.lookup b = none := fun b u q => (argH_is ar q).1
  have isSeq : ∀ {b : Addr} {u : HO}, argH K s₁.heap A b = some u → ∃ (o : Obj) (xs : Array Value) (n : Nat), s₁.heap.get? b = some o ∧ o.data = .seq xs n := fun {b u} q => by
    obtain ⟨_, vs, _, _, ⟨e2, _⟩ | ⟨e2, _⟩⟩ := argH_is ar q
    · exact ⟨_, _, _, e2, rfl⟩
    · exact ⟨_, _, _, e2, rfl⟩
  generalize argH K s₁.heap A = G at hO hok0 hS0 hK isSeq
  let TP : List Addr := tabs.map (·.2)
  have tabAt : ∀ {b}, b ∈ TP → s₁.heap.get? b = some (PySem.W.tabObj #[]) ∧ ∃ c, PySem.W.CodeHd s₁.heap c b := fun {b} hb => by
    obtain ⟨q, hq, rfl⟩ := List.mem_map.mp hb
    exact ⟨(hT q hq).2, q.1, (hT q hq).1⟩
  let H : Hp := fun b => if b ∈ TP then some (.tbl #[]) else G b
  have hIn : ∀ {b}, b ∈ TP → H b = some (.tbl #[]) := fun {b} h => if_pos h
  have hOut : ∀ {b}, b ∉ TP → H b = G b := fun {b} h => if_neg h
  have nT : ∀ {b u}, G b = some u → b ∉ TP := fun {b u} q h => by
    obtain ⟨o, xs, n, e, d⟩ := isSeq q
    rw [(tabAt h).1] at e
    cases e
    cases d
  have GH : ∀ b u, G b = some u → H b = some u := fun b u q => by rw [hOut (nT q)]; exact q
  have none_of : ∀ {b}, H b = none → b ∉ TP ∧ G b = none := fun {b} h => by
    by_cases hb : b ∈ TP
    · rw [hIn hb] at h; cases h
    · rw [hOut hb] at h; exact ⟨hb, h⟩
  have hok : HOk P w H s₁.heap := fun b u q => by
    by_cases hb : b ∈ TP
    · rw [hIn hb] at q
      cases q
      exact (tabAt hb).1
    · rw [hOut hb] at q
      exact (hok0 b u q).stay (fun _ _ _ e => e) (fun c e => GH c _ e) fun c xs e => GH c _ e
  have noH : ∀ {b : Addr} {o : Obj}, s₁.heap.get? b = some o → (∀ xs n, o.data ≠ .seq xs n) → o ≠ PySem.W.tabObj #[] → H b = none := fun {b o} e d1 d2 => by
    have hb : b ∉ TP := fun hb => by
      rw [(tabAt hb).1] at e
      exact d2 (Option.some.inj e).symm
    rw [hOut hb]
    cases q : G b with
    | none => rfl
    | some u =>
      obtain ⟨o', xs, n, e', d⟩ := isSeq q
      rw [e] at e'
      cases e'
      exact (d1 xs n d).elim
  have base_of : ∀ {b : Addr} {o : Obj}, s₁.heap.get? b = some o → H b = none → (hidT s₁.heap H).get? b = some o := fun e n => hidT_get e n
  have nsK : ∀ {b : Addr} {m : Str → Option Value}, s₁.heap.Ns b m → (hidT s₁.heap H).Ns b m := fun {b m} ⟨o, es, ep, e, d, r⟩ => ⟨o, es, ep, base_of e (noH e (fun xs n q => by rw [d] at q; cases q) fun q => by rw [q] at d; cases d), d, r⟩
  have nK : ∀ b o, K.lookup b = some o → b ∉ TP ∧ H b = none := fun b o e => by
    have hb : b ∉ TP := fun hb => by
      have h1 := KX b o e
      rw [(tabAt hb).1] at h1
      have h2 := List.all_eq_true.mp hK0 (b, o) (PySem.W.mem_of_lookupK e)
      rw [← Option.some.inj h1] at h2
      exact absurd (show false = true from h2) Bool.false_ne_true
    refine ⟨hb, ?_⟩
    rw [hOut hb]
    cases q : G b with
    | none => rfl
    | some u => rw [hK b u q] at e; cases e
  have hKb : K.In (hidT s₁.heap H) := fun b o e => base_of (KX b o e) (nK b o e).2
  have hM : Mod K mg (hidT s₁.heap H) := ⟨hKb, nsK hns, ⟨mb, nsK hb, hbb⟩, let ⟨mc, h1, h2⟩ := hlim; ⟨mc, nsK h1, h2⟩⟩
  have hLam : ∀ q ∈ tabs, LamAt (hidT s₁.heap H) mg q.1 q.2 := fun q hq => by
    obtain ⟨o, vs, file, tf, flags, tg, inF, text, tt, e1, r1, r2, r3⟩ := (hT q hq).1
    have hP := (hT q hq).2
    obtain ⟨bm, ob, b1, b2, b3, b4, b5, b6⟩ := hbm
    obtain ⟨og, es, ep, g1, g2, g3⟩ := hns
    refine ⟨⟨o, vs, file, tf, flags, tg, inF, text, tt, base_of e1 (noH e1 (fun xs n z => by rw [r2] at z; cases z) fun z => by rw [z] at r1; cases r1), r1, r2, r3⟩,
      ⟨bm, ob, b1, b2, fun z => ?_, fun z => ?_, base_of b3 (noH b3 (fun xs n z => by rw [b6] at z; cases z) fun z => by rw [z] at b4; cases b4), b4, b5, b6⟩, fun z => ?_⟩
    · rw [z, g1] at b3; cases b3; rw [g2] at b6; cases b6
    · rw [z, hP] at b3; cases b3; cases b4
    · rw [z, hP] at g1; cases g1; cases g2
  have e0 : Env0 P w K mg (hidT s₁.heap H) callerA [] s₁ H := ⟨rfl, hM, fun b o e => of_hidT e, Nat.le_of_eq (hidT_size _ _), trivial, fun b hb => absurd (show b ∈ ([] : List Addr) from hb) (by simp), hok, .of_eq hg⟩
  have hl : vals.length = ps.length := by rw [wellAll_len hwl]; exact hlen
  refine codeAny_mono ((F _ hKb (nsK hns) hLam).run callerA [] s₁ H ⟨vals, []⟩ vals (vals.map toV) _ _ hr e0 (hbind s₁ vals hl) hV (hsp H _ (fun q hq => hIn (List.mem_map_of_mem hq)) (hS0.mono GH))) fun r s' x => ?_
  match r, x with
  | .error e, x => exact x.elim
  | .ok .next, x => exact x.elim
  | .ok .brk, x => exact x.elim
  | .ok .cont, x => exact x.elim
  | .ok (.ret u), ⟨v, H', os, bare, un, hok', r', q⟩ =>
    have kept : ∀ b o, b ∉ TP → s₁.heap.get? b = some o → s'.heap.get? b = some o := fun b o hb e => by
      cases q2 : H b with
      | none => exact un.keep b o e q2 (by intro z; exact absurd (show b ∈ ([] : List Addr) from z) (by simp)) (by simp)
      | some u2 =>
        rw [hOut hb] at q2
        rcases hO b with z | ⟨ob, u3, z⟩
        · rw [q2] at z; cases z
        · obtain ⟨e1, _⟩ := hok b _ (GH b _ z)
          obtain ⟨e2, _⟩ := hok' b _ (un.frzs b ob _ (GH b _ z))
          rw [e] at e1
          cases e1
          exact e2
    have grown : ∀ b, b ∈ TP → ∃ more, s'.heap.get? b = some (PySem.W.tabObj (#[] ++ more)) := fun b hb => by
      obtain ⟨more, z⟩ := un.tbls b #[] (hIn hb)
      exact ⟨more, hok' b _ z⟩
    have KX' : K.In s'.heap := fun b o e => kept b o (nK b o e).1 (KX b o e)
    obtain ⟨as, hrd⟩ := Dw.reads (R := R) (cl := cl) hok' KX' d0 v u q r'
    refine ⟨u, as, rfl, hrd, ⟨fun b o e => ?_, fun b o e => ?_⟩, os, bare⟩
    · by_cases hb : b ∈ TP
      · obtain ⟨hP, c, C⟩ := tabAt hb
        obtain ⟨more, z⟩ := grown b hb
        rw [hP] at e
        cases e
        exact .inr (.inl ⟨(C.tab hP).isCodeTable, rfl, #[], more, rfl, z⟩)
      · exact .inl (kept b o hb e)
    · by_cases hb : b ∈ TP
      · obtain ⟨more, z⟩ := grown b hb
        exact ⟨_, z⟩
      · exact ⟨o, kept b o hb e⟩
theorem walk_specT {r : OpenSpec} {k : Nat} {q : Program} {loose : List Str} {XP : (Str → Option Value) → Heap → Prop} {YP : World → Heap → Prop} {d : DefRec} {K : Params → PySem.W.Frag} {ps : List Str} {sp : PySem.W.Frag → Sp} {tabs : List (Addr × Addr)}
    (hwell : r.wellSaid = true) (hdf : d.params.defaults = []) (hlen : r.args.length = ps.length) (hr : Room k callerA)
    (hY : ∀ (w : World) (h : Heap), YP w h → (K w.params).In h) (hK0 : ∀ w : World, PySem.W.noTabs (K w.params) = true)
    (hT : ∀ (w : World) (loose : List Str) (mean : ExcName → Option Value) (mg mb : Str → Option Value) (h : Heap), Top q loose mean mg mb h → (K w.params).In h → PySem.W.TabsAt tabs h)
    (F : ∀ (w : World) (mg : Str → Option Value) (fa : Addr) (h : Heap), YP w h → (K w.params).In h → h.Ns mainGlobals mg → mg d.name = some (.ref fa) →
      ∃ fd : FuncData, (∀ (s : Shared) (us : List Value), us.length = ps.length → BindsTo s fd ⟨us, []⟩ (ps.zip us)) ∧
        ∀ base : Heap, (K w.params).In base → base.Ns mainGlobals mg → (∀ q ∈ tabs, LamAt base mg q.1 q.2) → FnOk r.prog w (K w.params) mg base CX0 k fa fd ps (sp (K w.params)))
    (hsp : ∀ (K : PySem.W.Frag) (H : Hp) (xs : List V) (a : Codec.denoteAll r.args), (∀ q ∈ tabs, H q.2 = some (.tbl #[])) → Codec.withinAll r.args a = true → Codec.app r.args r.asked a = true → DwAll K H xs (Codec.encAll r.args a) →
      sp K xs H (fun v H' => Dw K H' v (r.ret.enc (Codec.app r.args r.f a))) fun _ _ _ => False) :
    PySem.W.WalkOS q loose XP YP r d [] (fun f vs => PySem.call f vs) := by
  intro w s_0 s₁ mg mb G Y fa o pm cd doc dV kV ho hd hcd hD hmg hg args vals as hpre hlay hrd hwl hlo
  obtain ⟨a, e1, e2⟩ := PySem.W.os_pre_some hpre
  obtain ⟨e3, hwi⟩ := Codec.encAll_of_decAll r.args args a e1
  subst e3
  have KX := hY w _ Y
  obtain ⟨fd, hb, hF⟩ := F w mg fa _ Y KX G.T.g hmg
  refine PySem.W.enter_call (codeAny_mono (spec_callT (R := []) (cl := classAt s_0.heap) (d0 := r.ret.enc (Codec.app r.args r.f a)) KX G.T.g G.T.b G.T.builtins G.T.nolimit hg G.T.bmain (hT w _ _ mg mb _ G.T KX) (hK0 w) hwl (pl_encAll _ _) (layable_weight hlay) hr hF hb (by rw [encAll_len]; exact hlen)
    (fun H xs h0 hS => hsp (K w.params) H xs a h0 hwi e2 hS)) fun r' s' hq => ?_)
  obtain ⟨u, as', rfl, h1, h2, h3, h4⟩ := hq
  exact ⟨.inl ⟨u, _, as', rfl, fun _ => rfl, h1, (OpenSpec.post_iff hwell hwi _ _).mpr rfl, fun z => Bool.noConfusion (show false = true from z)⟩, h2, h3, h4⟩
end L2
set_option Elab.async false
set_option linter.all false
set_option maxRecDepth 100000
set_option maxHeartbeats 2000000
namespace My
open PySem PySem.Spec PyProof.Rows L2
open PySem.W (Codec)
def top (i : Nat) : Stmt := PySem.Challenge.pw_turningthings_s05_same.main.body.getD i (.Pass ⟨0, 0, 0, 0⟩)
abbrev sTurned : Stmt := top 7
abbrev sToa : Stmt := top 8
abbrev sBelow : Stmt := top 9
abbrev sKeep : Stmt := top 10
abbrev sMerge : Stmt := top 11
abbrev sAre : Stmt := top 12
abbrev sIs : Stmt := top 13
abbrev vi (k : Nat) : V := .int (My.cast k)
abbrev tn (n : Nat) (T : List Nat) (x y : Nat) : Nat := Rd12.Table.turn ⟨n, T⟩ x y
theorem vi_zero (i : Nat) : V.int (0 + (i : Int)) = vi i := by rw [Int.zero_add]; rfl
theorem vi_inj {a b : Nat} : vi a = vi b ↔ a = b := by
  constructor
  · intro h
    have e : (a : Int) = (b : Int) := V.int.inj h
    omega
  · intro h; rw [h]
theorem vi_at {T : List Nat} {i : Nat} {y : V} (h : (T.map vi)[i]? = some y) : ∃ z, T[i]? = some z ∧ y = vi z := by
  rw [List.getElem?_map] at h
  cases e : T[i]? with
  | none => rw [e] at h; cases h
  | some z => rw [e] at h; exact ⟨z, rfl, (Option.some.inj h).symm⟩
theorem vi_get {T : List Nat} {i z : Nat} (h : T[i]? = some z) : (T.map vi)[i]? = some (vi z) := by
  rw [List.getElem?_map, h]
  rfl
theorem map_vi (l : List Nat) : l.map vi = (l.map My.cast).map V.int := by
  rw [List.map_map]
  rfl
theorem mem_take_succ {T : List Nat} {i z w : Nat} (h : T[i]? = some z) (m : w ∈ T.take (i + 1)) : w ∈ T.take i ∨ w = z := by
  rw [List.take_add_one, h] at m
  rcases List.mem_append.mp m with q | q
  · exact .inl q
  · exact .inr (by simpa using q)
theorem dcount_cast (l : List Nat) : (metInts (l.map My.cast)).length = l.eraseDups.length := by
  have inj : ∀ {m : List Nat}, m.Nodup → (m.map My.cast).Nodup := fun {m} h => by
    refine List.pairwise_map.mpr (List.Pairwise.imp ?_ h)
    intro a b hab e
    have e : (a : Int) = (b : Int) := e
    omega
  rw [nodup_len_eq (metInts_nodup _) (inj (nodup_erase l)) fun k => ?_, List.length_map]
  rw [metInts_mem, List.mem_map, List.mem_map]
  exact ⟨fun ⟨a, h, e⟩ => ⟨a, List.mem_eraseDups.mpr h, e⟩, fun ⟨a, h, e⟩ => ⟨a, List.mem_eraseDups.mp h, e⟩⟩
theorem new_same {H : Hp} {p : Addr} {o : HO} (h : H p = none) : Same H (upd H p o) := fun b u e => by
  rw [upd_ne (ne_of_none e h)]
  exact e
def spTurned (K : PySem.W.Frag) : Sp := fun vs H Q _ => ∃ (a : Addr) (n : Nat) (T : List Nat) (x y : Nat), vs = [vi n, .ref a, vi x, vi y] ∧ SqL K H a (T.map vi) ∧ n ≤ 16 ∧ x * n + y < T.length ∧ Q (vi (tn n T x y)) H
def spBelow (K : PySem.W.Frag) : Sp := fun vs H Q _ => ∃ (a : Addr) (n : Nat) (T : List Nat), vs = [vi n, .ref a] ∧ SqL K H a (T.map vi) ∧ Q (.bl (T.all fun v => decide (v < n))) H
def spKeep (K : PySem.W.Frag) : Sp := fun vs H Q _ => ∃ (a : Addr) (n : Nat) (T : List Nat), vs = [vi n, .ref a] ∧ SqL K H a (T.map vi) ∧ n ≤ 16 ∧ T.length = n * n ∧ Q (.bl (Rd12.all n fun x => tn n T x x == x)) H
def spMerge (K : PySem.W.Frag) : Sp := fun vs H Q _ => ∃ (a : Addr) (n : Nat) (T : List Nat), vs = [vi n, .ref a] ∧ SqL K H a (T.map vi) ∧ n ≤ 16 ∧ T.length = n * n ∧ ∀ H', Same H H' → Q (.bl (Rd12.all n fun x => noMerge n T x)) H'
def spIs (K : PySem.W.Frag) : Sp := fun vs H Q _ => ∃ (a : Addr) (n : Nat) (T : List Nat) (x y : Nat), vs = [vi n, .ref a, vi x, vi y] ∧ SqL K H a (T.map vi) ∧ n ≤ 16 ∧ T.length = n * n ∧ (∀ v ∈ T, v < n) ∧ x < n ∧ y < n ∧
  Q (.bl (Rd12.all n fun z => tn n T x (tn n T y z) == tn n T (tn n T x y) (tn n T x z))) H
def spAre (K : PySem.W.Frag) : Sp := fun vs H Q _ => ∃ (a : Addr) (n : Nat) (T : List Nat), vs = [vi n, .ref a] ∧ SqL K H a (T.map vi) ∧ n ≤ 16 ∧ T.length = n * n ∧ (∀ v ∈ T, v < n) ∧
  Q (.bl (Rd12.all n fun x => Rd12.all n fun y => Rd12.all n fun z => tn n T x (tn n T y z) == tn n T (tn n T x y) (tn n T x z))) H
def spToa (K : PySem.W.Frag) : Sp := fun vs H Q _ => ∃ (a : Addr) (n : Nat) (T : List Nat), vs = [vi n, .ref a] ∧ SqL K H a (T.map vi) ∧ 1 ≤ n ∧ n ≤ 16 ∧ T.length = n * n ∧ ∀ H', Same H H' → Q (.bl (Rd12.isTurns ⟨n, T⟩)) H'
structure Def (K : PySem.W.Frag) (mg : Str → Option Value) (x : Str) (st : Stmt) (ps : List Str) (f : Addr) (fd : FuncData) : Prop where
  fn : Fun K x x st f fd
  mg : mg x = some (.ref f)
  bd : Binds K fd ps []
structure Blt (mg : Str → Option Value) : Prop where
  range : mg "range" = none
  len : mg "len" = none
  set : mg "set" = none
  min : mg "min" = none
  tuple : mg "tuple" = none
  reversed : mg "reversed" = none
section
variable {P : Program} {w : World} {K : PySem.W.Frag} {mg : Str → Option Value} {base : Heap}
theorem scT : FnScope ["n", "t", "x", "y"] ["n", "t", "x", "y"] (defScope sTurned) := ⟨rfl, rfl, rfl, by decide +kernel, rfl, by decide +kernel, by decide +kernel⟩
theorem ok_turned {f : Addr} {fd : FuncData} (F : Fun K "turned" "turned" sTurned f fd) : FnOk P w K mg base CX0 1 f fd ["n", "t", "x", "y"] (spTurned K) := by
  refine F.ok scT (fun vs H Q E h => ?_) (fun cdv A outer s H vs Q E hr h => ?_)
  · obtain ⟨a, n, T, x, y, rfl, _⟩ := h
    rfl
  · obtain ⟨a, n, T, x, y, rfl, hS, hn, hl, k⟩ := h
    refine ⟨_, pss_one (ps_ret (pe_ix ix_list (pv 1) (pe_op op_add (pe_op op_mul (pv 2) (pv 0)) (pv 3)) (fun _ _ => rfl))), ?_⟩
    refine ⟨_, rfl, _, rfl, _, rfl, _, _, rfl, rfl, .inr ⟨?_, ?_⟩, _, rfl, _, _, rfl, rfl, a, T.map vi, _, vi (tn n T x y), rfl, rfl, hS, at_of (j := x * n + y) ?_ (vi_get (turn_at hl)), k⟩
    · show -(2 ^ 64) < (n : Int); omega
    · show (n : Int) < 2 ^ 64; omega
    · show (x : Int) * (n : Int) + (y : Int) = ((x * n + y : Nat) : Int)
      rw [Int.natCast_add, Int.natCast_mul]
theorem scB : FnScope ["n", "t", "z"] ["n", "t"] (defScope sBelow) := ⟨rfl, rfl, rfl, by decide +kernel, rfl, by decide +kernel, by decide +kernel⟩
theorem ok_below {f : Addr} {fd : FuncData} (F : Fun K "all_below" "all_below" sBelow f fd) : FnOk P w K mg base CX0 1 f fd ["n", "t"] (spBelow K) := by
  refine F.ok scB (fun vs H Q E h => ?_) (fun cdv A outer s H vs Q E hr h => ?_)
  · obtain ⟨a, n, T, rfl, _⟩ := h
    rfl
  · obtain ⟨a, n, T, rfl, hS, k⟩ := h
    refine ⟨_, pss_cons (ps_for PassesOwn.never rfl (pi_list (pv 1)) (pg_name (i := 2) scB.nd rfl (Or.inl rfl)) (pss_one (ps_if (pt_cmpR op_ge (pv 2) (pv 0) (nomark _)) (pss_one (ps_ret pe_bl)) pss_nil))) (pss_one (ps_ret pe_bl)), ?_⟩
    refine ⟨_, rfl, a, rfl, ⟨_, hS⟩, for_list (K := K) (a := a) (xs := T.map vi) (fun i σ H' => ∃ v : Option V, σ = [some (vi n), some (.ref a), v] ∧ H' = H ∧ ∀ z ∈ T.take i, z < n)
      ⟨none, rfl, rfl, fun z h => by simp at h⟩ (fun i σ H' _ ⟨_, _, e, _⟩ => by rw [e]; exact hS) ?_ ?_⟩
    · rintro i y σ H' hi ⟨v, rfl, rfl, hb⟩
      obtain ⟨z, hz, rfl⟩ := vi_at hi
      refine ⟨_, rfl, _, rfl, _, _, rfl, rfl, _, rfl, ite2 (fun h => ?_) (fun h => ?_)⟩
      · have h : (n : Int) ≤ (z : Int) := of_decide_eq_true h
        have e : (T.all fun v => decide (v < n)) = false := by
          cases q : T.all fun v => decide (v < n) with
          | false => rfl
          | true =>
            have := of_decide_eq_true (List.all_eq_true.mp q z (List.mem_of_getElem? hz))
            omega
        rw [e] at k
        exact k
      · have h : ¬ (n : Int) ≤ (z : Int) := fun q => h (decide_eq_true q)
        refine ⟨_, rfl, rfl, fun u hu => ?_⟩
        rcases mem_take_succ hz hu with q | q
        · exact hb u q
        · rw [q]; omega
    · rintro σ H' ⟨v, rfl, rfl, hb⟩
      rw [List.length_map, List.take_length] at hb
      have e : (T.all fun v => decide (v < n)) = true := List.all_eq_true.mpr fun z hz => decide_eq_true (hb z hz)
      rw [e] at k
      exact k
theorem scK : FnScope ["n", "t", "x"] ["n", "t"] (defScope sKeep) := ⟨rfl, rfl, rfl, by decide +kernel, rfl, by decide +kernel, by decide +kernel⟩
theorem ok_keep {f fT : Addr} {fd fdT : FuncData} (F : Fun K "all_keep_themselves" "all_keep_themselves" sKeep f fd) (B : Blt mg) (DT : Def K mg "turned" sTurned ["n", "t", "x", "y"] fT fdT) : FnOk P w K mg base CX0 2 f fd ["n", "t"] (spKeep K) := by
  have GT : FnOk P w K mg base CX0 1 fT fdT ["n", "t", "x", "y"] (spTurned K) := ok_turned DT.fn
  refine F.ok scK (fun vs H Q E h => ?_) (fun cdv A outer s H vs Q E hr h => ?_)
  · obtain ⟨a, n, T, rfl, _⟩ := h
    rfl
  · obtain ⟨a, n, T, rfl, hS, hn, hl, k⟩ := h
    refine ⟨_, pss_cons (ps_for PassesOwn.never rfl (pi_range1 rfl B.range (pa_cons (pv 0) pa_nil)) (pg_name (i := 2) scK.nd rfl (Or.inl rfl))
      (pss_one (ps_if (pt_cmpR op_ne (pe_call GT hr rfl DT.mg DT.fn.kp DT.bd .nil pass0 (pa_cons (pv 0) (pa_cons (pv 1) (pa_cons (pv 2) (pa_cons (pv 2) pa_nil))))) (pv 2) (nomark _)) (pss_one (ps_ret pe_bl)) pss_nil))) (pss_one (ps_ret pe_bl)), ?_⟩
    refine ⟨_, rfl, _, rfl, (by show -(2 ^ 62) ≤ (n : Int); omega), (by show (n : Int) < 2 ^ 62; omega), for_range (n := n) (fun i σ H' => ∃ v : Option V, σ = [some (vi n), some (.ref a), v] ∧ H' = H ∧ ∀ x, x < i → (tn n T x x == x) = true)
      ⟨none, rfl, rfl, fun x h => by omega⟩ ?_ ?_⟩
    · rintro i σ H' hi ⟨v, rfl, rfl, hb⟩
      rw [vi_zero]
      refine ⟨_, rfl, _, rfl, _, rfl, _, rfl, a, n, T, i, i, rfl, hS, hn, (by rw [hl]; exact ix_lt hi hi), _, rfl, rfl, _, rfl, ite2 (fun h => ?_) (fun h => ?_)⟩
      · have h : ¬ tn n T i i = i := fun q => by rw [show vi (tn n T i i) = vi i from vi_inj.mpr q] at h; simp at h
        have e : (Rd12.all n fun x => tn n T x x == x) = false := all_false hi (by simpa using h)
        rw [e] at k
        exact k
      · have h : tn n T i i = i := by
          cases q : decide (vi (tn n T i i) = vi i) with
          | true => exact vi_inj.mp (of_decide_eq_true q)
          | false => rw [q] at h; exact absurd rfl h
        exact ⟨_, rfl, rfl, upto_succ hb (by simpa using h)⟩
    · rintro σ H' ⟨v, rfl, rfl, hb⟩
      have e : (Rd12.all n fun x => tn n T x x == x) = true := all_true hb
      rw [e] at k
      exact k
theorem scM : FnScope ["n", "t", "x"] ["n", "t"] (defScope sMerge) := ⟨rfl, rfl, rfl, by decide +kernel, rfl, by decide +kernel, by decide +kernel⟩
theorem cut_row {n x : Nat} {T : List Nat} (hl : T.length = n * n) (hx : x < n) : cutV (T.map vi) (some (My.cast x * My.cast n)) (some (My.cast x * My.cast n + My.cast n)) = ((rowOf n T x).map My.cast).map V.int := by
  have e1 : My.cast x * My.cast n = ((x * n : Nat) : Int) := by rw [Int.natCast_mul]; rfl
  have e2 : My.cast x * My.cast n + My.cast n = ((x * n + n : Nat) : Int) := by rw [Int.natCast_add, Int.natCast_mul]; rfl
  have h1 : (x + 1) * n ≤ n * n := Nat.mul_le_mul_right n hx
  rw [Nat.succ_mul] at h1
  unfold cutV rowOf
  rw [e2, e1, HT.sIx_nat, HT.sIx_nat, List.length_map, hl, Nat.min_eq_left h1, Nat.min_eq_left (show x * n ≤ n * n by omega), ← map_vi, List.map_take, List.map_drop, Nat.add_sub_cancel_left]
theorem ok_merge {f : Addr} {fd : FuncData} (F : Fun K "none_merge" "none_merge" sMerge f fd) (B : Blt mg) : FnOk P w K mg base CX0 1 f fd ["n", "t"] (spMerge K) := by
  refine F.ok scM (fun vs H Q E h => ?_) (fun cdv A outer s H vs Q E hr h => ?_)
  · obtain ⟨a, n, T, rfl, _⟩ := h
    rfl
  · obtain ⟨a, n, T, rfl, hS, hn, hl, k⟩ := h
    refine ⟨_, pss_cons (ps_for PassesOwn.never rfl (pi_range1 rfl B.range (pa_cons (pv 0) pa_nil)) (pg_name (i := 2) scM.nd rfl (Or.inl rfl))
      (pss_one (ps_if (pt_cmpR op_ne (pe_callB call_lenS rfl B.len PySem.boot_len (pa_cons (pe_callTy (call_setL rfl) rfl B.set PyProof.Rows.boot_set (pa_cons
        (pe_slice sl_list (pv 1) (po_some (pe_op op_mul (pv 2) (pv 0))) (po_some (pe_op op_add (pe_op op_mul (pv 2) (pv 0)) (pv 0)))) pa_nil)) pa_nil)) (pv 0) (nomark _)) (pss_one (ps_ret pe_bl)) pss_nil))) (pss_one (ps_ret pe_bl)), ?_⟩
    refine ⟨_, rfl, _, rfl, (by show -(2 ^ 62) ≤ (n : Int); omega), (by show (n : Int) < 2 ^ 62; omega), for_range (n := n) (fun i σ H' => ∃ v : Option V, σ = [some (vi n), some (.ref a), v] ∧ Same H H' ∧ ∀ x, x < i → noMerge n T x = true)
      ⟨none, rfl, Same.refl _, fun x h => by omega⟩ ?_ ?_⟩
    · rintro i σ H' hi ⟨v, rfl, hs, hb⟩
      rw [vi_zero]
      have b1 : -(2 ^ 64) < (n : Int) := by omega
      have b2 : (n : Int) < 2 ^ 64 := by omega
      refine ⟨_, rfl, _, rfl, _, rfl, _, _, rfl, rfl, .inr ⟨b1, b2⟩, _, rfl, _, rfl, _, rfl, _, _, rfl, rfl, .inr ⟨b1, b2⟩, _, rfl, _, _, rfl, rfl, _, rfl, a, _, rfl, hs.seq hS, fun p hp => ?_⟩
      rw [cut_row hl hi]
      refine ⟨p, (rowOf n T i).map My.cast, rfl, SqL.of upd_same, (by rw [List.length_map, row_len hl hi]; omega), fun q hq => ?_⟩
      refine ⟨q, _, _, rfl, upd_same, _, rfl, rfl, _, rfl, ?_⟩
      rw [dcount_cast]
      have hs2 : Same H (upd (upd H' p (.lst (((rowOf n T i).map My.cast).map V.int))) q (.set (fun k => (metInts ((rowOf n T i).map My.cast)).any (· == k)) (rowOf n T i).eraseDups.length)) := (hs.trans (new_same hp)).trans (new_same hq)
      refine ite2 (fun h => ?_) (fun h => ?_)
      · have h : ¬ (rowOf n T i).eraseDups.length = n := fun e => by rw [show V.int (((rowOf n T i).eraseDups.length : Nat) : Int) = vi n from by rw [e]; rfl] at h; simp at h
        have e : (Rd12.all n fun x => noMerge n T x) = false := all_false hi (by rw [row_merge hl hi]; exact decide_eq_false h)
        rw [e] at k
        exact k _ hs2
      · have h : (rowOf n T i).eraseDups.length = n := by
          cases e : decide (V.int (((rowOf n T i).eraseDups.length : Nat) : Int) = vi n) with
          | true => exact vi_inj.mp (of_decide_eq_true e)
          | false => rw [e] at h; exact absurd rfl h
        exact ⟨_, rfl, hs2, upto_succ hb (by rw [row_merge hl hi]; exact decide_eq_true h)⟩
    · rintro σ H' ⟨v, rfl, hs, hb⟩
      have e : (Rd12.all n fun x => noMerge n T x) = true := all_true hb
      rw [e] at k
      exact k _ hs
theorem scI : FnScope ["n", "t", "x", "y", "turner", "z"] ["n", "t", "x", "y"] (defScope sIs) := ⟨rfl, rfl, rfl, by decide +kernel, rfl, by decide +kernel, by decide +kernel⟩
theorem ok_is {f fT : Addr} {fd fdT : FuncData} (F : Fun K "turn_is_turned" "turn_is_turned" sIs f fd) (B : Blt mg) (DT : Def K mg "turned" sTurned ["n", "t", "x", "y"] fT fdT) : FnOk P w K mg base CX0 2 f fd ["n", "t", "x", "y"] (spIs K) := by
  have GT : FnOk P w K mg base CX0 1 fT fdT ["n", "t", "x", "y"] (spTurned K) := ok_turned DT.fn
  refine F.ok scI (fun vs H Q E h => ?_) (fun cdv A outer s H vs Q E hr h => ?_)
  · obtain ⟨a, n, T, x, y, rfl, _⟩ := h
    rfl
  · obtain ⟨a, n, T, x, y, rfl, hS, hn, hl, hb, hx, hy, k⟩ := h
    refine ⟨_, pss_cons (ps_set (i := 4) scI.nd rfl (Or.inl rfl) (pe_call GT hr rfl DT.mg DT.fn.kp DT.bd .nil pass0 (pa_cons (pv 0) (pa_cons (pv 1) (pa_cons (pv 2) (pa_cons (pv 3) pa_nil))))))
      (pss_cons (ps_for PassesOwn.never rfl (pi_range1 rfl B.range (pa_cons (pv 0) pa_nil)) (pg_name (i := 5) scI.nd rfl (Or.inl rfl))
      (pss_one (ps_if (pt_cmpR op_ne
        (pe_call GT hr rfl DT.mg DT.fn.kp DT.bd .nil pass0 (pa_cons (pv 0) (pa_cons (pv 1) (pa_cons (pv 2) (pa_cons (pe_call GT hr rfl DT.mg DT.fn.kp DT.bd .nil pass0 (pa_cons (pv 0) (pa_cons (pv 1) (pa_cons (pv 3) (pa_cons (pv 5) pa_nil))))) pa_nil)))))
        (pe_call GT hr rfl DT.mg DT.fn.kp DT.bd .nil pass0 (pa_cons (pv 0) (pa_cons (pv 1) (pa_cons (pv 4) (pa_cons (pe_call GT hr rfl DT.mg DT.fn.kp DT.bd .nil pass0 (pa_cons (pv 0) (pa_cons (pv 1) (pa_cons (pv 2) (pa_cons (pv 5) pa_nil))))) pa_nil)))))
        (nomark _)) (pss_one (ps_ret pe_bl)) pss_nil))) (pss_one (ps_ret pe_bl))), ?_⟩
    have hxy : tn n T x y < n := turn_lt hl hb hx hy
    refine ⟨_, rfl, _, rfl, _, rfl, _, rfl, a, n, T, x, y, rfl, hS, hn, (by rw [hl]; exact ix_lt hx hy), ?_⟩
    refine ⟨_, rfl, _, rfl, (by show -(2 ^ 62) ≤ (n : Int); omega), (by show (n : Int) < 2 ^ 62; omega), for_range (n := n) (fun i σ H' => ∃ v : Option V, σ = [some (vi n), some (.ref a), some (vi x), some (vi y), some (vi (tn n T x y)), v] ∧ H' = H ∧
        ∀ z, z < i → (tn n T x (tn n T y z) == tn n T (tn n T x y) (tn n T x z)) = true) ⟨none, rfl, rfl, fun x h => by omega⟩ ?_ ?_⟩
    · rintro i σ H' hi ⟨v, rfl, rfl, hq⟩
      rw [vi_zero]
      have hyi : tn n T y i < n := turn_lt hl hb hy hi
      have hxi : tn n T x i < n := turn_lt hl hb hx hi
      refine ⟨_, rfl, _, rfl, _, rfl, _, rfl, _, rfl, _, rfl, _, rfl, a, n, T, y, i, rfl, hS, hn, (by rw [hl]; exact ix_lt hy hi), a, n, T, x, tn n T y i, rfl, hS, hn, (by rw [hl]; exact ix_lt hx hyi),
        _, rfl, _, rfl, _, rfl, _, rfl, _, rfl, _, rfl, _, rfl, a, n, T, x, i, rfl, hS, hn, (by rw [hl]; exact ix_lt hx hi), a, n, T, tn n T x y, tn n T x i, rfl, hS, hn, (by rw [hl]; exact ix_lt hxy hxi), rfl, _, rfl, ite2 (fun h => ?_) (fun h => ?_)⟩
      · have h : ¬ tn n T x (tn n T y i) = tn n T (tn n T x y) (tn n T x i) := fun q => by rw [show vi (tn n T x (tn n T y i)) = vi (tn n T (tn n T x y) (tn n T x i)) from vi_inj.mpr q] at h; simp at h
        have e : (Rd12.all n fun z => tn n T x (tn n T y z) == tn n T (tn n T x y) (tn n T x z)) = false := all_false hi (by simpa using h)
        rw [e] at k
        exact k
      · have h : tn n T x (tn n T y i) = tn n T (tn n T x y) (tn n T x i) := by
          cases q : decide (vi (tn n T x (tn n T y i)) = vi (tn n T (tn n T x y) (tn n T x i))) with
          | true => exact vi_inj.mp (of_decide_eq_true q)
          | false => rw [q] at h; exact absurd rfl h
        exact ⟨_, rfl, rfl, upto_succ hq (by simpa using h)⟩
    · rintro σ H' ⟨v, rfl, rfl, hq⟩
      have e : (Rd12.all n fun z => tn n T x (tn n T y z) == tn n T (tn n T x y) (tn n T x z)) = true := all_true hq
      rw [e] at k
      exact k
theorem scA : FnScope ["n", "t", "x", "y"] ["n", "t"] (defScope sAre) := ⟨rfl, rfl, rfl, by decide +kernel, rfl, by decide +kernel, by decide +kernel⟩
theorem ok_are {f fT fI : Addr} {fd fdT fdI : FuncData} (F : Fun K "turns_are_turned" "turns_are_turned" sAre f fd) (B : Blt mg) (DT : Def K mg "turned" sTurned ["n", "t", "x", "y"] fT fdT) (DI : Def K mg "turn_is_turned" sIs ["n", "t", "x", "y"] fI fdI) :
    FnOk P w K mg base CX0 3 f fd ["n", "t"] (spAre K) := by
  have GI : FnOk P w K mg base CX0 2 fI fdI ["n", "t", "x", "y"] (spIs K) := ok_is DI.fn B DT
  refine F.ok scA (fun vs H Q E h => ?_) (fun cdv A outer s H vs Q E hr h => ?_)
  · obtain ⟨a, n, T, rfl, _⟩ := h
    rfl
  · obtain ⟨a, n, T, rfl, hS, hn, hl, hb, k⟩ := h
    refine ⟨_, pss_cons (ps_for PassesOwn.never rfl (pi_range1 rfl B.range (pa_cons (pv 0) pa_nil)) (pg_name (i := 2) scA.nd rfl (Or.inl rfl))
      (pss_one (ps_for PassesOwn.never rfl (pi_range1 rfl B.range (pa_cons (pv 0) pa_nil)) (pg_name (i := 3) scA.nd rfl (Or.inl rfl))
      (pss_one (ps_if (pt_not (pt_val (pe_call GI hr rfl DI.mg DI.fn.kp DI.bd .nil pass0 (pa_cons (pv 0) (pa_cons (pv 1) (pa_cons (pv 2) (pa_cons (pv 3) pa_nil))))))) (pss_one (ps_ret pe_bl)) pss_nil))))) (pss_one (ps_ret pe_bl)), ?_⟩
    refine ⟨_, rfl, _, rfl, (by show -(2 ^ 62) ≤ (n : Int); omega), (by show (n : Int) < 2 ^ 62; omega), for_range (n := n) (fun i σ H' => ∃ v u : Option V, σ = [some (vi n), some (.ref a), v, u] ∧ H' = H ∧
        ∀ x, x < i → (Rd12.all n fun y => Rd12.all n fun z => tn n T x (tn n T y z) == tn n T (tn n T x y) (tn n T x z)) = true) ⟨none, none, rfl, rfl, fun x h => by omega⟩ ?_ ?_⟩
    · rintro i σ H' hi ⟨v, u, rfl, rfl, hq⟩
      rw [vi_zero]
      refine ⟨_, rfl, _, rfl, (by show -(2 ^ 62) ≤ (n : Int); omega), (by show (n : Int) < 2 ^ 62; omega), for_range (n := n) (fun j σ H'' => ∃ u : Option V, σ = [some (vi n), some (.ref a), some (vi i), u] ∧ H'' = H' ∧
        ∀ y, y < j → (Rd12.all n fun z => tn n T i (tn n T y z) == tn n T (tn n T i y) (tn n T i z)) = true) ⟨_, rfl, rfl, fun x h => by omega⟩ ?_ ?_⟩
      · rintro j σ H'' hj ⟨u, rfl, rfl, hp⟩
        rw [vi_zero]
        refine ⟨_, rfl, _, rfl, _, rfl, _, rfl, a, n, T, i, j, rfl, hS, hn, hl, hb, hi, hj, _, rfl, ?_⟩
        cases e : (Rd12.all n fun z => tn n T i (tn n T j z) == tn n T (tn n T i j) (tn n T i z)) with
        | false =>
          refine iteT ?_
          have e2 : (Rd12.all n fun x => Rd12.all n fun y => Rd12.all n fun z => tn n T x (tn n T y z) == tn n T (tn n T x y) (tn n T x z)) = false := all_false hi (all_false hj e)
          rw [e2] at k
          exact k
        | true => exact iteF ⟨_, rfl, rfl, upto_succ hp e⟩
      · rintro σ H'' ⟨u, rfl, rfl, hp⟩
        exact ⟨_, _, rfl, rfl, upto_succ hq (all_true hp)⟩
    · rintro σ H' ⟨v, u, rfl, rfl, hq⟩
      have e : (Rd12.all n fun x => Rd12.all n fun y => Rd12.all n fun z => tn n T x (tn n T y z) == tn n T (tn n T x y) (tn n T x z)) = true := all_true hq
      rw [e] at k
      exact k
structure Toa (K : PySem.W.Frag) (mg : Str → Option Value) : Prop where
  blt : Blt mg
  ex : ∃ (fT fB fK fM fA fI f : Addr) (dT dB dK dM dA dI d : FuncData), Def K mg "turned" sTurned ["n", "t", "x", "y"] fT dT ∧ Def K mg "all_below" sBelow ["n", "t"] fB dB ∧ Def K mg "all_keep_themselves" sKeep ["n", "t"] fK dK ∧ Def K mg "none_merge" sMerge ["n", "t"] fM dM ∧
    Def K mg "turns_are_turned" sAre ["n", "t"] fA dA ∧ Def K mg "turn_is_turned" sIs ["n", "t", "x", "y"] fI dI ∧ Def K mg "turn_one_another" sToa ["n", "t"] f d
theorem scO : FnScope ["n", "t"] ["n", "t"] (defScope sToa) := ⟨rfl, rfl, rfl, by decide +kernel, rfl, by decide +kernel, by decide +kernel⟩
theorem isTurns_eq (n : Nat) (T : List Nat) : Rd12.isTurns ⟨n, T⟩ = ((decide (1 ≤ n) && (decide (T.length = n * n) && T.all fun v => decide (v < n))) && ((Rd12.all n fun x => tn n T x x == x) && ((Rd12.all n fun x => noMerge n T x) &&
  (Rd12.all n fun x => Rd12.all n fun y => Rd12.all n fun z => tn n T x (tn n T y z) == tn n T (tn n T x y) (tn n T x z))))) := rfl
theorem ok_toa (A : Toa K mg) : ∃ (f : Addr) (d : FuncData), Def K mg "turn_one_another" sToa ["n", "t"] f d ∧ FnOk P w K mg base CX0 4 f d ["n", "t"] (spToa K) := by
  obtain ⟨B, fT, fB, fK, fM, fA, fI, f, dT, dB, dK, dM, dA, dI, d, DT, DB, DK, DM, DA, DI, D⟩ := A
  refine ⟨f, d, D, ?_⟩
  have GB : FnOk P w K mg base CX0 3 fB dB ["n", "t"] (spBelow K) := (ok_below DB.fn).mono (by decide)
  have GK : FnOk P w K mg base CX0 3 fK dK ["n", "t"] (spKeep K) := (ok_keep DK.fn B DT).mono (by decide)
  have GM : FnOk P w K mg base CX0 3 fM dM ["n", "t"] (spMerge K) := (ok_merge DM.fn B).mono (by decide)
  have GA : FnOk P w K mg base CX0 3 fA dA ["n", "t"] (spAre K) := ok_are DA.fn B DT DI
  refine D.fn.ok scO (fun vs H Q E h => ?_) (fun cdv A outer s H vs Q E hr h => ?_)
  · obtain ⟨a, n, T, rfl, _⟩ := h
    rfl
  · obtain ⟨a, n, T, rfl, hS, h1, hn, hl, k⟩ := h
    refine ⟨_, pss_one (ps_ret (pe_and (pe_call GB hr rfl DB.mg DB.fn.kp DB.bd .nil pass0 (pa_cons (pv 0) (pa_cons (pv 1) pa_nil))) (pe_and (pe_call GK hr rfl DK.mg DK.fn.kp DK.bd .nil pass0 (pa_cons (pv 0) (pa_cons (pv 1) pa_nil)))
      (pe_and (pe_call GM hr rfl DM.mg DM.fn.kp DM.bd .nil pass0 (pa_cons (pv 0) (pa_cons (pv 1) pa_nil))) (pe_one (pe_call GA hr rfl DA.mg DA.fn.kp DA.bd .nil pass0 (pa_cons (pv 0) (pa_cons (pv 1) pa_nil)))))))), ?_⟩
    have et := isTurns_eq n T
    rw [decide_eq_true h1, decide_eq_true hl] at et
    refine ⟨_, rfl, _, rfl, a, n, T, rfl, hS, _, rfl, ?_⟩
    cases e1 : (T.all fun v => decide (v < n)) with
    | false =>
      rw [e1] at et
      refine iteF ?_
      have et : Rd12.isTurns ⟨n, T⟩ = false := et
      rw [et] at k
      exact k _ (Same.refl _)
    | true =>
      rw [e1] at et
      refine iteT ⟨_, rfl, _, rfl, a, n, T, rfl, hS, hn, hl, _, rfl, ?_⟩
      cases e2 : (Rd12.all n fun x => tn n T x x == x) with
      | false =>
        rw [e2] at et
        refine iteF ?_
        have et : Rd12.isTurns ⟨n, T⟩ = false := et
        rw [et] at k
        exact k _ (Same.refl _)
      | true =>
        rw [e2] at et
        refine iteT ⟨_, rfl, _, rfl, a, n, T, rfl, hS, hn, hl, fun H' hs => ⟨_, rfl, ?_⟩⟩
        cases e3 : (Rd12.all n fun x => noMerge n T x) with
        | false =>
          rw [e3] at et
          refine iteF ?_
          have et : Rd12.isTurns ⟨n, T⟩ = false := et
          rw [et] at k
          exact k _ hs
        | true =>
          rw [e3] at et
          refine iteT ⟨_, rfl, _, rfl, a, n, T, rfl, hs.seq hS, hn, hl, (fun v hv => of_decide_eq_true (List.all_eq_true.mp e1 v hv)), ?_⟩
          have et : Rd12.isTurns ⟨n, T⟩ = _ := et
          have k2 := k _ hs
          rw [et] at k2
          exact k2
theorem eqv_nil {H : Hp} {p l : Addr} {xs : List Int} (hp : H p = some (.lst (xs.map V.int))) (hl : H l = some (.lst [])) : Dp K H (.ref p) (.list (xs.map PyData.int)) ∧ Dp K H (.ref l) (.list []) := by
  refine ⟨.lst (SqL.of hp) ?_, .lst (SqL.of hl) .nil⟩
  clear hp
  induction xs with
  | nil => exact .nil
  | cons x xs ih => exact .cons (.int x) ih
end
end My
set_option Elab.async false
set_option linter.all false
set_option maxRecDepth 100000
set_option maxHeartbeats 2000000
namespace My
open PySem PySem.Spec PyProof.Rows L2
open PySem.W (Codec)
abbrev sRef2 : Stmt := top 6
abbrev sTakes : Stmt := top 30
def refV2 (n m k : Nat) (T U : List Nat) : List V := if (1 ≤ n ∧ n ≤ k) ∧ (1 ≤ m ∧ m ≤ k) then (if Rd12.isTurns ⟨n, T⟩ = true ∧ Rd12.isTurns ⟨m, U⟩ = true then [] else [.int (-3)]) else [.int (-2)]
def spRef2 (K : PySem.W.Frag) : Sp := fun vs H Q _ => ∃ (a b : Addr) (n m k : Nat) (T U : List Nat), vs = [vi n, vi m, .ref a, .ref b, vi k] ∧ SqL K H a (T.map vi) ∧ SqL K H b (U.map vi) ∧ k ≤ 16 ∧
  ((1 ≤ n ∧ n ≤ k) → (1 ≤ m ∧ m ≤ k) → T.length = n * n ∧ U.length = m * m) ∧ ∀ (H' : Hp) (p : Addr), Same H H' → H p = none → H' p = some (.lst (refV2 n m k T U)) → Q (.ref p) H'
def spTakes (K : PySem.W.Frag) : Sp := fun vs H Q _ => ∃ (a b c : Addr) (n m : Nat) (T U r : List Nat), vs = [vi n, vi m, .ref a, .ref b, .ref c] ∧ SqL K H a (T.map vi) ∧ SqL K H b (U.map vi) ∧ SqL K H c (r.map vi) ∧ n ≤ 16 ∧ m ≤ 16 ∧
  T.length = n * n ∧ U.length = m * m ∧ r.length ≤ n ∧ (∀ v ∈ r, v < m) ∧ Q (.bl (okRow n m T U r)) H
def RA (F : Addr → List Nat → Prop) (ads : List Addr) (rs : List (List Nat)) : Prop := ads.length = rs.length ∧ ∀ (i : Nat) (q : Addr) (r : List Nat), ads[i]? = some q → rs[i]? = some r → F q r
theorem RA.nil {F : Addr → List Nat → Prop} : RA F [] [] := ⟨rfl, fun i q r h => by simp at h⟩
theorem RA.mono {F G : Addr → List Nat → Prop} {ads : List Addr} {rs : List (List Nat)} (h : RA F ads rs) (f : ∀ q r, F q r → G q r) : RA G ads rs := ⟨h.1, fun i q r a b => f q r (h.2 i q r a b)⟩
theorem snoc_at2 {α : Type} {l : List α} {a b : α} {i : Nat} (h : (l ++ [a])[i]? = some b) : (i < l.length ∧ l[i]? = some b) ∨ (i = l.length ∧ a = b) := by
  by_cases hi : i < l.length
  · rw [List.getElem?_append_left hi] at h
    exact .inl ⟨hi, h⟩
  · rw [List.getElem?_append_right (by omega)] at h
    by_cases e : i = l.length
    · subst e
      rw [Nat.sub_self] at h
      exact .inr ⟨rfl, Option.some.inj h⟩
    · rw [List.getElem?_eq_none (by rw [List.length_singleton]; omega)] at h
      cases h
theorem RA.snoc {F : Addr → List Nat → Prop} {ads : List Addr} {rs : List (List Nat)} {q : Addr} {r : List Nat} (h : RA F ads rs) (hq : F q r) : RA F (ads ++ [q]) (rs ++ [r]) := by
  refine ⟨by rw [List.length_append, List.length_append, h.1]; rfl, fun i q' r' a b => ?_⟩
  rcases snoc_at2 a with ⟨h1, a⟩ | ⟨h1, a⟩
  · rcases snoc_at2 b with ⟨_, b⟩ | ⟨h2, b⟩
    · exact h.2 i q' r' a b
    · have := h.1; omega
  · rcases snoc_at2 b with ⟨h2, b⟩ | ⟨_, b⟩
    · have := h.1; omega
    · subst a b
      exact hq
theorem RA.append {F : Addr → List Nat → Prop} {ads bds : List Addr} {rs ss : List (List Nat)} (h : RA F ads rs) (g : RA F bds ss) : RA F (ads ++ bds) (rs ++ ss) := by
  refine ⟨by rw [List.length_append, List.length_append, h.1, g.1], fun i q r a b => ?_⟩
  have hl := h.1
  by_cases hi : i < ads.length
  · rw [List.getElem?_append_left hi] at a
    rw [List.getElem?_append_left (by omega)] at b
    exact h.2 i q r a b
  · rw [List.getElem?_append_right (by omega)] at a
    rw [List.getElem?_append_right (by omega), ← hl] at b
    exact g.2 _ q r a b
theorem RA.get {F : Addr → List Nat → Prop} {ads : List Addr} {rs : List (List Nat)} {i : Nat} {q : Addr} (h : RA F ads rs) (hq : ads[i]? = some q) : ∃ r, rs[i]? = some r ∧ F q r := by
  have hi := (List.getElem?_eq_some_iff.mp hq).1
  have hl := h.1
  exact ⟨_, List.getElem?_eq_getElem (by omega), h.2 i q _ hq (List.getElem?_eq_getElem (by omega))⟩
theorem ref_at {ads : List Addr} {i : Nat} {y : V} (h : (ads.map V.ref)[i]? = some y) : ∃ q, ads[i]? = some q ∧ y = .ref q := by
  rw [List.getElem?_map] at h
  cases e : ads[i]? with
  | none => rw [e] at h; cases h
  | some z => rw [e] at h; exact ⟨z, rfl, (Option.some.inj h).symm⟩
section
variable {P : Program} {w : World} {K : PySem.W.Frag} {mg : Str → Option Value} {base : Heap}
theorem scR2 : FnScope ["n", "m", "t", "u", "most"] ["n", "m", "t", "u", "most"] (defScope sRef2) := ⟨rfl, rfl, rfl, by decide +kernel, rfl, by decide +kernel, by decide +kernel⟩
theorem ok_ref2 {f : Addr} {fd : FuncData} {t2 t3 : Tok} (F : Fun K "refusal_of_two" "refusal_of_two" sRef2 f fd) (A : Toa K mg) (c2 : mg "OUT_OF_RANGE" = some (.int (-2) t2)) (c3 : mg "NOT_TURNING" = some (.int (-3) t3)) :
    FnOk P w K mg base CX0 5 f fd ["n", "m", "t", "u", "most"] (spRef2 K) := by
  have B := A.blt
  obtain ⟨fO, dO, D, G⟩ := ok_toa (P := P) (w := w) (base := base) A
  refine F.ok scR2 (fun vs H Q E h => ?_) (fun cdv A outer s H vs Q E hr h => ?_)
  · obtain ⟨a, b, n, m, k, T, U, rfl, _⟩ := h
    rfl
  · obtain ⟨a, b, n, m, k, T, U, rfl, hS, hU, hk, hl, kk⟩ := h
    refine ⟨_, pss_cons (ps_if (PW.pt (pw_or (pt_cmpR op_lt (pv 0) pe_int (nomark _)) (pw_or (pt_cmpR op_gt (pv 0) (pv 4) (nomark _)) (pw_or (pt_cmpR op_lt (pv 1) pe_int (nomark _)) (pw_or1 (pt_cmpR op_gt (pv 1) (pv 4) (nomark _)))))))
      (pss_one (ps_ret (pe_lst (pa_cons (pe_glob (v := .int (-2)) rfl c2 ⟨t2, rfl⟩) pa_nil)))) pss_nil)
      (pss_cons (ps_if (PW.pt (pw_or (pt_not (pt_val (pe_call G hr rfl D.mg D.fn.kp D.bd .nil pass0 (pa_cons (pv 0) (pa_cons (pv 2) pa_nil))))) (pw_or1 (pt_not (pt_val (pe_call G hr rfl D.mg D.fn.kp D.bd .nil pass0 (pa_cons (pv 1) (pa_cons (pv 3) pa_nil))))))))
        (pss_one (ps_ret (pe_lst (pa_cons (pe_glob (v := .int (-3)) rfl c3 ⟨t3, rfl⟩) pa_nil)))) pss_nil)
      (pss_one (ps_ret (pe_lst pa_nil)))), ?_⟩
    have out : ¬ ((1 ≤ n ∧ n ≤ k) ∧ (1 ≤ m ∧ m ≤ k)) → (1 ≤ sizeLine ∧ ∀ p, H p = none → Q (.ref p) (upd H p (.lst [.int (-2)]))) := fun h => ⟨by decide, fun p hp => by
      refine kk _ p (new_same hp) hp ?_
      unfold refV2
      rw [if_neg h]
      exact upd_same⟩
    refine ⟨_, rfl, _, _, rfl, rfl, _, rfl, ite2 (fun h => iteT ?_) (fun h => ?_)⟩
    · have h : (n : Int) < 1 := of_decide_eq_true h
      exact out (by omega)
    · have h : ¬ (n : Int) < 1 := fun q => h (decide_eq_true q)
      refine ⟨_, rfl, _, rfl, _, _, rfl, rfl, _, rfl, ite2 (fun h2 => iteT ?_) (fun h2 => ?_)⟩
      · have h2 : (k : Int) < (n : Int) := of_decide_eq_true h2
        exact out (by omega)
      · have h2 : ¬ (k : Int) < (n : Int) := fun q => h2 (decide_eq_true q)
        refine ⟨_, rfl, _, _, rfl, rfl, _, rfl, ite2 (fun h3 => iteT ?_) (fun h3 => ?_)⟩
        · have h3 : (m : Int) < 1 := of_decide_eq_true h3
          exact out (by omega)
        · have h3 : ¬ (m : Int) < 1 := fun q => h3 (decide_eq_true q)
          refine ⟨_, rfl, _, rfl, _, _, rfl, rfl, _, rfl, ite2 (fun h4 => ?_) (fun h4 => ?_)⟩
          · have h4 : (k : Int) < (m : Int) := of_decide_eq_true h4
            exact out (by omega)
          · have h4 : ¬ (k : Int) < (m : Int) := fun q => h4 (decide_eq_true q)
            have hn : 1 ≤ n ∧ n ≤ k := by omega
            have hm : 1 ≤ m ∧ m ≤ k := by omega
            obtain ⟨hl1, hl2⟩ := hl hn hm
            have no : ∀ H1, Same H H1 → ¬ (Rd12.isTurns ⟨n, T⟩ = true ∧ Rd12.isTurns ⟨m, U⟩ = true) → (1 ≤ sizeLine ∧ ∀ p, H1 p = none → Q (.ref p) (upd H1 p (.lst [.int (-3)]))) := fun H1 hs h => ⟨by decide, fun p hp => by
              refine kk _ p (hs.trans (new_same hp)) (hs.free hp) ?_
              unfold refV2
              rw [if_pos ⟨hn, hm⟩, if_neg h]
              exact upd_same⟩
            refine ⟨_, rfl, _, rfl, a, n, T, rfl, hS, hn.1, (by omega), hl1, fun H1 hs => ⟨_, rfl, ?_⟩⟩
            cases e : Rd12.isTurns ⟨n, T⟩ with
            | false => exact iteT (iteT (no H1 hs (by rw [e]; simp)))
            | true =>
              refine iteF ⟨_, rfl, _, rfl, b, m, U, rfl, hs.seq hU, hm.1, (by omega), hl2, fun H2 hs2 => ⟨_, rfl, ?_⟩⟩
              cases e2 : Rd12.isTurns ⟨m, U⟩ with
              | false => exact iteT (no H2 (hs.trans hs2) (by rw [e2]; simp))
              | true =>
                refine iteF ⟨(by show 0 ≤ sizeLine; decide), fun p hp => kk _ p ((hs.trans hs2).trans (new_same hp)) ((hs.trans hs2).free hp) ?_⟩
                unfold refV2
                rw [if_pos ⟨hn, hm⟩, if_pos ⟨e, e2⟩]
                exact upd_same
theorem scTk : FnScope ["n", "m", "t", "u", "row", "x", "y", "z"] ["n", "m", "t", "u", "row"] (defScope sTakes) := ⟨rfl, rfl, rfl, by decide +kernel, rfl, by decide +kernel, by decide +kernel⟩
theorem at_getD {r : List Nat} {x : Nat} (h : x < r.length) : r[x]? = some (r.getD x 0) := by
  rw [List.getD_eq_getElem?_getD, List.getElem?_eq_getElem h]
  rfl
theorem ok_takes {f fT : Addr} {fd fdT : FuncData} (F : Fun K "takes_turns" "takes_turns" sTakes f fd) (B : Blt mg) (DT : Def K mg "turned" sTurned ["n", "t", "x", "y"] fT fdT) : FnOk P w K mg base CX0 2 f fd ["n", "m", "t", "u", "row"] (spTakes K) := by
  have GT : FnOk P w K mg base CX0 1 fT fdT ["n", "t", "x", "y"] (spTurned K) := ok_turned DT.fn
  refine F.ok scTk (fun vs H Q E h => ?_) (fun cdv A outer s H vs Q E hr h => ?_)
  · obtain ⟨a, b, c, n, m, T, U, r, rfl, _⟩ := h
    rfl
  · obtain ⟨a, b, c, n, m, T, U, r, rfl, hS, hU, hC, hn, hm, hl, hlu, hrl, hrm, k⟩ := h
    refine ⟨_, pss_cons (ps_for PassesOwn.never rfl (pi_range1 rfl B.range (pa_cons (pe_callB call_len_seq rfl B.len PySem.boot_len (pa_cons (pv 4) pa_nil)) pa_nil)) (pg_name (i := 5) scTk.nd rfl (Or.inl rfl))
      (pss_one (ps_for PassesOwn.never rfl (pi_range1 rfl B.range (pa_cons (pe_callB call_len_seq rfl B.len PySem.boot_len (pa_cons (pv 4) pa_nil)) pa_nil)) (pg_name (i := 6) scTk.nd rfl (Or.inl rfl))
      (pss_cons (ps_set (i := 7) scTk.nd rfl (Or.inl rfl) (pe_call GT hr rfl DT.mg DT.fn.kp DT.bd .nil pass0 (pa_cons (pv 0) (pa_cons (pv 2) (pa_cons (pv 5) (pa_cons (pv 6) pa_nil))))))
      (pss_one (ps_if (PW.pt (pw_and (pt_cmpR op_lt (pv 7) (pe_callB call_len_seq rfl B.len PySem.boot_len (pa_cons (pv 4) pa_nil)) (nomark _)) (pw_and1
        (pt_cmpR op_ne (pe_ix ix_list (pv 4) (pv 7) (fun _ _ => rfl)) (pe_call GT hr rfl DT.mg DT.fn.kp DT.bd .nil pass0 (pa_cons (pv 1) (pa_cons (pv 3) (pa_cons (pe_ix ix_list (pv 4) (pv 5) (fun _ _ => rfl)) (pa_cons (pe_ix ix_list (pv 4) (pv 6) (fun _ _ => rfl)) pa_nil))))) (nomark _)))))
        (pss_one (ps_ret pe_bl)) pss_nil)))))) (pss_one (ps_ret pe_bl)), ?_⟩
    have el : (r.map vi).length = r.length := List.length_map _
    have b1 : ∀ j : Nat, j = r.length → -(2 ^ 62) ≤ (j : Int) ∧ (j : Int) < 2 ^ 62 := fun j e => by omega
    refine ⟨_, rfl, c, r.map vi, rfl, .inl hC, _, rfl, (b1 _ el).1, (b1 _ el).2, for_range (n := (r.map vi).length) (fun i σ H' => ∃ v u z : Option V, σ = [some (vi n), some (vi m), some (.ref a), some (.ref b), some (.ref c), v, u, z] ∧ H' = H ∧
      ∀ x, x < i → (Rd12.all r.length fun y => okAt n m T U r x y) = true) ⟨none, none, none, rfl, rfl, fun x h => by omega⟩ ?_ ?_⟩
    · rintro i σ H' hi ⟨v, u, z, rfl, rfl, hq⟩
      rw [vi_zero]
      have hi : i < r.length := by omega
      refine ⟨_, rfl, c, r.map vi, rfl, .inl hC, _, rfl, (b1 _ el).1, (b1 _ el).2, for_range (n := (r.map vi).length) (fun j σ H'' => ∃ u z : Option V, σ = [some (vi n), some (vi m), some (.ref a), some (.ref b), some (.ref c), some (vi i), u, z] ∧ H'' = H' ∧
        ∀ y, y < j → okAt n m T U r i y = true) ⟨_, _, rfl, rfl, fun x h => by omega⟩ ?_ ?_⟩
      · rintro j σ H'' hj ⟨u, z, rfl, rfl, hp⟩
        rw [vi_zero]
        have hj : j < r.length := by omega
        refine ⟨_, rfl, _, rfl, _, rfl, _, rfl, a, n, T, i, j, rfl, hS, hn, (by rw [hl]; exact ix_lt (by omega) (by omega)), ?_⟩
        refine ⟨_, rfl, _, rfl, c, r.map vi, rfl, .inl hC, _, _, rfl, rfl, _, rfl, ite2 (fun h => ?_) (fun h => ?_)⟩
        · have h : (tn n T i j : Int) < ((r.map vi).length : Int) := of_decide_eq_true h
          have h : tn n T i j < r.length := by rw [el] at h; omega
          have hri : r.getD i 0 < m := hrm _ (List.mem_of_getElem? (at_getD hi))
          have hrj : r.getD j 0 < m := hrm _ (List.mem_of_getElem? (at_getD hj))
          refine ⟨_, rfl, _, rfl, c, r.map vi, _, vi (r.getD (tn n T i j) 0), rfl, rfl, hC, at_of (j := tn n T i j) rfl (vi_get (at_getD h)), ?_⟩
          refine ⟨_, rfl, _, rfl, _, rfl, _, rfl, c, r.map vi, _, vi (r.getD i 0), rfl, rfl, hC, at_of (j := i) rfl (vi_get (at_getD hi)), ?_⟩
          refine ⟨_, rfl, _, rfl, c, r.map vi, _, vi (r.getD j 0), rfl, rfl, hC, at_of (j := j) rfl (vi_get (at_getD hj)), ?_⟩
          refine ⟨b, m, U, r.getD i 0, r.getD j 0, rfl, hU, hm, (by rw [hlu]; exact ix_lt hri hrj), rfl, _, rfl, ite2 (fun h2 => ?_) (fun h2 => ?_)⟩
          · have h2 : ¬ r.getD (tn n T i j) 0 = tn m U (r.getD i 0) (r.getD j 0) := fun q => by rw [show vi (r.getD (tn n T i j) 0) = vi (tn m U (r.getD i 0) (r.getD j 0)) from vi_inj.mpr q] at h2; simp at h2
            have e : okRow n m T U r = false := all_false hi (all_false hj (by unfold okAt; rw [decide_eq_true h]; simpa using h2))
            rw [e] at k
            exact k
          · have h2 : r.getD (tn n T i j) 0 = tn m U (r.getD i 0) (r.getD j 0) := by
              cases q : decide (vi (r.getD (tn n T i j) 0) = vi (tn m U (r.getD i 0) (r.getD j 0))) with
              | true => exact vi_inj.mp (of_decide_eq_true q)
              | false => rw [q] at h2; exact absurd rfl h2
            exact ⟨_, _, rfl, rfl, upto_succ hp (by unfold okAt; rw [decide_eq_true h]; simpa using h2)⟩
        · have h : ¬ (tn n T i j : Int) < ((r.map vi).length : Int) := fun q => h (decide_eq_true q)
          have h : ¬ tn n T i j < r.length := by rw [el] at h; omega
          exact iteF ⟨_, _, rfl, rfl, upto_succ hp (by unfold okAt; rw [decide_eq_false h]; rfl)⟩
      · rintro σ H'' ⟨u, z, rfl, rfl, hp⟩
        rw [el] at hp
        exact ⟨_, _, _, rfl, rfl, upto_succ hq (all_true hp)⟩
    · rintro σ H' ⟨v, u, z, rfl, rfl, hq⟩
      rw [el] at hq
      have e : okRow n m T U r = true := all_true hq
      rw [e] at k
      exact k
end
end My
set_option Elab.async false
set_option linter.all false
set_option maxRecDepth 100000
set_option maxHeartbeats 2000000
namespace L2
open PySem PySem.Spec PyProof.Rows L3
theorem for_enum {K : PySem.W.Frag} {a : Addr} {xs : List V} {g : TG} {tb : TS} {D : Ends} {σ : St} {H : Hp} (Pv : Nat → St → Hp → Prop) (h0 : Pv 0 σ H) (hl : ∀ i σ H, i ≤ xs.length → Pv i σ H → SqL K H a xs)
    (hs : ∀ i x σ H T, xs[i]? = some x → Pv i σ H → H T = none → g (.ref T) σ (upd H T (.tup [.int (i : Nat), x])) fun σ2 H2 => tb { D with nx := Pv (i + 1), ct := Pv (i + 1), bk := D.nx } σ2 H2) (hd : ∀ σ H, Pv xs.length σ H → D.nx σ H) :
    ∃ W : Nat → Nat → St → Hp → Prop, (∃ m, W 0 m σ H) ∧ ∀ i m σ H, W i m σ H →
      ((Ite K a).stop i H ∧ D.nx σ H) ∨ ((Ite K a).go i H ∧ ∃ N : St → Hp → Prop, (∀ σ' H', N σ' H' → ∃ m', m' < m ∧ W (i + 1) m' σ' H') ∧ ∀ x H', (Ite K a).yld i H x H' → g x σ H' fun σ2 H2 => tb { D with nx := N, ct := N, bk := D.nx } σ2 H2) := by
  refine ⟨fun i m σ H => m = xs.length - i ∧ i ≤ xs.length ∧ Pv i σ H, ⟨xs.length, by simp, Nat.zero_le _, h0⟩, ?_⟩
  rintro i m σ H ⟨rfl, hi, p⟩
  have q := hl i σ H hi p
  by_cases hlt : i < xs.length
  · refine .inr ⟨⟨xs, xs[i], q, by simp [hlt]⟩, Pv (i + 1), fun σ' H' p' => ⟨xs.length - (i + 1), by omega, rfl, hlt, p'⟩, fun x H' y => ?_⟩
    obtain ⟨T, z, rfl, hT, rfl, y⟩ := y
    exact hs i z σ _ T (y xs q) p hT
  · have e : i = xs.length := by omega
    subst e
    exact .inl ⟨⟨xs, q, Nat.le_refl _⟩, hd σ H p⟩
theorem Same.put {H Hx : Hp} {D : Addr} {o : HO} (s : Same H Hx) (n : H D = none) : Same H (upd Hx D o) := fun b u e => by rw [upd_ne (ne_of_none e n)]; exact s b u e
theorem Same.tupk {H H' : Hp} (s : Same H H') : TupK H H' := fun b xs e => s b _ e
theorem SgsH.keep {H H' : Hp} {l : List Sgn} {a : Addr} (h : SgsH H l a) (k : TupK H H') (e : ∀ xs, H a = some (.lst xs) → H' a = some (.lst xs)) : SgsH H' l a := by
  obtain ⟨ads, h1, h2⟩ := h
  exact ⟨ads, e _ h1, paired_mono (fun _ _ q => q.keep k) h2⟩
theorem SgsH.same {H H' : Hp} {l : List Sgn} {a : Addr} (h : SgsH H l a) (k : Same H H') : SgsH H' l a := h.keep (fun b xs e => k b _ e) fun xs e => k a _ e
theorem SgsH.sameT {T : List (Addr × Str)} {H H' : Hp} {l : List Sgn} {a : Addr} (h : SgsH H l a) (k : SameT T H H') : SgsH H' l a := h.keep k.tupk fun xs e => k.keep a _ e rfl
theorem LookH.same {H H' : Hp} {l : List (List Sgn)} {a : Addr} (h : LookH H l a) (k : Same H H') : LookH H' l a := by
  obtain ⟨ads, h1, h2⟩ := h
  exact ⟨ads, k _ _ h1, paired_mono (fun _ _ q => q.same k) h2⟩
theorem LookH.sameT {T : List (Addr × Str)} {H H' : Hp} {l : List (List Sgn)} {a : Addr} (h : LookH H l a) (k : SameT T H H') : LookH H' l a := by
  obtain ⟨ads, h1, h2⟩ := h
  exact ⟨ads, k.keep _ _ h1 rfl, paired_mono (fun _ _ q => q.sameT k) h2⟩
theorem paired_mem {α β : Type} {F G : α → β → Prop} : ∀ {l : List α} {m : List β}, (∀ a b, b ∈ m → F a b → G a b) → Paired F l m → Paired G l m
  | _, _, _, .nil => .nil
  | _, _, h, .cons q t => .cons (h _ _ List.mem_cons_self q) (paired_mem (fun a b hb => h a b (List.mem_cons_of_mem _ hb)) t)
theorem valV_none {kvs : List (Sgn × V)} {g : Sgn} (h : ∀ kv ∈ kvs, kv.1 ≠ g) : valV kvs g = none := by
  induction kvs with
  | nil => rfl
  | cons p r ih => rw [valV_neg (h p List.mem_cons_self)]; exact ih fun q hq => h q (List.mem_cons_of_mem _ hq)
section
variable {X : Cx}
theorem pe_sgGetK (P : Program) (w : World) (hP : X.prog = P) (hw : X.w = w) {o i : Expr} {pos : Pos} {td ty : TE} (hu : X.A.units + 64 < cLine) (ho : PE X o td) (hi : PE X i ty) (hs : NoSl i) : PE X (.Subscript o i pos) (tSgGet P w td ty) := by
  subst hP hw
  exact pe_sgGet hu ho hi hs
theorem cr_sortSgK (K : PySem.W.Frag) (hK : X.K = K) (hu : X.A.units + 64 < cLine) : CallR X (.builtin "sorted") (rSortSg K) := by
  subst hK
  exact cr_sortSg hu
end
end L2
namespace My
open PySem PySem.Spec PyProof.Rows L2 L3
abbrev sRanks : Stmt := top 24
abbrev sAlike : Stmt := top 23
abbrev sMost : Stmt := top 22
structure Blt2 (mg : Str → Option Value) : Prop where
  sorted : mg "sorted" = none
  enumerate : mg "enumerate" = none
  any : mg "any" = none
  max : mg "max" = none
  list : mg "list" = none
abbrev sS : List Sg → List Sg := srt sgOrd
abbrev sR : List (List Nat) → List (List Nat) := srt rowOrd
theorem canS : Canon sS := ⟨fun l => srt_perm sgOrd l, fun {l m} h => (srt_eq (O := sgOrd) ((srt_perm sgOrd l).trans h) (srt_up sgOrd l))⟩
theorem canR : Canon sR := ⟨fun l => srt_perm rowOrd l, fun {l m} h => (srt_eq (O := rowOrd) ((srt_perm rowOrd l).trans h) (srt_up rowOrd l))⟩
abbrev ddG {α : Type} [DecidableEq α] (l : List α) : List α := l.eraseDups
abbrev ixG {α : Type} [DecidableEq α] (l : List α) (a : α) : Nat := l.idxOf a
def ranksG {α : Type} [DecidableEq α] (ss : List α → List α) (l : List α) : List Nat := l.map fun s => ixG (ss (ddG l)) s
theorem ranksG_tab {α : Type} [DecidableEq α] (ss : List α → List α) (N : Nat) (s : Nat → α) : ranksG ss (tab N s) = tab N (rk ss N s) := by
  unfold ranksG
  rw [tab_map]
  rfl
abbrev ranksOf (l : List Sg) : List Nat := ranksG sS l
theorem kvs_val {α : Type} [DecidableEq α] {ord : List α} {d : α} {i : Nat} {g : α} (hi : i < ord.length) (h : ord[i]? = some g) (hn : ord.Nodup) : valV ((List.range ord.length).map fun j => (ord.getD j d, vi j)) g = some (vi i) := by
  have key : ∀ (l : List (α × V)) (k : Nat), (∀ j p, l[j]? = some p → p.1 = g → j = k) → ∀ v, l[k]? = some (g, v) → valV l g = some v := by
    intro l
    induction l with
    | nil => intro k _ v h; simp at h
    | cons p r ih =>
      intro k hu v hv
      cases k with
      | zero =>
        have e : p = (g, v) := by simpa using hv
        rw [e]
        exact valV_pos rfl
      | succ k =>
        have ne : ¬ p.1 = g := fun q => by have := hu 0 p rfl q; omega
        rw [valV_neg ne]
        refine ih k (fun j q hj e => ?_) v (by simpa using hv)
        have := hu (j + 1) q (by simpa using hj) e
        omega
  refine key _ i (fun j p hj e => ?_) (vi i) ?_
  · have hjl : j < ord.length := by have := (List.getElem?_eq_some_iff.mp hj).1; simpa using this
    rw [List.getElem?_map, List.getElem?_range hjl] at hj
    have hj := Option.some.inj hj
    rw [← hj] at e
    have e2 : ord[j]? = some g := by
      have e3 : ord.getD j d = g := e
      rw [← e3, List.getD_eq_getElem?_getD, List.getElem?_eq_getElem hjl]
      rfl
    exact nd_ix hn e2 h
  · rw [List.getElem?_map, List.getElem?_range hi]
    show some (ord.getD i d, vi i) = _
    rw [List.getD_eq_getElem?_getD, h]
    rfl
theorem ix_lt2 {α : Type} [DecidableEq α] {l : List α} {g : α} (h : g ∈ l) : ixG l g < l.length := List.idxOf_lt_length_iff.mpr h
theorem ix_at {α : Type} [DecidableEq α] {l : List α} {g : α} (h : g ∈ l) : l[ixG l g]? = some g := by
  rw [List.getElem?_eq_getElem (List.idxOf_lt_length_iff.mpr h)]
  simp
def spRanks (K : PySem.W.Frag) : Sp := fun vs H Q _ => ∃ (a : Addr) (l : List Sg), vs = [.ref a] ∧ SgsH H l a ∧ l.length ≤ 40 ∧ ∀ (H' : Hp) (p : Addr), Same H H' → H p = none → H' p = some (.lst ((ranksOf l).map vi)) → Q (.ref p) H'
section
variable {P : Program} {w : World} {K : PySem.W.Frag} {mg : Str → Option Value} {base : Heap}
theorem scRk : FnScope ["signs", "order", "k", "one"] ["signs"] (defScope sRanks) := ⟨rfl, rfl, rfl, by decide +kernel, rfl, by decide +kernel, by decide +kernel⟩
theorem ok_ranks {f : Addr} {fd : FuncData} (F : Fun K "ranks" "ranks" sRanks f fd) (B : Blt mg) (B2 : Blt2 mg) : FnOk P w K mg base CX0 1 f fd ["signs"] (spRanks K) := by
  refine F.ok scRk (fun vs H Q E h => ?_) (fun cdv A outer s H vs Q E hr h => ?_)
  · obtain ⟨a, l, rfl, _⟩ := h
    rfl
  · obtain ⟨a, l, rfl, hS, hl, k⟩ := h
    refine ⟨_, pss_cons (ps_set (i := 1) scRk.nd rfl (by first | exact Or.inl rfl | exact Or.inr rfl) pe_dnewSg)
      (pss_cons (ps_for PassesOwn.never rfl (pi_enum rfl B2.enumerate (pa_cons (pe_callB (cr_sortSetSg rfl hr.units) rfl B2.sorted boot_sorted3 (pa_cons (pe_callTy (cr_setSg rfl hr.units) rfl B.set PyProof.Rows.boot_set (pa_cons (pv 0) pa_nil)) pa_nil)) pa_nil))
        (pg_tup rfl (pgs_cons (pg_name (i := 2) scRk.nd rfl (by first | exact Or.inl rfl | exact Or.inr rfl)) (pgs_cons (pg_name (i := 3) scRk.nd rfl (by first | exact Or.inl rfl | exact Or.inr rfl)) pgs_nil)))
        (pss_one (ps_sgPut hr.units (pv 1) (pv 3) (pv 2) rfl)))
      (pss_one (ps_ret (pe_lc (own := [("one", 3)]) rfl scRk.nd (pi_list (pv 0)) (blkOk_by rfl) (fun _ _ _ _ _ => pg_name (i := 3) scRk.nd rfl (Or.inl rfl)) (fun _ _ _ _ _ => pts_nil) (fun _ _ _ _ _ => pe_sgGetK P w rfl rfl hr.units (pv 1) (pv 3) (fun _ _ => rfl)))))), ?_⟩
    intro d φ hd hdd
    obtain ⟨ads0, hA, hP0⟩ := hS
    have nd0 : a ≠ d := ne_of_none hA hd
    refine ⟨_, rfl, a, ads0, l, rfl, SqL.of (new_same hd a _ hA), paired_mono (fun _ _ q => q.keep (TupK.new hd)) hP0, hl, fun p φ2 ks hp hnd hmem hset => ?_⟩
    have hperm : ks.Perm (ddG l) := (List.perm_ext_iff_of_nodup hnd (nodup_erase l)).mpr fun g => by rw [hmem]; exact dd_mem.symm
    have hkl : ks.length ≤ 40 := by
      rw [hperm.length_eq]
      have q := cnt_le l.length (fun i => l.getD i (0, []))
      rw [tab_get] at q
      exact Nat.le_trans q hl
    have es : srt sgOrd ks = sS (ddG l) := canS.one hperm
    refine ⟨p, ks, rfl, hset, by omega, fun ads' q hpair hq => ?_⟩
    rw [es] at hpair
    let ord := sS (ddG l)
    have hordn : ord.Nodup := (canS.perm _).nodup_iff.mpr (nodup_erase l)
    have hordl : ord.length ≤ 40 := by rw [(canS.perm _).length_eq, ← hperm.length_eq]; exact hkl
    have hadl : ads'.length = ord.length := (L3.paired_len hpair).symm
    let kvs : Nat → List (Sgn × V) := fun i => (List.range i).map fun j => (ord.getD j (0, []), vi j)
    have hqd : q ≠ d := Ne.symm (ne_of_none (new_same (o := .ext φ2) hp d _ upd_same) hq)
    have hq0 : H q = none := by
      cases e : H q with
      | none => rfl
      | some o => rw [new_same hp q _ (new_same hd q _ e)] at hq; cases hq
    have oget : ∀ {j : Nat} {g : Sgn}, ord[j]? = some g → ord.getD j (0, []) = g := fun {j g} e => by rw [List.getD_eq_getElem?_getD, e]; rfl
    refine ⟨q, ads'.map V.ref, rfl, SqL.of upd_same, for_enum (xs := ads'.map V.ref) (fun i σ H' => ∃ v2 v3 : Option V, σ = [some (.ref a), some (.ref d), v2, v3] ∧ Same H H' ∧ H' q = some (.lst (ads'.map V.ref)) ∧ Paired (SgH H') ord ads' ∧ DictSg P w H' d (kvs i))
      ⟨none, none, rfl, ((new_same hd).trans (new_same hp)).trans (new_same hq), upd_same, paired_mono (fun _ _ z => z.keep (TupK.new hq)) hpair, DictSg.keep hdd ((TupK.new hp).trans (TupK.new hq)) ?_⟩ ?_ ?_ ?_⟩
    · rw [upd_ne (Ne.symm hqd), upd_ne]
      exact fun z => by
        rw [← z, upd_same] at hp
        cases hp
    · rintro i σ H' _ ⟨v2, v3, _, _, h1, _⟩
      exact SqL.of h1
    · rintro i x σ H' T hx ⟨v2, v3, rfl, hs, hqq, hpp, hD⟩ hT
      obtain ⟨b, hb, rfl⟩ := ref_at hx
      obtain ⟨g, hg, hgb⟩ := paired_at hpp hb
      refine ⟨T, _, rfl, SqT.of upd_same, rfl, _, _, rfl, _, _, rfl, rfl, ?_⟩
      refine ⟨_, rfl, _, rfl, _, rfl, d, kvs i, g, b, rfl, rfl, ?_⟩
      have hdT : d ≠ T := fun z => by
        obtain ⟨xs, z2, _⟩ := hD
        rw [z, hT] at z2
        cases z2
      have hD2 : DictSg P w (upd H' T (.tup [.int (i : Nat), .ref b])) d (kvs i) := hD.keep (TupK.new hT) (upd_ne hdT)
      have hil : i < ord.length := (List.getElem?_eq_some_iff.mp hg).1
      refine ⟨hD2, hgb.keep (TupK.new hT), valV_none fun kv hkv => ?_, by rw [List.length_map, List.length_range]; omega, fun φ' hD3 => ?_⟩
      · obtain ⟨j, hj, rfl⟩ := List.mem_map.mp hkv
        have hj : j < i := List.mem_range.mp hj
        intro z
        have z1 : ord[j]? = some (ord.getD j (0, [])) := by rw [List.getD_eq_getElem?_getD, List.getElem?_eq_getElem (by omega)]; rfl
        have z2 : ord.getD j (0, []) = g := z
        rw [z2] at z1
        have := nd_ix hordn z1 hg
        omega
      · obtain ⟨xs0, hd0, _⟩ := hD2
        have tk : TupK H' (upd (upd H' T (.tup [.int (i : Nat), .ref b])) d (.ext φ')) := (TupK.new hT).trans (TupK.set hd0 (fun _ z => nomatch z))
        refine ⟨_, _, rfl, ((hs.trans (new_same hT)).put hd), ?_, paired_mono (fun _ _ z => z.keep tk) hpp, ?_⟩
        · rw [upd_ne hqd, upd_ne (ne_of_none hqq hT)]
          exact hqq
        · have e : kvs (i + 1) = kvs i ++ [(g, vi i)] := by
            show (List.range (i + 1)).map _ = _
            rw [List.range_succ, List.map_append, List.map_singleton, oget hg]
          rw [e]
          exact hD3
    · rintro σ H' ⟨v2, v3, rfl, hs, hqq, hpp, hD⟩
      rw [List.length_map, hadl] at hD
      have val : ∀ g ∈ l, valV (kvs ord.length) g = some (vi (ixG ord g)) := fun g hg => by
        have hm : g ∈ ord := (canS.perm _).mem_iff.mpr (dd_mem.mpr hg)
        exact kvs_val (ix_lt2 hm) (ix_at hm) hordn
      have hl0 : ads0.length = l.length := (L3.paired_len hP0).symm
      refine ⟨_, rfl, a, rfl, ⟨_, SqL.of (hs a _ hA)⟩, fun D hDn => lc_list (xs := ads0.map V.ref) (fun i H2 => Same H' H2 ∧ H2 D = some (.lst ((l.take i).map fun g => vi (ixG ord g)))) ⟨new_same hDn, upd_same⟩ ?_ ?_ ?_⟩
      · rintro i H2 _ ⟨h1, _⟩
        exact SqL.of (h1 a _ (hs a _ hA))
      · rintro i x H2 hx ⟨h1, h2⟩
        obtain ⟨b, hb, rfl⟩ := ref_at hx
        obtain ⟨g, hg, hgb⟩ := L3.paired_at hP0 hb
        have hil : i < l.length := (List.getElem?_eq_some_iff.mp hg).1
        refine ⟨rfl, _, rfl, _, rfl, d, kvs ord.length, g, b, _, rfl, rfl, ?_, hgb.keep (hs.trans h1).tupk, val g (List.mem_of_getElem? hg), _, h2, by rw [List.length_map, List.length_take, sizeLine_eq]; omega, h1.put hDn, ?_⟩
        · obtain ⟨xs0, hd0, _⟩ := id hD
          exact hD.keep h1.tupk (by rw [h1 d _ hd0, hd0])
        · rw [upd_same, List.take_add_one, hg]
          simp
      · rintro H2 ⟨h1, h2⟩
        rw [List.length_map, hl0, List.take_length] at h2
        refine k H2 D (hs.trans h1) (hs.free hDn) ?_
        rw [h2]
        show _ = some (HO.lst ((l.map fun s => ixG (sS (ddG l)) s).map vi))
        rw [List.map_map]
        rfl
end
end My
set_option Elab.async false
set_option linter.all false
set_option maxRecDepth 100000
set_option maxHeartbeats 2000000
namespace My
open PySem PySem.Spec PyProof.Rows L2 L3
def spAlike (K : PySem.W.Frag) : Sp := fun vs H Q _ => ∃ (x y : Addr) (L M : List (List Sg)), vs = [.ref x, .ref y] ∧ LookH H L x ∧ LookH H M y ∧ L.length ≤ 1000 ∧ M.length ≤ 1000 ∧ (∀ l ∈ L, l.length < 64) ∧ (∀ l ∈ M, l.length < 64) ∧
  ∀ H', Same H H' → Q (.bl (decide (L.map sS = M.map sS))) H'
section
variable {P : Program} {w : World} {K : PySem.W.Frag} {mg : Str → Option Value} {base : Heap}
theorem scAl : FnScope ["one", "other", "signs"] ["one", "other"] (defScope sAlike) := ⟨rfl, rfl, rfl, by decide +kernel, rfl, by decide +kernel, by decide +kernel⟩
theorem lc_sorts {K0 : PySem.W.Frag} {a : Addr} {ads : List Addr} {L : List (List Sg)} {vs : List Nat} {σ : L2.St} {H1 : Hp} {D : Addr} {Qd : Hp → Prop} (hA : H1 a = some (.lst (ads.map V.ref))) (hP : Paired (SgsH H1) L ads) (hD : H1 D = none) (h64 : ∀ l ∈ L, l.length < 64) (hL : L.length ≤ 1000)
    (hw : ∀ v, wipe ((wipe σ vs).set 2 (some v)) vs = wipe σ vs) (hi : ∀ v, ((wipe σ vs).set 2 (some v))[2]? = some (some v)) (k : ∀ H2, Same H1 H2 → LookH H2 (L.map sS) D → Qd H2) :
    ∃ W : Nat → Nat → Hp → Prop, (∃ m, W 0 m (upd H1 D (.lst []))) ∧ ∀ i m H, W i m H →
      ((Itl K0 a).stop i H ∧ Qd H) ∨ ((Itl K0 a).go i H ∧ ∃ Nx : Hp → Prop, (∀ H', Nx H' → ∃ m', m' < m ∧ W (i + 1) m' H') ∧ ∀ x H', (Itl K0 a).yld i H x H' → gName 2 x (wipe σ vs) H' fun σ2 H2 => wipe σ2 vs = wipe σ vs ∧ tYes σ2 H2 fun b H3 =>
        if b = true then tCB (rSortSg K0) (tCons (tVar 2) tNil) σ2 H3 fun y H4 => ∃ acc, H4 D = some (.lst acc) ∧ acc.length < sizeLine ∧ Nx (upd H4 D (.lst (acc ++ [y]))) else Nx H3) := by
  refine lc_list (xs := ads.map V.ref) (fun i H2 => Same H1 H2 ∧ ∃ out : List Addr, H2 D = some (.lst (out.map V.ref)) ∧ (∀ b ∈ out, b ≠ D) ∧ Paired (SgsH H2) ((L.take i).map sS) out) ⟨new_same hD, [], upd_same, fun _ h => (by cases h), .nil⟩ ?_ ?_ ?_
  · rintro i H2 _ ⟨h1, _⟩
    exact SqL.of (h1 a _ hA)
  · rintro i x H2 hx ⟨h1, out, h2, hne, h3⟩
    obtain ⟨b, hb, rfl⟩ := ref_at hx
    obtain ⟨l, hl, hlb⟩ := L3.paired_at hP hb
    obtain ⟨ads0, h4, h5⟩ := hlb.same h1
    have hil : i < L.length := (List.getElem?_eq_some_iff.mp hl).1
    refine ⟨hw _, ?_⟩
    show tCB (rSortSg K0) (tCons (tVar 2) tNil) _ H2 _
    refine ⟨_, hi _, b, ads0, l, rfl, SqL.of h4, h5, h64 l (List.mem_of_getElem? hl), fun ads' p h6 hp => ?_⟩
    have hpD : p ≠ D := Ne.symm (ne_of_none h2 hp)
    have hol : out.length = i := by rw [← L3.paired_len h3, List.length_map, List.length_take]; omega
    have s2 : Same H2 (upd H2 p (.lst (ads'.map V.ref))) := new_same hp
    refine ⟨_, s2 D _ h2, by rw [List.length_map, sizeLine_eq]; omega, (h1.trans s2).put hD, out ++ [p], by rw [upd_same, List.map_append]; rfl, fun c hc => ?_, ?_⟩
    · rcases List.mem_append.mp hc with hc | hc
      · exact hne c hc
      · rw [List.mem_singleton.mp hc]; exact hpD
    · have tk : TupK H2 (upd (upd H2 p (.lst (ads'.map V.ref))) D (.lst (out.map V.ref ++ [.ref p]))) := s2.tupk.trans (TupK.set (s2 D _ h2) (fun _ z => nomatch z))
      rw [List.take_add_one, hl, List.map_append]
      refine paired_snoc ?_ ⟨ads', by rw [upd_ne hpD]; exact upd_same, paired_mono (fun _ _ q => q.keep tk) h6⟩
      refine paired_mem (fun g c hc q => ?_) h3
      exact q.keep tk fun xs e => by rw [upd_ne (hne c hc)]; exact s2 c _ e
  · rintro H2 ⟨h1, out, h2, _, h3⟩
    have e : (ads.map V.ref).length = L.length := by rw [List.length_map]; exact (L3.paired_len hP).symm
    rw [e, List.take_length] at h3
    exact k H2 h1 ⟨out, h2, h3⟩
theorem ok_alike {f : Addr} {fd : FuncData} (F : Fun K "are_alike" "are_alike" sAlike f fd) (B2 : Blt2 mg) : FnOk P w K mg base CX0 1 f fd ["one", "other"] (spAlike K) := by
  refine F.ok scAl (fun vs H Q E h => ?_) (fun cdv A outer s H vs Q E hr h => ?_)
  · obtain ⟨x, y, L, M, rfl, _⟩ := h
    rfl
  · obtain ⟨x, y, L, M, rfl, hL, hM, l1, l2, h64, h64', k⟩ := h
    refine ⟨_, pss_one (ps_ret (pe_cmpR (op_eqD hr.units) (pe_lc (own := [("signs", 2)]) rfl scAl.nd (pi_list (pv 0)) (blkOk_by rfl) (fun _ _ _ _ _ => pg_name (i := 2) scAl.nd rfl (Or.inl rfl)) (fun _ _ _ _ _ => pts_nil) (fun _ _ _ _ _ => pe_callB (cr_sortSgK K rfl hr.units) rfl B2.sorted boot_sorted3 (pa_cons (pv 2) pa_nil)))
      (pe_lc (own := [("signs", 2)]) rfl scAl.nd (pi_list (pv 1)) (blkOk_by rfl) (fun _ _ _ _ _ => pg_name (i := 2) scAl.nd rfl (Or.inl rfl)) (fun _ _ _ _ _ => pts_nil) (fun _ _ _ _ _ => pe_callB (cr_sortSgK K rfl hr.units) rfl B2.sorted boot_sorted3 (pa_cons (pv 2) pa_nil))) (nomark _))), ?_⟩
    obtain ⟨ads1, hA1, hP1⟩ := id hL
    obtain ⟨ads2, hA2, hP2⟩ := id hM
    refine ⟨_, rfl, x, rfl, ⟨_, SqL.of hA1⟩, fun D hD => lc_sorts hA1 hP1 hD h64 l1 (fun _ => rfl) (fun _ => rfl) fun H2 hs hL2 => ?_⟩
    obtain ⟨ads2', hA2', hP2'⟩ := hM.same hs
    refine ⟨_, rfl, y, rfl, ⟨_, SqL.of hA2'⟩, fun D' hD' => lc_sorts hA2' hP2' hD' h64' l2 (fun _ => rfl) (fun _ => rfl) fun H3 hs3 hM3 => ?_⟩
    exact eq_look (hL2.same hs3) hM3 (k H3 (hs.trans hs3))
end
end My
set_option Elab.async false
set_option linter.all false
set_option maxRecDepth 100000
set_option maxHeartbeats 2000000
namespace My
open PySem PySem.Spec PyProof.Rows L2 L3
abbrev sSign : Stmt := top 29
abbrev sTie : Stmt := top 27
abbrev fn (l : List Nat) (i : Nat) : Nat := l.getD i 0
def spSign (K : PySem.W.Frag) : Sp := fun vs H Q _ => ∃ (a c m : Addr) (n x : Nat) (T dl ml : List Nat), vs = [vi n, .ref a, .ref c, .ref m, vi x] ∧ SqL K H a (T.map vi) ∧ SqL K H c (dl.map vi) ∧ SqL K H m (ml.map vi) ∧ n ≤ 16 ∧ Tb n T ∧ dl.length = n * n ∧ ml.length = n ∧ x < n ∧
  ∀ (H' : Hp) (p : Addr), Same H H' → SgH H' (sgn sR n T (fn dl) (fn ml) x) p → Q (.ref p) H'
theorem paired_len2 {α β : Type} {F : α → β → Prop} {l : List α} {m : List β} (h : Paired F l m) : m.length = l.length := (L3.paired_len h).symm
section
variable {P : Program} {w : World} {K : PySem.W.Frag} {mg : Str → Option Value} {base : Heap}
theorem scSg : FnScope ["n", "t", "tied", "marks", "x", "met", "y"] ["n", "t", "tied", "marks", "x"] (defScope sSign) := ⟨rfl, rfl, rfl, by decide +kernel, rfl, by decide +kernel, by decide +kernel⟩
theorem ok_sign {f fT : Addr} {fd fdT : FuncData} (F : Fun K "sign" "sign" sSign f fd) (B : Blt mg) (B2 : Blt2 mg) (DT : Def K mg "turned" sTurned ["n", "t", "x", "y"] fT fdT) : FnOk P w K mg base CX0 2 f fd ["n", "t", "tied", "marks", "x"] (spSign K) := by
  have GT : FnOk P w K mg base CX0 1 fT fdT ["n", "t", "x", "y"] (spTurned K) := ok_turned DT.fn
  refine F.ok scSg (fun vs H Q E h => ?_) (fun cdv A outer s H vs Q E hr h => ?_)
  · obtain ⟨a, c, m, n, x, T, dl, ml, rfl, _⟩ := h
    rfl
  · obtain ⟨a, c, m, n, x, T, dl, ml, rfl, hS, hC, hM, hn, hT, hdl, hml, hx, k⟩ := h
    refine ⟨_, pss_cons (ps_setLc (i := 5) (own := [("y", 6)]) rfl scSg.nd rfl rfl (sw_true rfl rfl rfl rfl) (pi_range1 rfl B.range (pa_cons (pv 0) pa_nil)) (blkOk_by rfl) (fun _ _ _ _ _ => pg_name (i := 6) scSg.nd rfl (Or.inl rfl)) (fun _ _ _ _ _ => pts_nil)
        (fun _ _ _ _ _ => pe_tup (pa_cons (pe_ix (ix_listK K rfl) (pv 2) (pe_op op_add (pe_op op_mul (pv 4) (pv 0)) (pv 6)) (fun _ _ => rfl)) (pa_cons (pe_ix (ix_listK K rfl) (pv 3) (pv 6) (fun _ _ => rfl))
          (pa_cons (pe_ix (ix_listK K rfl) (pv 3) (pe_call GT hr rfl DT.mg DT.fn.kp DT.bd .nil pass0 (pa_cons (pv 0) (pa_cons (pv 1) (pa_cons (pv 4) (pa_cons (pv 6) pa_nil))))) (fun _ _ => rfl))
          (pa_cons (pe_ix (ix_listK K rfl) (pv 3) (pe_call GT hr rfl DT.mg DT.fn.kp DT.bd .nil pass0 (pa_cons (pv 0) (pa_cons (pv 1) (pa_cons (pv 6) (pa_cons (pv 4) pa_nil))))) (fun _ _ => rfl)) pa_nil))))))
      (pss_one (ps_ret (pe_tup (pa_cons (pe_ix ix_list (pv 3) (pv 4) (fun _ _ => rfl)) (pa_cons (pe_callTy call_tuple_of rfl B.tuple PyProof.Rows.boot_tuple (pa_cons (pe_callB (cr_sortRow hr.units) rfl B2.sorted boot_sorted3 (pa_cons (pv 5) pa_nil)) pa_nil)) pa_nil))))), ?_⟩
    have b1 : -(2 ^ 64) < (n : Int) := by omega
    have b2 : (n : Int) < 2 ^ 64 := by omega
    refine ⟨_, rfl, _, rfl, (by show -(2 ^ 62) ≤ (n : Int); omega), (by show (n : Int) < 2 ^ 62; omega), fun D hD => lc_range (n := n) (fun i H2 => Same H H2 ∧ ∃ out : List Addr, H2 D = some (.lst (out.map V.ref)) ∧ Paired (RowH H2) ((List.range i).map (met4 n T (fn dl) (fn ml) x)) out)
      ⟨new_same hD, [], upd_same, .nil⟩ ?_ ?_⟩
    · rintro j H2 hj ⟨hs, out, h2, h3⟩
      rw [vi_zero]
      have txy := hT.turn hx hj
      have tyx := hT.turn hj hx
      have gM : ∀ {i : Nat}, i < n → (ml.map vi)[i]? = some (vi (fn ml i)) := fun {i} h => vi_get (at_getD (by rw [hml]; exact h))
      refine ⟨rfl, _, rfl, _, rfl, _, rfl, _, _, rfl, rfl, .inr ⟨b1, b2⟩, _, rfl, _, _, rfl, rfl, c, dl.map vi, _, vi (fn dl (x * n + j)), rfl, rfl, hs.seq hC, at_of (j := x * n + j) (by show (x : Int) * n + j = _; omega) (vi_get (at_getD (by rw [hdl]; exact ix_lt hx hj))), ?_⟩
      refine ⟨_, rfl, _, rfl, m, ml.map vi, _, _, rfl, rfl, hs.seq hM, at_of (j := j) rfl (gM hj), ?_⟩
      refine ⟨_, rfl, _, rfl, _, rfl, _, rfl, _, rfl, a, n, T, x, j, rfl, hs.seq hS, hn, by rw [hT.len]; exact ix_lt hx hj, m, ml.map vi, _, _, rfl, rfl, hs.seq hM, at_of (j := tn n T x j) rfl (gM txy), ?_⟩
      refine ⟨_, rfl, _, rfl, _, rfl, _, rfl, _, rfl, a, n, T, j, x, rfl, hs.seq hS, hn, by rw [hT.len]; exact ix_lt hj hx, m, ml.map vi, _, _, rfl, rfl, hs.seq hM, at_of (j := tn n T j x) rfl (gM tyx), ?_⟩
      refine ⟨by show 4 ≤ sizeLine; decide, fun p hp => ⟨_, new_same hp D _ h2, ?_, (hs.trans (new_same hp)).put hD, out ++ [p], by rw [upd_same, List.map_append]; rfl, ?_⟩⟩
      · have := paired_len2 h3
        rw [List.length_map, this, List.length_map, List.length_range, sizeLine_eq]
        omega
      · have tk : TupK (upd H2 p (.tup [vi (fn dl (x * n + j)), vi (fn ml j), vi (fn ml (tn n T x j)), vi (fn ml (tn n T j x))])) (upd (upd H2 p (.tup [vi (fn dl (x * n + j)), vi (fn ml j), vi (fn ml (tn n T x j)), vi (fn ml (tn n T j x))])) D (.lst (out.map V.ref ++ [.ref p]))) := TupK.set (new_same hp D _ h2) (fun _ z => nomatch z)
        rw [List.range_succ, List.map_append]
        exact paired_snoc (paired_mono (fun _ _ q => (q.keep (TupK.new hp)).keep tk) h3) (RowH.keep (show RowH _ (met4 n T (fn dl) (fn ml) x j) p from upd_same) tk)
    · rintro H2 ⟨hs, out, h2, h3⟩
      refine ⟨_, rfl, _, rfl, m, ml.map vi, _, _, rfl, rfl, hs.seq hM, at_of (j := x) rfl (vi_get (at_getD (by rw [hml]; exact hx))), ?_⟩
      refine ⟨_, rfl, D, out, _, rfl, SqL.of h2, h3, by rw [List.length_map, List.length_range]; omega, fun r hr' => ?_, fun ads p hpa hp => ?_⟩
      · obtain ⟨y, _, rfl⟩ := List.mem_map.mp hr'
        intro z
        cases z
      · refine ⟨p, ads.map V.ref, rfl, .inl ⟨SqL.of upd_same, fun q hq => ⟨by show 2 ≤ sizeLine; decide, fun r hr' => ?_⟩⟩⟩
        have s1 : Same H2 (upd H2 p (.lst (ads.map V.ref))) := new_same hp
        have s2 := s1.trans (new_same (o := .tup (ads.map V.ref)) hq)
        have s3 := s2.trans (new_same (o := .tup [vi (fn ml x), .ref q]) hr')
        refine k _ r (hs.trans s3) ⟨q, ads, upd_same, ?_, paired_mono (fun _ _ z => z.keep s3.tupk) hpa⟩
        exact new_same hr' q _ upd_same
end
end My
set_option Elab.async false
set_option linter.all false
set_option maxRecDepth 100000
set_option maxHeartbeats 4000000
namespace My
open PySem PySem.Spec PyProof.Rows L2 L3
def tsgXY (n : Nat) (T : List Nat) (d : Nat → Nat) (x y : Nat) : Sg := (d (x * n + y), sR (tab n (met7 n T d x y)))
def spTie (K : PySem.W.Frag) : Sp := fun vs H Q _ => ∃ (a c : Addr) (n x y : Nat) (T dl : List Nat), vs = [vi n, .ref a, .ref c, vi x, vi y] ∧ SqL K H a (T.map vi) ∧ SqL K H c (dl.map vi) ∧ n ≤ 16 ∧ Tb n T ∧ dl.length = n * n ∧ x < n ∧ y < n ∧
  ∀ (H' : Hp) (p : Addr), Same H H' → SgH H' (tsgXY n T (fn dl) x y) p → Q (.ref p) H'
section
variable {P : Program} {w : World} {K : PySem.W.Frag} {mg : Str → Option Value} {base : Heap}
theorem row_snoc (g : Nat → List Nat) {H2 H3 H4 : Hp} {j p : Nat} {out : List Addr} (h : Paired (RowH H2) ((List.range j).map g) out) (hp : RowH H3 (g j) p) (t1 : TupK H2 H3) (t2 : TupK H3 H4) : Paired (RowH H4) ((List.range (j + 1)).map g) (out ++ [p]) := by
  rw [List.range_succ, List.map_append]
  exact paired_snoc (paired_mono (fun _ _ q => (q.keep t1).keep t2) h) (hp.keep t2)
theorem scTi : FnScope ["n", "t", "tied", "x", "y", "met", "z", "by_x", "by_y"] ["n", "t", "tied", "x", "y"] (defScope sTie) := ⟨rfl, rfl, rfl, by decide +kernel, rfl, by decide +kernel, by decide +kernel⟩
theorem ok_tie {f fT : Addr} {fd fdT : FuncData} (F : Fun K "tie_sign" "tie_sign" sTie f fd) (B : Blt mg) (B2 : Blt2 mg) (DT : Def K mg "turned" sTurned ["n", "t", "x", "y"] fT fdT) : FnOk P w K mg base CX0 2 f fd ["n", "t", "tied", "x", "y"] (spTie K) := by
  have GT : FnOk P w K mg base CX0 1 fT fdT ["n", "t", "x", "y"] (spTurned K) := ok_turned DT.fn
  refine F.ok scTi (fun vs H Q E h => ?_) (fun cdv A outer s H vs Q E hr h => ?_)
  · obtain ⟨a, c, n, x, y, T, dl, rfl, _⟩ := h
    rfl
  · obtain ⟨a, c, n, x, y, T, dl, rfl, hS, hC, hn, hT, hdl, hx, hy, k⟩ := h
    refine ⟨_, pss_cons (ps_set (i := 5) scTi.nd rfl (Or.inl rfl) (pe_lst pa_nil))
      (pss_cons (ps_for PassesOwn.never rfl (pi_range1 rfl B.range (pa_cons (pv 0) pa_nil)) (pg_name (i := 6) scTi.nd rfl (Or.inl rfl))
        (pss_cons (ps_set (i := 7) scTi.nd rfl (Or.inl rfl) (pe_call GT hr rfl DT.mg DT.fn.kp DT.bd .nil pass0 (pa_cons (pv 0) (pa_cons (pv 1) (pa_cons (pv 3) (pa_cons (pv 6) pa_nil))))))
        (pss_cons (ps_set (i := 8) scTi.nd rfl (Or.inl rfl) (pe_call GT hr rfl DT.mg DT.fn.kp DT.bd .nil pass0 (pa_cons (pv 0) (pa_cons (pv 1) (pa_cons (pv 4) (pa_cons (pv 6) pa_nil))))))
        (pss_one (ps_expr (pe_bm PySem.F.plainAttrs_list PySem.F.slot_list_append PySem.F.type_list_append mt_append (pv 5) (pa_cons (pe_tup
          (pa_cons (pe_ix ix_list (pv 2) (pe_op op_add (pe_op op_mul (pv 3) (pv 0)) (pv 6)) (fun _ _ => rfl))
          (pa_cons (pe_ix ix_list (pv 2) (pe_op op_add (pe_op op_mul (pv 4) (pv 0)) (pv 6)) (fun _ _ => rfl))
          (pa_cons (pe_ix ix_list (pv 2) (pe_op op_add (pe_op op_mul (pv 7) (pv 0)) (pv 8)) (fun _ _ => rfl))
          (pa_cons (pe_ix ix_list (pv 2) (pe_op op_add (pe_op op_mul (pv 7) (pv 0)) (pv 4)) (fun _ _ => rfl))
          (pa_cons (pe_ix ix_list (pv 2) (pe_op op_add (pe_op op_mul (pv 8) (pv 0)) (pv 3)) (fun _ _ => rfl))
          (pa_cons (pe_ix ix_list (pv 2) (pe_op op_add (pe_op op_mul (pe_call GT hr rfl DT.mg DT.fn.kp DT.bd .nil pass0 (pa_cons (pv 0) (pa_cons (pv 1) (pa_cons (pv 6) (pa_cons (pv 3) pa_nil))))) (pv 0)) (pv 4)) (fun _ _ => rfl))
          (pa_cons (pe_ix ix_list (pv 2) (pe_op op_add (pe_op op_mul (pe_call GT hr rfl DT.mg DT.fn.kp DT.bd .nil pass0 (pa_cons (pv 0) (pa_cons (pv 1) (pa_cons (pv 6) (pa_cons (pv 4) pa_nil))))) (pv 0)) (pv 3)) (fun _ _ => rfl))
          pa_nil)))))))) pa_nil)))))))
      (pss_one (ps_ret (pe_tup (pa_cons (pe_ix ix_list (pv 2) (pe_op op_add (pe_op op_mul (pv 3) (pv 0)) (pv 4)) (fun _ _ => rfl)) (pa_cons (pe_callTy call_tuple_of rfl B.tuple PyProof.Rows.boot_tuple (pa_cons (pe_callB (cr_sortRow hr.units) rfl B2.sorted boot_sorted3 (pa_cons (pv 5) pa_nil)) pa_nil)) pa_nil)))))), ?_⟩
    have b1 : -(2 ^ 64) < (n : Int) := by omega
    have b2 : (n : Int) < 2 ^ 64 := by omega
    have gD : ∀ {i j : Nat}, i < n → j < n → (dl.map vi)[i * n + j]? = some (vi (fn dl (i * n + j))) := fun {i j} h1 h2 => vi_get (at_getD (by rw [hdl]; exact ix_lt h1 h2))
    have ez : ∀ {i j : Nat}, (i : Int) * n + j = ((i * n + j : Nat) : Int) := by intro i j; omega
    refine ⟨by show 0 ≤ sizeLine; decide, fun D hD => ?_⟩
    refine ⟨_, rfl, _, rfl, (by show -(2 ^ 62) ≤ (n : Int); omega), (by show (n : Int) < 2 ^ 62; omega), for_range (n := n) (fun i σ H2 => ∃ v6 v7 v8 : Option V, σ = [some (vi n), some (.ref a), some (.ref c), some (vi x), some (vi y), some (.ref D), v6, v7, v8] ∧ Same H H2 ∧ ∃ out : List Addr, H2 D = some (.lst (out.map V.ref)) ∧ Paired (RowH H2) ((List.range i).map (met7 n T (fn dl) x y)) out)
      ⟨none, none, none, rfl, new_same hD, [], upd_same, .nil⟩ ?_ ?_⟩
    · rintro j σ H2 hj ⟨v6, v7, v8, rfl, hs, out, h2, h3⟩
      rw [vi_zero]
      have hxz := hT.turn hx hj
      have hyz := hT.turn hy hj
      have hzx := hT.turn hj hx
      have hzy := hT.turn hj hy
      have lt : ∀ {i j : Nat}, i < n → j < n → i * n + j < T.length := fun h1 h2 => by rw [hT.len]; exact ix_lt h1 h2
      refine ⟨_, rfl, _, rfl, _, rfl, _, rfl, a, n, T, x, j, rfl, hs.seq hS, hn, lt hx hj, ?_⟩
      refine ⟨_, rfl, _, rfl, _, rfl, _, rfl, a, n, T, y, j, rfl, hs.seq hS, hn, lt hy hj, ?_⟩
      refine ⟨_, rfl, .inl ⟨rfl, _, SqL.of h2⟩, ?_⟩
      refine ⟨_, rfl, _, rfl, _, rfl, _, _, rfl, rfl, .inr ⟨b1, b2⟩, _, rfl, _, _, rfl, rfl, c, dl.map vi, _, _, rfl, rfl, hs.seq hC, at_of (j := x * n + j) ez (gD hx hj), ?_⟩
      refine ⟨_, rfl, _, rfl, _, rfl, _, _, rfl, rfl, .inr ⟨b1, b2⟩, _, rfl, _, _, rfl, rfl, c, dl.map vi, _, _, rfl, rfl, hs.seq hC, at_of (j := y * n + j) ez (gD hy hj), ?_⟩
      refine ⟨_, rfl, _, rfl, _, rfl, _, _, rfl, rfl, .inr ⟨b1, b2⟩, _, rfl, _, _, rfl, rfl, c, dl.map vi, _, _, rfl, rfl, hs.seq hC, at_of (j := tn n T x j * n + tn n T y j) ez (gD hxz hyz), ?_⟩
      refine ⟨_, rfl, _, rfl, _, rfl, _, _, rfl, rfl, .inr ⟨b1, b2⟩, _, rfl, _, _, rfl, rfl, c, dl.map vi, _, _, rfl, rfl, hs.seq hC, at_of (j := tn n T x j * n + y) ez (gD hxz hy), ?_⟩
      refine ⟨_, rfl, _, rfl, _, rfl, _, _, rfl, rfl, .inr ⟨b1, b2⟩, _, rfl, _, _, rfl, rfl, c, dl.map vi, _, _, rfl, rfl, hs.seq hC, at_of (j := tn n T y j * n + x) ez (gD hyz hx), ?_⟩
      refine ⟨_, rfl, _, rfl, _, rfl, _, rfl, _, rfl, a, n, T, j, x, rfl, hs.seq hS, hn, lt hj hx, _, rfl, _, _, rfl, rfl, .inr ⟨b1, b2⟩, _, rfl, _, _, rfl, rfl, c, dl.map vi, _, _, rfl, rfl, hs.seq hC, at_of (j := tn n T j x * n + y) ez (gD hzx hy), ?_⟩
      refine ⟨_, rfl, _, rfl, _, rfl, _, rfl, _, rfl, a, n, T, j, y, rfl, hs.seq hS, hn, lt hj hy, _, rfl, _, _, rfl, rfl, .inr ⟨b1, b2⟩, _, rfl, _, _, rfl, rfl, c, dl.map vi, _, _, rfl, rfl, hs.seq hC, at_of (j := tn n T j y * n + x) ez (gD hzy hx), ?_⟩
      have hol : out.length = j := by
        have := paired_len2 h3
        rw [this, List.length_map, List.length_range]
      refine ⟨by show 7 ≤ sizeLine; decide, fun p hp => ⟨D, _, _, rfl, rfl, new_same hp D _ h2, by rw [List.length_map, hol, sizeLine_eq]; omega, _, _, _, rfl, (hs.trans (new_same hp)).put hD, out ++ [p], by rw [upd_same, List.map_append]; rfl, ?_⟩⟩
      refine row_snoc (met7 n T (fn dl) x y) h3 (upd_same (H := H2)) (TupK.new hp) (TupK.set (new_same hp D _ h2) (fun _ z => nomatch z))
    · rintro σ H2 ⟨v6, v7, v8, rfl, hs, out, h2, h3⟩
      refine ⟨_, rfl, _, rfl, _, rfl, _, _, rfl, rfl, .inr ⟨b1, b2⟩, _, rfl, _, _, rfl, rfl, c, dl.map vi, _, _, rfl, rfl, hs.seq hC, at_of (j := x * n + y) ez (gD hx hy), ?_⟩
      refine ⟨_, rfl, D, out, _, rfl, SqL.of h2, h3, by rw [List.length_map, List.length_range]; omega, fun r hr' => ?_, fun ads p hpa hp => ?_⟩
      · obtain ⟨y, _, rfl⟩ := List.mem_map.mp hr'
        intro z
        cases z
      · refine ⟨p, ads.map V.ref, rfl, .inl ⟨SqL.of upd_same, fun q hq => ⟨by show 2 ≤ sizeLine; decide, fun r hr' => ?_⟩⟩⟩
        have s1 : Same H2 (upd H2 p (.lst (ads.map V.ref))) := new_same hp
        have s2 := s1.trans (new_same (o := .tup (ads.map V.ref)) hq)
        have s3 := s2.trans (new_same (o := .tup [vi (fn dl (x * n + y)), .ref q]) hr')
        exact k _ r (hs.trans s3) ⟨q, ads, upd_same, new_same hr' q _ upd_same, paired_mono (fun _ _ z => z.keep s3.tupk) hpa⟩
end
end My
set_option Elab.async false
set_option linter.all false
set_option maxRecDepth 100000
set_option maxHeartbeats 4000000
namespace L2
open PySem PySem.Spec PyProof.Rows L3
theorem SqL.sameT {T : List (Addr × Str)} {K : PySem.W.Frag} {H H' : Hp} {a : Addr} {xs : List V} (e : SameT T H H') (h : SqL K H a xs) : SqL K H' a xs := by
  rcases h with h | h
  · rcases h with h | ⟨o, h⟩
    · exact .inl (.inl (e.keep _ _ h rfl))
    · exact .inl (.inr ⟨o, e.keep _ _ h rfl⟩)
  · exact .inr h
theorem SameT.putL {T : List (Addr × Str)} {H Hx : Hp} {D : Addr} {o : HO} {xs : List V} (s : SameT T H Hx) (n : H D = none) (hD : Hx D = some (.lst xs)) : SameT T H (upd Hx D o) := by
  refine ⟨fun a u e t => ?_, fun a e => ?_, fun t p hp => ?_⟩
  · rw [upd_ne (ne_of_none e n)]
    exact s.keep a u e t
  · by_cases z : a = D
    · rw [z]; exact n
    · rw [upd_ne z] at e
      exact s.free a e
  · obtain ⟨ps, h1, h2, h3⟩ := s.tabs t p hp
    refine ⟨ps, by rw [upd_ne (ne_of h1 hD (fun z => nomatch z))]; exact h1, h2, fun pos cv e => ?_⟩
    obtain ⟨c', h4, h5⟩ := h3 pos cv e
    exact ⟨c', h4, by rw [upd_ne (ne_of h5 hD (fun z => nomatch z))]; exact h5⟩
theorem at_last {xs : List V} {v : V} : atI (xs ++ [v]) (-1) = some v := by
  unfold atI ixN
  rw [if_neg (by decide), if_pos (by rw [List.length_append, List.length_singleton]; omega)]
  show (xs ++ [v])[((-1 : Int) + ((xs ++ [v]).length : Nat)).toNat]? = some v
  have e : ((-1 : Int) + ((xs ++ [v]).length : Nat)).toNat = xs.length := by rw [List.length_append, List.length_singleton]; omega
  rw [e, List.getElem?_append_right (Nat.le_refl _), Nat.sub_self]
  rfl
end L2
namespace My
open PySem PySem.Spec PyProof.Rows L2 L3
abbrev sTold : Stmt := top 25
def spFun (K : PySem.W.Frag) (N : Nat) (g : (Nat → Nat) → Nat → Sg) : V → Hp → VK → Prop := fun v H Q => ∃ (b : Addr) (ml : List Nat), v = .ref b ∧ SqL K H b (ml.map vi) ∧ ml.length = N ∧
  ∀ (H' : Hp) (p : Addr), Same H H' → H p = none → SgsH H' (tab N (g (fn ml))) p → Q (.ref p) H'
def spTold (P : Program) (w : World) (K : PySem.W.Frag) (mg : Str → Option Value) (base : Heap) (T : List (Addr × Str)) (kf : Nat) : SpS := fun outer s vs H Q _ => ∃ (a f : Addr) (N : Nat) (m0 : List Nat) (g : (Nat → Nat) → Nat → Sg), vs = [.ref a, .ref f] ∧ SqL K H a (m0.map vi) ∧ m0.length = N ∧ 1 ≤ N ∧ N ≤ 36 ∧
  FV P w K mg base T kf outer s H f (spFun K N g) ∧ (∀ m m', (∀ i, i < N → m i = m' i) → ∀ i, i < N → g m i = g m' i) ∧
  ∀ (H' : Hp) (p : Addr) (k : Nat), SameT T H H' → H p = none → Stop sS N g (fn m0) k → LookH H' (seen sS N g (fn m0) k) p → Q (.ref p) H'
theorem cnt_list (l : List Nat) : (metInts (l.map My.cast)).length = cnt l := dcount_cast l
theorem fn_tab {N : Nat} {m : Nat → Nat} {i : Nat} (h : i < N) : fn (tab N m) i = m i := tab_getD h 0
theorem tab_fn (l : List Nat) : tab l.length (fn l) = l := tab_get l 0
section
variable {P : Program} {w : World} {K : PySem.W.Frag} {mg : Str → Option Value} {base : Heap}
theorem scTo : FnScope ["marks", "signs_by", "seen", "parted"] ["marks", "signs_by"] (defScope sTold) := ⟨rfl, rfl, rfl, by decide +kernel, rfl, by decide +kernel, by decide +kernel⟩
theorem ok_told {T : List (Addr × Str)} {f fR : Addr} {fd fdR : FuncData} {kf : Nat} (F : Fun K "told_apart" "told_apart" sTold f fd) (B : Blt mg) (B2 : Blt2 mg) (DR : Def K mg "ranks" sRanks ["signs"] fR fdR) :
    FnOkS P w K mg base (kf + 2) f fd ["marks", "signs_by"] (spTold P w K mg base T kf) := by
  have GR : FnOk P w K mg base CX0 1 fR fdR ["signs"] (spRanks K) := ok_ranks DR.fn B B2
  refine F.okS scTo (fun outer s vs H Q E h => ?_) (fun A outer s H vs Q E hr h => ?_)
  · obtain ⟨a, f, N, m0, g, rfl, _⟩ := h
    rfl
  · obtain ⟨a, fv, N, m0, g, rfl, hA, hm0, hN1, hN, hF, hg, k⟩ := h
    refine ⟨_, pss_cons (ps_set (i := 2) scTo.nd rfl (Or.inl rfl) (pe_lst pa_nil)) (pss_cons (ps_set (i := 3) scTo.nd rfl (Or.inl rfl) pe_int)
      (pss_cons (ps_while PassesOwn.never (pt_cmpR op_lt (pv 3) (pe_callB call_lenS rfl B.len PySem.boot_len (pa_cons (pe_callTy (call_setL rfl) rfl B.set PyProof.Rows.boot_set (pa_cons (pv 0) pa_nil)) pa_nil)) (nomark _))
        (pss_cons (ps_set (i := 3) scTo.nd rfl (Or.inl rfl) (pe_callB call_lenS rfl B.len PySem.boot_len (pa_cons (pe_callTy (call_setL rfl) rfl B.set PyProof.Rows.boot_set (pa_cons (pv 0) pa_nil)) pa_nil)))
        (pss_cons (ps_expr (pe_bm PySem.F.plainAttrs_list PySem.F.slot_list_append PySem.F.type_list_append mt_append (pv 2) (pa_cons (pe_callV (T := T) (k := kf) (i := 1) (hr.mono (by omega)) rfl rfl (Or.inl rfl) (pv 0)) pa_nil)))
        (pss_one (ps_set (i := 0) scTo.nd rfl (Or.inl rfl) (pe_call GR (hr.mono (by omega)) rfl DR.mg DR.fn.kp DR.bd .nil pass0 (pa_cons (pe_ix ix_list (pv 2) (pe_un un_neg pe_int) (fun _ _ => rfl)) pa_nil)))))))
      (pss_one (ps_ret (pv 2))))), ?_⟩
    refine ⟨by show 0 ≤ sizeLine; decide, fun S hS => ?_⟩
    let mk : Nat → Nat → Nat := it sS N g (fn m0)
    let cn : Nat → Nat := fun k => cnt (tab N (mk k))
    have cnl : ∀ k, cn k ≤ N := fun k => cnt_le N _
    let pt : Nat → Nat := fun k => match k with | 0 => 0 | j + 1 => cn j
    have hstep : ∀ i, ranksOf (tab N (g (fn (tab N (mk i))))) = tab N (mk (i + 1)) := fun i => by
      have e : tab N (g (fn (tab N (mk i)))) = tab N (g (mk i)) := tab_congr (hg _ _ fun j hj => fn_tab hj)
      rw [e]
      exact ranksG_tab sS N _
    have hsn : ∀ i, tab N (g (fn (tab N (mk i)))) = tab N (g (mk i)) := fun i => tab_congr (hg _ _ fun j hj => fn_tab hj)
    refine ⟨fun m σ Hc => ∃ (i : Nat) (b : Addr) (out : List Addr), σ = [some (.ref b), some (.ref fv), some (.ref S), some (vi (pt i))] ∧ SameT T H Hc ∧ SqL K Hc b ((tab N (mk i)).map vi) ∧ Hc S = some (.lst (out.map V.ref)) ∧ (∀ c ∈ out, c ≠ S) ∧
        Paired (SgsH Hc) ((List.range i).map fun k => tab N (g (mk k))) out ∧ (∀ k, k + 1 < i → cn k < cn (k + 1)) ∧ m = N + 1 - pt i,
      ⟨N + 1, 0, a, [], rfl, .new hS, ?_, upd_same, fun _ h => (by cases h), .nil, fun k h => by omega, rfl⟩, ?_⟩
    · have e : tab N (mk 0) = m0 := by rw [← hm0]; exact tab_fn m0
      rw [e]
      exact SqL.sameT (SameT.new (T := T) hS) hA
    · rintro m σ Hc ⟨i, b, out, rfl, sm, hb, hSc, hne, hP, hgr, rfl⟩
      have hb' : SqL K Hc b (((tab N (mk i)).map My.cast).map V.int) := by rw [← map_vi]; exact hb
      refine ⟨_, rfl, _, rfl, b, (tab N (mk i)).map My.cast, rfl, hb', by rw [List.length_map, tab_len]; omega, fun q hq => ?_⟩
      rw [cnt_list]
      have hSq : S ≠ q := ne_of_none hSc hq
      have s1 : Same Hc (upd Hc q (.set (fun k => (metInts ((tab N (mk i)).map My.cast)).any (· == k)) (cnt (tab N (mk i))))) := new_same hq
      refine ⟨q, _, _, rfl, upd_same, _, _, rfl, rfl, _, rfl, ite2 (fun h => ?_) (fun h => ?_)⟩
      · have h : (pt i : Int) < (cn i : Int) := of_decide_eq_true h
        have h : pt i < cn i := by omega
        refine ⟨fun σ' Hc' => ∃ (b : Addr) (out : List Addr), σ' = [some (.ref b), some (.ref fv), some (.ref S), some (vi (pt (i + 1)))] ∧ SameT T H Hc' ∧ SqL K Hc' b ((tab N (mk (i + 1))).map vi) ∧ Hc' S = some (.lst (out.map V.ref)) ∧ (∀ c ∈ out, c ≠ S) ∧
            Paired (SgsH Hc') ((List.range (i + 1)).map fun k => tab N (g (mk k))) out, fun σ' Hc' ⟨b', out', e1, e2, e3, e4, e5, e6⟩ => ⟨N + 1 - pt (i + 1), ?_, i + 1, b', out', e1, e2, e3, e4, e5, e6, fun k hk => ?_, rfl⟩, ?_⟩
        · have := cnl i
          show N + 1 - cn i < N + 1 - pt i
          omega
        · by_cases z : k + 1 < i
          · exact hgr k z
          · have z2 : i = k + 1 := by omega
            subst z2
            exact h
        · refine ⟨_, rfl, b, (tab N (mk i)).map My.cast, rfl, s1.seq hb', by rw [List.length_map, tab_len]; omega, fun q2 hq2 => ?_⟩
          rw [cnt_list]
          have s2 := s1.trans (new_same (o := .set (fun k => (metInts ((tab N (mk i)).map My.cast)).any (· == k)) (cnt (tab N (mk i)))) hq2)
          refine ⟨q2, _, _, rfl, upd_same, ?_⟩
          refine ⟨_, rfl, .inl ⟨rfl, _, SqL.of (s2 S _ hSc)⟩, fv, spFun K N g, rfl, hF, sm.trans (.of s2), _, rfl, sm.trans (.of s2), b, tab N (mk i), rfl, s2.seq hb, tab_len _ _, fun H3 p s3 hp hsg => ?_⟩
          have s4 := s2.trans s3
          have hpS : p ≠ S := Ne.symm (ne_of_none (s2 S _ hSc) hp)
          rw [hsn] at hsg
          have hol : out.length = i := by rw [paired_len2 hP, List.length_map, List.length_range]
          have up : ∀ k, k < i → k + 1 ≤ cn k := fun k => by
            induction k with
            | zero => intro _; exact cnt_pos (mk 0) hN1
            | succ k ih =>
              intro hk
              have := hgr k hk
              have := ih (by omega)
              omega
          have hiN : i ≤ N := by
            cases i with
            | zero => omega
            | succ j =>
              have := up j (by omega)
              have := cnl j
              omega
          refine ⟨S, _, _, rfl, rfl, s4 S _ hSc, by rw [List.length_map, hol, sizeLine_eq]; omega, ?_⟩
          have sm4 : SameT T H (upd H3 S (.lst (out.map V.ref ++ [.ref p]))) := (sm.trans (.of s4)).putL hS (s4 S _ hSc)
          have tk : TupK H3 (upd H3 S (.lst (out.map V.ref ++ [.ref p]))) := TupK.set (s4 S _ hSc) (fun _ z => nomatch z)
          have hsg' : SgsH (upd H3 S (.lst (out.map V.ref ++ [.ref p]))) (tab N (g (mk i))) p := hsg.keep tk fun xs e => by rw [upd_ne hpS]; exact e
          refine ⟨_, rfl, _, rfl, S, (out ++ [p]).map V.ref, _, .ref p, rfl, rfl, SqL.of (by rw [upd_same, List.map_append]; rfl), ?_, p, tab N (g (mk i)), rfl, hsg', by rw [tab_len]; omega, fun H5 r s5 hr5 hrr => ?_⟩
          · rw [List.map_append]
            exact at_last
          · refine ⟨r, out ++ [p], rfl, sm4.trans (.of s5), SqL.of ?_, s5 S _ (by rw [upd_same, List.map_append]; rfl), fun c hc => ?_, ?_⟩
            · rw [hrr]
              have e : ranksOf (tab N (g (mk i))) = tab N (mk (i + 1)) := ranksG_tab sS N _
              rw [e]
            · rcases List.mem_append.mp hc with hc | hc
              · exact hne c hc
              · rw [List.mem_singleton.mp hc]; exact hpS
            · rw [List.range_succ, List.map_append]
              refine paired_snoc (paired_mem (fun l c hc z => ?_) hP) (hsg'.same s5)
              exact (((z.same s4)).keep tk fun xs e => by rw [upd_ne (hne c hc)]; exact e).same s5
      · have h : ¬ (pt i : Int) < (cn i : Int) := fun z => h (decide_eq_true z)
        have h : cn i ≤ pt i := by omega
        have hi : i ≠ 0 := fun z => by
          subst z
          have := cnt_pos (mk 0) hN1
          have : 1 ≤ cn 0 := this
          have : pt 0 = 0 := rfl
          omega
        obtain ⟨j, rfl⟩ : ∃ j, i = j + 1 := ⟨i - 1, by omega⟩
        refine ⟨_, rfl, k _ S j (sm.trans (.of s1)) hS ⟨h, fun k hk => hgr k (by omega)⟩ ⟨out, s1 S _ hSc, ?_⟩⟩
        exact paired_mono (fun _ _ z => z.same s1) hP
end
end My
set_option Elab.async false
set_option linter.all false
set_option maxRecDepth 100000
set_option maxHeartbeats 4000000
namespace L2
open PySem PySem.Spec PyProof.Rows L3
def frC (sc scope : Scope) : Bool := scope.names.all fun y => match y.2 with
  | .free => (match sc.names.lookup y.1 with
    | some .cell => true
    | some .free => true
    | _ => false)
  | _ => true
theorem fr_by {sc scope : Scope} (h : frC sc scope = true) : ∀ y ∈ scope.names, y.2 = .free → sc.names.lookup y.1 = some .cell ∨ sc.names.lookup y.1 = some .free := fun y hy e => by
  have q := List.all_eq_true.mp h y hy
  rw [e] at q
  dsimp only at q
  split at q
  · rename_i h1; exact .inl h1
  · rename_i h1; exact .inr h1
  · cases q
end L2
namespace My
open PySem PySem.Spec PyProof.Rows L2 L3
abbrev sTies : Stmt := top 26
abbrev qTies : Str := "ties.<locals>.<lambda>"
theorem it_congr {α : Type} [DecidableEq α] {ss : List α → List α} {N : Nat} {g : (Nat → Nat) → Nat → α} {m m' : Nat → Nat} (hg : ∀ m m', (∀ i, i < N → m i = m' i) → ∀ i, i < N → g m i = g m' i) (h : ∀ i, i < N → m i = m' i) :
    ∀ k i, i < N → it ss N g m k i = it ss N g m' k i
  | 0, i, hi => h i hi
  | k + 1, i, hi => by
    have e : ∀ j, j < N → g (it ss N g m k) j = g (it ss N g m' k) j := hg _ _ (it_congr hg h k)
    show rk ss N _ i = rk ss N _ i
    unfold rk
    rw [tab_congr e, e i hi]
theorem seen_congr {α : Type} [DecidableEq α] {ss : List α → List α} {N : Nat} {g : (Nat → Nat) → Nat → α} {m m' : Nat → Nat} (hg : ∀ m m', (∀ i, i < N → m i = m' i) → ∀ i, i < N → g m i = g m' i) (h : ∀ i, i < N → m i = m' i) (k : Nat) :
    seen ss N g m k = seen ss N g m' k := List.map_congr_left fun j _ => tab_congr (hg _ _ (it_congr hg h j))
theorem stop_congr {α : Type} [DecidableEq α] {ss : List α → List α} {N : Nat} {g : (Nat → Nat) → Nat → α} {m m' : Nat → Nat} (hg : ∀ m m', (∀ i, i < N → m i = m' i) → ∀ i, i < N → g m i = g m' i) (h : ∀ i, i < N → m i = m' i) {k : Nat}
    (s : Stop ss N g m k) : Stop ss N g m' k := by
  have e : ∀ j, tab N (it ss N g m j) = tab N (it ss N g m' j) := fun j => tab_congr (it_congr hg h j)
  refine ⟨by rw [← e, ← e]; exact s.last, fun j hj => by rw [← e, ← e]; exact s.grow j hj⟩
theorem iso_id (n : Nat) (T : List Nat) : Iso n T T (fun x => x) := ⟨⟨fun _ h => h, fun _ _ _ _ e => e⟩, fun _ _ _ _ => rfl⟩
theorem tsg_congr {n : Nat} {T : List Nat} (hT : Tb n T) (m m' : Nat → Nat) (h : ∀ i, i < n * n → m i = m' i) : ∀ i, i < n * n → tsg sR n T m i = tsg sR n T m' i := fun i hi => by
  have q := moved_tsg canR hT (iso_id n T) m' m (fun k hk => ?_) i hi
  · rw [← q]
    unfold pairσ
    rw [Nat.mul_comm, Nat.div_add_mod]
  · unfold pairσ
    rw [Nat.mul_comm, Nat.div_add_mod]
    exact h k hk
theorem sgn_congr {n : Nat} {T : List Nat} (hT : Tb n T) (d m m' : Nat → Nat) (h : ∀ i, i < n → m i = m' i) : ∀ i, i < n → sgn sR n T d m i = sgn sR n T d m' i := fun i hi =>
  moved_sgn canR hT (iso_id n T) (d := d) (d' := d) (fun _ _ _ _ => rfl) m' m (fun k hk => h k hk) i hi
def spTies (K : PySem.W.Frag) (Tt : List (Addr × Str)) : Sp := fun vs H Q _ => ∃ (a : Addr) (n : Nat) (T : List Nat), vs = [vi n, .ref a] ∧ SqL K H a (T.map vi) ∧ 1 ≤ n ∧ n ≤ 6 ∧ Tb n T ∧ Tabs Tt H ∧
  ∀ (H' : Hp) (p : Addr) (k : Nat), SameT Tt H H' → H p = none → Stop sS (n * n) (tsg sR n T) (tie0 n) k → LookH H' (seen sS (n * n) (tsg sR n T) (tie0 n) k) p → Q (.ref p) H'
structure LamDef (K : PySem.W.Frag) (base : Heap) (mg : Str → Option Value) (Tt : List (Addr × Str)) (fd : FuncData) (qual : Str) : Prop where
  ex : ∃ c P, fd.code = .ref c ∧ LamAt base mg c P ∧ (P, qual) ∈ Tt ∧ ∀ q, (P, q) ∈ Tt → q = qual
section
variable {P : Program} {w : World} {K : PySem.W.Frag} {mg : Str → Option Value} {base : Heap}
theorem scTs : FnScope ["n", "t", "at_first", "k"] ["n", "t"] (defScope sTies) := ⟨rfl, rfl, rfl, by decide +kernel, rfl, by decide +kernel, by decide +kernel⟩
theorem ndTs : (["tied", "n", "t", "k"] : List Str).Nodup := by decide +kernel
theorem ok_ties {Tt : List (Addr × Str)} {f fG fO : Addr} {fd fdG fdO : FuncData} (F : Fun K "ties" "ties" sTies f fd) (LD : LamDef K base mg Tt fd qTies) (B : Blt mg) (DG : Def K mg "tie_sign" sTie ["n", "t", "tied", "x", "y"] fG fdG) (GG : FnOk P w K mg base CX0 2 fG fdG ["n", "t", "tied", "x", "y"] (spTie K))
    (DO : Def K mg "told_apart" sTold ["marks", "signs_by"] fO fdO) (GO : FnOkS P w K mg base 5 fO fdO ["marks", "signs_by"] (spTold P w K mg base Tt 3)) : FnOk P w K mg base CX0 6 f fd ["n", "t"] (spTies K Tt) := by
  obtain ⟨c, Pt, hcd, hLa, hTm, hT1⟩ := LD.ex
  refine FnOkS.plain (F.okS scTs (fun _ _ vs H Q E h => ?_) (fun A outer s H vs Q E hr h => ?_))
  · obtain ⟨a, n, T, rfl, _⟩ := h
    rfl
  · obtain ⟨a, n, T, rfl, hS, h1, hn, hT, hTab, k⟩ := h
    refine ⟨_, pss_cons (ps_setLc (i := 2) (own := [("k", 3)]) rfl scTs.nd rfl rfl (sw_true rfl rfl rfl rfl) (pi_range1 rfl B.range (pa_cons (pe_op op_mul (pv 0) (pv 0)) pa_nil)) (blkOk_by rfl) (fun _ _ _ _ _ => pg_name (i := 3) scTs.nd rfl (Or.inl rfl)) (fun _ _ _ _ _ => pts_nil)
        (fun _ _ _ _ _ => pe_ifExp (pt_cmpR op_eq (pe_op op_fdiv (pv 3) (pv 0)) (pe_op op_mod (pv 3) (pv 0)) (nomark _)) pe_int pe_int))
      (pss_one (ps_ret (pe_callS GO hr rfl DO.mg DO.fn.kp DO.bd (pa_cons (pv 2) (pa_cons (pe_lam (T := Tt) (qual := qTies) hLa hcd hTm hT1 rfl (fr_by rfl) rfl) pa_nil))))), ?_⟩
    have hnn : n * n ≤ 36 := Nat.mul_le_mul hn hn
    have e1 : My.cast n * My.cast n = My.cast (n * n) := (Int.natCast_mul n n).symm
    have b1 : -(2 ^ 64) < (n : Int) := by omega
    have b2 : (n : Int) < 2 ^ 64 := by omega
    have cd : ∀ {i : Int}, CDiv i (n : Int) := ⟨by omega, by omega⟩
    have gl : ∀ k : Nat, (k : Int) / (n : Int) = ((k / n : Nat) : Int) ∧ (k : Int) % (n : Int) = ((k % n : Nat) : Int) := fun k => ⟨by omega, by omega⟩
    refine ⟨_, rfl, _, rfl, _, _, rfl, rfl, .inr ⟨b1, b2⟩, _, rfl, by rw [e1]; show -(2 ^ 62) ≤ ((n * n : Nat) : Int); omega, by rw [e1]; show ((n * n : Nat) : Int) < 2 ^ 62; omega, fun D hD => ?_⟩
    rw [e1]
    refine lc_range (n := n * n) (fun i H2 => Same H H2 ∧ H2 D = some (.lst ((tab i (tie0 n)).map vi))) ⟨new_same hD, upd_same⟩ ?_ ?_
    · rintro j H2 hj ⟨hs, h2⟩
      rw [vi_zero]
      refine ⟨rfl, _, rfl, _, rfl, _, _, rfl, rfl, cd, _, rfl, _, rfl, _, _, rfl, rfl, (by show (0 : Int) < n; omega), rfl, _, rfl, ?_⟩
      have et : tab (j + 1) (tie0 n) = tab j (tie0 n) ++ [tie0 n j] := by
        unfold tab
        rw [List.range_succ, List.map_append]
        rfl
      have fin : ∃ acc, H2 D = some (.lst acc) ∧ acc.length < sizeLine ∧ Same H (upd H2 D (.lst (acc ++ [vi (tie0 n j)]))) ∧ upd H2 D (.lst (acc ++ [vi (tie0 n j)])) D = some (.lst ((tab (j + 1) (tie0 n)).map vi)) :=
        ⟨_, h2, by rw [List.length_map, tab_len, sizeLine_eq]; omega, hs.put hD, by rw [upd_same, et, List.map_append]; rfl⟩
      refine ite2 (fun h => ?_) (fun h => ?_)
      · have h : (j : Int) / (n : Int) = (j : Int) % (n : Int) := by
          have z := of_decide_eq_true h
          exact V.int.inj z
        rw [(gl j).1, (gl j).2] at h
        have e : tie0 n j = 1 := if_pos (Int.ofNat.inj h)
        rw [e] at fin
        exact fin
      · have h : ¬ (j : Int) / (n : Int) = (j : Int) % (n : Int) := fun z => h (decide_eq_true (congrArg V.int z))
        rw [(gl j).1, (gl j).2] at h
        have e : tie0 n j = 0 := if_neg fun z => h (congrArg Int.ofNat z)
        rw [e] at fin
        exact fin
    · rintro H2 ⟨hs, h2⟩
      have hN1 : 1 ≤ n * n := Nat.mul_le_mul h1 h1
      refine ⟨_, rfl, (SameT.of (T := Tt) hs).tabs hTab, fun fl H3 sm hfl hLam pins s3 I => ?_⟩
      have sm3 : SameT Tt H H3 := (SameT.of (T := Tt) hs).trans sm
      have fnm : ∀ i, i < n * n → fn (tab (n * n) (tie0 n)) i = tie0 n i := fun i hi => fn_tab hi
      refine ⟨D, fl, n * n, tab (n * n) (tie0 n), tsg sR n T, rfl, SqL.sameT sm (SqL.of h2), tab_len _ _, hN1, hnn, ?_, tsg_congr hT, fun H4 p kk s4 hp st lk => ?_⟩
      · refine lam_fv (k := 2) (N := ["tied", "n", "t", "k"]) (p := "tied") (σ0 := [none, some (vi n), some (.ref a), none]) I hLam ?_ (fr_by rfl) rfl ?_ (fun _ _ _ _ _ => rfl) ?_
        · exact ⟨rfl, rfl, rfl, ndTs, rfl, Or.inr rfl, by decide +kernel⟩
        · intro i x v e1 e2
          match i, e1, e2 with
          | 0, _, e2 => cases e2
          | 1, e1, e2 => cases e1; cases e2; exact ⟨rfl, 0, rfl, rfl⟩
          | 2, e1, e2 => cases e1; cases e2; exact ⟨rfl, 1, rfl, rfl⟩
          | 3, _, e2 => cases e2
          | i + 4, e1, _ => simp at e1
        · intro A' outer' s' H' cdv clos v Q' hr' smH hsp
          obtain ⟨b, ml, rfl, hb, hml, kq⟩ := hsp
          refine ⟨_, pe_lc (own := [("k", 3)]) rfl ndTs (pi_range1 rfl B.range (pa_cons (pe_op op_mul (pv 1) (pv 1)) pa_nil)) (blkOk_by rfl) (fun _ _ _ _ _ => pg_name (i := 3) ndTs rfl (Or.inl rfl)) (fun _ _ _ _ _ => pts_nil)
            (fun _ _ _ _ _ => pe_call GG hr' rfl DG.mg DG.fn.kp DG.bd .nil pass0 (pa_cons (pv 1) (pa_cons (pv 2) (pa_cons (pv 0) (pa_cons (pe_op op_fdiv (pv 3) (pv 1)) (pa_cons (pe_op op_mod (pv 3) (pv 1)) pa_nil)))))), ?_⟩
          have hS' : SqL K H' a (T.map vi) := SqL.sameT (sm3.trans smH) hS
          refine ⟨_, rfl, _, rfl, _, _, rfl, rfl, .inr ⟨b1, b2⟩, _, rfl, by rw [e1]; show -(2 ^ 62) ≤ ((n * n : Nat) : Int); omega, by rw [e1]; show ((n * n : Nat) : Int) < 2 ^ 62; omega, fun D' hD' => ?_⟩
          rw [e1]
          refine lc_range (n := n * n) (fun i H5 => Same H' H5 ∧ ∃ out : List Addr, H5 D' = some (.lst (out.map V.ref)) ∧ Paired (SgH H5) (tab i (tsg sR n T (fn ml))) out) ⟨new_same hD', [], upd_same, .nil⟩ ?_ ?_
          · rintro j H5 hj ⟨hs5, out, h5, hP5⟩
            rw [vi_zero]
            obtain ⟨j1, j2⟩ := pair_lt hj
            refine ⟨rfl, _, rfl, _, rfl, _, rfl, _, rfl, _, rfl, _, _, rfl, rfl, cd, _, rfl, _, rfl, _, _, rfl, rfl, (by show (0 : Int) < n; omega), a, b, n, j / n, j % n, T, ml, ?_, hs5.seq hS', hs5.seq hb, by omega, hT, hml, j1, j2, fun H6 p s6 hsg => ?_⟩
            · show [vi n, V.ref a, V.ref b, V.int ((j : Int) / (n : Int)), V.int ((j : Int) % (n : Int))] = _
              rw [(gl j).1, (gl j).2]
              rfl
            · have hol : out.length = j := by rw [paired_len2 hP5, tab_len]
              have tk : TupK H6 (upd H6 D' (.lst (out.map V.ref ++ [.ref p]))) := TupK.set (s6 D' _ h5) (fun _ z => nomatch z)
              have et : tab (j + 1) (tsg sR n T (fn ml)) = tab j (tsg sR n T (fn ml)) ++ [tsg sR n T (fn ml) j] := by
                unfold tab
                rw [List.range_succ, List.map_append]
                rfl
              refine ⟨_, s6 D' _ h5, by rw [List.length_map, hol, sizeLine_eq]; omega, (hs5.trans s6).put hD', out ++ [p], by rw [upd_same, List.map_append]; rfl, ?_⟩
              rw [et]
              exact paired_snoc (paired_mono (fun _ _ q => (q.keep s6.tupk).keep tk) hP5) (hsg.keep tk)
          · rintro H5 ⟨hs5, out, h5, hP5⟩
            exact kq H5 D' hs5 hD' ⟨out, h5, hP5⟩
      · exact k H4 p kk (sm3.trans s4) (sm3.free p hp) (stop_congr (tsg_congr hT) fnm st) (by rw [← seen_congr (tsg_congr hT) fnm]; exact lk)
end
end My
set_option Elab.async false
set_option linter.all false
set_option maxRecDepth 100000
set_option maxHeartbeats 4000000
namespace L2
open PySem PySem.Spec PyProof.Rows L3
theorem paired_split {α β : Type} {F : α → β → Prop} : ∀ {l l' : List α} {m : List β}, Paired F (l ++ l') m → ∃ a b, m = a ++ b ∧ Paired F l a ∧ Paired F l' b
  | [], _, m, h => ⟨[], m, rfl, .nil, h⟩
  | x :: l, l', _, h => by
    cases h with
    | cons q t =>
      obtain ⟨a, b, e, h1, h2⟩ := paired_split t
      exact ⟨_ :: a, b, by rw [e]; rfl, .cons q h1, h2⟩
section
variable {X : Cx}
theorem pe_bmK (K : PySem.W.Frag) (hK : X.K = K) {e : Expr} {T : String} {r : V → List V → Hp → VK → Prop} {to : TE} {t : TA} (h : PE X e (tBM X.K T r to t)) : PE X e (tBM K T r to t) := by subst hK; exact h
theorem mt_indexK (K : PySem.W.Frag) (hK : X.K = K) : MtR X "list.index" (rIndex K) := by subst hK; exact mt_index
theorem mt_countK (K : PySem.W.Frag) (hK : X.K = K) : MtR X "list.count" (rCountN K) := by subst hK; exact mt_countN
theorem op_in_seqK (K : PySem.W.Frag) (hK : X.K = K) : OpR X (compareOp .In) (rIn K false) := by subst hK; exact op_in_seq
end
end L2
namespace My
open PySem PySem.Spec PyProof.Rows L2 L3
abbrev sLook : Stmt := top 28
abbrev qLook : Str := "look.<locals>.<lambda>"
theorem flat_vi (l : List Nat) : (l.map vi).all flatV = true := by
  rw [List.all_eq_true]
  intro x hx
  obtain ⟨k, _, rfl⟩ := List.mem_map.mp hx
  rfl
theorem eqV_vi (a b : Nat) : eqV (vi a) (vi b) = decide (a = b) := by
  show ((a : Int) == (b : Int)) = _
  by_cases e : a = b
  · subst e; simp
  · rw [decide_eq_false e]
    have e2 : ¬ (a : Int) = (b : Int) := fun q => e (Int.ofNat.inj q)
    simpa using e2
theorem in_vi (k : Nat) (l : List Nat) : inV (vi k) (l.map vi) = decide (k ∈ l) := by
  unfold inV
  rw [List.any_map]
  by_cases h : k ∈ l
  · rw [decide_eq_true h, List.any_eq_true]
    exact ⟨k, h, by show eqV (vi k) (vi k) = true; rw [eqV_vi]; simp⟩
  · rw [decide_eq_false h, List.any_eq_false]
    intro x hx q
    have q : eqV (vi x) (vi k) = true := q
    rw [eqV_vi] at q
    have := of_decide_eq_true q
    subst this
    exact h hx
theorem idx_le : ∀ {p : List Nat} {m y : Nat}, p[m]? = some y → p.idxOf y ≤ m
  | [], _, _, h => by simp at h
  | x :: p, 0, y, h => by
    have e : x = y := by simpa using h
    subst e
    rw [List.idxOf_cons]
    simp
  | x :: p, m + 1, y, h => by
    have := idx_le (p := p) (m := m) (y := y) (by simpa using h)
    rw [List.idxOf_cons]
    cases x == y
    · show p.idxOf y + 1 ≤ m + 1
      omega
    · show 0 ≤ m + 1
      omega
theorem idx_ok {K : PySem.W.Frag} {H : Hp} {a : Addr} {p : List Nat} {x : Nat} {Q : VK} (hS : SqL K H a (p.map vi)) (hx : x ∈ p) (q : Q (vi (p.idxOf x)) H) : rIndex K (.ref a) [vi x] H Q := by
  have hl : p.idxOf x < p.length := List.idxOf_lt_length_iff.mpr hx
  refine ⟨a, p.map vi, vi x, p.idxOf x, vi x, rfl, rfl, hS, rfl, flat_vi p, vi_get (by rw [List.getElem?_eq_getElem hl]; simp), by rw [eqV_vi]; simp, fun m z hm hz => ?_, q⟩
  obtain ⟨y, hy, rfl⟩ := vi_at hz
  rw [eqV_vi]
  refine decide_eq_false fun e => ?_
  subst e
  have := idx_le hy
  omega
def spLook (K : PySem.W.Frag) (Tt : List (Addr × Str)) : Sp := fun vs H Q _ => ∃ (a c pl : Addr) (n : Nat) (T dl p : List Nat), vs = [vi n, .ref a, .ref c, .ref pl] ∧ SqL K H a (T.map vi) ∧ SqL K H c (dl.map vi) ∧ SqL K H pl (p.map vi) ∧ 1 ≤ n ∧ n ≤ 6 ∧ Tb n T ∧ dl.length = n * n ∧ p.length ≤ 1000 ∧ Tabs Tt H ∧
  ∀ (H' : Hp) (r : Addr) (k : Nat), SameT Tt H H' → H r = none → LkStop sS sR n T (fn dl) p k → LookH H' (lkSeen sS sR n T (fn dl) p k) r → Q (.ref r) H'
section
variable {P : Program} {w : World} {K : PySem.W.Frag} {mg : Str → Option Value} {base : Heap}
theorem scLk : FnScope ["n", "t", "tied", "places", "at_first", "x"] ["n", "t", "tied", "places"] (defScope sLook) := ⟨rfl, rfl, rfl, by decide +kernel, rfl, by decide +kernel, by decide +kernel⟩
theorem ndLk : (["marks", "n", "t", "tied", "x"] : List Str).Nodup := by decide +kernel
theorem ok_look {Tt : List (Addr × Str)} {f fG fO : Addr} {fd fdG fdO : FuncData} (F : Fun K "look" "look" sLook f fd) (LD : LamDef K base mg Tt fd qLook) (B : Blt mg) (DG : Def K mg "sign" sSign ["n", "t", "tied", "marks", "x"] fG fdG) (GG : FnOk P w K mg base CX0 2 fG fdG ["n", "t", "tied", "marks", "x"] (spSign K))
    (DO : Def K mg "told_apart" sTold ["marks", "signs_by"] fO fdO) (GO : FnOkS P w K mg base 5 fO fdO ["marks", "signs_by"] (spTold P w K mg base Tt 3)) : FnOk P w K mg base CX0 6 f fd ["n", "t", "tied", "places"] (spLook K Tt) := by
  obtain ⟨c', Pt, hcd, hLa, hTm, hT1⟩ := LD.ex
  refine FnOkS.plain (F.okS scLk (fun _ _ vs H Q E h => ?_) (fun A outer s H vs Q E hr h => ?_))
  · obtain ⟨a, c, pl, n, T, dl, p, rfl, _⟩ := h
    rfl
  · obtain ⟨a, c, pl, n, T, dl, p, rfl, hS, hC, hp, h1, hn, hT, hdl, hpl, hTab, k⟩ := h
    refine ⟨_, pss_cons (ps_setLc (i := 4) (own := [("x", 5)]) rfl scLk.nd rfl rfl (sw_true rfl rfl rfl rfl) (pi_range1 rfl B.range (pa_cons (pv 0) pa_nil)) (blkOk_by rfl) (fun _ _ _ _ _ => pg_name (i := 5) scLk.nd rfl (Or.inl rfl)) (fun _ _ _ _ _ => pts_nil)
        (fun _ _ _ _ _ => pe_ifExp (pt_cmpR (op_in_seqK K rfl) (pv 5) (pv 3) rfl) (pe_op op_add (pe_bmK K rfl (pe_bm PySem.F.plainAttrs_list PySem.F.slot_list_index PySem.F.type_list_index (mt_indexK K rfl) (pv 3) (pa_cons (pv 5) pa_nil))) pe_int) pe_int))
      (pss_one (ps_ret (pe_callS GO hr rfl DO.mg DO.fn.kp DO.bd (pa_cons (pv 4) (pa_cons (pe_lam (T := Tt) (qual := qLook) hLa hcd hTm hT1 rfl (fr_by rfl) rfl) pa_nil))))), ?_⟩
    refine ⟨_, rfl, _, rfl, (by show -(2 ^ 62) ≤ (n : Int); omega), (by show (n : Int) < 2 ^ 62; omega), fun D hD => lc_range (n := n) (fun i H2 => Same H H2 ∧ H2 D = some (.lst ((tab i (at0 p)).map vi))) ⟨new_same hD, upd_same⟩ ?_ ?_⟩
    · rintro j H2 hj ⟨hs, h2⟩
      rw [vi_zero]
      refine ⟨rfl, _, rfl, _, rfl, pl, p.map vi, rfl, .inl (hs.seq hp), rfl, flat_vi p, _, rfl, ?_⟩
      have et : tab (j + 1) (at0 p) = tab j (at0 p) ++ [at0 p j] := by
        unfold tab
        rw [List.range_succ, List.map_append]
        rfl
      have fin : ∃ acc, H2 D = some (.lst acc) ∧ acc.length < sizeLine ∧ Same H (upd H2 D (.lst (acc ++ [vi (at0 p j)]))) ∧ upd H2 D (.lst (acc ++ [vi (at0 p j)])) D = some (.lst ((tab (j + 1) (at0 p)).map vi)) :=
        ⟨_, h2, by rw [List.length_map, tab_len, sizeLine_eq]; omega, hs.put hD, by rw [upd_same, et, List.map_append]; rfl⟩
      show if inV (vi j) (p.map vi) = true then _ else _
      rw [in_vi]
      by_cases hjp : j ∈ p
      · rw [decide_eq_true hjp]
        refine iteT ⟨_, rfl, .inl ⟨rfl, _, hs.seq hp⟩, _, rfl, ?_⟩
        dsimp only [tNil]
        refine idx_ok (hs.seq hp) hjp ⟨_, _, rfl, rfl, ?_⟩
        have e : at0 p j = p.idxOf j + 1 := if_pos hjp
        rw [e] at fin
        exact fin
      · rw [decide_eq_false hjp]
        have e : at0 p j = 0 := at0_out hjp
        rw [e] at fin
        exact iteF fin
    · rintro H2 ⟨hs, h2⟩
      refine ⟨_, rfl, (SameT.of (T := Tt) hs).tabs hTab, fun fl H3 sm hfl hLam pins s3 I => ?_⟩
      have sm3 : SameT Tt H H3 := (SameT.of (T := Tt) hs).trans sm
      have fnm : ∀ i, i < n → fn (tab n (at0 p)) i = at0 p i := fun i hi => fn_tab hi
      have cg := sgn_congr hT (fn dl)
      refine ⟨D, fl, n, tab n (at0 p), sgn sR n T (fn dl), rfl, SqL.sameT sm (SqL.of h2), tab_len _ _, h1, by omega, ?_, cg, fun H4 r kk s4 hr4 st lk => ?_⟩
      · refine lam_fv (k := 2) (N := ["marks", "n", "t", "tied", "x"]) (p := "marks") (σ0 := [none, some (vi n), some (.ref a), some (.ref c), none]) I hLam ?_ (fr_by rfl) rfl ?_ (fun _ _ _ _ _ => rfl) ?_
        · exact ⟨rfl, rfl, rfl, ndLk, rfl, Or.inr rfl, by decide +kernel⟩
        · intro i x v e1 e2
          match i, e1, e2 with
          | 0, _, e2 => cases e2
          | 1, e1, e2 => cases e1; cases e2; exact ⟨rfl, 0, rfl, rfl⟩
          | 2, e1, e2 => cases e1; cases e2; exact ⟨rfl, 1, rfl, rfl⟩
          | 3, e1, e2 => cases e1; cases e2; exact ⟨rfl, 2, rfl, rfl⟩
          | 4, _, e2 => cases e2
          | i + 5, e1, _ => simp at e1
        · intro A' outer' s' H' cdv clos v Q' hr' smH hsp
          obtain ⟨b, ml, rfl, hb, hml, kq⟩ := hsp
          refine ⟨_, pe_lc (own := [("x", 4)]) rfl ndLk (pi_range1 rfl B.range (pa_cons (pv 1) pa_nil)) (blkOk_by rfl) (fun _ _ _ _ _ => pg_name (i := 4) ndLk rfl (Or.inl rfl)) (fun _ _ _ _ _ => pts_nil)
            (fun _ _ _ _ _ => pe_call GG hr' rfl DG.mg DG.fn.kp DG.bd .nil pass0 (pa_cons (pv 1) (pa_cons (pv 2) (pa_cons (pv 3) (pa_cons (pv 0) (pa_cons (pv 4) pa_nil)))))), ?_⟩
          have hS' : SqL K H' a (T.map vi) := SqL.sameT (sm3.trans smH) hS
          have hC' : SqL K H' c (dl.map vi) := SqL.sameT (sm3.trans smH) hC
          refine ⟨_, rfl, _, rfl, (by show -(2 ^ 62) ≤ (n : Int); omega), (by show (n : Int) < 2 ^ 62; omega), fun D' hD' => lc_range (n := n) (fun i H5 => Same H' H5 ∧ ∃ out : List Addr, H5 D' = some (.lst (out.map V.ref)) ∧ Paired (SgH H5) (tab i (sgn sR n T (fn dl) (fn ml))) out) ⟨new_same hD', [], upd_same, .nil⟩ ?_ ?_⟩
          · rintro j H5 hj ⟨hs5, out, h5, hP5⟩
            rw [vi_zero]
            refine ⟨rfl, _, rfl, _, rfl, _, rfl, _, rfl, _, rfl, a, c, b, n, j, T, dl, ml, rfl, hs5.seq hS', hs5.seq hC', hs5.seq hb, by omega, hT, hdl, hml, hj, fun H6 q s6 hsg => ?_⟩
            have hol : out.length = j := by rw [paired_len2 hP5, tab_len]
            have tk : TupK H6 (upd H6 D' (.lst (out.map V.ref ++ [.ref q]))) := TupK.set (s6 D' _ h5) (fun _ z => nomatch z)
            have et : tab (j + 1) (sgn sR n T (fn dl) (fn ml)) = tab j (sgn sR n T (fn dl) (fn ml)) ++ [sgn sR n T (fn dl) (fn ml) j] := by
              unfold tab
              rw [List.range_succ, List.map_append]
              rfl
            refine ⟨_, s6 D' _ h5, by rw [List.length_map, hol, sizeLine_eq]; omega, (hs5.trans s6).put hD', out ++ [q], by rw [upd_same, List.map_append]; rfl, ?_⟩
            rw [et]
            exact paired_snoc (paired_mono (fun _ _ q => (q.keep s6.tupk).keep tk) hP5) (hsg.keep tk)
          · rintro H5 ⟨hs5, out, h5, hP5⟩
            exact kq H5 D' hs5 hD' ⟨out, h5, hP5⟩
      · exact k H4 r kk (sm3.trans s4) (sm3.free r hr4) (stop_congr cg fnm st) (by have q := lk; rw [seen_congr cg fnm] at q; exact q)
end
end My
set_option Elab.async false
set_option linter.all false
set_option maxRecDepth 100000
set_option maxHeartbeats 4000000
namespace My
open PySem PySem.Spec PyProof.Rows L2 L3
abbrev sParts : Stmt := top 16
abbrev sTell : Stmt := top 15
def Pc (n : Nat) (T : List Nat) (d : Nat → Nat) (p : List Nat) (v : Nat) : Prop := ∃ k, LkStop sS sR n T d p k ∧ v = cnt (tab n (lkIt sS sR n T d p (k + 1)))
theorem Pc.one {n : Nat} {T : List Nat} {d : Nat → Nat} {p : List Nat} {v v' : Nat} (h : Pc n T d p v) (h' : Pc n T d p v') : v = v' := by
  obtain ⟨k, s, rfl⟩ := h
  obtain ⟨k', s', rfl⟩ := h'
  rw [s.one s']
theorem Pc.le {n : Nat} {T : List Nat} {d : Nat → Nat} {p : List Nat} {v : Nat} (h : Pc n T d p v) : v ≤ n := by
  obtain ⟨k, s, rfl⟩ := h
  exact cnt_le n _
theorem cnt_two {n : Nat} {s : Nat → Nat} (h : cnt (tab n s) < n) : ∃ x y, x < n ∧ y < n ∧ y ≠ x ∧ s y = s x := by
  refine Classical.byContradiction fun hn => ?_
  have hnd : (tab n s).Nodup := by
    refine List.pairwise_map.mpr (List.Pairwise.imp_of_mem (fun {i j} hi hj hij e => ?_) (List.pairwise_lt_range (n := n)))
    have hij : i < j := hij
    exact hn ⟨i, j, List.mem_range.mp hi, List.mem_range.mp hj, by omega, e.symm⟩
  have e := ((List.perm_ext_iff_of_nodup (nodup_erase (tab n s)) hnd).mpr fun _ => dd_mem).length_eq
  rw [tab_len] at e
  unfold cnt at h
  omega
theorem at0_again {p : List Nat} {j : Nat} (hj : j ∈ p) : at0 (p ++ [j]) = at0 p := by
  funext x
  unfold at0
  by_cases hx : x ∈ p
  · rw [if_pos hx, if_pos (List.mem_append_left _ hx), List.idxOf_append, if_pos hx]
  · rw [if_neg hx, if_neg]
    intro h
    rcases List.mem_append.mp h with h | h
    · exact hx h
    · rw [List.mem_singleton.mp h] at hx
      exact hx hj
theorem tell_more {n : Nat} {T : List Nat} (hT : Tb n T) {d : Nat → Nat} {p : List Nat} {v : Nat} (hp : p.Nodup) (hpl : ∀ x ∈ p, x < n) (h : Pc n T d p v) (hv : v < n) {cs : List Nat} (hl : cs.length = n) (hcs : ∀ x, x < n → Pc n T d (p ++ [x]) (fn cs x)) {j : Nat} (hj : j < n) (hm : ∀ x, x < n → fn cs x ≤ fn cs j) : v < fn cs j ∧ j ∉ p := by
  obtain ⟨k, s, rfl⟩ := id h
  obtain ⟨x, y, hx, hy, hxy, e⟩ := cnt_two hv
  have fi : Finer n (lkIt sS sR n T d p (k + 1)) (at0 p) := by
    have q := it_down (m := at0 p) canS (sgn_fst (sr := sR) (T := T) (n := n) d) 0 (k + 1)
    rw [Nat.zero_add] at q
    exact q
  have hxp : x ∉ p := fun hxp => by
    have q := fi y x hy hx e
    have ex : at0 p x = p.idxOf x + 1 := if_pos hxp
    rw [ex] at q
    have q1 := at0_of q
    have q2 := at0_of ex
    rw [q1] at q2
    exact hxy (Option.some.inj q2)
  obtain ⟨k', s', ev⟩ := hcs x hx
  have lt := look_more canS canR hT hp hpl hx hy hxy hxp s e s'
  rw [← ev] at lt
  have lt2 : cnt (tab n (lkIt sS sR n T d p (k + 1))) < fn cs j := Nat.lt_of_lt_of_le lt (hm x hx)
  refine ⟨lt2, fun hjp => ?_⟩
  obtain ⟨k2, s2, ev2⟩ := hcs j hj
  have s2 : Stop sS n (sgn sR n T d) (at0 (p ++ [j])) k2 := s2
  have ev2 : fn cs j = cnt (tab n (it sS n (sgn sR n T d) (at0 (p ++ [j])) (k2 + 1))) := ev2
  rw [at0_again hjp] at s2 ev2
  have := Pc.one h ⟨k2, s2, ev2⟩
  omega
def spParts (K : PySem.W.Frag) (Tt : List (Addr × Str)) : Sp := fun vs H Q _ => ∃ (a c pl : Addr) (n : Nat) (T dl p : List Nat), vs = [vi n, .ref a, .ref c, .ref pl] ∧ SqL K H a (T.map vi) ∧ SqL K H c (dl.map vi) ∧ SqL K H pl (p.map vi) ∧ 1 ≤ n ∧ n ≤ 6 ∧ Tb n T ∧ dl.length = n * n ∧ p.length ≤ 1000 ∧ Tabs Tt H ∧
  ∀ (H' : Hp) (v : Nat), SameT Tt H H' → Pc n T (fn dl) p v → Q (vi v) H'
def spTell (K : PySem.W.Frag) (Tt : List (Addr × Str)) : Sp := fun vs H Q _ => ∃ (a c : Addr) (n : Nat) (T dl : List Nat), vs = [vi n, .ref a, .ref c] ∧ SqL K H a (T.map vi) ∧ SqL K H c (dl.map vi) ∧ 1 ≤ n ∧ n ≤ 6 ∧ Tb n T ∧ dl.length = n * n ∧ Tabs Tt H ∧
  ∀ (H' : Hp) (r : Addr) (p : List Nat), SameT Tt H H' → H r = none → H' r = some (.lst (p.map vi)) → p.Nodup → (∀ x ∈ p, x < n) → Q (.ref r) H'
theorem sgn_cnt {n : Nat} {T : List Nat} {d : Nat → Nat} {p ks : List Nat} {k : Nat} {gs : List Sg} (hn : gs.Nodup) (hm : ∀ g, g ∈ gs ↔ g ∈ tab n (sgn sR n T d (lkIt sS sR n T d p k))) : gs.length = cnt (tab n (lkIt sS sR n T d p (k + 1))) := by
  have e : cnt (tab n (lkIt sS sR n T d p (k + 1))) = cnt (tab n (sgn sR n T d (lkIt sS sR n T d p k))) := rk_cnt canS
  rw [e]
  exact ((List.perm_ext_iff_of_nodup hn (nodup_erase _)).mpr fun g => by rw [hm]; exact dd_mem.symm).length_eq
theorem look_last {H : Hp} {r : Addr} {n : Nat} {g : (Nat → Nat) → Nat → Sg} {m : Nat → Nat} {k : Nat} (h : LookH H (seen sS n g m k) r) : ∃ (ads : List Addr) (b : Addr), H r = some (.lst ((ads ++ [b]).map V.ref)) ∧ SgsH H (tab n (g (it sS n g m k))) b := by
  obtain ⟨ads, h1, h2⟩ := h
  unfold seen at h2
  rw [List.range_succ, List.map_append] at h2
  obtain ⟨as, bs, e, q1, q2⟩ := paired_split h2
  cases q2 with
  | cons q t =>
    cases t
    exact ⟨as, _, by rw [h1, e], q⟩
section
variable {P : Program} {w : World} {K : PySem.W.Frag} {mg : Str → Option Value} {base : Heap}
theorem scPa : FnScope ["n", "t", "tied", "places"] ["n", "t", "tied", "places"] (defScope sParts) := ⟨rfl, rfl, rfl, by decide +kernel, rfl, by decide +kernel, by decide +kernel⟩
theorem ok_parts {Tt : List (Addr × Str)} {f fL : Addr} {fd fdL : FuncData} (F : Fun K "parts" "parts" sParts f fd) (B : Blt mg) (DL : Def K mg "look" sLook ["n", "t", "tied", "places"] fL fdL) (GL : FnOk P w K mg base CX0 6 fL fdL ["n", "t", "tied", "places"] (spLook K Tt)) :
    FnOk P w K mg base CX0 7 f fd ["n", "t", "tied", "places"] (spParts K Tt) := by
  refine F.ok scPa (fun vs H Q E h => ?_) (fun cdv A outer s H vs Q E hr h => ?_)
  · obtain ⟨a, c, pl, n, T, dl, p, rfl, _⟩ := h
    rfl
  · obtain ⟨a, c, pl, n, T, dl, p, rfl, hS, hC, hp, h1, hn, hT, hdl, hpl, hTab, k⟩ := h
    refine ⟨_, pss_one (ps_ret (pe_callB cr_lenSg rfl B.len PySem.boot_len (pa_cons (pe_callTy (cr_setSg rfl hr.units) rfl B.set PyProof.Rows.boot_set (pa_cons
      (pe_ix ix_list (pe_call GL hr rfl DL.mg DL.fn.kp DL.bd .nil pass0 (pa_cons (pv 0) (pa_cons (pv 1) (pa_cons (pv 2) (pa_cons (pv 3) pa_nil))))) (pe_un un_neg pe_int) (fun _ _ => rfl)) pa_nil)) pa_nil))), ?_⟩
    refine ⟨_, rfl, _, rfl, _, rfl, _, rfl, a, c, pl, n, T, dl, p, rfl, hS, hC, hp, h1, hn, hT, hdl, hpl, hTab, fun H1 r kk sm hr1 st lk => ?_⟩
    obtain ⟨ads, b, e1, hb⟩ := look_last lk
    refine ⟨_, rfl, r, (ads ++ [b]).map V.ref, _, .ref b, rfl, rfl, SqL.of e1, by rw [List.map_append]; exact at_last, ?_⟩
    obtain ⟨ads2, e2, hp2⟩ := hb
    refine ⟨b, ads2, _, rfl, SqL.of e2, hp2, by rw [tab_len]; omega, fun q φ gs hq hnd hmem hset => ⟨q, gs, rfl, hset, ?_⟩⟩
    rw [sgn_cnt (ks := []) hnd hmem]
    exact k _ _ (sm.trans (.new hq)) ⟨kk, st, rfl⟩
end
end My
set_option Elab.async false
set_option linter.all false
set_option maxRecDepth 100000
set_option maxHeartbeats 4000000
namespace My
open PySem PySem.Spec PyProof.Rows L2 L3
theorem max_at {cs : List Nat} {m : Int} (hm : m ∈ cs.map My.cast) (hx : ∀ y ∈ cs.map My.cast, y ≤ m) : ∃ v : Nat, m = My.cast v ∧ v ∈ cs ∧ ∀ y ∈ cs, y ≤ v := by
  obtain ⟨v, hv, rfl⟩ := List.mem_map.mp hm
  refine ⟨v, rfl, hv, fun y hy => ?_⟩
  have q : (y : Int) ≤ (v : Int) := hx _ (List.mem_map_of_mem hy)
  omega
theorem nodup_bound {p : List Nat} {n : Nat} (hnd : p.Nodup) (hlt : ∀ x ∈ p, x < n) : p.length ≤ n := by
  have q := hnd.length_le_of_subset (l₂ := List.range n) fun x hx => List.mem_range.mpr (hlt x hx)
  rw [List.length_range] at q
  exact q
section
variable {P : Program} {w : World} {K : PySem.W.Frag} {mg : Str → Option Value} {base : Heap}
theorem scTe : FnScope ["n", "t", "tied", "places", "counts", "x"] ["n", "t", "tied"] (defScope sTell) := ⟨rfl, rfl, rfl, by decide +kernel, rfl, by decide +kernel, by decide +kernel⟩
theorem ok_tell {Tt : List (Addr × Str)} {f fL : Addr} {fd fdL : FuncData} (F : Fun K "telling_places" "telling_places" sTell f fd) (B : Blt mg) (B2 : Blt2 mg) (DL : Def K mg "parts" sParts ["n", "t", "tied", "places"] fL fdL) (GL : FnOk P w K mg base CX0 7 fL fdL ["n", "t", "tied", "places"] (spParts K Tt)) :
    FnOk P w K mg base CX0 8 f fd ["n", "t", "tied"] (spTell K Tt) := by
  refine F.ok scTe (fun vs H Q E h => ?_) (fun cdv A outer s H vs Q E hr h => ?_)
  · obtain ⟨a, c, n, T, dl, rfl, _⟩ := h
    rfl
  · obtain ⟨a, c, n, T, dl, rfl, hS, hC, h1, hn, hT, hdl, hTab, k⟩ := h
    refine ⟨_, pss_cons (ps_set (i := 3) scTe.nd rfl (by first | exact Or.inl rfl | exact Or.inr rfl) (pe_lst pa_nil))
      (pss_cons (ps_while PassesOwn.never (pt_cmpR op_lt (pe_call GL hr rfl DL.mg DL.fn.kp DL.bd .nil pass0 (pa_cons (pv 0) (pa_cons (pv 1) (pa_cons (pv 2) (pa_cons (pv 3) pa_nil))))) (pv 0) (nomark _))
        (pss_cons (ps_setLc (i := 4) (own := [("x", 5)]) rfl scTe.nd rfl rfl (sw_true rfl rfl rfl rfl) (pi_range1 rfl B.range (pa_cons (pv 0) pa_nil)) (blkOk_by rfl) (fun _ _ _ _ _ => pg_name (i := 5) scTe.nd rfl (Or.inl rfl)) (fun _ _ _ _ _ => pts_nil)
          (fun _ _ _ _ _ => pe_call GL hr rfl DL.mg DL.fn.kp DL.bd .nil pass0 (pa_cons (pv 0) (pa_cons (pv 1) (pa_cons (pv 2) (pa_cons (pe_op op_cat (pv 3) (pe_lst (pa_cons (pv 5) pa_nil))) pa_nil))))))
        (pss_one (ps_expr (pe_bm PySem.F.plainAttrs_list PySem.F.slot_list_append PySem.F.type_list_append mt_append (pv 3) (pa_cons
          (pe_bm PySem.F.plainAttrs_list PySem.F.slot_list_index PySem.F.type_list_index mt_index (pv 4) (pa_cons (pe_callB (cr_max rfl) rfl B2.max PyProof.Rows.boot_max (pa_cons (pv 4) pa_nil)) pa_nil)) pa_nil))))))
      (pss_one (ps_ret (pv 3)))), ?_⟩
    refine ⟨by show 0 ≤ sizeLine; decide, fun D hD => ?_⟩
    refine ⟨fun m σ Hc => ∃ (p : List Nat) (v4 v5 : Option V), σ = [some (vi n), some (.ref a), some (.ref c), some (.ref D), v4, v5] ∧ SameT Tt H Hc ∧ Hc D = some (.lst (p.map vi)) ∧ p.Nodup ∧ (∀ x ∈ p, x < n) ∧ ∀ v, Pc n T (fn dl) p v → m = n - v, ?_, ?_⟩
    · by_cases hv : ∃ v, Pc n T (fn dl) [] v
      · obtain ⟨v, hv⟩ := hv
        exact ⟨n - v, [], none, none, rfl, .new hD, upd_same, .nil, fun _ h => (by cases h), fun v' hv' => by rw [hv'.one hv]⟩
      · exact ⟨0, [], none, none, rfl, .new hD, upd_same, .nil, fun _ h => (by cases h), fun v' hv' => absurd ⟨v', hv'⟩ hv⟩
    · rintro m σ Hc ⟨p, v4, v5, rfl, sm, hDc, hnd, hlt, hmm⟩
      have hpl : p.length ≤ n := nodup_bound hnd hlt
      refine ⟨_, rfl, _, rfl, _, rfl, _, rfl, a, c, D, n, T, dl, p, rfl, SqL.sameT sm hS, SqL.sameT sm hC, SqL.of hDc, h1, hn, hT, hdl, by omega, sm.tabs hTab, fun H1 v s1 hPc => ?_⟩
      have sm1 := sm.trans s1
      have hD1 := s1.keep D _ hDc rfl
      refine ⟨_, rfl, _, _, rfl, rfl, _, rfl, ite2 (fun h => ?_) (fun h => ?_)⟩
      · have h : (v : Int) < (n : Int) := of_decide_eq_true h
        have hv : v < n := by omega
        obtain rfl := hmm v hPc
        refine ⟨fun σ' Hc' => ∃ (p' : List Nat) (v' : Nat) (v4 v5 : Option V), σ' = [some (vi n), some (.ref a), some (.ref c), some (.ref D), v4, v5] ∧ SameT Tt H Hc' ∧ Hc' D = some (.lst (p'.map vi)) ∧ p'.Nodup ∧ (∀ x ∈ p', x < n) ∧ Pc n T (fn dl) p' v' ∧ v < v',
          fun σ' Hc' ⟨p', v', v4, v5, e1, e2, e3, e4, e5, e6, e7⟩ => ⟨n - v', by have := e6.le; omega, p', v4, v5, e1, e2, e3, e4, e5, fun v2 h2 => by rw [h2.one e6]⟩, ?_⟩
        refine ⟨_, rfl, _, rfl, (by show -(2 ^ 62) ≤ (n : Int); omega), (by show (n : Int) < 2 ^ 62; omega), fun C hC0 => lc_range (n := n) (fun i H2 => SameT Tt H1 H2 ∧ ∃ cs : List Nat, H2 C = some (.lst (cs.map vi)) ∧ cs.length = i ∧ ∀ x, x < i → Pc n T (fn dl) (p ++ [x]) (fn cs x)) ⟨.new hC0, [], upd_same, rfl, fun x h => by omega⟩ ?_ ?_⟩
        · rintro j H2 hj ⟨s2, cs, hC2, hcl, hcs⟩
          rw [vi_zero]
          have sm2 := sm1.trans s2
          have hD2 := s2.keep D _ hD1 rfl
          refine ⟨rfl, _, rfl, _, rfl, _, rfl, _, rfl, _, rfl, by show 1 ≤ sizeLine; decide, fun q hq => ?_⟩
          have s3 : SameT Tt H2 (upd H2 q (.lst [vi j])) := .new hq
          refine ⟨D, q, p.map vi, [vi j], rfl, rfl, s3.keep D _ hD2 rfl, upd_same, by rw [List.length_map, sizeLine_eq]; show p.length + 1 ≤ _; omega, fun r hr3 => ?_⟩
          have s4 := s3.trans (.new (o := .lst (p.map vi ++ [vi j])) hr3)
          have e : p.map vi ++ [vi j] = (p ++ [j]).map vi := by rw [List.map_append]; rfl
          refine ⟨a, c, r, n, T, dl, p ++ [j], rfl, SqL.sameT (sm2.trans s4) hS, SqL.sameT (sm2.trans s4) hC, SqL.of (by rw [upd_same, e]), h1, hn, hT, hdl, by rw [List.length_append, List.length_singleton]; omega, (sm2.trans s4).tabs hTab, fun H5 v5 s5 hP5 => ?_⟩
          have s6 := s4.trans s5
          refine ⟨_, s6.keep C _ hC2 rfl, by rw [List.length_map, hcl, sizeLine_eq]; omega, (s2.trans s6).putL hC0 (s6.keep C _ hC2 rfl), cs ++ [v5], by rw [upd_same, List.map_append]; rfl, by rw [List.length_append, hcl]; rfl, fun x hx => ?_⟩
          by_cases z : x < j
          · have e2 : fn (cs ++ [v5]) x = fn cs x := by
              show (cs ++ [v5]).getD x 0 = cs.getD x 0
              rw [List.getD_eq_getElem?_getD, List.getD_eq_getElem?_getD, List.getElem?_append_left (by omega)]
            rw [e2]
            exact hcs x z
          · obtain rfl : x = j := by omega
            have e2 : fn (cs ++ [v5]) x = v5 := by
              show (cs ++ [v5]).getD x 0 = v5
              rw [List.getD_eq_getElem?_getD, List.getElem?_append_right (by omega), hcl, Nat.sub_self]
              rfl
            rw [e2]
            exact hP5
        · rintro H2 ⟨s2, cs, hC2, hcl, hcs⟩
          have sm2 := sm1.trans s2
          have hD2 := s2.keep D _ hD1 rfl
          refine ⟨_, rfl, .inl ⟨rfl, _, SqL.of hD2⟩, _, rfl, .inl ⟨rfl, _, SqL.of hC2⟩, _, rfl, C, cs.map My.cast, rfl, SqL.of (by rw [hC2, map_vi]), by rw [List.length_map]; omega, fun mx hmx hle => ?_⟩
          obtain ⟨v2, rfl, hv2, hle2⟩ := max_at hmx hle
          dsimp only [tNil]
          refine idx_ok (SqL.of hC2) hv2 ?_
          have hjl : cs.idxOf v2 < n := by rw [← hcl]; exact List.idxOf_lt_length_iff.mpr hv2
          have hjv : fn cs (cs.idxOf v2) = v2 := by
            show cs.getD (cs.idxOf v2) 0 = v2
            rw [List.getD_eq_getElem?_getD, List.getElem?_eq_getElem (List.idxOf_lt_length_iff.mpr hv2)]
            simp
          obtain ⟨t1, t2⟩ := tell_more hT hnd hlt hPc hv hcl hcs hjl (fun x hx => by rw [hjv]; exact hle2 _ (List.mem_of_getElem? (at_getD (by omega))))
          refine ⟨D, _, _, rfl, rfl, hD2, by rw [List.length_map, sizeLine_eq]; omega, p ++ [cs.idxOf v2], _, _, _, rfl, sm2.putL hD hD2, by rw [upd_same, List.map_append]; rfl, ?_, fun x hx => ?_, hcs _ hjl, t1⟩
          · rw [List.nodup_append]
            exact ⟨hnd, by simp, fun x hx y hy e => t2 (by rw [← List.mem_singleton.mp hy, ← e]; exact hx)⟩
          · rcases List.mem_append.mp hx with z | z
            · exact hlt x z
            · rw [List.mem_singleton.mp z]; exact hjl
      · exact ⟨_, rfl, k H1 D p sm1 hD hD1 hnd hlt⟩
end
end My
set_option Elab.async false
set_option linter.all false
set_option maxRecDepth 100000
set_option maxHeartbeats 4000000
namespace My
open PySem PySem.Spec PyProof.Rows L2 L3
abbrev sImg : Stmt := top 21
abbrev qImg : Str := "images_by_marks.<locals>.<lambda>"
def spMost (K : PySem.W.Frag) : Sp := fun vs H Q _ => ∃ (m : Addr) (ml : List Nat), vs = [.ref m] ∧ SqL K H m (ml.map vi) ∧ 0 < ml.length ∧ ml.length ≤ 1000 ∧
  ∀ (H' : Hp) (x : Nat), Same H H' → x < ml.length → ((∃ i j, i < ml.length ∧ j < ml.length ∧ i ≠ j ∧ fn ml i = fn ml j) → ∃ y, y < ml.length ∧ y ≠ x ∧ fn ml y = fn ml x) → Q (vi x) H'
def cntV (ml : List Nat) (v : Nat) : Nat := ml.countP fun z => decide (z = v)
theorem cntV_split {ml : List Nat} {i v : Nat} (h : ml[i]? = some v) : cntV ml v = cntV (ml.take i) v + 1 + cntV (ml.drop (i + 1)) v := by
  have hi := (List.getElem?_eq_some_iff.mp h).1
  have e : ml = ml.take i ++ v :: ml.drop (i + 1) := by
    have q := List.take_append_drop i ml
    rw [List.drop_eq_getElem_cons hi, (List.getElem?_eq_some_iff.mp h).2] at q
    exact q.symm
  unfold cntV
  conv => lhs; rw [e]
  rw [List.countP_append, List.countP_cons]
  simp
  omega
theorem cntV_pos {l : List Nat} {v : Nat} : 0 < cntV l v ↔ v ∈ l := by
  unfold cntV
  rw [List.countP_pos_iff]
  simp
theorem two_of {ml : List Nat} {x v : Nat} (h : ml[x]? = some v) (h2 : 2 ≤ cntV ml v) : ∃ y, y < ml.length ∧ y ≠ x ∧ fn ml y = v := by
  have e := cntV_split h
  have hx := (List.getElem?_eq_some_iff.mp h).1
  rcases Nat.lt_or_ge 0 (cntV (ml.take x) v) with q | q
  · obtain ⟨y, hy⟩ := List.getElem?_of_mem (cntV_pos.mp q)
    have hyl : y < x := by
      have := (List.getElem?_eq_some_iff.mp hy).1
      rw [List.length_take] at this
      omega
    rw [List.getElem?_take_of_lt hyl] at hy
    exact ⟨y, by omega, by omega, by show ml.getD y 0 = v; rw [List.getD_eq_getElem?_getD, hy]; rfl⟩
  · have q2 : 0 < cntV (ml.drop (x + 1)) v := by omega
    obtain ⟨y, hy⟩ := List.getElem?_of_mem (cntV_pos.mp q2)
    rw [List.getElem?_drop] at hy
    have hyl := (List.getElem?_eq_some_iff.mp hy).1
    exact ⟨x + 1 + y, hyl, by omega, by show ml.getD (x + 1 + y) 0 = v; rw [List.getD_eq_getElem?_getD, hy]; rfl⟩
theorem of_two {ml : List Nat} {i j : Nat} (hi : i < ml.length) (hj : j < ml.length) (hij : i ≠ j) (e : fn ml i = fn ml j) : 2 ≤ cntV ml (fn ml i) := by
  have h1 : ml[i]? = some (fn ml i) := at_getD hi
  have h2 : ml[j]? = some (fn ml i) := by rw [e]; exact at_getD hj
  have q := cntV_split h1
  rcases Nat.lt_or_ge j i with z | z
  · have : 0 < cntV (ml.take i) (fn ml i) := cntV_pos.mpr (List.mem_of_getElem? (i := j) (by rw [List.getElem?_take_of_lt z]; exact h2))
    omega
  · have : 0 < cntV (ml.drop (i + 1)) (fn ml i) := cntV_pos.mpr (List.mem_of_getElem? (i := j - (i + 1)) (by rw [List.getElem?_drop, show i + 1 + (j - (i + 1)) = j by omega]; exact h2))
    omega
theorem count_vi (ml : List Nat) (v : Nat) : ((ml.map vi).countP fun z => eqV z (vi v)) = cntV ml v := by
  rw [List.countP_map]
  unfold cntV
  congr 1
  funext z
  exact eqV_vi z v
section
variable {P : Program} {w : World} {K : PySem.W.Frag} {mg : Str → Option Value} {base : Heap}
theorem scMo : FnScope ["marks", "counts", "mark"] ["marks"] (defScope sMost) := ⟨rfl, rfl, rfl, by decide +kernel, rfl, by decide +kernel, by decide +kernel⟩
theorem ok_most {f : Addr} {fd : FuncData} (F : Fun K "one_of_most" "one_of_most" sMost f fd) (B2 : Blt2 mg) : FnOk P w K mg base CX0 1 f fd ["marks"] (spMost K) := by
  refine F.ok scMo (fun vs H Q E h => ?_) (fun cdv A outer s H vs Q E hr h => ?_)
  · obtain ⟨m, ml, rfl, _⟩ := h
    rfl
  · obtain ⟨m, ml, rfl, hM, h0, hml, k⟩ := h
    refine ⟨_, pss_cons (ps_setLc (i := 1) (own := [("mark", 2)]) rfl scMo.nd rfl rfl (sw_true rfl rfl rfl rfl) (pi_list (pv 0)) (blkOk_by rfl) (fun _ _ _ _ _ => pg_name (i := 2) scMo.nd rfl (Or.inl rfl)) (fun _ _ _ _ _ => pts_nil)
        (fun _ _ _ _ _ => pe_bmK K rfl (pe_bm PySem.F.plainAttrs_list PySem.F.slot_list_count PySem.F.type_list_count (mt_countK K rfl) (pv 0) (pa_cons (pv 2) pa_nil))))
      (pss_one (ps_ret (pe_bm PySem.F.plainAttrs_list PySem.F.slot_list_index PySem.F.type_list_index mt_index (pv 1) (pa_cons (pe_callB (cr_max rfl) rfl B2.max PyProof.Rows.boot_max (pa_cons (pv 1) pa_nil)) pa_nil)))), ?_⟩
    refine ⟨_, rfl, m, rfl, ⟨_, hM⟩, fun D hD => lc_list (xs := ml.map vi) (fun i H2 => Same H H2 ∧ H2 D = some (.lst (((ml.take i).map (cntV ml)).map vi))) ⟨new_same hD, upd_same⟩ ?_ ?_ ?_⟩
    · rintro i H2 _ ⟨hs, _⟩
      exact hs.seq hM
    · rintro i x H2 hx ⟨hs, h2⟩
      obtain ⟨v, hv, rfl⟩ := vi_at hx
      refine ⟨rfl, _, rfl, .inl ⟨rfl, _, hs.seq hM⟩, _, rfl, ?_⟩
      dsimp only [tNil]
      refine ⟨m, ml.map vi, vi v, rfl, rfl, hs.seq hM, rfl, flat_vi ml, ?_⟩
      rw [count_vi]
      refine ⟨_, h2, by rw [List.length_map, List.length_map, List.length_take, sizeLine_eq]; omega, hs.put hD, ?_⟩
      rw [upd_same, List.take_add_one, hv, List.map_append, List.map_append]
      rfl
    · rintro H2 ⟨hs, h2⟩
      rw [List.length_map, List.take_length] at h2
      refine ⟨_, rfl, .inl ⟨rfl, _, SqL.of h2⟩, _, rfl, D, (ml.map (cntV ml)).map My.cast, rfl, SqL.of (by rw [h2, map_vi]), by rw [List.length_map, List.length_map]; omega, fun mx hmx hle => ?_⟩
      obtain ⟨v2, rfl, hv2, hle2⟩ := max_at hmx hle
      dsimp only [tNil]
      refine idx_ok (SqL.of h2) hv2 ?_
      have hxl : (ml.map (cntV ml)).idxOf v2 < ml.length := by
        have := List.idxOf_lt_length_iff.mpr hv2
        rw [List.length_map] at this
        exact this
      refine k H2 _ hs hxl fun ⟨i, j, hi, hj, hij, e⟩ => ?_
      have hx : ml[(ml.map (cntV ml)).idxOf v2]? = some (fn ml ((ml.map (cntV ml)).idxOf v2)) := at_getD hxl
      have ev : cntV ml (fn ml ((ml.map (cntV ml)).idxOf v2)) = v2 := by
        have q := ix_at (l := ml.map (cntV ml)) (g := v2) hv2
        have q2 : (ml.map (cntV ml))[(ml.map (cntV ml)).idxOf v2]? = some v2 := q
        rw [List.getElem?_map, hx] at q2
        exact Option.some.inj q2
      refine two_of hx ?_
      rw [ev]
      exact Nat.le_trans (of_two hi hj hij e) (hle2 _ (List.mem_map.mpr ⟨_, List.mem_of_getElem? (at_getD hi), rfl⟩))
def spImg (K : PySem.W.Frag) (Tt : List (Addr × Str)) : Sp := fun vs H Q _ => ∃ (m o : Addr) (n : Nat) (ml ol : List Nat), vs = [vi n, .ref m, .ref o] ∧ SqL K H m (ml.map vi) ∧ SqL K H o (ol.map vi) ∧ ml.length = n ∧ ol.length = n ∧ n ≤ 16 ∧ Tabs Tt H ∧
  ∀ (H' : Hp) (r : Addr) (l l' : List Nat), SameT Tt H H' → H r = none → l.Perm (List.range n) → l'.Perm (List.range n) → l.Pairwise (fun a b => fn ml a ≤ fn ml b) → l'.Pairwise (fun a b => fn ol a ≤ fn ol b) →
    H' r = some (.lst ((tab n fun x => l'.getD (l.idxOf x) 0).map vi)) → Q (.ref r) H'
theorem scIm : FnScope ["n", "marks", "others", "order", "images_in_order", "x"] ["n", "marks", "others"] (defScope sImg) := ⟨rfl, rfl, rfl, by decide +kernel, rfl, by decide +kernel, by decide +kernel⟩
theorem ndI1 : (["x", "marks"] : List Str).Nodup := by decide +kernel
theorem ndI2 : (["z", "others"] : List Str).Nodup := by decide +kernel
theorem ok_img {Tt : List (Addr × Str)} {f : Addr} {fd : FuncData} (F : Fun K "images_by_marks" "images_by_marks" sImg f fd) (LD : LamDef K base mg Tt fd qImg) (B : Blt mg) (B2 : Blt2 mg) : FnOk P w K mg base CX0 4 f fd ["n", "marks", "others"] (spImg K Tt) := by
  obtain ⟨c', Pt, hcd, hLa, hTm, hT1⟩ := LD.ex
  refine FnOkS.plain (F.okS scIm (fun _ _ vs H Q E h => ?_) (fun A outer s H vs Q E hr h => ?_))
  · obtain ⟨m, o, n, ml, ol, rfl, _⟩ := h
    rfl
  · obtain ⟨m, o, n, ml, ol, rfl, hM, hO, hml, hol, hn, hTab, k⟩ := h
    refine ⟨_, pss_cons (ps_set (i := 3) scIm.nd rfl (by first | exact Or.inl rfl | exact Or.inr rfl) (pe_sortKey (T := Tt) (k := 1) hr rfl B2.sorted (pe_callTy call_rng1 rfl B.range PyProof.Rows.boot_range (pa_cons (pv 0) pa_nil)) (pe_lam (T := Tt) (qual := qImg) hLa hcd hTm hT1 rfl (fr_by rfl) rfl)))
      (pss_cons (ps_set (i := 4) scIm.nd rfl (by first | exact Or.inl rfl | exact Or.inr rfl) (pe_sortKey (T := Tt) (k := 1) hr rfl B2.sorted (pe_callTy call_rng1 rfl B.range PyProof.Rows.boot_range (pa_cons (pv 0) pa_nil)) (pe_lam (T := Tt) (qual := qImg) hLa hcd hTm hT1 rfl (fr_by rfl) rfl)))
      (pss_one (ps_ret (pe_lc (own := [("x", 5)]) rfl scIm.nd (pi_range1 rfl B.range (pa_cons (pv 0) pa_nil)) (blkOk_by rfl) (fun _ _ _ _ _ => pg_name (i := 5) scIm.nd rfl (Or.inl rfl)) (fun _ _ _ _ _ => pts_nil)
        (fun _ _ _ _ _ => pe_ix (ix_listK K rfl) (pv 4) (pe_bmK K rfl (pe_bm PySem.F.plainAttrs_list PySem.F.slot_list_index PySem.F.type_list_index (mt_indexK K rfl) (pv 3) (pa_cons (pv 5) pa_nil))) (fun _ _ => rfl)))))), ?_⟩
    refine ⟨_, rfl, _, rfl, fun r1 hr1 => ?_⟩
    have s1 : SameT Tt H (upd H r1 (.rng 0 (n : Int))) := .new hr1
    refine ⟨s1.tabs hTab, fun f1 H2 s2 hf1 hL1 => ⟨r1, f1, n, fn ml, rfl, rfl, s2.keep r1 _ upd_same rfl, by omega, fun pins s' I => ?_, fun H3 p1 l s3 hp1 hl p1p p1s => ?_⟩⟩
    · refine lam_fv (k := 0) (N := ["x", "marks"]) (p := "x") (σ0 := [none, some (.ref m)]) I hL1 ?_ (fr_by rfl) rfl ?_ (fun _ _ _ _ _ => rfl) ?_
      · exact ⟨rfl, rfl, rfl, ndI1, rfl, Or.inl rfl, by decide +kernel⟩
      · intro i x v e1 e2
        match i, e1, e2 with
        | 0, _, e2 => cases e2
        | 1, e1, e2 => cases e1; cases e2; exact ⟨rfl, 1, rfl, rfl⟩
        | i + 2, e1, _ => simp at e1
      · intro A' outer' s' H' cdv clos v Q' hr' smH hsp
        obtain ⟨i, rfl, hi, q⟩ := hsp
        refine ⟨_, pe_ix ix_list (pv 1) (pv 0) (fun _ _ => rfl), ?_⟩
        exact ⟨_, rfl, _, rfl, m, ml.map vi, _, _, rfl, rfl, SqL.sameT ((s1.trans s2).trans smH) hM, at_of (j := i) rfl (vi_get (at_getD (by rw [hml]; exact hi))), q⟩
    have sm3 : SameT Tt H H3 := (s1.trans s2).trans (.of s3)
    refine ⟨_, rfl, _, rfl, fun r2 hr2 => ?_⟩
    have s4 : SameT Tt H3 (upd H3 r2 (.rng 0 (n : Int))) := .new hr2
    refine ⟨(sm3.trans s4).tabs hTab, fun f2 H5 s5 hf2 hL2 => ⟨r2, f2, n, fn ol, rfl, rfl, s5.keep r2 _ upd_same rfl, by omega, fun pins s' I => ?_, fun H6 p2 l' s6 hp2 hl' p2p p2s => ?_⟩⟩
    · refine lam_fv (k := 0) (N := ["z", "others"]) (p := "z") (σ0 := [none, some (.ref o)]) I hL2 ?_ (fr_by rfl) rfl ?_ (fun _ _ _ _ _ => rfl) ?_
      · exact ⟨rfl, rfl, rfl, ndI2, rfl, Or.inl rfl, by decide +kernel⟩
      · intro i x v e1 e2
        match i, e1, e2 with
        | 0, _, e2 => cases e2
        | 1, e1, e2 => cases e1; cases e2; exact ⟨rfl, 2, rfl, rfl⟩
        | i + 2, e1, _ => simp at e1
      · intro A' outer' s' H' cdv clos v Q' hr' smH hsp
        obtain ⟨i, rfl, hi, q⟩ := hsp
        refine ⟨_, pe_ix ix_list (pv 1) (pv 0) (fun _ _ => rfl), ?_⟩
        exact ⟨_, rfl, _, rfl, o, ol.map vi, _, _, rfl, rfl, SqL.sameT (((sm3.trans s4).trans s5).trans smH) hO, at_of (j := i) rfl (vi_get (at_getD (by rw [hol]; exact hi))), q⟩
    have sm6 : SameT Tt H H6 := ((sm3.trans s4).trans s5).trans (.of s6)
    have s36 : SameT Tt H3 H6 := (s4.trans s5).trans (.of s6)
    have hl6 : H6 p1 = some (.lst (l.map vi)) := s36.keep p1 _ hl rfl
    have hl6' : H6 p2 = some (.lst (l'.map vi)) := hl'
    have ln : l.length = n := by rw [p1p.length_eq, List.length_range]
    have ln' : l'.length = n := by rw [p2p.length_eq, List.length_range]
    refine ⟨_, rfl, _, rfl, (by show -(2 ^ 62) ≤ (n : Int); omega), (by show (n : Int) < 2 ^ 62; omega), fun D hD => lc_range (n := n) (fun i H7 => Same H6 H7 ∧ H7 D = some (.lst ((tab i fun x => l'.getD (l.idxOf x) 0).map vi))) ⟨new_same hD, upd_same⟩ ?_ ?_⟩
    · rintro j H7 hj ⟨s7, h7⟩
      rw [vi_zero]
      have hjm : j ∈ l := p1p.mem_iff.mpr (List.mem_range.mpr hj)
      have hjx : l.idxOf j < n := by rw [← ln]; exact List.idxOf_lt_length_iff.mpr hjm
      refine ⟨rfl, _, rfl, _, rfl, .inl ⟨rfl, _, SqL.of (s7 p1 _ hl6)⟩, _, rfl, ?_⟩
      dsimp only [tNil]
      refine idx_ok (SqL.of (s7 p1 _ hl6)) hjm ?_
      refine ⟨p2, l'.map vi, _, vi (l'.getD (l.idxOf j) 0), rfl, rfl, SqL.of (s7 p2 _ hl6'), at_of (j := l.idxOf j) rfl (vi_get (at_getD (by omega))), ?_⟩
      refine ⟨_, h7, by rw [List.length_map, tab_len, sizeLine_eq]; omega, s7.put hD, ?_⟩
      have et : tab (j + 1) (fun x => l'.getD (l.idxOf x) 0) = tab j (fun x => l'.getD (l.idxOf x) 0) ++ [l'.getD (l.idxOf j) 0] := by
        unfold tab
        rw [List.range_succ, List.map_append]
        rfl
      rw [upd_same, et, List.map_append]
      rfl
    · rintro H7 ⟨s7, h7⟩
      exact k H7 D l l' (sm6.trans (.of s7)) (sm6.free D hD) p1p p2p p1s p2s h7
end
end My
set_option Elab.async false
set_option linter.all false
set_option maxRecDepth 100000
set_option maxHeartbeats 4000000
namespace My
open PySem PySem.Spec PyProof.Rows L2 L3
abbrev sFirst : Stmt := top 20
abbrev sTakesTo : Stmt := top 19
theorem stop_le {N : Nat} {g : (Nat → Nat) → Nat → Sg} {m : Nat → Nat} {k : Nat} (h : Stop sS N g m k) (hN : 1 ≤ N) : k + 1 ≤ N := by
  have up : ∀ j, j ≤ k → j + 1 ≤ cnt (tab N (it sS N g m j)) := fun j => by
    induction j with
    | zero => intro _; exact cnt_pos _ hN
    | succ j ih =>
      intro hj
      have := h.grow j (by omega)
      have := ih (by omega)
      omega
  have := up k (Nat.le_refl _)
  have := cnt_le N (it sS N g m k)
  omega
theorem stop_ex (N : Nat) (hN : 1 ≤ N) (g : (Nat → Nat) → Nat → Sg) (m : Nat → Nat) : ∃ k, Stop sS N g m k := by
  have ex : ∃ k, cnt (tab N (it sS N g m (k + 1))) ≤ cnt (tab N (it sS N g m k)) := by
    refine Classical.byContradiction fun hn => ?_
    have up : ∀ j, j + 1 ≤ cnt (tab N (it sS N g m j)) := fun j => by
      induction j with
      | zero => exact cnt_pos _ hN
      | succ j ih =>
        have : ¬ cnt (tab N (it sS N g m (j + 1))) ≤ cnt (tab N (it sS N g m j)) := fun z => hn ⟨j, z⟩
        omega
    have := up N
    have := cnt_le N (it sS N g m N)
    omega
  obtain ⟨k, hk, hmin⟩ : ∃ k, cnt (tab N (it sS N g m (k + 1))) ≤ cnt (tab N (it sS N g m k)) ∧ ∀ j, j < k → ¬ cnt (tab N (it sS N g m (j + 1))) ≤ cnt (tab N (it sS N g m j)) := by
    obtain ⟨k, hk⟩ := ex
    induction k using Nat.strongRecOn with
    | _ k ih =>
      by_cases hj : ∃ j, j < k ∧ cnt (tab N (it sS N g m (j + 1))) ≤ cnt (tab N (it sS N g m j))
      · obtain ⟨j, h1, h2⟩ := hj
        exact ih j h1 h2
      · exact ⟨k, hk, fun j h1 h2 => hj ⟨j, h1, h2⟩⟩
  exact ⟨k, hk, fun j hj => by have := hmin j hj; omega⟩
def Small (L : List (List Sg)) : Prop := L.length ≤ 1000 ∧ ∀ l ∈ L, l.length < 64
theorem seen_small {N : Nat} {g : (Nat → Nat) → Nat → Sg} {m : Nat → Nat} {k : Nat} (h : Stop sS N g m k) (hN : 1 ≤ N) (hN2 : N < 64) : Small (seen sS N g m k) := by
  refine ⟨by rw [seen_len]; have := stop_le h hN; omega, fun l hl => ?_⟩
  unfold seen at hl
  obtain ⟨j, _, rfl⟩ := List.mem_map.mp hl
  rw [tab_len]
  exact hN2
def LooksAs (n : Nat) (U : List Nat) (d : Nat → Nat) (AM : List (List Sg)) (p : List Nat) : Prop := ∃ k, LkStop sS sR n U d p k ∧ alike sS (lkSeen sS sR n U d p k) AM
def spFirstA (K : PySem.W.Frag) (Tt : List (Addr × Str)) : Sp := fun vs H Q _ => ∃ (a c ro pl am : Addr) (n : Nat) (U dl row ps : List Nat) (AM : List (List Sg)), vs = [vi n, .ref a, .ref c, .ref ro, .ref pl, .ref am] ∧ SqL K H a (U.map vi) ∧ SqL K H c (dl.map vi) ∧ H ro = some (.lst (row.map vi)) ∧ SqL K H pl (ps.map vi) ∧ LookH H AM am ∧ Small AM ∧
  1 ≤ n ∧ n ≤ 6 ∧ Tb n U ∧ dl.length = n * n ∧ row.length ≤ 900 ∧ Tabs Tt H ∧
  ∀ (H' : Hp) (q : Addr) (res : List Nat), SameT Tt H H' → H q = none → H' q = some (.lst (res.map vi)) → (res = [] ∨ ∃ z ∈ ps, res = row ++ [z] ∧ LooksAs n U (fn dl) AM res) → Q (.ref q) H'
section
variable {P : Program} {w : World} {K : PySem.W.Frag} {mg : Str → Option Value} {base : Heap}
theorem scFi : FnScope ["n", "u", "tied", "row", "places", "aim", "z"] ["n", "u", "tied", "row", "places", "aim"] (defScope sFirst) := ⟨rfl, rfl, rfl, by decide +kernel, rfl, by decide +kernel, by decide +kernel⟩
theorem ok_first {Tt : List (Addr × Str)} {f fL fA : Addr} {fd fdL fdA : FuncData} (F : Fun K "first_alike" "first_alike" sFirst f fd) (DL : Def K mg "look" sLook ["n", "t", "tied", "places"] fL fdL) (GL : FnOk P w K mg base CX0 6 fL fdL ["n", "t", "tied", "places"] (spLook K Tt))
    (DA : Def K mg "are_alike" sAlike ["one", "other"] fA fdA) (GA : FnOk P w K mg base CX0 1 fA fdA ["one", "other"] (spAlike K)) : FnOk P w K mg base CX0 7 f fd ["n", "u", "tied", "row", "places", "aim"] (spFirstA K Tt) := by
  refine F.ok scFi (fun vs H Q E h => ?_) (fun cdv A outer s H vs Q E hr h => ?_)
  · obtain ⟨a, c, ro, pl, am, n, U, dl, row, ps, AM, rfl, _⟩ := h
    rfl
  · obtain ⟨a, c, ro, pl, am, n, U, dl, row, ps, AM, rfl, hS, hC, hR, hP, hA, hsm, h1, hn, hT, hdl, hrl, hTab, k⟩ := h
    refine ⟨_, pss_cons (ps_for PassesOwn.never rfl (pi_list (pv 4)) (pg_name (i := 6) scFi.nd rfl (Or.inl rfl))
      (pss_one (ps_if (pt_val (pe_call GA (hr.mono (by omega)) rfl DA.mg DA.fn.kp DA.bd .nil pass0 (pa_cons (pe_call GL hr rfl DL.mg DL.fn.kp DL.bd .nil pass0 (pa_cons (pv 0) (pa_cons (pv 1) (pa_cons (pv 2) (pa_cons (pe_op op_cat (pv 3) (pe_lst (pa_cons (pv 6) pa_nil))) pa_nil))))) (pa_cons (pv 5) pa_nil))))
        (pss_one (ps_ret (pe_op op_cat (pv 3) (pe_lst (pa_cons (pv 6) pa_nil))))) pss_nil)))
      (pss_one (ps_ret (pe_lst pa_nil))), ?_⟩
    refine ⟨_, rfl, pl, rfl, ⟨_, hP⟩, for_list (xs := ps.map vi) (fun i σ Hc => ∃ v6 : Option V, σ = [some (vi n), some (.ref a), some (.ref c), some (.ref ro), some (.ref pl), some (.ref am), v6] ∧ SameT Tt H Hc) ⟨none, rfl, .refl _⟩ ?_ ?_ ?_⟩
    · rintro i σ Hc _ ⟨v6, rfl, sm⟩
      exact SqL.sameT sm hP
    · rintro i x σ Hc hx ⟨v6, rfl, sm⟩
      obtain ⟨z, hz, rfl⟩ := vi_at hx
      have e : row.map vi ++ [vi z] = (row ++ [z]).map vi := by rw [List.map_append]; rfl
      have hzl : (row.map vi).length + 1 ≤ sizeLine := by rw [List.length_map, sizeLine_eq]; omega
      refine ⟨_, rfl, _, rfl, _, rfl, _, rfl, _, rfl, by show 1 ≤ sizeLine; decide, fun q hq => ?_⟩
      have s1 : SameT Tt Hc (upd Hc q (.lst [vi z])) := .new hq
      refine ⟨ro, q, row.map vi, [vi z], rfl, rfl, (sm.trans s1).keep ro _ hR rfl, upd_same, hzl, fun r hr1 => ?_⟩
      have s2 : SameT Tt Hc _ := s1.trans (.new (o := .lst (row.map vi ++ [vi z])) hr1)
      have sm2 := sm.trans s2
      refine ⟨a, c, r, n, U, dl, row ++ [z], rfl, SqL.sameT sm2 hS, SqL.sameT sm2 hC, SqL.of (by rw [upd_same, e]), h1, hn, hT, hdl, by rw [List.length_append, List.length_singleton]; omega, sm2.tabs hTab, fun H3 b kk s3 hb st lk => ?_⟩
      have sm3 := sm2.trans s3
      obtain ⟨l1, l2⟩ := seen_small st h1 (by omega)
      refine ⟨_, rfl, b, am, _, AM, rfl, lk, hA.sameT sm3, l1, hsm.1, l2, hsm.2, fun H4 s4 => ?_⟩
      have sm4 : SameT Tt H H4 := sm3.trans (.of s4)
      refine ⟨_, rfl, ite2 (fun h => ?_) (fun h => ?_)⟩
      · have h0 : (lkSeen sS sR n U (fn dl) (row ++ [z]) kk).map sS = AM.map sS := of_decide_eq_true h
        have h : alike sS (lkSeen sS sR n U (fn dl) (row ++ [z]) kk) AM := h0
        refine ⟨_, rfl, _, rfl, by show 1 ≤ sizeLine; decide, fun q2 hq2 => ?_⟩
        have s5 : SameT Tt H4 (upd H4 q2 (.lst [vi z])) := .new hq2
        refine ⟨ro, q2, row.map vi, [vi z], rfl, rfl, (sm4.trans s5).keep ro _ hR rfl, upd_same, hzl, fun r2 hr2 => ?_⟩
        have s6 := s5.trans (.new (o := .lst (row.map vi ++ [vi z])) hr2)
        exact k _ r2 (row ++ [z]) (sm4.trans s6) ((sm4.trans s5).free r2 hr2) (by rw [upd_same, e]) (.inr ⟨z, List.mem_of_getElem? hz, rfl, kk, st, h⟩)
      · exact ⟨_, rfl, sm4⟩
    · rintro σ Hc ⟨v6, rfl, sm⟩
      exact ⟨by show 0 ≤ sizeLine; decide, fun q hq => k _ q [] (sm.trans (.new hq)) (sm.free q hq) upd_same (.inl rfl)⟩
end
end My
set_option Elab.async false
set_option linter.all false
set_option maxRecDepth 100000
set_option maxHeartbeats 4000000
namespace My
open PySem PySem.Spec PyProof.Rows L2 L3
structure TT (n : Nat) (U : List Nat) (d : Nat → Nat) (p q : List Nat) (k : Nat) : Prop where
  pn : p.Nodup
  qn : q.Nodup
  pl : ∀ x ∈ p, x < n
  ql : ∀ x ∈ q, x < n
  len : p.length = q.length
  ps : LkStop sS sR n U d p k
  qs : LkStop sS sR n U d q k
  al : alike sS (lkSeen sS sR n U d p k) (lkSeen sS sR n U d q k)
abbrev mk2 (n : Nat) (U : List Nat) (d : Nat → Nat) (p : List Nat) (k : Nat) : Nat → Nat := lkIt sS sR n U d p (k + 1)
section
variable {n : Nat} {U : List Nat} {d : Nat → Nat} {p q : List Nat} {k : Nat}
theorem TT.perm (h : TT n U d p q k) : (tab n (mk2 n U d p k)).Perm (tab n (mk2 n U d q k)) := (look_perm canS canR h.al).2
theorem TT.pin (h : TT n U d p q k) {i x z : Nat} (hx : p[i]? = some x) (hz : q[i]? = some z) : Pin n (mk2 n U d p k) (mk2 n U d q k) x z := (look_pin canS canR h.pn h.qn h.pl h.ql h.al hx hz).2.1
theorem row_of_bij {φ : Nat → Nat} (b : Bij n φ) : tab n φ ∈ Rd12.rows n n ∧ Rd12.single (tab n φ) = true := by
  refine ⟨mem_rows.mpr ⟨tab_len _ _, fun v hv => ?_⟩, ?_⟩
  · obtain ⟨i, hi, rfl⟩ := tab_mem.mp hv
    exact b.lt i hi
  · rw [single_iff]
    exact b.perm.nodup_iff.mpr List.nodup_range
theorem iso_ok (hU : Tb n U) {φ : Nat → Nat} (h : Iso n U U φ) : okRow n n U U (tab n φ) = true := by
  rw [ok_full hU.len hU.lt (tab_len _ _)]
  have q := (iso_row hU h).2
  rw [Bool.and_eq_true] at q
  exact q.2
theorem ok_auto (hU : Tb n U) (h : TT n U d p q k) {φ : Nat → Nat} (b : Bij n φ) (hφ : ∀ x, x < n → mk2 n U d q k (φ x) = mk2 n U d p k x) (ok : okRow n n U U (tab n φ) = true) : Auto n U p q := by
  rw [ok_full hU.len hU.lt (tab_len _ _)] at ok
  obtain ⟨h1, h2⟩ := row_of_bij b
  have iso := row_iso h1 (by rw [h2, ok]; rfl : (Rd12.single (tab n φ) && Rd12.isImage ⟨n, U⟩ ⟨n, U⟩ (tab n φ)) = true)
  refine ⟨_, iso, ?_⟩
  apply List.ext_getElem?
  intro i
  rw [List.getElem?_map]
  cases e : p[i]? with
  | none =>
    have : p.length ≤ i := List.getElem?_eq_none_iff.mp e
    rw [List.getElem?_eq_none (by have := h.len; omega)]
    rfl
  | some x =>
    have hi := (List.getElem?_eq_some_iff.mp e).1
    obtain ⟨z, hz⟩ : ∃ z, q[i]? = some z := ⟨_, List.getElem?_eq_getElem (by have := h.len; omega)⟩
    have hx : x < n := h.pl x (List.mem_of_getElem? e)
    have P := h.pin e hz
    rw [hz]
    show some ((tab n φ).getD x 0) = some z
    rw [tab_getD hx, P.one' _ (b.lt x hx) (by rw [hφ x hx, P.same])]
theorem TT.out (h : TT n U d p q k) {x y : Nat} (hx : x < n) (hy : y < n) (hxy : y ≠ x) (e : mk2 n U d p k y = mk2 n U d p k x) : x ∉ p := fun hxp => by
  have fi : Finer n (mk2 n U d p k) (at0 p) := by
    have q := it_down (m := at0 p) canS (sgn_fst (sr := sR) (T := U) (n := n) d) 0 (k + 1)
    rw [Nat.zero_add] at q
    exact q
  have q1 := fi y x hy hx e
  have ex : at0 p x = p.idxOf x + 1 := if_pos hxp
  rw [ex] at q1
  have q2 := at0_of q1
  have q3 := at0_of ex
  rw [q2] at q3
  exact hxy (Option.some.inj q3)
theorem TT.out2 (h : TT n U d p q k) {x z : Nat} (hx : x < n) (hxp : x ∉ p) (hz : z < n) (e : mk2 n U d q k z = mk2 n U d p k x) : z ∉ q := fun hzq => by
  obtain ⟨i, hi⟩ := List.getElem?_of_mem hzq
  have hil := (List.getElem?_eq_some_iff.mp hi).1
  obtain ⟨y, hy⟩ : ∃ y, p[i]? = some y := ⟨_, List.getElem?_eq_getElem (by have := h.len; omega)⟩
  have P := h.pin hy hi
  have := P.one x hx (by rw [← e, P.same])
  rw [this] at hxp
  exact hxp (List.mem_of_getElem? hy)
theorem snoc_nodup {p : List Nat} {x : Nat} (hp : p.Nodup) (hx : x ∉ p) : (p ++ [x]).Nodup := by
  rw [List.nodup_append]
  exact ⟨hp, by simp, fun a ha b hb e => hx (by rw [← List.mem_singleton.mp hb, ← e]; exact ha)⟩
theorem snoc_lt {p : List Nat} {x n : Nat} (hp : ∀ y ∈ p, y < n) (hx : x < n) : ∀ y ∈ p ++ [x], y < n := fun y hy => by
  rcases List.mem_append.mp hy with z | z
  · exact hp y z
  · rw [List.mem_singleton.mp z]; exact hx
theorem TT.next (h : TT n U d p q k) {x y z : Nat} (hx : x < n) (hy : y < n) (hxy : y ≠ x) (e : mk2 n U d p k y = mk2 n U d p k x) (hz : z < n) (ez : mk2 n U d q k z = mk2 n U d p k x) {k1 k2 : Nat} (s1 : LkStop sS sR n U d (p ++ [x]) k1) (s2 : LkStop sS sR n U d (q ++ [z]) k2)
    (a : alike sS (lkSeen sS sR n U d (q ++ [z]) k2) (lkSeen sS sR n U d (p ++ [x]) k1)) : TT n U d (p ++ [x]) (q ++ [z]) k1 := by
  have hxp := h.out hx hy hxy e
  have hzq := h.out2 hx hxp hz ez
  obtain ⟨rfl, _⟩ := alike_perm canS a
  exact ⟨snoc_nodup h.pn hxp, snoc_nodup h.qn hzq, snoc_lt h.pl hx, snoc_lt h.ql hz, by rw [List.length_append, List.length_append, h.len]; rfl, s1, s2, a.symm⟩
theorem TT.of (hp : p.Nodup) (hq : q.Nodup) (hpl : ∀ x ∈ p, x < n) (hql : ∀ x ∈ q, x < n) (hl : p.length = q.length) {AM : List (List Sg)} (h1 : LooksAs n U d AM p) (h2 : LooksAs n U d AM q) : ∃ k, TT n U d p q k := by
  obtain ⟨k, s, a⟩ := h1
  obtain ⟨k', s', a'⟩ := h2
  have a2 : alike sS (lkSeen sS sR n U d p k) (lkSeen sS sR n U d q k') := a.trans a'.symm
  obtain ⟨rfl, _⟩ := alike_perm canS a2
  exact ⟨k, hp, hq, hpl, hql, hl, s, s', a2⟩
theorem Auto.pre {p q ps qs : List Nat} (h : Auto n U (p ++ ps) (q ++ qs)) (hl : p.length = q.length) : Auto n U p q := by
  obtain ⟨α, i, e⟩ := h
  refine ⟨α, i, ?_⟩
  rw [List.map_append] at e
  exact (List.append_inj e (by rw [List.length_map]; exact hl)).1
end
end My
set_option Elab.async false
set_option linter.all false
set_option maxRecDepth 100000
set_option maxHeartbeats 4000000
namespace L2
open PySem PySem.Spec PyProof.Rows L3
theorem ints_can : ∀ ns : List Int, PyData.canLayAll0 (ns.map PyData.int) = true ∧ PyData.depthAll (ns.map PyData.int) ≤ 1
  | [] => ⟨rfl, by decide⟩
  | n :: ns => by
    obtain ⟨h1, h2⟩ := ints_can ns
    rw [List.map_cons]
    simp only [PyData.canLayAll0, PyData.canLay0, PyData.depthAll, PyData.depth, h1, Bool.and_true, true_and]
    omega
end L2
namespace My
open PySem PySem.Spec PyProof.Rows L2 L3
theorem ne_nil {K : PySem.W.Frag} {H : Hp} {q e : Addr} {l : List Nat} {Q : VK} (hq : H q = some (.lst (l.map vi))) (he : H e = some (.lst [])) (h : Q (.bl (decide (l ≠ []))) H) : rNeD K (.ref q) (.ref e) H Q := by
  rw [map_vi] at hq
  obtain ⟨d1, d2⟩ := eqv_nil (K := K) hq he
  refine ⟨_, _, d1, d2, ?_, rfl, ?_⟩
  · obtain ⟨h1, h2⟩ := ints_can (l.map My.cast)
    unfold SeqAt.shaped
    simp only [PyData.canLay0, PyData.depth, h1, Bool.true_and]
    exact decide_eq_true (by omega)
  · cases l with
    | nil => exact h
    | cons x r => exact h
def spTakesTo (K : PySem.W.Frag) (Tt : List (Addr × Str)) : Sp := fun vs H Q _ => ∃ (a c f s : Addr) (n k : Nat) (U dl p q : List Nat), vs = [vi n, .ref a, .ref c, .ref f, .ref s] ∧ SqL K H a (U.map vi) ∧ SqL K H c (dl.map vi) ∧ H f = some (.lst (p.map vi)) ∧ H s = some (.lst (q.map vi)) ∧
  1 ≤ n ∧ n ≤ 6 ∧ Tb n U ∧ dl.length = n * n ∧ TT n U (fn dl) p q k ∧ Tabs Tt H ∧ ∀ (H' : Hp) (b : Bool), SameT Tt H H' → (b = true → Auto n U p q) → Q (.bl b) H'
section
variable {P : Program} {w : World} {K : PySem.W.Frag} {mg : Str → Option Value} {base : Heap}
theorem scTt : FnScope ["n", "u", "tied", "first", "second", "marks", "others", "x", "places", "z"] ["n", "u", "tied", "first", "second"] (defScope sTakesTo) := ⟨rfl, rfl, rfl, by decide +kernel, rfl, by decide +kernel, by decide +kernel⟩
theorem ok_takesTo {Tt : List (Addr × Str)} {f fL fR fK fI fM fF : Addr} {fd fdL fdR fdK fdI fdM fdF : FuncData} (F : Fun K "takes_to" "takes_to" sTakesTo f fd) (B : Blt mg) (DL : Def K mg "look" sLook ["n", "t", "tied", "places"] fL fdL) (GL : FnOk P w K mg base CX0 6 fL fdL ["n", "t", "tied", "places"] (spLook K Tt))
    (DR : Def K mg "ranks" sRanks ["signs"] fR fdR) (GR : FnOk P w K mg base CX0 1 fR fdR ["signs"] (spRanks K)) (DK : Def K mg "takes_turns" sTakes ["n", "m", "t", "u", "row"] fK fdK) (GK : FnOk P w K mg base CX0 2 fK fdK ["n", "m", "t", "u", "row"] (spTakes K))
    (DI : Def K mg "images_by_marks" sImg ["n", "marks", "others"] fI fdI) (GI : FnOk P w K mg base CX0 4 fI fdI ["n", "marks", "others"] (spImg K Tt)) (DM : Def K mg "one_of_most" sMost ["marks"] fM fdM) (GM : FnOk P w K mg base CX0 1 fM fdM ["marks"] (spMost K))
    (DF : Def K mg "first_alike" sFirst ["n", "u", "tied", "row", "places", "aim"] fF fdF) (GF : FnOk P w K mg base CX0 7 fF fdF ["n", "u", "tied", "row", "places", "aim"] (spFirstA K Tt)) :
    FnOk P w K mg base CX0 8 f fd ["n", "u", "tied", "first", "second"] (spTakesTo K Tt) := by
  refine F.ok scTt (fun vs H Q E h => ?_) (fun cdv A outer s H vs Q E hr h => ?_)
  · obtain ⟨a, c, f, s, n, k, U, dl, p, q, rfl, _⟩ := h
    rfl
  · obtain ⟨a, c, f0, s0, n, k0, U, dl, p0, q0, rfl, hS, hC, hF0, hS0, h1, hn, hT, hdl, tt0, hTab, kk⟩ := h
    refine ⟨_, pss_cons (ps_while PassesOwn.never (pt_cmpR (op_neD hr.units) (pv 4) (pe_lst pa_nil) (nomark _))
      (pss_cons (ps_set (i := 5) scTt.nd rfl (by first | exact Or.inl rfl | exact Or.inr rfl) (pe_call GR (hr.mono (by omega)) rfl DR.mg DR.fn.kp DR.bd .nil pass0 (pa_cons (pe_ix ix_list (pe_call GL (hr.mono (by omega)) rfl DL.mg DL.fn.kp DL.bd .nil pass0 (pa_cons (pv 0) (pa_cons (pv 1) (pa_cons (pv 2) (pa_cons (pv 3) pa_nil))))) (pe_un un_neg pe_int) (fun _ _ => rfl)) pa_nil)))
      (pss_cons (ps_set (i := 6) scTt.nd rfl (by first | exact Or.inl rfl | exact Or.inr rfl) (pe_call GR (hr.mono (by omega)) rfl DR.mg DR.fn.kp DR.bd .nil pass0 (pa_cons (pe_ix ix_list (pe_call GL (hr.mono (by omega)) rfl DL.mg DL.fn.kp DL.bd .nil pass0 (pa_cons (pv 0) (pa_cons (pv 1) (pa_cons (pv 2) (pa_cons (pv 4) pa_nil))))) (pe_un un_neg pe_int) (fun _ _ => rfl)) pa_nil)))
      (pss_cons (ps_if (pt_val (pe_call GK (hr.mono (by omega)) rfl DK.mg DK.fn.kp DK.bd .nil pass0 (pa_cons (pv 0) (pa_cons (pv 0) (pa_cons (pv 1) (pa_cons (pv 1) (pa_cons (pe_call GI (hr.mono (by omega)) rfl DI.mg DI.fn.kp DI.bd .nil pass0 (pa_cons (pv 0) (pa_cons (pv 5) (pa_cons (pv 6) pa_nil)))) pa_nil))))))) (pss_one (ps_ret pe_bl)) pss_nil)
      (pss_cons (ps_set (i := 7) scTt.nd rfl (by first | exact Or.inl rfl | exact Or.inr rfl) (pe_call GM (hr.mono (by omega)) rfl DM.mg DM.fn.kp DM.bd .nil pass0 (pa_cons (pv 5) pa_nil)))
      (pss_cons (ps_set (i := 3) scTt.nd rfl (by first | exact Or.inl rfl | exact Or.inr rfl) (pe_op op_cat (pv 3) (pe_lst (pa_cons (pv 7) pa_nil))))
      (pss_cons (ps_setLc (i := 8) (own := [("z", 9)]) rfl scTt.nd rfl rfl (sw_true rfl rfl rfl rfl) (pi_range1 rfl B.range (pa_cons (pv 0) pa_nil)) (blkOk_by rfl) (fun _ _ _ _ _ => pg_name (i := 9) scTt.nd rfl (Or.inl rfl))
        (fun _ _ _ _ _ => pts_one (pt_cmpR op_eq (pe_ix (ix_listK K rfl) (pv 6) (pv 9) (fun _ _ => rfl)) (pe_ix (ix_listK K rfl) (pv 5) (pv 7) (fun _ _ => rfl)) (nomark _))) (fun _ _ _ _ _ => pv 9))
      (pss_one (ps_set (i := 4) scTt.nd rfl (by first | exact Or.inl rfl | exact Or.inr rfl) (pe_call GF hr rfl DF.mg DF.fn.kp DF.bd .nil pass0 (pa_cons (pv 0) (pa_cons (pv 1) (pa_cons (pv 2) (pa_cons (pv 4) (pa_cons (pv 8) (pa_cons (pe_call GL (hr.mono (by omega)) rfl DL.mg DL.fn.kp DL.bd .nil pass0 (pa_cons (pv 0) (pa_cons (pv 1) (pa_cons (pv 2) (pa_cons (pv 3) pa_nil))))) pa_nil))))))))))))))))
      (pss_one (ps_ret pe_bl)), ?_⟩
    refine ⟨fun m σ Hc => ∃ (fa sa : Addr) (p q : List Nat) (v5 v6 v7 v8 v9 : Option V), σ = [some (vi n), some (.ref a), some (.ref c), some (.ref fa), some (.ref sa), v5, v6, v7, v8, v9] ∧ SameT Tt H Hc ∧ Hc fa = some (.lst (p.map vi)) ∧ Hc sa = some (.lst (q.map vi)) ∧
        (q = [] ∨ ∃ (k : Nat) (ps qs : List Nat), TT n U (fn dl) p q k ∧ p = p0 ++ ps ∧ q = q0 ++ qs ∧ m = n + 1 - cnt (tab n (mk2 n U (fn dl) p k))),
      ⟨_, f0, s0, p0, q0, none, none, none, none, none, rfl, .refl _, hF0, hS0, .inr ⟨k0, [], [], tt0, (List.append_nil _).symm, (List.append_nil _).symm, rfl⟩⟩, ?_⟩
    rintro m σ Hc ⟨fa, sa, p, q, v5, v6, v7, v8, v9, rfl, sm, hfa, hsa, inv⟩
    refine ⟨_, rfl, by show 0 ≤ sizeLine; decide, fun e he => ?_⟩
    have s1 : SameT Tt Hc (upd Hc e (.lst [])) := .new he
    refine ne_nil (s1.keep sa _ hsa rfl) upd_same ⟨_, rfl, ite2 (fun h => ?_) (fun h => ?_)⟩
    · have hq : q ≠ [] := of_decide_eq_true h
      obtain ⟨k, ps, qs, tt, ep, eq, rfl⟩ := inv.resolve_left hq
      have sm1 := sm.trans s1
      have hpl : p.length ≤ n := nodup_bound tt.pn tt.pl
      have hql : q.length ≤ n := nodup_bound tt.qn tt.ql
      have hcl : cnt (tab n (mk2 n U (fn dl) p k)) ≤ n := cnt_le n _
      refine ⟨fun σ' Hc' => ∃ (fa sa : Addr) (p' q' : List Nat) (v5 v6 v7 v8 v9 : Option V), σ' = [some (vi n), some (.ref a), some (.ref c), some (.ref fa), some (.ref sa), v5, v6, v7, v8, v9] ∧ SameT Tt H Hc' ∧ Hc' fa = some (.lst (p'.map vi)) ∧ Hc' sa = some (.lst (q'.map vi)) ∧
          (q' = [] ∨ ∃ (k' : Nat) (ps' qs' : List Nat), TT n U (fn dl) p' q' k' ∧ p' = p0 ++ ps' ∧ q' = q0 ++ qs' ∧ cnt (tab n (mk2 n U (fn dl) p k)) < cnt (tab n (mk2 n U (fn dl) p' k'))), ?_, ?_⟩
      · rintro σ' Hc' ⟨fa', sa', p', q', w5, w6, w7, w8, w9, e1, e2, e3, e4, e5⟩
        rcases e5 with e5 | ⟨k', ps', qs', t1, t2, t3, t4⟩
        · exact ⟨0, by omega, fa', sa', p', q', w5, w6, w7, w8, w9, e1, e2, e3, e4, .inl e5⟩
        · exact ⟨n + 1 - cnt (tab n (mk2 n U (fn dl) p' k')), by omega, fa', sa', p', q', w5, w6, w7, w8, w9, e1, e2, e3, e4, .inr ⟨k', ps', qs', t1, t2, t3, rfl⟩⟩
      refine ⟨_, rfl, _, rfl, _, rfl, _, rfl, a, c, fa, n, U, dl, p, rfl, SqL.sameT sm1 hS, SqL.sameT sm1 hC, SqL.of (s1.keep fa _ hfa rfl), h1, hn, hT, hdl, by omega, sm1.tabs hTab, fun H2 r2 k2 s2 hr2 st2 lk2 => ?_⟩
      obtain rfl : k2 = k := st2.one tt.ps
      obtain ⟨ads2, b2, el2, hb2⟩ := look_last lk2
      refine ⟨_, rfl, r2, (ads2 ++ [b2]).map V.ref, _, .ref b2, rfl, rfl, SqL.of el2, by rw [List.map_append]; exact at_last, b2, _, rfl, hb2, by rw [tab_len]; omega, fun H3 ma s3 hma hm3 => ?_⟩
      have em : ranksOf (tab n (sgn sR n U (fn dl) (lkIt sS sR n U (fn dl) p k2))) = tab n (mk2 n U (fn dl) p k2) := ranksG_tab sS n _
      rw [em] at hm3
      have sm3 : SameT Tt H H3 := (sm1.trans s2).trans (.of s3)
      have s13 : SameT Tt Hc H3 := (s1.trans s2).trans (.of s3)
      refine ⟨_, rfl, _, rfl, _, rfl, _, rfl, a, c, sa, n, U, dl, q, rfl, SqL.sameT sm3 hS, SqL.sameT sm3 hC, SqL.of (s13.keep sa _ hsa rfl), h1, hn, hT, hdl, by omega, sm3.tabs hTab, fun H4 r4 k4 s4 hr4 st4 lk4 => ?_⟩
      obtain rfl : k4 = k2 := st4.one tt.qs
      obtain ⟨ads4, b4, el4, hb4⟩ := look_last lk4
      refine ⟨_, rfl, r4, (ads4 ++ [b4]).map V.ref, _, .ref b4, rfl, rfl, SqL.of el4, by rw [List.map_append]; exact at_last, b4, _, rfl, hb4, by rw [tab_len]; omega, fun H5 oa s5 hoa ho5 => ?_⟩
      have eo : ranksOf (tab n (sgn sR n U (fn dl) (lkIt sS sR n U (fn dl) q k4))) = tab n (mk2 n U (fn dl) q k4) := ranksG_tab sS n _
      rw [eo] at ho5
      have s35 : SameT Tt H3 H5 := s4.trans (.of s5)
      have sm5 : SameT Tt H H5 := sm3.trans s35
      have s15 := s13.trans s35
      have hm5 := s35.keep ma _ hm3 rfl
      refine ⟨_, rfl, _, rfl, _, rfl, _, rfl, _, rfl, _, rfl, _, rfl, ma, oa, n, tab n (mk2 n U (fn dl) p k4), tab n (mk2 n U (fn dl) q k4), rfl, SqL.of hm5, SqL.of ho5, tab_len _ _, tab_len _ _, by omega, sm5.tabs hTab, fun H6 ra l l' s6 hra hl hl' hls hls' hr6 => ?_⟩
      have fm : ∀ x, x < n → fn (tab n (mk2 n U (fn dl) p k4)) x = mk2 n U (fn dl) p k4 x := fun x hx => fn_tab hx
      have fo : ∀ x, x < n → fn (tab n (mk2 n U (fn dl) q k4)) x = mk2 n U (fn dl) q k4 x := fun x hx => fn_tab hx
      have lt_l : ∀ {x}, x ∈ l → x < n := fun h => List.mem_range.mp (hl.mem_iff.mp h)
      have lt_l' : ∀ {x}, x ∈ l' → x < n := fun h => List.mem_range.mp (hl'.mem_iff.mp h)
      obtain ⟨bφ, hφ⟩ := by_marks hl hl' tt.perm (List.Pairwise.imp_of_mem (fun {x y} hx hy z => by rw [fm x (lt_l hx), fm y (lt_l hy)] at z; exact z) hls) (List.Pairwise.imp_of_mem (fun {x y} hx hy z => by rw [fo x (lt_l' hx), fo y (lt_l' hy)] at z; exact z) hls')
      have sm6 := sm5.trans s6
      refine ⟨a, a, ra, n, n, U, U, _, rfl, SqL.sameT sm6 hS, SqL.sameT sm6 hS, SqL.of hr6, by omega, by omega, hT.len, hT.len, by rw [tab_len]; exact Nat.le_refl _, fun v hv => ?_, _, rfl, ite2 (fun hok => ?_) (fun hok => ?_)⟩
      · obtain ⟨x, hx, rfl⟩ := tab_mem.mp hv
        exact bφ.lt x hx
      · exact kk H6 true sm6 fun _ => by
          have au := ok_auto hT tt bφ hφ hok
          rw [ep, eq] at au
          exact Auto.pre au tt0.len
      have hcn : cnt (tab n (mk2 n U (fn dl) p k4)) < n := by
        refine Nat.lt_of_not_le fun z => hok (iso_ok hT (look_discrete canS canR hT tt.ps tt.al z bφ hφ))
      obtain ⟨i, j, hi, hj, hij, eij⟩ := cnt_two hcn
      have hm6 := s6.keep ma _ hm5 rfl
      have ho6 := s6.keep oa _ ho5 rfl
      refine ⟨_, rfl, ma, _, rfl, SqL.of hm6, by rw [tab_len]; omega, by rw [tab_len]; omega, fun H7 x s7 hx hsh => ?_⟩
      rw [tab_len] at hx hsh
      obtain ⟨y, hy, hyx, exy⟩ := hsh ⟨i, j, hi, hj, Ne.symm hij, by rw [fm i hi, fm j hj]; exact eij.symm⟩
      rw [fm x hx, fm y hy] at exy
      have sm7 : SameT Tt H H7 := sm6.trans (.of s7)
      have s17 : SameT Tt Hc H7 := (s15.trans s6).trans (.of s7)
      have e7 : p.map vi ++ [vi x] = (p ++ [x]).map vi := by rw [List.map_append]; rfl
      refine ⟨_, rfl, _, rfl, by show 1 ≤ sizeLine; decide, fun t1 ht1 => ?_⟩
      have s8 : SameT Tt H7 (upd H7 t1 (.lst [vi x])) := .new ht1
      refine ⟨fa, t1, p.map vi, [vi x], rfl, rfl, (s17.trans s8).keep fa _ hfa rfl, upd_same, by rw [List.length_map, sizeLine_eq]; show p.length + 1 ≤ _; omega, fun fa2 hfa2 => ?_⟩
      have s9 : SameT Tt H7 _ := s8.trans (.new (o := .lst (p.map vi ++ [vi x])) hfa2)
      have sm9 := sm7.trans s9
      have s19 := s17.trans s9
      have hm9 := s9.keep ma _ (s7 ma _ hm6) rfl
      have ho9 := s9.keep oa _ (s7 oa _ ho6) rfl
      generalize hH9 : upd (upd H7 t1 (.lst [vi x])) fa2 (.lst (p.map vi ++ [vi x])) = H9 at s9 sm9 s19 hm9 ho9
      have hfa9 : H9 fa2 = some (.lst ((p ++ [x]).map vi)) := by rw [← hH9, upd_same, e7]
      refine ⟨_, rfl, _, rfl, (by show -(2 ^ 62) ≤ (n : Int); omega), (by show (n : Int) < 2 ^ 62; omega), fun C hC0 => lc_range (n := n) (fun i H10 => SameT Tt H9 H10 ∧ ∃ zs : List Nat, H10 C = some (.lst (zs.map vi)) ∧ zs.length ≤ i ∧ ∀ z ∈ zs, z < n ∧ mk2 n U (fn dl) q k4 z = mk2 n U (fn dl) p k4 x) ⟨.new hC0, [], upd_same, Nat.le_refl _, fun _ h => (by cases h)⟩ ?_ ?_⟩
      · rintro z H10 hz ⟨s10, zs, hz10, hzl, hzs⟩
        rw [vi_zero]
        have hm10 := s10.keep ma _ hm9 rfl
        have ho10 := s10.keep oa _ ho9 rfl
        refine ⟨rfl, _, rfl, _, rfl, oa, _, _, _, rfl, rfl, SqL.of ho10, at_of (j := z) rfl (vi_get (at_getD (by rw [tab_len]; exact hz))), _, rfl, _, rfl, ma, _, _, _, rfl, rfl, SqL.of hm10, at_of (j := x) rfl (vi_get (at_getD (by rw [tab_len]; exact hx))), rfl, _, rfl, ite2 (fun h => ?_) (fun h => ?_)⟩
        · have h := vi_inj.mp (of_decide_eq_true h)
          have h : mk2 n U (fn dl) q k4 z = mk2 n U (fn dl) p k4 x := (fo z hz).symm.trans (h.trans (fm x hx))
          refine ⟨_, rfl, _, hz10, by rw [List.length_map, sizeLine_eq]; omega, s10.putL hC0 hz10, zs ++ [z], by rw [upd_same, List.map_append]; rfl, by rw [List.length_append, List.length_singleton]; omega, fun z' hz' => ?_⟩
          rcases List.mem_append.mp hz' with q1 | q1
          · exact hzs z' q1
          · rw [List.mem_singleton.mp q1]; exact ⟨hz, h⟩
        · exact ⟨s10, zs, hz10, by omega, hzs⟩
      · rintro H10 ⟨s10, zs, hz10, _, hzs⟩
        have sm10 := sm9.trans s10
        have s110 := s19.trans s10
        have hfa10 := s10.keep fa2 _ hfa9 rfl
        refine ⟨_, rfl, _, rfl, _, rfl, _, rfl, _, rfl, _, rfl, _, rfl, _, rfl, _, rfl, a, c, fa2, n, U, dl, p ++ [x], rfl, SqL.sameT sm10 hS, SqL.sameT sm10 hC, SqL.of hfa10, h1, hn, hT, hdl, by rw [List.length_append, List.length_singleton]; omega, sm10.tabs hTab, fun H11 r11 k11 s11 hr11 st11 lk11 => ?_⟩
        have sm11 := sm10.trans s11
        refine ⟨a, c, sa, C, r11, n, U, dl, q, zs, _, rfl, SqL.sameT sm11 hS, SqL.sameT sm11 hC, (s110.trans s11).keep sa _ hsa rfl, SqL.of (s11.keep C _ hz10 rfl), lk11, seen_small st11 h1 (by omega), h1, hn, hT, hdl, by omega, sm11.tabs hTab, fun H12 sa2 res s12 hsa2 hres hor => ?_⟩
        refine ⟨fa2, sa2, p ++ [x], res, _, _, _, _, _, rfl, sm11.trans s12, (s11.trans s12).keep fa2 _ hfa10 rfl, hres, ?_⟩
        rcases hor with hor | ⟨z, hzm, rfl, k12, st12, al12⟩
        · exact .inl hor
        · obtain ⟨hz, ez⟩ := hzs z hzm
          have hxp := tt.out hx hy hyx exy
          have lt := look_more canS canR hT tt.pn tt.pl hx hy hyx hxp tt.ps exy st11
          exact .inr ⟨k11, ps ++ [x], qs ++ [z], tt.next hx hy hyx exy hz ez st11 st12 al12, by rw [ep, List.append_assoc], by rw [eq, List.append_assoc], lt⟩
    · exact kk _ false (sm.trans s1) fun z => (by cases z)
end
end My
set_option Elab.async false
set_option linter.all false
set_option maxRecDepth 100000
set_option maxHeartbeats 4000000
namespace My
open PySem PySem.Spec PyProof.Rows L2 L3
abbrev sLRA : Stmt := top 18
theorem boot_any4 : bootBuiltins "any" = some (.builtin "any") := by decide +kernel
def spLRA (K : PySem.W.Frag) (Tt : List (Addr × Str)) : Sp := fun vs H Q _ => ∃ (a c ro am : Addr) (n : Nat) (U dl row : List Nat) (AM : List (List Sg)), vs = [vi n, .ref a, .ref c, .ref ro, .ref am] ∧ SqL K H a (U.map vi) ∧ SqL K H c (dl.map vi) ∧ H ro = some (.lst (row.map vi)) ∧ LookH H AM am ∧ Small AM ∧
  1 ≤ n ∧ n ≤ 6 ∧ Tb n U ∧ dl.length = n * n ∧ row.Nodup ∧ (∀ x ∈ row, x < n) ∧ Tabs Tt H ∧
  ∀ (H' : Hp) (D : Addr) (ads : List Addr) (zs : List Nat), SameT Tt H H' → H D = none → H' D = some (.lst (ads.map V.ref)) → LR n U (LooksAs n U (fn dl) AM) row zs → RA (fun q s => H q = none ∧ q ≠ D ∧ H' q = some (.lst (s.map vi))) ads (zs.map fun z => row ++ [z]) → Q (.ref D) H'
section
variable {P : Program} {w : World} {K : PySem.W.Frag} {mg : Str → Option Value} {base : Heap}
theorem scLr : FnScope ["n", "u", "tied", "row", "aim", "found", "z", "longer", "other"] ["n", "u", "tied", "row", "aim"] (defScope sLRA) := ⟨rfl, rfl, rfl, by decide +kernel, rfl, by decide +kernel, by decide +kernel⟩
theorem ok_lra {Tt : List (Addr × Str)} {f fL fA fT : Addr} {fd fdL fdA fdT : FuncData} (F : Fun K "longer_rows_alike" "longer_rows_alike" sLRA f fd) (B : Blt mg) (B2 : Blt2 mg) (DL : Def K mg "look" sLook ["n", "t", "tied", "places"] fL fdL) (GL : FnOk P w K mg base CX0 6 fL fdL ["n", "t", "tied", "places"] (spLook K Tt))
    (DA : Def K mg "are_alike" sAlike ["one", "other"] fA fdA) (GA : FnOk P w K mg base CX0 1 fA fdA ["one", "other"] (spAlike K)) (DT : Def K mg "takes_to" sTakesTo ["n", "u", "tied", "first", "second"] fT fdT) (GT : FnOk P w K mg base CX0 8 fT fdT ["n", "u", "tied", "first", "second"] (spTakesTo K Tt)) :
    FnOk P w K mg base CX0 9 f fd ["n", "u", "tied", "row", "aim"] (spLRA K Tt) := by
  refine F.ok scLr (fun vs H Q E h => ?_) (fun cdv A outer s H vs Q E hr h => ?_)
  · obtain ⟨a, c, ro, am, n, U, dl, row, AM, rfl, _⟩ := h
    rfl
  · obtain ⟨a, c, ro, am, n, U, dl, row, AM, rfl, hS, hC, hR, hA, hsm, h1, hn, hT, hdl, hrn, hrl, hTab, k⟩ := h
    refine ⟨_, pss_cons (ps_set (i := 5) scLr.nd rfl (by first | exact Or.inl rfl | exact Or.inr rfl) (pe_lst pa_nil))
      (pss_cons (ps_for PassesOwn.never rfl (pi_range1 rfl B.range (pa_cons (pv 0) pa_nil)) (pg_name (i := 6) scLr.nd rfl (by first | exact Or.inl rfl | exact Or.inr rfl))
        (pss_cons (ps_set (i := 7) scLr.nd rfl (by first | exact Or.inl rfl | exact Or.inr rfl) (pe_op op_cat (pv 3) (pe_lst (pa_cons (pv 6) pa_nil))))
        (pss_one (ps_if (PW.pt (pw_and (pt_cmpR op_notIn_seq (pv 6) (pv 3) rfl) (pw_and1 (pt_val (pe_call GA (hr.mono (by omega)) rfl DA.mg DA.fn.kp DA.bd .nil pass0 (pa_cons (pe_call GL (hr.mono (by omega)) rfl DL.mg DL.fn.kp DL.bd .nil pass0 (pa_cons (pv 0) (pa_cons (pv 1) (pa_cons (pv 2) (pa_cons (pv 7) pa_nil))))) (pa_cons (pv 4) pa_nil)))))))
          (pss_one (ps_if (pt_not (pt_val (pe_callB (cr_any rfl) rfl B2.any boot_any4 (pa_cons (pe_lc (own := [("other", 8)]) rfl scLr.nd (pi_list (pv 5)) (blkOk_by rfl) (fun _ _ _ _ _ => pg_name (i := 8) scLr.nd rfl (Or.inl rfl)) (fun _ _ _ _ _ => pts_nil)
              (fun _ _ _ _ _ => pe_call GT hr rfl DT.mg DT.fn.kp DT.bd .nil pass0 (pa_cons (pv 0) (pa_cons (pv 1) (pa_cons (pv 2) (pa_cons (pv 8) (pa_cons (pv 7) pa_nil))))))) pa_nil))))
            (pss_one (ps_expr (pe_bm PySem.F.plainAttrs_list PySem.F.slot_list_append PySem.F.type_list_append mt_append (pv 5) (pa_cons (pv 7) pa_nil)))) pss_nil)) pss_nil))))
      (pss_one (ps_ret (pv 5)))), ?_⟩
    refine ⟨by show 0 ≤ sizeLine; decide, fun D hD => ?_⟩
    have hrll : row.length ≤ n := nodup_bound hrn hrl
    refine ⟨_, rfl, _, rfl, (by show -(2 ^ 62) ≤ (n : Int); omega), (by show (n : Int) < 2 ^ 62; omega), for_range (n := n) (fun i σ Hc => ∃ (v6 v7 v8 : Option V) (zs : List Nat) (ads : List Addr), σ = [some (vi n), some (.ref a), some (.ref c), some (.ref ro), some (.ref am), some (.ref D), v6, v7, v8] ∧ SameT Tt H Hc ∧ Hc D = some (.lst (ads.map V.ref)) ∧
        zs.Pairwise (· < ·) ∧ (∀ z ∈ zs, z < i ∧ z ∉ row ∧ LooksAs n U (fn dl) AM (row ++ [z])) ∧ (∀ z, z < i → z ∉ row → LooksAs n U (fn dl) AM (row ++ [z]) → z ∉ zs → ∃ z' ∈ zs, z' < z ∧ Auto n U (row ++ [z']) (row ++ [z])) ∧
        RA (fun q s => H q = none ∧ q ≠ D ∧ Hc q = some (.lst (s.map vi))) ads (zs.map fun z => row ++ [z]))
      ⟨none, none, none, [], [], rfl, .new hD, upd_same, .nil, fun _ h => (by cases h), fun z h => by omega, RA.nil⟩ ?_ ?_⟩
    · rintro i σ Hc hi ⟨v6, v7, v8, zs, ads, rfl, sm, hDc, hup, hok, hall, ra⟩
      rw [vi_zero]
      have hzl : zs.length ≤ n := nodup_bound (List.Pairwise.imp (fun {x y} (h : x < y) => Nat.ne_of_lt h) hup) (fun z hz => by have := (hok z hz).1; omega)
      have hadl : ads.length = zs.length := by rw [ra.1, List.length_map]
      have e : row.map vi ++ [vi i] = (row ++ [i]).map vi := by rw [List.map_append]; rfl
      refine ⟨_, rfl, _, rfl, by show 1 ≤ sizeLine; decide, fun t1 ht1 => ?_⟩
      have s1 : SameT Tt Hc (upd Hc t1 (.lst [vi i])) := .new ht1
      refine ⟨ro, t1, row.map vi, [vi i], rfl, rfl, (sm.trans s1).keep ro _ hR rfl, upd_same, by rw [List.length_map, sizeLine_eq]; show row.length + 1 ≤ _; omega, fun lo hlo => ?_⟩
      have s2 : SameT Tt Hc _ := s1.trans (.new (o := .lst (row.map vi ++ [vi i])) hlo)
      have hloH : H lo = none := (sm.trans s1).free lo hlo
      have hloD : lo ≠ D := Ne.symm (ne_of_none (s1.keep D _ hDc rfl) hlo)
      have hlo2 : upd (upd Hc t1 (.lst [vi i])) lo (.lst (row.map vi ++ [vi i])) lo = some (.lst ((row ++ [i]).map vi)) := by rw [upd_same, e]
      generalize upd (upd Hc t1 (.lst [vi i])) lo (.lst (row.map vi ++ [vi i])) = H2 at s2 hlo2
      have sm2 := sm.trans s2
      have stay : ∀ {H3 : Hp} {w6 w7 w8 : Option V}, SameT Tt Hc H3 → (i ∉ row → LooksAs n U (fn dl) AM (row ++ [i]) → ∃ z' ∈ zs, z' < i ∧ Auto n U (row ++ [z']) (row ++ [i])) → ∃ (v6 v7 v8 : Option V) (zs : List Nat) (ads : List Addr), [some (vi n), some (.ref a), some (.ref c), some (.ref ro), some (.ref am), some (.ref D), w6, w7, w8] = [some (vi n), some (.ref a), some (.ref c), some (.ref ro), some (.ref am), some (.ref D), v6, v7, v8] ∧ SameT Tt H H3 ∧ H3 D = some (.lst (ads.map V.ref)) ∧
          zs.Pairwise (· < ·) ∧ (∀ z ∈ zs, z < i + 1 ∧ z ∉ row ∧ LooksAs n U (fn dl) AM (row ++ [z])) ∧ (∀ z, z < i + 1 → z ∉ row → LooksAs n U (fn dl) AM (row ++ [z]) → z ∉ zs → ∃ z' ∈ zs, z' < z ∧ Auto n U (row ++ [z']) (row ++ [z])) ∧
          RA (fun q s => H q = none ∧ q ≠ D ∧ H3 q = some (.lst (s.map vi))) ads (zs.map fun z => row ++ [z]) := fun {H3 w6 w7 w8} s3 hno =>
        ⟨_, _, _, zs, ads, rfl, sm.trans s3, s3.keep D _ hDc rfl, hup, fun z hz => let ⟨q1, q2, q3⟩ := hok z hz; ⟨by omega, q2, q3⟩, fun z hz hzr hl hzz => by
          by_cases q : z < i
          · exact hall z q hzr hl hzz
          · obtain rfl : z = i := by omega
            exact hno hzr hl, ra.mono fun q s ⟨z1, z2, z3⟩ => ⟨z1, z2, s3.keep _ _ z3 rfl⟩⟩
      refine ⟨_, rfl, _, rfl, ro, row.map vi, rfl, .inl (SqL.of (sm2.keep ro _ hR rfl)), rfl, flat_vi row, _, rfl, ?_⟩
      show if (!inV (vi i) (row.map vi)) = true then _ else _
      rw [in_vi]
      by_cases hir : i ∈ row
      · rw [decide_eq_true hir]
        exact iteF (iteF (stay s2 fun z => absurd hir z))
      rw [decide_eq_false hir]
      refine iteT ⟨_, rfl, _, rfl, _, rfl, _, rfl, a, c, lo, n, U, dl, row ++ [i], rfl, SqL.sameT sm2 hS, SqL.sameT sm2 hC, SqL.of hlo2, h1, hn, hT, hdl, by rw [List.length_append, List.length_singleton]; omega, sm2.tabs hTab, fun H3 b kk s3 hb st lk => ?_⟩
      have s13 := s2.trans s3
      have sm3 := sm2.trans s3
      obtain ⟨l1, l2⟩ := seen_small st h1 (by omega)
      refine ⟨_, rfl, b, am, _, AM, rfl, lk, hA.sameT sm3, l1, hsm.1, l2, hsm.2, fun H4 s4 => ?_⟩
      have s14 : SameT Tt Hc H4 := s13.trans (.of s4)
      have sm4 : SameT Tt H H4 := sm3.trans (.of s4)
      refine ⟨_, rfl, ite2 (fun h => ?_) (fun h => ?_)⟩
      · have h0 : (lkSeen sS sR n U (fn dl) (row ++ [i]) kk).map sS = AM.map sS := of_decide_eq_true h
        have hla : LooksAs n U (fn dl) AM (row ++ [i]) := ⟨kk, st, h0⟩
        have hlo4 : H4 lo = some (.lst ((row ++ [i]).map vi)) := s4 lo _ (s3.keep lo _ hlo2 rfl)
        refine ⟨_, rfl, D, rfl, ⟨_, SqL.of (s14.keep D _ hDc rfl)⟩, fun C hC0 => lc_list (xs := ads.map V.ref) (fun j H5 => SameT Tt H4 H5 ∧ ∃ bs : List Bool, H5 C = some (.lst (bs.map V.bl)) ∧ bs.length = j ∧ ∀ (m z : Nat), bs[m]? = some true → zs[m]? = some z → Auto n U (row ++ [z]) (row ++ [i])) ⟨.new hC0, [], upd_same, rfl, fun m z h => by simp at h⟩ ?_ ?_ ?_⟩
        · rintro j H5 _ ⟨s5, _⟩
          exact SqL.of ((s14.trans s5).keep D _ hDc rfl)
        · rintro j x H5 hx ⟨s5, bs, h5, hbl, hbs⟩
          obtain ⟨oa, hoa, rfl⟩ := ref_at hx
          obtain ⟨orow, hor, ho1, ho2, ho3⟩ := ra.get hoa
          rw [List.getElem?_map] at hor
          obtain ⟨z, hz, rfl⟩ : ∃ z, zs[j]? = some z ∧ row ++ [z] = orow := by
            cases ez : zs[j]? with
            | none => rw [ez] at hor; cases hor
            | some z => rw [ez] at hor; exact ⟨z, rfl, Option.some.inj hor⟩
          obtain ⟨z1, z2, z3⟩ := hok z (List.mem_of_getElem? hz)
          have hjl : j < zs.length := (List.getElem?_eq_some_iff.mp hz).1
          have s15 := s14.trans s5
          have sm5 := sm4.trans s5
          obtain ⟨kt, tt⟩ := TT.of (snoc_nodup hrn z2) (snoc_nodup hrn hir) (snoc_lt hrl (by omega)) (snoc_lt hrl hi) (by rw [List.length_append, List.length_append]; rfl) z3 hla
          refine ⟨rfl, _, rfl, _, rfl, _, rfl, _, rfl, _, rfl, a, c, oa, lo, n, kt, U, dl, row ++ [z], row ++ [i], rfl, SqL.sameT sm5 hS, SqL.sameT sm5 hC, s15.keep oa _ ho3 rfl, s5.keep lo _ hlo4 rfl, h1, hn, hT, hdl, tt, sm5.tabs hTab, fun H6 bb s6 hbb => ?_⟩
          refine ⟨_, s6.keep C _ h5 rfl, by rw [List.length_map, hbl, sizeLine_eq]; omega, (s5.trans s6).putL hC0 (s6.keep C _ h5 rfl), bs ++ [bb], by rw [upd_same, List.map_append]; rfl, by rw [List.length_append, hbl]; rfl, fun m z' hm hz' => ?_⟩
          rcases snoc_at2 hm with ⟨_, hm⟩ | ⟨hm, hb⟩
          · exact hbs m z' hm hz'
          · rw [hm, hbl, hz] at hz'
            cases hz'
            exact hbb hb
        · rintro H5 ⟨s5, bs, h5, hbl, hbs⟩
          have s15 := s14.trans s5
          have sm5 := sm4.trans s5
          rw [List.length_map] at hbl
          refine ⟨C, bs, rfl, SqL.of h5, _, rfl, ?_⟩
          cases eb : bs.any id with
          | true =>
            refine iteF (stay s15 fun _ _ => ?_)
            obtain ⟨b0, hb0, hb1⟩ := List.any_eq_true.mp eb
            obtain ⟨m, hm⟩ := List.getElem?_of_mem hb0
            have hb1 : b0 = true := hb1
            subst hb1
            have hml := (List.getElem?_eq_some_iff.mp hm).1
            obtain ⟨z, hz⟩ : ∃ z, zs[m]? = some z := ⟨_, List.getElem?_eq_getElem (by omega)⟩
            have hzm := List.mem_of_getElem? hz
            exact ⟨z, hzm, (hok z hzm).1, hbs m z hm hz⟩
          | false =>
            have hD5 := s15.keep D _ hDc rfl
            refine iteT ⟨_, rfl, .inl ⟨rfl, _, SqL.of hD5⟩, _, rfl, D, _, _, rfl, rfl, hD5, by rw [List.length_map, sizeLine_eq]; omega, _, _, _, zs ++ [i], ads ++ [lo], rfl, sm5.putL hD hD5, by rw [upd_same, List.map_append]; rfl, ?_, fun z hz => ?_, fun z hz hzr hl hzz => ?_, ?_⟩
            · rw [List.pairwise_append]
              exact ⟨hup, by simp, fun x hx y hy => by rw [List.mem_singleton.mp hy]; exact (hok x hx).1⟩
            · rcases List.mem_append.mp hz with q | q
              · obtain ⟨q1, q2, q3⟩ := hok z q
                exact ⟨by omega, q2, q3⟩
              · rw [List.mem_singleton.mp q]
                exact ⟨by omega, hir, hla⟩
            · by_cases q : z < i
              · obtain ⟨z', q1, q2⟩ := hall z q hzr hl fun q => hzz (List.mem_append_left _ q)
                exact ⟨z', List.mem_append_left _ q1, q2⟩
              · obtain rfl : z = i := by omega
                exact absurd (List.mem_append_right _ (List.mem_singleton.mpr rfl)) hzz
            · rw [List.map_append]
              refine RA.snoc (ra.mono fun q s ⟨z1, z2, z3⟩ => ⟨z1, z2, by rw [upd_ne z2]; exact s15.keep _ _ z3 rfl⟩) ⟨hloH, hloD, by rw [upd_ne hloD]; exact s5.keep lo _ hlo4 rfl⟩
      · refine stay s14 fun _ ⟨k2, st2, al2⟩ => absurd (decide_eq_true ?_) h
        rw [st.one st2]
        exact al2
    · rintro σ Hc ⟨v6, v7, v8, zs, ads, rfl, sm, hDc, hup, hok, hall, ra⟩
      exact ⟨_, rfl, k Hc D ads zs sm hD hDc ⟨hup, hok, hall⟩ ra⟩
end
end My
set_option Elab.async false
set_option linter.all false
set_option maxRecDepth 100000
set_option maxHeartbeats 4000000
namespace My
open PySem PySem.Spec PyProof.Rows L2 L3
abbrev sRA : Stmt := top 17
def Asn (n : Nat) (T U : List Nat) (d d' : Nat → Nat) (p : List Nat) (k : Nat) (r : List Nat) : Prop := ∃ kt, LkStop sS sR n T d (p.take (k + 1)) kt ∧ LooksAs n U d' (lkSeen sS sR n T d (p.take (k + 1)) kt) r
theorem LR.iff {n : Nat} {U : List Nat} {A B : List Nat → Prop} {row zs : List Nat} (h : LR n U A row zs) (e : ∀ r, A r ↔ B r) : LR n U B row zs :=
  ⟨h.up, fun z hz => let ⟨q1, q2, q3⟩ := h.ok z hz; ⟨q1, q2, (e _).mp q3⟩, fun z h1 h2 h3 h4 => h.all z h1 h2 ((e _).mpr h3) h4⟩
theorem LR.len {n : Nat} {U : List Nat} {A : List Nat → Prop} {row zs : List Nat} (h : LR n U A row zs) : zs.length ≤ n := nodup_bound (List.Pairwise.imp (fun {x y} (h : x < y) => Nat.ne_of_lt h) h.up) fun z hz => (h.ok z hz).1
theorem cut_front {p : List Nat} {k : Nat} : cutV (p.map vi) none (some (My.cast k + 1)) = (p.take (k + 1)).map vi := by
  unfold cutV
  have e : My.cast k + 1 = ((k + 1 : Nat) : Int) := rfl
  rw [e, HT.sIx_nat]
  show (((p.map vi).drop 0).take (min (k + 1) (p.map vi).length - 0)) = _
  rw [List.drop_zero, Nat.sub_zero, List.map_take]
  by_cases h : k + 1 ≤ (p.map vi).length
  · rw [Nat.min_eq_left h]
  · rw [Nat.min_eq_right (by omega), List.take_length, List.take_of_length_le (by omega)]
def spRA (K : PySem.W.Frag) (Tt : List (Addr × Str)) : Sp := fun vs H Q _ => ∃ (a b c o pl : Addr) (n : Nat) (T U dl ol p : List Nat), vs = [vi n, .ref a, .ref b, .ref c, .ref o, .ref pl] ∧ SqL K H a (T.map vi) ∧ SqL K H b (U.map vi) ∧ SqL K H c (dl.map vi) ∧ SqL K H o (ol.map vi) ∧ SqL K H pl (p.map vi) ∧
  1 ≤ n ∧ n ≤ 6 ∧ Tb n T ∧ Tb n U ∧ dl.length = n * n ∧ ol.length = n * n ∧ p.Nodup ∧ (∀ x ∈ p, x < n) ∧ Tabs Tt H ∧
  ∀ (H' : Hp) (R : Addr) (ads : List Addr) (rs : List (List Nat)), SameT Tt H H' → H R = none → H' R = some (.lst (ads.map V.ref)) → RA (fun q s => H' q = some (.lst (s.map vi))) ads rs → Reach n U (Asn n T U (fn dl) (fn ol) p) p.length rs → Q (.ref R) H'
section
variable {P : Program} {w : World} {K : PySem.W.Frag} {mg : Str → Option Value} {base : Heap}
theorem scRa : FnScope ["n", "t", "u", "tied", "others", "places", "rows", "k", "aim", "found", "row"] ["n", "t", "u", "tied", "others", "places"] (defScope sRA) := ⟨rfl, rfl, rfl, by decide +kernel, rfl, by decide +kernel, by decide +kernel⟩
theorem ok_ra {Tt : List (Addr × Str)} {f fL fR : Addr} {fd fdL fdR : FuncData} (F : Fun K "rows_alike" "rows_alike" sRA f fd) (B : Blt mg) (DL : Def K mg "look" sLook ["n", "t", "tied", "places"] fL fdL) (GL : FnOk P w K mg base CX0 6 fL fdL ["n", "t", "tied", "places"] (spLook K Tt))
    (DR : Def K mg "longer_rows_alike" sLRA ["n", "u", "tied", "row", "aim"] fR fdR) (GR : FnOk P w K mg base CX0 9 fR fdR ["n", "u", "tied", "row", "aim"] (spLRA K Tt)) : FnOk P w K mg base CX0 10 f fd ["n", "t", "u", "tied", "others", "places"] (spRA K Tt) := by
  refine F.ok scRa (fun vs H Q E h => ?_) (fun cdv A outer s H vs Q E hr h => ?_)
  · obtain ⟨a, b, c, o, pl, n, T, U, dl, ol, p, rfl, _⟩ := h
    rfl
  · obtain ⟨a, b, c, o, pl, n, T, U, dl, ol, p, rfl, hS, hU, hC, hO, hP, h1, hn, hT, hTU, hdl, hol, hpn, hpl, hTab, k⟩ := h
    refine ⟨_, pss_cons (ps_set (i := 6) scRa.nd rfl (Or.inl rfl) (pe_lst (pa_cons (pe_lst pa_nil) pa_nil)))
      (pss_cons (ps_for PassesOwn.never rfl (pi_range1 rfl B.range (pa_cons (pe_callB call_len_seq rfl B.len PySem.boot_len (pa_cons (pv 5) pa_nil)) pa_nil)) (pg_name (i := 7) scRa.nd rfl (Or.inl rfl))
        (pss_cons (ps_set (i := 8) scRa.nd rfl (Or.inl rfl) (pe_call GL (hr.mono (by omega)) rfl DL.mg DL.fn.kp DL.bd .nil pass0 (pa_cons (pv 0) (pa_cons (pv 1) (pa_cons (pv 3) (pa_cons (pe_slice sl_list (pv 5) po_none (po_some (pe_op op_add (pv 7) pe_int))) pa_nil))))))
        (pss_cons (ps_set (i := 9) scRa.nd rfl (Or.inl rfl) (pe_lst pa_nil))
        (pss_cons (ps_for PassesOwn.never rfl (pi_list (pv 6)) (pg_name (i := 10) scRa.nd rfl (Or.inl rfl))
          (pss_one (ps_expr (pe_bm PySem.F.plainAttrs_list PySem.F.slot_list_extend PySem.F.type_list_extend mt_extend (pv 9) (pa_cons (pe_call GR hr rfl DR.mg DR.fn.kp DR.bd .nil pass0 (pa_cons (pv 0) (pa_cons (pv 2) (pa_cons (pv 4) (pa_cons (pv 10) (pa_cons (pv 8) pa_nil)))))) pa_nil)))))
        (pss_one (ps_set (i := 6) scRa.nd rfl (Or.inl rfl) (pv 9)))))))
      (pss_one (ps_ret (pv 6)))), ?_⟩
    have hpll : p.length ≤ n := nodup_bound hpn hpl
    refine ⟨by show 0 ≤ sizeLine; decide, fun p0 hp0 => ⟨by show 1 ≤ sizeLine; decide, fun R0 hR0 => ?_⟩⟩
    have s0 : SameT Tt H _ := (SameT.new (o := .lst []) hp0).trans (.new (o := .lst [.ref p0]) hR0)
    have hpR : p0 ≠ R0 := ne_of_none upd_same hR0
    have hR00 : H R0 = none := (SameT.new (T := Tt) (o := .lst []) hp0).free R0 hR0
    have el : (p.map vi).length = p.length := List.length_map _
    refine ⟨_, rfl, pl, p.map vi, rfl, .inl (SqL.sameT s0 hP), _, rfl, (by rw [el]; omega), (by rw [el]; omega), for_range (n := (p.map vi).length) (fun i σ Hc => ∃ (v7 v8 v9 v10 : Option V) (R : Addr) (ads : List Addr) (rs : List (List Nat)), σ = [some (vi n), some (.ref a), some (.ref b), some (.ref c), some (.ref o), some (.ref pl), some (.ref R), v7, v8, v9, v10] ∧ SameT Tt H Hc ∧ H R = none ∧
      Hc R = some (.lst (ads.map V.ref)) ∧ RA (fun q s => Hc q = some (.lst (s.map vi))) ads rs ∧ Reach n U (Asn n T U (fn dl) (fn ol) p) i rs ∧ rs.length ≤ n ^ i) ⟨none, none, none, none, R0, [p0], [[]], rfl, s0, hR00, upd_same, ?_, .zero, Nat.le_refl _⟩ ?_ ?_⟩
    · refine RA.snoc (ads := []) (rs := []) RA.nil ?_
      rw [upd_ne hpR, upd_same]
      rfl
    · rintro i σ Hc hi ⟨v7, v8, v9, v10, R, ads, rs, rfl, sm, hRn, hR, ra, re, hlen⟩
      rw [vi_zero]
      rw [el] at hi
      refine ⟨_, rfl, _, rfl, _, rfl, _, rfl, _, rfl, _, _, rfl, rfl, _, rfl, pl, _, rfl, SqL.sameT sm hP, fun t1 ht1 => ?_⟩
      rw [cut_front]
      have s1 : SameT Tt Hc (upd Hc t1 (.lst ((p.take (i + 1)).map vi))) := .new ht1
      have sm1 := sm.trans s1
      refine ⟨a, c, t1, n, T, dl, p.take (i + 1), rfl, SqL.sameT sm1 hS, SqL.sameT sm1 hC, SqL.of upd_same, h1, hn, hT, hdl, by rw [List.length_take]; omega, sm1.tabs hTab, fun H2 am kt s2 ham st lk => ?_⟩
      have s12 := s1.trans s2
      have sm2 := sm1.trans s2
      have eA : ∀ r, LooksAs n U (fn ol) (lkSeen sS sR n T (fn dl) (p.take (i + 1)) kt) r ↔ Asn n T U (fn dl) (fn ol) p i r := fun r => ⟨fun h => ⟨kt, st, h⟩, fun ⟨k2, st2, h⟩ => by rw [st.one st2]; exact h⟩
      refine ⟨by show 0 ≤ sizeLine; decide, fun Fo hF => ?_⟩
      have s3 : SameT Tt H2 (upd H2 Fo (.lst [])) := .new hF
      have s13 := s12.trans s3
      have hFH : H Fo = none := sm2.free Fo hF
      have hpw : n ^ (i + 1) ≤ 46656 := Nat.le_trans (Nat.pow_le_pow_left hn (i + 1)) (Nat.le_trans (Nat.pow_le_pow_right (by decide) (show i + 1 ≤ 6 by omega)) (by decide))
      refine ⟨_, rfl, R, rfl, ⟨_, SqL.of (s13.keep R _ hR rfl)⟩, for_list (K := K) (a := R) (xs := ads.map V.ref) (fun j σ H4 => ∃ (v10 : Option V) (fds : List Addr) (out : List (List Nat)), σ = [some (vi n), some (.ref a), some (.ref b), some (.ref c), some (.ref o), some (.ref pl), some (.ref R), some (vi i), some (.ref am), some (.ref Fo), v10] ∧ SameT Tt H2 H4 ∧
        H4 Fo = some (.lst (fds.map V.ref)) ∧ RA (fun q s => q ≠ Fo ∧ H4 q = some (.lst (s.map vi))) fds out ∧ Lev n U (Asn n T U (fn dl) (fn ol) p i) (rs.take j) out ∧ out.length ≤ j * n) ⟨v10, [], [], rfl, s3, upd_same, RA.nil, .nil, Nat.zero_le _⟩ (fun j σ H4 _ ⟨_, _, _, _, z, _⟩ => SqL.of ((s12.trans z).keep R _ hR rfl)) ?_ ?_⟩
      · rintro j y σ H4 hj ⟨u10, fds, out, rfl, s4, hF4, ra4, lev, hol4⟩
        obtain ⟨q, hq, rfl⟩ := ref_at hj
        obtain ⟨r, hr1, hqr⟩ := ra.get hq
        have s14 := s12.trans s4
        have sm4 := sm2.trans s4
        obtain ⟨r1, r2, r3, _⟩ := re.row r (List.mem_of_getElem? hr1)
        have hjr : j < rs.length := (List.getElem?_eq_some_iff.mp hr1).1
        refine ⟨_, rfl, .inl ⟨rfl, _, SqL.of hF4⟩, _, rfl, _, rfl, _, rfl, _, rfl, _, rfl, b, o, q, am, n, U, ol, r, _, rfl, SqL.sameT sm4 hU, SqL.sameT sm4 hO, s14.keep q _ hqr rfl, lk.sameT s4, seen_small st h1 (by omega), h1, hn, hTU, hol, r2, r3, sm4.tabs hTab, fun H5 D bds zs s5 hD hD5 lr ra5 => ?_⟩
        have hFD : Fo ≠ D := ne_of_none hF4 hD
        have hF5 := s5.keep Fo _ hF4 rfl
        have lr' := lr.iff eA
        have hbl : bds.length ≤ n := by rw [ra5.1, List.length_map]; exact lr'.len
        have hfl : fds.length = out.length := ra4.1
        have hjn : (j + 1) * n ≤ n ^ (i + 1) := by
          rw [Nat.pow_succ]
          exact Nat.mul_le_mul_right n (by omega)
        have hsum : out.length + zs.length ≤ (j + 1) * n := by
          rw [Nat.add_mul, Nat.one_mul]
          have := lr'.len
          omega
        refine ⟨Fo, D, fds.map V.ref, bds.map V.ref, rfl, rfl, hF5, hD5, ?_, ?_⟩
        · have e1 : bds.length = zs.length := by rw [ra5.1, List.length_map]
          rw [List.length_map, List.length_map, sizeLine_eq, e1, hfl]
          omega
        · refine ⟨_, fds ++ bds, out ++ zs.map (fun z => r ++ [z]), rfl, (s4.trans s5).putL hF hF5, by rw [upd_same, List.map_append], ?_, ?_, ?_⟩
          · refine RA.append (ra4.mono fun q s ⟨z1, z2⟩ => ⟨z1, by rw [upd_ne z1]; exact s5.keep _ _ z2 rfl⟩) (ra5.mono fun q s ⟨z1, z2, z3⟩ => ?_)
            have hqF : q ≠ Fo := Ne.symm (ne_of_none hF4 z1)
            exact ⟨hqF, by rw [upd_ne hqF]; exact z3⟩
          · rw [List.take_add_one, hr1]
            exact .snoc lev lr'
          · rw [List.length_append, List.length_map]
            exact hsum
      · rintro σ H4 ⟨u10, fds, out, rfl, s4, hF4, ra4, lev, hol4⟩
        have e1 : (ads.map V.ref).length = rs.length := by rw [List.length_map]; exact ra.1
        rw [e1, List.take_length] at lev
        rw [e1] at hol4
        refine ⟨_, rfl, _, _, _, _, Fo, fds, out, rfl, sm2.trans s4, hFH, hF4, ra4.mono fun q s ⟨_, z⟩ => z, .succ re lev, ?_⟩
        rw [Nat.pow_succ]
        exact Nat.le_trans hol4 (Nat.mul_le_mul_right n hlen)
    · rintro σ Hc ⟨v7, v8, v9, v10, R, ads, rs, rfl, sm, hRn, hR, ra, re, _⟩
      rw [el] at re
      exact ⟨_, rfl, k Hc R ads rs sm hRn hR ra re⟩
end
end My
set_option Elab.async false
set_option linter.all false
set_option maxRecDepth 100000
set_option maxHeartbeats 4000000
namespace L2
open PySem PySem.Spec PyProof.Rows L3
def dRowL (r : List Nat) : PyData := .list (r.map dN)
theorem shape_dRowL (r : List Nat) : PyData.canLay0 (dRowL r) = true ∧ PyData.depth (dRowL r) ≤ 2 := by
  obtain ⟨h1, h2⟩ := shape_map shape_dN (Nat.le_refl 1) r
  unfold dRowL
  simp only [PyData.canLay0, PyData.depth, h1, true_and]
  omega
theorem shaped_rowsL (l : List (List Nat)) : SeqAt.shaped (.list (l.map dRowL)) = true := by
  obtain ⟨h1, h2⟩ := shape_map shape_dRowL (by decide) l
  unfold SeqAt.shaped
  simp only [PyData.canLay0, PyData.depth, h1, Bool.true_and]
  exact decide_eq_true (by omega)
end L2
namespace My
open PySem PySem.Spec PyProof.Rows L2 L3
abbrev sNames : Stmt := top 14
theorem dp_rowsL {K : PySem.W.Frag} {H : Hp} : ∀ {ads : List Addr} {rs : List (List Nat)}, RA (fun q s => H q = some (.lst (s.map vi))) ads rs → DpAll K H (ads.map V.ref) (rs.map dRowL)
  | [], [], _ => .nil
  | [], _ :: _, h => absurd h.1 (by simp)
  | _ :: _, [], h => absurd h.1 (by simp)
  | q :: ads, r :: rs, h => by
    have h0 := h.2 0 q r rfl rfl
    have h1 : RA (fun q s => H q = some (.lst (s.map vi))) ads rs := ⟨by have := h.1; simpa using this, fun i q' r' a b => h.2 (i + 1) q' r' (by simpa using a) (by simpa using b)⟩
    exact .cons (.lst (SqL.of h0) (dp_nats r)) (dp_rowsL h1)
theorem rows_nil {K : PySem.W.Frag} {H : Hp} {R e : Addr} {ads : List Addr} {rs : List (List Nat)} (hR : H R = some (.lst (ads.map V.ref))) (ra : RA (fun q s => H q = some (.lst (s.map vi))) ads rs) (he : H e = some (.lst [])) :
    Dp K H (.ref R) (.list (rs.map dRowL)) ∧ Dp K H (.ref e) (.list []) ∧ SeqAt.shaped (.list (rs.map dRowL)) = true ∧ PyData.eqv (.list (rs.map dRowL)) (.list []) = decide (rs = []) := by
  refine ⟨.lst (SqL.of hR) (dp_rowsL ra), .lst (SqL.of he) .nil, shaped_rowsL rs, ?_⟩
  cases rs with
  | nil => rfl
  | cons r rs => rfl
section
variable {n : Nat} {T U : List Nat}
abbrev tieIt (n : Nat) (T : List Nat) (k : Nat) : Nat → Nat := it sS (n * n) (tsg sR n T) (tie0 n) (k + 1)
theorem ties_alike (hT : Tb n T) {σ : Nat → Nat} (h : Iso n T U σ) {k k' : Nat} (s : Stop sS (n * n) (tsg sR n T) (tie0 n) k) (s' : Stop sS (n * n) (tsg sR n U) (tie0 n) k') : k = k' ∧ alike sS (seen sS (n * n) (tsg sR n T) (tie0 n) k) (seen sS (n * n) (tsg sR n U) (tie0 n) k') :=
  alike_moved canS (pair_bij h.bij) (moved_tsg canR hT h) (fun i hi => pair_tie0 h.bij hi) s s'
theorem ties_moved (hT : Tb n T) {σ : Nat → Nat} (h : Iso n T U σ) (k : Nat) : MovedD n σ (fn (tab (n * n) (tieIt n T k))) (fn (tab (n * n) (tieIt n U k))) := fun x y hx hy => by
  have q := it_moved canS (pair_bij h.bij) (moved_tsg canR hT h) (m := tie0 n) (m' := tie0 n) (fun i hi => pair_tie0 h.bij hi) (k + 1) (x * n + y) (ix_lt hx hy)
  rw [fn_tab (ix_lt hx hy), fn_tab (ix_lt (h.bij.lt x hx) (h.bij.lt y hy))]
  have e : pairσ n σ (x * n + y) = σ x * n + σ y := by
    unfold pairσ
    rw [pair_div hy, pair_mod hy]
  rw [e] at q
  exact q
theorem asn_of (h1 : 1 ≤ n) (hT : Tb n T) {d d' : Nat → Nat} {τ : Nat → Nat} (h : Iso n T U τ) (hd : MovedD n τ d d') {p : List Nat} (hp : ∀ x ∈ p, x < n) (k : Nat) : Asn n T U d d' p k ((p.take (k + 1)).map τ) := by
  obtain ⟨kt, st⟩ := stop_ex n h1 (sgn sR n T d) (at0 (p.take (k + 1)))
  obtain ⟨ku, su⟩ := stop_ex n h1 (sgn sR n U d') (at0 ((p.take (k + 1)).map τ))
  exact ⟨kt, st, ku, su, (look_iso canS canR hT h hd (fun x hx => hp x (List.mem_of_mem_take hx)) st su).symm⟩
theorem asn_full (h1 : 1 ≤ n) (hT : Tb n T) (hU : Tb n U) {d d' : Nat → Nat} {r : List Nat} (hl : r.length = n) (hn : r.Nodup) (hlt : ∀ x ∈ r, x < n) (h : ∀ j, n = j + 1 → Asn n T U d d' (List.range n) j r) : Iso n T U (fun x => r.getD x 0) := by
  obtain ⟨kt, st, ku, su, a⟩ := h (n - 1) (by omega)
  have e : (List.range n).take (n - 1 + 1) = List.range n := List.take_of_length_le (by rw [List.length_range]; omega)
  rw [e] at a
  exact look_full canS canR h1 hT hU hn hl hlt a
end
def spNames (K : PySem.W.Frag) (Tt : List (Addr × Str)) : Sp := fun vs H Q _ => ∃ (a b : Addr) (n : Nat) (T U : List Nat), vs = [vi n, .ref a, .ref b] ∧ SqL K H a (T.map vi) ∧ SqL K H b (U.map vi) ∧ 1 ≤ n ∧ n ≤ 6 ∧ Tb n T ∧ Tb n U ∧ Tabs Tt H ∧
  ∀ (H' : Hp) (R : Addr) (ads : List Addr) (rs : List (List Nat)), SameT Tt H H' → H' R = some (.lst (ads.map V.ref)) → RA (fun q s => H' q = some (.lst (s.map vi))) ads rs → rs.head? = Rd12.sameOf ⟨n, T⟩ ⟨n, U⟩ → Q (.ref R) H'
section
variable {P : Program} {w : World} {K : PySem.W.Frag} {mg : Str → Option Value} {base : Heap}
theorem scNa : FnScope ["n", "t", "u", "ties_of_t", "ties_of_u", "tied", "others"] ["n", "t", "u"] (defScope sNames) := ⟨rfl, rfl, rfl, by decide +kernel, rfl, by decide +kernel, by decide +kernel⟩
theorem ok_names {Tt : List (Addr × Str)} {f fS fA fR fT fW : Addr} {fd fdS fdA fdR fdT fdW : FuncData} (F : Fun K "rows_by_name" "rows_by_name" sNames f fd) (B : Blt mg) (B2 : Blt2 mg) (DS : Def K mg "ties" sTies ["n", "t"] fS fdS) (GS : FnOk P w K mg base CX0 6 fS fdS ["n", "t"] (spTies K Tt))
    (DA : Def K mg "are_alike" sAlike ["one", "other"] fA fdA) (GA : FnOk P w K mg base CX0 1 fA fdA ["one", "other"] (spAlike K)) (DR : Def K mg "ranks" sRanks ["signs"] fR fdR) (GR : FnOk P w K mg base CX0 1 fR fdR ["signs"] (spRanks K))
    (DT : Def K mg "telling_places" sTell ["n", "t", "tied"] fT fdT) (GT : FnOk P w K mg base CX0 8 fT fdT ["n", "t", "tied"] (spTell K Tt)) (DW : Def K mg "rows_alike" sRA ["n", "t", "u", "tied", "others", "places"] fW fdW) (GW : FnOk P w K mg base CX0 10 fW fdW ["n", "t", "u", "tied", "others", "places"] (spRA K Tt)) :
    FnOk P w K mg base CX0 11 f fd ["n", "t", "u"] (spNames K Tt) := by
  refine F.ok scNa (fun vs H Q E h => ?_) (fun cdv A outer s H vs Q E hr h => ?_)
  · obtain ⟨a, b, n, T, U, rfl, _⟩ := h
    rfl
  · obtain ⟨a, b, n, T, U, rfl, hS, hU, h1, hn, hT, hTU, hTab, k⟩ := h
    refine ⟨_, pss_cons (ps_set (i := 3) scNa.nd rfl (Or.inl rfl) (pe_call GS (hr.mono (by omega)) rfl DS.mg DS.fn.kp DS.bd .nil pass0 (pa_cons (pv 0) (pa_cons (pv 1) pa_nil))))
      (pss_cons (ps_set (i := 4) scNa.nd rfl (Or.inl rfl) (pe_call GS (hr.mono (by omega)) rfl DS.mg DS.fn.kp DS.bd .nil pass0 (pa_cons (pv 0) (pa_cons (pv 2) pa_nil))))
      (pss_cons (ps_if (pt_not (pt_val (pe_call GA (hr.mono (by omega)) rfl DA.mg DA.fn.kp DA.bd .nil pass0 (pa_cons (pv 3) (pa_cons (pv 4) pa_nil))))) (pss_one (ps_ret (pe_lst pa_nil))) pss_nil)
      (pss_cons (ps_set (i := 5) scNa.nd rfl (Or.inl rfl) (pe_call GR (hr.mono (by omega)) rfl DR.mg DR.fn.kp DR.bd .nil pass0 (pa_cons (pe_ix ix_list (pv 3) (pe_un un_neg pe_int) (fun _ _ => rfl)) pa_nil)))
      (pss_cons (ps_set (i := 6) scNa.nd rfl (Or.inl rfl) (pe_call GR (hr.mono (by omega)) rfl DR.mg DR.fn.kp DR.bd .nil pass0 (pa_cons (pe_ix ix_list (pv 4) (pe_un un_neg pe_int) (fun _ _ => rfl)) pa_nil)))
      (pss_cons (ps_if (pt_cmpR (op_eqD hr.units) (pe_call GW hr rfl DW.mg DW.fn.kp DW.bd .nil pass0 (pa_cons (pv 0) (pa_cons (pv 1) (pa_cons (pv 2) (pa_cons (pv 5) (pa_cons (pv 6) (pa_cons (pe_call GT (hr.mono (by omega)) rfl DT.mg DT.fn.kp DT.bd .nil pass0 (pa_cons (pv 0) (pa_cons (pv 1) (pa_cons (pv 5) pa_nil)))) pa_nil))))))) (pe_lst pa_nil) (nomark _)) (pss_one (ps_ret (pe_lst pa_nil))) pss_nil)
      (pss_one (ps_ret (pe_call GW hr rfl DW.mg DW.fn.kp DW.bd .nil pass0 (pa_cons (pv 0) (pa_cons (pv 1) (pa_cons (pv 2) (pa_cons (pv 5) (pa_cons (pv 6) (pa_cons (pe_callTy (call_list_rng rfl) rfl B2.list PyProof.Rows.boot_list (pa_cons (pe_callTy call_rng1 rfl B.range PyProof.Rows.boot_range (pa_cons (pv 0) pa_nil)) pa_nil)) pa_nil)))))))))))))), ?_⟩
    have hnn : n * n ≤ 36 := Nat.mul_le_mul hn hn
    have hN1 : 1 ≤ n * n := Nat.mul_le_mul h1 h1
    have none_ok : ∀ {H' : Hp}, SameT Tt H H' → (∀ σ, ¬ Iso n T U σ) → (0 ≤ sizeLine ∧ ∀ q, H' q = none → Q (.ref q) (upd H' q (.lst []))) := fun {H'} sm hno => ⟨Nat.zero_le _, fun q hq => k _ q [] [] (sm.trans (.new hq)) upd_same RA.nil (by rw [(same_none hT).mpr hno]; rfl)⟩
    refine ⟨_, rfl, _, rfl, a, n, T, rfl, hS, h1, hn, hT, hTab, fun H1 r1 k1 s1 hr1 st1 lk1 => ?_⟩
    refine ⟨_, rfl, _, rfl, b, n, U, rfl, SqL.sameT s1 hU, h1, hn, hTU, s1.tabs hTab, fun H2 r2 k2 s2 hr2 st2 lk2 => ?_⟩
    have sm2 := s1.trans s2
    have lk1' := lk1.sameT s2
    obtain ⟨l1, l2⟩ := seen_small st1 hN1 (by omega)
    obtain ⟨l3, l4⟩ := seen_small st2 hN1 (by omega)
    refine ⟨_, rfl, _, rfl, r1, r2, _, _, rfl, lk1', lk2, l1, l3, l2, l4, fun H3 s3 => ?_⟩
    have sm3 : SameT Tt H H3 := sm2.trans (.of s3)
    refine ⟨_, rfl, ?_⟩
    by_cases hal : (seen sS (n * n) (tsg sR n T) (tie0 n) k1).map sS = (seen sS (n * n) (tsg sR n U) (tie0 n) k2).map sS
    · rw [decide_eq_true hal]
      refine iteF ?_
      have lk13 := lk1'.same s3
      have lk23 := lk2.same s3
      obtain ⟨ads1, b1, e1, hb1⟩ := look_last lk13
      obtain ⟨ads2, b2, e2, hb2⟩ := look_last lk23
      refine ⟨_, rfl, _, rfl, r1, (ads1 ++ [b1]).map V.ref, _, .ref b1, rfl, rfl, SqL.of e1, by rw [List.map_append]; exact at_last, b1, _, rfl, hb1, by rw [tab_len]; omega, fun H4 c s4 hc hc4 => ?_⟩
      have em : ranksOf (tab (n * n) (tsg sR n T (it sS (n * n) (tsg sR n T) (tie0 n) k1))) = tab (n * n) (tieIt n T k1) := ranksG_tab sS (n * n) _
      rw [em] at hc4
      refine ⟨_, rfl, _, rfl, r2, (ads2 ++ [b2]).map V.ref, _, .ref b2, rfl, rfl, SqL.of (s4 r2 _ e2), by rw [List.map_append]; exact at_last, b2, _, rfl, hb2.same s4, by rw [tab_len]; omega, fun H5 o s5 ho ho5 => ?_⟩
      have em2 : ranksOf (tab (n * n) (tsg sR n U (it sS (n * n) (tsg sR n U) (tie0 n) k2))) = tab (n * n) (tieIt n U k2) := ranksG_tab sS (n * n) _
      rw [em2] at ho5
      have hc5 := s5 c _ hc4
      have sm5 : SameT Tt H H5 := sm3.trans (.of (s4.trans s5))
      have mv : ∀ σ, Iso n T U σ → MovedD n σ (fn (tab (n * n) (tieIt n T k1))) (fn (tab (n * n) (tieIt n U k2))) := fun σ h => by
        obtain ⟨rfl, _⟩ := ties_alike hT h st1 st2
        exact ties_moved hT h k1
      refine ⟨_, rfl, _, rfl, _, rfl, _, rfl, _, rfl, _, rfl, _, rfl, _, rfl, a, c, n, T, _, rfl, SqL.sameT sm5 hS, SqL.of hc5, h1, hn, hT, tab_len _ _, sm5.tabs hTab, fun H6 pl p s6 hpl hp6 hpn hplt => ?_⟩
      have sm6 := sm5.trans s6
      refine ⟨a, b, c, o, pl, n, T, U, _, _, p, rfl, SqL.sameT sm6 hS, SqL.sameT sm6 hU, SqL.of (s6.keep c _ hc5 rfl), SqL.of (s6.keep o _ ho5 rfl), SqL.of hp6, h1, hn, hT, hTU, tab_len _ _, tab_len _ _, hpn, hplt, sm6.tabs hTab, fun H7 R ads rs s7 hR hR7 ra re => ?_⟩
      have sm7 := sm6.trans s7
      refine ⟨by show 0 ≤ sizeLine; decide, fun e he => ?_⟩
      have s8 : Same H7 (upd H7 e (.lst [])) := new_same he
      have sm8 : SameT Tt H _ := sm7.trans (.of s8)
      obtain ⟨d1, d2, d3, d4⟩ := rows_nil (K := K) (s8 R _ hR7) (ra.mono fun q s z => s8 _ _ z) (upd_same (H := H7) (a := e))
      refine ⟨_, _, d1, d2, d3, rfl, ?_⟩
      rw [d4]
      refine ⟨_, rfl, ite2 (fun h => ?_) (fun h => ?_)⟩
      · have h : rs = [] := of_decide_eq_true h
        subst h
        refine none_ok sm8 fun σ hσ => ?_
        obtain ⟨τ, _, hm⟩ := Reach.has hTU hpn hplt (fun τ hτ kk _ => asn_of h1 hT hτ (mv τ hτ) hplt kk) ⟨σ, hσ⟩ re (Nat.le_refl _)
        cases hm
      · have s58 : SameT Tt H5 (upd H7 e (.lst [])) := (s6.trans s7).trans (.of s8)
        generalize upd H7 e (.lst []) = H8 at sm8 s58
        refine ⟨_, rfl, _, rfl, _, rfl, _, rfl, _, rfl, _, rfl, _, rfl, fun rg hrg => ⟨rg, n, rfl, upd_same, by omega, fun li hli => ?_⟩⟩
        have s9 : SameT Tt H8 _ := (SameT.new (o := .rng 0 (n : Int)) hrg).trans (.new (o := .lst ((List.range n).map fun i : Nat => V.int (i : Int))) hli)
        have sm9 := sm8.trans s9
        have s59 := s58.trans s9
        refine ⟨a, b, c, o, li, n, T, U, _, _, List.range n, rfl, SqL.sameT sm9 hS, SqL.sameT sm9 hU, SqL.of (s59.keep c _ hc5 rfl), SqL.of (s59.keep o _ ho5 rfl), SqL.of upd_same, h1, hn, hT, hTU, tab_len _ _, tab_len _ _, List.nodup_range, fun x hx => List.mem_range.mp hx, sm9.tabs hTab, fun H10 R2 ads3 rs3 s10 hR2 hR10 ra10 re10 => ?_⟩
        rw [List.length_range] at re10
        exact k H10 R2 ads3 rs3 (sm9.trans s10) hR10 ra10 (Reach.answer hT hTU (fun τ hτ kk _ => asn_of h1 hT hτ (mv τ hτ) (fun x hx => List.mem_range.mp hx) kk) (fun r q1 q2 q3 q4 => asn_full h1 hT hTU q1 q2 q3 q4) re10)
    · rw [decide_eq_false hal]
      exact iteT (none_ok sm3 fun σ h => hal (ties_alike hT h st1 st2).2)
end
end My
set_option Elab.async false
set_option linter.all false
set_option maxRecDepth 100000
set_option maxHeartbeats 4000000
namespace My
open PySem PySem.Spec PyProof.Rows L2 L3
open PySem.W (Codec)
abbrev sMain : Stmt := top 5
def spMain (Tt : List (Addr × Str)) (K : PySem.W.Frag) : Sp := fun vs H Q _ => ∃ (a b : Addr) (n : Nat) (T U : List Nat), vs = [vi n, .ref a, .ref b] ∧ SqL K H a (T.map vi) ∧ SqL K H b (U.map vi) ∧ ((1 ≤ n ∧ n ≤ 16) → T.length = n * n ∧ U.length = n * n) ∧
  ((1 ≤ n ∧ n ≤ 16) → Rd12.isTurns ⟨n, T⟩ = true → Rd12.isTurns ⟨n, U⟩ = true → n ≤ 6) ∧ Tabs Tt H ∧
  ∀ (H' : Hp) (p : Addr), H' p = some (.lst ((PyRd12.same (My.cast n) (T.map My.cast) (U.map My.cast)).map V.int)) → Q (.ref p) H'
theorem same_len {n : Nat} {T U f : List Nat} (h : Rd12.sameOf ⟨n, T⟩ ⟨n, U⟩ = some f) : f.length = n := (mem_rows.mp (List.mem_of_find?_eq_some (show (Rd12.rows n n).find? _ = some f from h))).1
section
variable {P : Program} {w : World} {K : PySem.W.Frag} {mg : Str → Option Value} {base : Heap}
theorem scMain : FnScope ["n", "t", "u", "refused", "rows"] ["n", "t", "u"] (defScope sMain) := ⟨rfl, rfl, rfl, by decide +kernel, rfl, by decide +kernel, by decide +kernel⟩
theorem ok_same {Tt : List (Addr × Str)} {f fR fW : Addr} {fd fdR fdW : FuncData} {t1 t2 t3 t5 : Tok} (F : Fun K "same" "same" sMain f fd) (A : Toa K mg) (DR : Def K mg "refusal_of_two" sRef2 ["n", "m", "t", "u", "most"] fR fdR)
    (DW : Def K mg "rows_by_name" sNames ["n", "t", "u"] fW fdW) (GW : FnOk P w K mg base CX0 11 fW fdW ["n", "t", "u"] (spNames K Tt))
    (c1 : mg "MOST_THINGS" = some (.int 16 t1)) (c2 : mg "OUT_OF_RANGE" = some (.int (-2) t2)) (c3 : mg "NOT_TURNING" = some (.int (-3) t3)) (c5 : mg "NONE_FOUND" = some (.int (-5) t5)) : FnOk P w K mg base CX0 12 f fd ["n", "t", "u"] (spMain Tt K) := by
  have B := A.blt
  have GR : FnOk P w K mg base CX0 5 fR fdR ["n", "m", "t", "u", "most"] (spRef2 K) := ok_ref2 DR.fn A c2 c3
  refine F.ok scMain (fun vs H Q E h => ?_) (fun cdv A outer s H vs Q E hr h => ?_)
  · obtain ⟨a, b, n, T, U, rfl, _⟩ := h
    rfl
  · obtain ⟨a, b, n, T, U, rfl, hS, hU, hl, hsix, hTab, k⟩ := h
    refine ⟨_, pss_cons (ps_set (i := 3) scMain.nd rfl (Or.inl rfl) (pe_call GR (hr.mono (by omega)) rfl DR.mg DR.fn.kp DR.bd .nil pass0 (pa_cons (pv 0) (pa_cons (pv 0) (pa_cons (pv 1) (pa_cons (pv 2) (pa_cons (pe_glob (v := .int 16) rfl c1 ⟨t1, rfl⟩) pa_nil)))))))
      (pss_cons (ps_if (pt_cmpR (op_neD hr.units) (pv 3) (pe_lst pa_nil) (nomark _)) (pss_one (ps_ret (pv 3))) pss_nil)
      (pss_cons (ps_set (i := 4) scMain.nd rfl (Or.inl rfl) (pe_call GW hr rfl DW.mg DW.fn.kp DW.bd .nil pass0 (pa_cons (pv 0) (pa_cons (pv 1) (pa_cons (pv 2) pa_nil)))))
      (pss_one (ps_ret (pe_ifExp (pt_cmpR (op_neD hr.units) (pv 4) (pe_lst pa_nil) (nomark _)) (pe_op op_cat (pe_lst (pa_cons pe_int pa_nil)) (pe_ix ix_list (pv 4) pe_int (fun _ _ => rfl))) (pe_lst (pa_cons (pe_glob (v := .int (-5)) rfl c5 ⟨t5, rfl⟩) pa_nil))))))), ?_⟩
    refine ⟨_, rfl, _, rfl, _, rfl, _, rfl, a, b, n, n, 16, T, U, rfl, hS, hU, Nat.le_refl _, fun h _ => hl h, fun H1 p hs hp hp1 => ?_⟩
    refine ⟨_, rfl, (by show 0 ≤ sizeLine; decide), fun l hl1 => ?_⟩
    have hpl : p ≠ l := ne_of_none hp1 hl1
    have hp2 : upd H1 l (.lst []) p = some (.lst (refV2 n n 16 T U)) := by rw [upd_ne hpl]; exact hp1
    have hs2 : Same H (upd H1 l (.lst [])) := hs.trans (new_same hl1)
    have kk := fun (H' : Hp) (p : Addr) => k H' p
    rw [same_due] at kk
    unfold refV2 at hp2
    by_cases hn : 1 ≤ n ∧ n ≤ 16
    · rw [if_pos ⟨hn, hn⟩] at hp2
      rw [if_pos hn] at kk
      by_cases e : Rd12.isTurns ⟨n, T⟩ = true ∧ Rd12.isTurns ⟨n, U⟩ = true
      · rw [if_pos e] at hp2 kk
        obtain ⟨d1, d2⟩ := eqv_nil (K := K) (xs := []) hp2 (upd_same (H := H1) (a := l))
        obtain ⟨hl1, hl2⟩ := hl hn
        have h6 := hsix hn e.1 e.2
        refine ⟨_, _, d1, d2, rfl, rfl, _, rfl, iteF ?_⟩
        refine ⟨_, rfl, _, rfl, _, rfl, a, b, n, T, U, rfl, hs2.seq hS, hs2.seq hU, hn.1, h6, ⟨hl1, (turning e.1).lt⟩, ⟨hl2, (turning e.2).lt⟩, (SameT.of (T := Tt) hs2).tabs hTab, fun H3 R ads rs s3 hR ra hhd => ?_⟩
        refine ⟨_, rfl, (by show 0 ≤ sizeLine; decide), fun l2 hl2 => ?_⟩
        have s4 : Same H3 (upd H3 l2 (.lst [])) := new_same hl2
        obtain ⟨q1, q2, q3, q4⟩ := rows_nil (K := K) (s4 R _ hR) (ra.mono fun q s z => s4 _ _ z) (upd_same (H := H3) (a := l2))
        refine ⟨_, _, q1, q2, q3, rfl, ?_⟩
        rw [q4]
        cases rs with
        | nil =>
          have es : Rd12.sameOf ⟨n, T⟩ ⟨n, U⟩ = none := hhd.symm
          rw [es] at kk
          exact ⟨_, rfl, iteF ⟨(by show 1 ≤ sizeLine; decide), fun p' _ => kk _ p' upd_same⟩⟩
        | cons f rs =>
          have es : Rd12.sameOf ⟨n, T⟩ ⟨n, U⟩ = some f := hhd.symm
          have hf := same_len es
          rw [es] at kk
          match ads, hR, ra with
          | [], _, ra => exact absurd ra.1 (by simp)
          | q :: ads, hR, ra =>
            have hq := ra.2 0 q f rfl rfl
            refine ⟨_, rfl, iteT ⟨(by show 1 ≤ sizeLine; decide), fun p' hp' => ?_⟩⟩
            have s5 := s4.trans (new_same (o := .lst [.int 0]) hp')
            refine ⟨_, rfl, R, _, _, .ref q, rfl, rfl, SqL.of (s5 R _ hR), at_of (j := 0) rfl rfl, p', q, _, _, rfl, rfl, upd_same, s5 q _ hq, ?_, fun p2 _ => kk _ p2 ?_⟩
            · rw [List.length_map, hf, sizeLine_eq]
              show 1 + n ≤ _
              omega
            · rw [upd_same, map_vi]
              rfl
      · rw [if_neg e] at hp2 kk
        obtain ⟨d1, d2⟩ := eqv_nil (K := K) (xs := [-3]) hp2 (upd_same (H := H1) (a := l))
        exact ⟨_, _, d1, d2, rfl, rfl, _, rfl, iteT ⟨_, rfl, kk _ p hp2⟩⟩
    · rw [if_neg (fun z => hn z.1)] at hp2
      rw [if_neg hn] at kk
      obtain ⟨d1, d2⟩ := eqv_nil (K := K) (xs := [-2]) hp2 (upd_same (H := H1) (a := l))
      exact ⟨_, _, d1, d2, rfl, rfl, _, rfl, iteT ⟨_, rfl, kk _ p hp2⟩⟩
end
end My
set_option Elab.async false
set_option linter.all false
set_option maxRecDepth 100000
set_option maxHeartbeats 4000000
namespace My
open PySem PySem.Spec PyProof.Rows L2 L3
open PySem.W (Codec)
abbrev tt3 (p q r : Addr) : List (Addr × Str) := [(p, qTies), (q, qLook), (r, qImg)]
theorem tabs0 {p q r : Addr} {H : Hp} (h1 : H p = some (.tbl #[])) (h2 : H q = some (.tbl #[])) (h3 : H r = some (.tbl #[])) : Tabs (tt3 p q r) H := fun x hx => by
  have ok : ∀ {y : Addr} {s : Str}, H y = some (.tbl #[]) → TabOk H y s := fun {y s} h => ⟨#[], h, trivial, fun pos cv e => by cases e⟩
  rcases List.mem_cons.mp hx with rfl | hx
  · exact ok h1
  · rcases List.mem_cons.mp hx with rfl | hx
    · exact ok h2
    · rw [List.mem_singleton.mp hx]
      exact ok h3
section
variable {P : Program} {w : World} {K : PySem.W.Frag} {mg : Str → Option Value} {base : Heap}
theorem ok_main {p1 p2 p3 c1 c2 c3 : Addr} {f fR2 fNa fRA fLR fTT fFi fIm fMo fAl fRk fTo fTi fTs fLk fSg fPa fTe fTk fTu : Addr} {fd dR2 dNa dRA dLR dTT dFi dIm dMo dAl dRk dTo dTi dTs dLk dSg dPa dTe dTk dTu : FuncData} {t1 t2 t3 t5 : Tok}
    (F : Fun K "same" "same" sMain f fd) (A : Toa K mg) (B2 : Blt2 mg) (n12 : p1 ≠ p2) (n13 : p1 ≠ p3) (n23 : p2 ≠ p3)
    (e1 : dTs.code = .ref c1) (e2 : dLk.code = .ref c2) (e3 : dIm.code = .ref c3) (L1 : LamAt base mg c1 p1) (L2' : LamAt base mg c2 p2) (L3' : LamAt base mg c3 p3)
    (DR2 : Def K mg "refusal_of_two" sRef2 ["n", "m", "t", "u", "most"] fR2 dR2) (DNa : Def K mg "rows_by_name" sNames ["n", "t", "u"] fNa dNa) (DRA : Def K mg "rows_alike" sRA ["n", "t", "u", "tied", "others", "places"] fRA dRA)
    (DLR : Def K mg "longer_rows_alike" sLRA ["n", "u", "tied", "row", "aim"] fLR dLR) (DTT : Def K mg "takes_to" sTakesTo ["n", "u", "tied", "first", "second"] fTT dTT) (DFi : Def K mg "first_alike" sFirst ["n", "u", "tied", "row", "places", "aim"] fFi dFi)
    (DIm : Def K mg "images_by_marks" sImg ["n", "marks", "others"] fIm dIm) (DMo : Def K mg "one_of_most" sMost ["marks"] fMo dMo) (DAl : Def K mg "are_alike" sAlike ["one", "other"] fAl dAl) (DRk : Def K mg "ranks" sRanks ["signs"] fRk dRk)
    (DTo : Def K mg "told_apart" sTold ["marks", "signs_by"] fTo dTo) (DTi : Def K mg "tie_sign" sTie ["n", "t", "tied", "x", "y"] fTi dTi) (DTs : Def K mg "ties" sTies ["n", "t"] fTs dTs) (DLk : Def K mg "look" sLook ["n", "t", "tied", "places"] fLk dLk)
    (DSg : Def K mg "sign" sSign ["n", "t", "tied", "marks", "x"] fSg dSg) (DPa : Def K mg "parts" sParts ["n", "t", "tied", "places"] fPa dPa) (DTe : Def K mg "telling_places" sTell ["n", "t", "tied"] fTe dTe)
    (DTk : Def K mg "takes_turns" sTakes ["n", "m", "t", "u", "row"] fTk dTk) (DTu : Def K mg "turned" sTurned ["n", "t", "x", "y"] fTu dTu)
    (c1' : mg "MOST_THINGS" = some (.int 16 t1)) (c2' : mg "OUT_OF_RANGE" = some (.int (-2) t2)) (c3' : mg "NOT_TURNING" = some (.int (-3) t3)) (c5' : mg "NONE_FOUND" = some (.int (-5) t5)) : FnOk P w K mg base CX0 12 f fd ["n", "t", "u"] (spMain (tt3 p1 p2 p3) K) := by
  have B := A.blt
  have N12 := Ne.symm n12
  have N13 := Ne.symm n13
  have N23 := Ne.symm n23
  have ld1 : LamDef K base mg (tt3 p1 p2 p3) dTs qTies := ⟨c1, p1, e1, L1, by simp [tt3], fun q hq => by
    rcases List.mem_cons.mp hq with h | hq
    · exact (Prod.mk.inj h).2
    · rcases List.mem_cons.mp hq with h | hq
      · exact absurd (Prod.mk.inj h).1 n12
      · exact absurd (Prod.mk.inj (List.mem_singleton.mp hq)).1 n13⟩
  have ld2 : LamDef K base mg (tt3 p1 p2 p3) dLk qLook := ⟨c2, p2, e2, L2', by simp [tt3], fun q hq => by
    rcases List.mem_cons.mp hq with h | hq
    · exact absurd (Prod.mk.inj h).1 N12
    · rcases List.mem_cons.mp hq with h | hq
      · exact (Prod.mk.inj h).2
      · exact absurd (Prod.mk.inj (List.mem_singleton.mp hq)).1 n23⟩
  have ld3 : LamDef K base mg (tt3 p1 p2 p3) dIm qImg := ⟨c3, p3, e3, L3', by simp [tt3], fun q hq => by
    rcases List.mem_cons.mp hq with h | hq
    · exact absurd (Prod.mk.inj h).1 N13
    · rcases List.mem_cons.mp hq with h | hq
      · exact absurd (Prod.mk.inj h).1 N23
      · exact (Prod.mk.inj (List.mem_singleton.mp hq)).2⟩
  have gRk : FnOk P w K mg base CX0 1 fRk dRk ["signs"] (spRanks K) := ok_ranks DRk.fn B B2
  have gAl : FnOk P w K mg base CX0 1 fAl dAl ["one", "other"] (spAlike K) := ok_alike DAl.fn B2
  have gTo : FnOkS P w K mg base 5 fTo dTo ["marks", "signs_by"] (spTold P w K mg base (tt3 p1 p2 p3) 3) := ok_told DTo.fn B B2 DRk
  have gTs : FnOk P w K mg base CX0 6 fTs dTs ["n", "t"] (spTies K (tt3 p1 p2 p3)) := ok_ties DTs.fn ld1 B DTi (ok_tie DTi.fn B B2 DTu) DTo gTo
  have gLk : FnOk P w K mg base CX0 6 fLk dLk ["n", "t", "tied", "places"] (spLook K (tt3 p1 p2 p3)) := ok_look DLk.fn ld2 B DSg (ok_sign DSg.fn B B2 DTu) DTo gTo
  have gPa : FnOk P w K mg base CX0 7 fPa dPa ["n", "t", "tied", "places"] (spParts K (tt3 p1 p2 p3)) := ok_parts DPa.fn B DLk gLk
  have gTe : FnOk P w K mg base CX0 8 fTe dTe ["n", "t", "tied"] (spTell K (tt3 p1 p2 p3)) := ok_tell DTe.fn B B2 DPa gPa
  have gMo : FnOk P w K mg base CX0 1 fMo dMo ["marks"] (spMost K) := ok_most DMo.fn B2
  have gIm : FnOk P w K mg base CX0 4 fIm dIm ["n", "marks", "others"] (spImg K (tt3 p1 p2 p3)) := ok_img DIm.fn ld3 B B2
  have gFi : FnOk P w K mg base CX0 7 fFi dFi ["n", "u", "tied", "row", "places", "aim"] (spFirstA K (tt3 p1 p2 p3)) := ok_first DFi.fn DLk gLk DAl gAl
  have gTk : FnOk P w K mg base CX0 2 fTk dTk ["n", "m", "t", "u", "row"] (spTakes K) := ok_takes DTk.fn B DTu
  have gTT : FnOk P w K mg base CX0 8 fTT dTT ["n", "u", "tied", "first", "second"] (spTakesTo K (tt3 p1 p2 p3)) := ok_takesTo DTT.fn B DLk gLk DRk gRk DTk gTk DIm gIm DMo gMo DFi gFi
  have gLR : FnOk P w K mg base CX0 9 fLR dLR ["n", "u", "tied", "row", "aim"] (spLRA K (tt3 p1 p2 p3)) := ok_lra DLR.fn B B2 DLk gLk DAl gAl DTT gTT
  have gRA : FnOk P w K mg base CX0 10 fRA dRA ["n", "t", "u", "tied", "others", "places"] (spRA K (tt3 p1 p2 p3)) := ok_ra DRA.fn B DLk gLk DLR gLR
  have gNa : FnOk P w K mg base CX0 11 fNa dNa ["n", "t", "u"] (spNames K (tt3 p1 p2 p3)) := ok_names DNa.fn B B2 DTs gTs DAl gAl DRk gRk DTe gTe DRA gRA
  exact ok_same F A DR2 DNa gNa c1' c2' c3' c5'
end
end My
set_option Elab.async false
set_option linter.all false
set_option maxRecDepth 100000
set_option maxHeartbeats 4000000
namespace My
open PySem PySem.Spec PyProof.Rows L2 L3
open PySem.W (Codec)
theorem all_mk {P : Program} {w : World} {K : PySem.W.Frag} {h : Heap} {mg : Str → Option Value} {fa : Addr} {p1 p2 p3 c1 c2 c3 : Addr} (X : K.In h) (G : h.Ns mainGlobals mg) (hfa : mg "same" = some (.ref fa)) (n12 : p1 ≠ p2) (n13 : p1 ≠ p3) (n23 : p2 ≠ p3)
    {f0 : Addr} {od0 an0 : Option Addr} {sl0 : Array (Option Value)} {oc0 kV0 dc0 pm0 cd0 ct0 : Value}
    (a0 : PySem.W.nsIn K mainGlobals "same" = some (some (.ref f0))) (l0 : K.lookup f0 = some ⟨oc0, od0, .func (PySem.W.fnOf "same" "same" (defArgs sMain) (defBody sMain) (defScope sMain) .none kV0 dc0 pm0 an0 cd0 ct0), sl0⟩) (cd0_ : PySem.W.codeIn K cd0 "same" = true) (k0 : PySem.W.keepIn K (.ref f0) = true)
    {f1 : Addr} {od1 an1 : Option Addr} {sl1 : Array (Option Value)} {oc1 kV1 dc1 pm1 cd1 ct1 : Value}
    (a1 : PySem.W.nsIn K mainGlobals "refusal_of_two" = some (some (.ref f1))) (l1 : K.lookup f1 = some ⟨oc1, od1, .func (PySem.W.fnOf "refusal_of_two" "refusal_of_two" (defArgs sRef2) (defBody sRef2) (defScope sRef2) .none kV1 dc1 pm1 an1 cd1 ct1), sl1⟩) (cd1_ : PySem.W.codeIn K cd1 "refusal_of_two" = true) (k1 : PySem.W.keepIn K (.ref f1) = true)
    {f2 : Addr} {od2 an2 : Option Addr} {sl2 : Array (Option Value)} {oc2 kV2 dc2 pm2 cd2 ct2 : Value}
    (a2 : PySem.W.nsIn K mainGlobals "turned" = some (some (.ref f2))) (l2 : K.lookup f2 = some ⟨oc2, od2, .func (PySem.W.fnOf "turned" "turned" (defArgs sTurned) (defBody sTurned) (defScope sTurned) .none kV2 dc2 pm2 an2 cd2 ct2), sl2⟩) (cd2_ : PySem.W.codeIn K cd2 "turned" = true) (k2 : PySem.W.keepIn K (.ref f2) = true)
    {f3 : Addr} {od3 an3 : Option Addr} {sl3 : Array (Option Value)} {oc3 kV3 dc3 pm3 cd3 ct3 : Value}
    (a3 : PySem.W.nsIn K mainGlobals "turn_one_another" = some (some (.ref f3))) (l3 : K.lookup f3 = some ⟨oc3, od3, .func (PySem.W.fnOf "turn_one_another" "turn_one_another" (defArgs sToa) (defBody sToa) (defScope sToa) .none kV3 dc3 pm3 an3 cd3 ct3), sl3⟩) (cd3_ : PySem.W.codeIn K cd3 "turn_one_another" = true) (k3 : PySem.W.keepIn K (.ref f3) = true)
    {f4 : Addr} {od4 an4 : Option Addr} {sl4 : Array (Option Value)} {oc4 kV4 dc4 pm4 cd4 ct4 : Value}
    (a4 : PySem.W.nsIn K mainGlobals "all_below" = some (some (.ref f4))) (l4 : K.lookup f4 = some ⟨oc4, od4, .func (PySem.W.fnOf "all_below" "all_below" (defArgs sBelow) (defBody sBelow) (defScope sBelow) .none kV4 dc4 pm4 an4 cd4 ct4), sl4⟩) (cd4_ : PySem.W.codeIn K cd4 "all_below" = true) (k4 : PySem.W.keepIn K (.ref f4) = true)
    {f5 : Addr} {od5 an5 : Option Addr} {sl5 : Array (Option Value)} {oc5 kV5 dc5 pm5 cd5 ct5 : Value}
    (a5 : PySem.W.nsIn K mainGlobals "all_keep_themselves" = some (some (.ref f5))) (l5 : K.lookup f5 = some ⟨oc5, od5, .func (PySem.W.fnOf "all_keep_themselves" "all_keep_themselves" (defArgs sKeep) (defBody sKeep) (defScope sKeep) .none kV5 dc5 pm5 an5 cd5 ct5), sl5⟩) (cd5_ : PySem.W.codeIn K cd5 "all_keep_themselves" = true) (k5 : PySem.W.keepIn K (.ref f5) = true)
    {f6 : Addr} {od6 an6 : Option Addr} {sl6 : Array (Option Value)} {oc6 kV6 dc6 pm6 cd6 ct6 : Value}
    (a6 : PySem.W.nsIn K mainGlobals "none_merge" = some (some (.ref f6))) (l6 : K.lookup f6 = some ⟨oc6, od6, .func (PySem.W.fnOf "none_merge" "none_merge" (defArgs sMerge) (defBody sMerge) (defScope sMerge) .none kV6 dc6 pm6 an6 cd6 ct6), sl6⟩) (cd6_ : PySem.W.codeIn K cd6 "none_merge" = true) (k6 : PySem.W.keepIn K (.ref f6) = true)
    {f7 : Addr} {od7 an7 : Option Addr} {sl7 : Array (Option Value)} {oc7 kV7 dc7 pm7 cd7 ct7 : Value}
    (a7 : PySem.W.nsIn K mainGlobals "turns_are_turned" = some (some (.ref f7))) (l7 : K.lookup f7 = some ⟨oc7, od7, .func (PySem.W.fnOf "turns_are_turned" "turns_are_turned" (defArgs sAre) (defBody sAre) (defScope sAre) .none kV7 dc7 pm7 an7 cd7 ct7), sl7⟩) (cd7_ : PySem.W.codeIn K cd7 "turns_are_turned" = true) (k7 : PySem.W.keepIn K (.ref f7) = true)
    {f8 : Addr} {od8 an8 : Option Addr} {sl8 : Array (Option Value)} {oc8 kV8 dc8 pm8 cd8 ct8 : Value}
    (a8 : PySem.W.nsIn K mainGlobals "turn_is_turned" = some (some (.ref f8))) (l8 : K.lookup f8 = some ⟨oc8, od8, .func (PySem.W.fnOf "turn_is_turned" "turn_is_turned" (defArgs sIs) (defBody sIs) (defScope sIs) .none kV8 dc8 pm8 an8 cd8 ct8), sl8⟩) (cd8_ : PySem.W.codeIn K cd8 "turn_is_turned" = true) (k8 : PySem.W.keepIn K (.ref f8) = true)
    {f9 : Addr} {od9 an9 : Option Addr} {sl9 : Array (Option Value)} {oc9 kV9 dc9 pm9 cd9 ct9 : Value}
    (a9 : PySem.W.nsIn K mainGlobals "rows_by_name" = some (some (.ref f9))) (l9 : K.lookup f9 = some ⟨oc9, od9, .func (PySem.W.fnOf "rows_by_name" "rows_by_name" (defArgs sNames) (defBody sNames) (defScope sNames) .none kV9 dc9 pm9 an9 cd9 ct9), sl9⟩) (cd9_ : PySem.W.codeIn K cd9 "rows_by_name" = true) (k9 : PySem.W.keepIn K (.ref f9) = true)
    {f10 : Addr} {od10 an10 : Option Addr} {sl10 : Array (Option Value)} {oc10 kV10 dc10 pm10 cd10 ct10 : Value}
    (a10 : PySem.W.nsIn K mainGlobals "telling_places" = some (some (.ref f10))) (l10 : K.lookup f10 = some ⟨oc10, od10, .func (PySem.W.fnOf "telling_places" "telling_places" (defArgs sTell) (defBody sTell) (defScope sTell) .none kV10 dc10 pm10 an10 cd10 ct10), sl10⟩) (cd10_ : PySem.W.codeIn K cd10 "telling_places" = true) (k10 : PySem.W.keepIn K (.ref f10) = true)
    {f11 : Addr} {od11 an11 : Option Addr} {sl11 : Array (Option Value)} {oc11 kV11 dc11 pm11 cd11 ct11 : Value}
    (a11 : PySem.W.nsIn K mainGlobals "parts" = some (some (.ref f11))) (l11 : K.lookup f11 = some ⟨oc11, od11, .func (PySem.W.fnOf "parts" "parts" (defArgs sParts) (defBody sParts) (defScope sParts) .none kV11 dc11 pm11 an11 cd11 ct11), sl11⟩) (cd11_ : PySem.W.codeIn K cd11 "parts" = true) (k11 : PySem.W.keepIn K (.ref f11) = true)
    {f12 : Addr} {od12 an12 : Option Addr} {sl12 : Array (Option Value)} {oc12 kV12 dc12 pm12 cd12 ct12 : Value}
    (a12 : PySem.W.nsIn K mainGlobals "rows_alike" = some (some (.ref f12))) (l12 : K.lookup f12 = some ⟨oc12, od12, .func (PySem.W.fnOf "rows_alike" "rows_alike" (defArgs sRA) (defBody sRA) (defScope sRA) .none kV12 dc12 pm12 an12 cd12 ct12), sl12⟩) (cd12_ : PySem.W.codeIn K cd12 "rows_alike" = true) (k12 : PySem.W.keepIn K (.ref f12) = true)
    {f13 : Addr} {od13 an13 : Option Addr} {sl13 : Array (Option Value)} {oc13 kV13 dc13 pm13 cd13 ct13 : Value}
    (a13 : PySem.W.nsIn K mainGlobals "longer_rows_alike" = some (some (.ref f13))) (l13 : K.lookup f13 = some ⟨oc13, od13, .func (PySem.W.fnOf "longer_rows_alike" "longer_rows_alike" (defArgs sLRA) (defBody sLRA) (defScope sLRA) .none kV13 dc13 pm13 an13 cd13 ct13), sl13⟩) (cd13_ : PySem.W.codeIn K cd13 "longer_rows_alike" = true) (k13 : PySem.W.keepIn K (.ref f13) = true)
    {f14 : Addr} {od14 an14 : Option Addr} {sl14 : Array (Option Value)} {oc14 kV14 dc14 pm14 cd14 ct14 : Value}
    (a14 : PySem.W.nsIn K mainGlobals "takes_to" = some (some (.ref f14))) (l14 : K.lookup f14 = some ⟨oc14, od14, .func (PySem.W.fnOf "takes_to" "takes_to" (defArgs sTakesTo) (defBody sTakesTo) (defScope sTakesTo) .none kV14 dc14 pm14 an14 cd14 ct14), sl14⟩) (cd14_ : PySem.W.codeIn K cd14 "takes_to" = true) (k14 : PySem.W.keepIn K (.ref f14) = true)
    {f15 : Addr} {od15 an15 : Option Addr} {sl15 : Array (Option Value)} {oc15 kV15 dc15 pm15 cd15 ct15 : Value}
    (a15 : PySem.W.nsIn K mainGlobals "first_alike" = some (some (.ref f15))) (l15 : K.lookup f15 = some ⟨oc15, od15, .func (PySem.W.fnOf "first_alike" "first_alike" (defArgs sFirst) (defBody sFirst) (defScope sFirst) .none kV15 dc15 pm15 an15 cd15 ct15), sl15⟩) (cd15_ : PySem.W.codeIn K cd15 "first_alike" = true) (k15 : PySem.W.keepIn K (.ref f15) = true)
    {f16 : Addr} {od16 an16 : Option Addr} {sl16 : Array (Option Value)} {oc16 kV16 dc16 pm16 cd16 ct16 : Value}
    (a16 : PySem.W.nsIn K mainGlobals "images_by_marks" = some (some (.ref f16))) (l16 : K.lookup f16 = some ⟨oc16, od16, .func (PySem.W.fnOf "images_by_marks" "images_by_marks" (defArgs sImg) (defBody sImg) (defScope sImg) .none kV16 dc16 pm16 an16 cd16 ct16), sl16⟩) (cd16_ : PySem.W.codeIn K cd16 "images_by_marks" = true) (k16 : PySem.W.keepIn K (.ref f16) = true)
    {f17 : Addr} {od17 an17 : Option Addr} {sl17 : Array (Option Value)} {oc17 kV17 dc17 pm17 cd17 ct17 : Value}
    (a17 : PySem.W.nsIn K mainGlobals "one_of_most" = some (some (.ref f17))) (l17 : K.lookup f17 = some ⟨oc17, od17, .func (PySem.W.fnOf "one_of_most" "one_of_most" (defArgs sMost) (defBody sMost) (defScope sMost) .none kV17 dc17 pm17 an17 cd17 ct17), sl17⟩) (cd17_ : PySem.W.codeIn K cd17 "one_of_most" = true) (k17 : PySem.W.keepIn K (.ref f17) = true)
    {f18 : Addr} {od18 an18 : Option Addr} {sl18 : Array (Option Value)} {oc18 kV18 dc18 pm18 cd18 ct18 : Value}
    (a18 : PySem.W.nsIn K mainGlobals "are_alike" = some (some (.ref f18))) (l18 : K.lookup f18 = some ⟨oc18, od18, .func (PySem.W.fnOf "are_alike" "are_alike" (defArgs sAlike) (defBody sAlike) (defScope sAlike) .none kV18 dc18 pm18 an18 cd18 ct18), sl18⟩) (cd18_ : PySem.W.codeIn K cd18 "are_alike" = true) (k18 : PySem.W.keepIn K (.ref f18) = true)
    {f19 : Addr} {od19 an19 : Option Addr} {sl19 : Array (Option Value)} {oc19 kV19 dc19 pm19 cd19 ct19 : Value}
    (a19 : PySem.W.nsIn K mainGlobals "ranks" = some (some (.ref f19))) (l19 : K.lookup f19 = some ⟨oc19, od19, .func (PySem.W.fnOf "ranks" "ranks" (defArgs sRanks) (defBody sRanks) (defScope sRanks) .none kV19 dc19 pm19 an19 cd19 ct19), sl19⟩) (cd19_ : PySem.W.codeIn K cd19 "ranks" = true) (k19 : PySem.W.keepIn K (.ref f19) = true)
    {f20 : Addr} {od20 an20 : Option Addr} {sl20 : Array (Option Value)} {oc20 kV20 dc20 pm20 cd20 ct20 : Value}
    (a20 : PySem.W.nsIn K mainGlobals "told_apart" = some (some (.ref f20))) (l20 : K.lookup f20 = some ⟨oc20, od20, .func (PySem.W.fnOf "told_apart" "told_apart" (defArgs sTold) (defBody sTold) (defScope sTold) .none kV20 dc20 pm20 an20 cd20 ct20), sl20⟩) (cd20_ : PySem.W.codeIn K cd20 "told_apart" = true) (k20 : PySem.W.keepIn K (.ref f20) = true)
    {f21 : Addr} {od21 an21 : Option Addr} {sl21 : Array (Option Value)} {oc21 kV21 dc21 pm21 cd21 ct21 : Value}
    (a21 : PySem.W.nsIn K mainGlobals "ties" = some (some (.ref f21))) (l21 : K.lookup f21 = some ⟨oc21, od21, .func (PySem.W.fnOf "ties" "ties" (defArgs sTies) (defBody sTies) (defScope sTies) .none kV21 dc21 pm21 an21 cd21 ct21), sl21⟩) (cd21_ : PySem.W.codeIn K cd21 "ties" = true) (k21 : PySem.W.keepIn K (.ref f21) = true)
    {f22 : Addr} {od22 an22 : Option Addr} {sl22 : Array (Option Value)} {oc22 kV22 dc22 pm22 cd22 ct22 : Value}
    (a22 : PySem.W.nsIn K mainGlobals "tie_sign" = some (some (.ref f22))) (l22 : K.lookup f22 = some ⟨oc22, od22, .func (PySem.W.fnOf "tie_sign" "tie_sign" (defArgs sTie) (defBody sTie) (defScope sTie) .none kV22 dc22 pm22 an22 cd22 ct22), sl22⟩) (cd22_ : PySem.W.codeIn K cd22 "tie_sign" = true) (k22 : PySem.W.keepIn K (.ref f22) = true)
    {f23 : Addr} {od23 an23 : Option Addr} {sl23 : Array (Option Value)} {oc23 kV23 dc23 pm23 cd23 ct23 : Value}
    (a23 : PySem.W.nsIn K mainGlobals "look" = some (some (.ref f23))) (l23 : K.lookup f23 = some ⟨oc23, od23, .func (PySem.W.fnOf "look" "look" (defArgs sLook) (defBody sLook) (defScope sLook) .none kV23 dc23 pm23 an23 cd23 ct23), sl23⟩) (cd23_ : PySem.W.codeIn K cd23 "look" = true) (k23 : PySem.W.keepIn K (.ref f23) = true)
    {f24 : Addr} {od24 an24 : Option Addr} {sl24 : Array (Option Value)} {oc24 kV24 dc24 pm24 cd24 ct24 : Value}
    (a24 : PySem.W.nsIn K mainGlobals "sign" = some (some (.ref f24))) (l24 : K.lookup f24 = some ⟨oc24, od24, .func (PySem.W.fnOf "sign" "sign" (defArgs sSign) (defBody sSign) (defScope sSign) .none kV24 dc24 pm24 an24 cd24 ct24), sl24⟩) (cd24_ : PySem.W.codeIn K cd24 "sign" = true) (k24 : PySem.W.keepIn K (.ref f24) = true)
    {f25 : Addr} {od25 an25 : Option Addr} {sl25 : Array (Option Value)} {oc25 kV25 dc25 pm25 cd25 ct25 : Value}
    (a25 : PySem.W.nsIn K mainGlobals "takes_turns" = some (some (.ref f25))) (l25 : K.lookup f25 = some ⟨oc25, od25, .func (PySem.W.fnOf "takes_turns" "takes_turns" (defArgs sTakes) (defBody sTakes) (defScope sTakes) .none kV25 dc25 pm25 an25 cd25 ct25), sl25⟩) (cd25_ : PySem.W.codeIn K cd25 "takes_turns" = true) (k25 : PySem.W.keepIn K (.ref f25) = true)
    (tb0 : cd21 = .ref c1)
    (tb1 : cd23 = .ref c2)
    (tb2 : cd16 = .ref c3)
    {tk0 : Tok} (v0 : PySem.W.nsIn K mainGlobals "MOST_THINGS" = some (some (.int 16 tk0)))
    {tk1 : Tok} (v1 : PySem.W.nsIn K mainGlobals "OUT_OF_RANGE" = some (some (.int (-2) tk1)))
    {tk2 : Tok} (v2 : PySem.W.nsIn K mainGlobals "NOT_TURNING" = some (some (.int (-3) tk2)))
    {tk3 : Tok} (v3 : PySem.W.nsIn K mainGlobals "NONE_FOUND" = some (some (.int (-5) tk3)))
    (z0 : PySem.W.nsIn K mainGlobals "range" = some none)
    (z1 : PySem.W.nsIn K mainGlobals "len" = some none)
    (z2 : PySem.W.nsIn K mainGlobals "set" = some none)
    (z3 : PySem.W.nsIn K mainGlobals "min" = some none)
    (z4 : PySem.W.nsIn K mainGlobals "tuple" = some none)
    (z5 : PySem.W.nsIn K mainGlobals "reversed" = some none)
    (z6 : PySem.W.nsIn K mainGlobals "sorted" = some none)
    (z7 : PySem.W.nsIn K mainGlobals "enumerate" = some none)
    (z8 : PySem.W.nsIn K mainGlobals "any" = some none)
    (z9 : PySem.W.nsIn K mainGlobals "max" = some none)
    (z10 : PySem.W.nsIn K mainGlobals "list" = some none)
    : ∃ fd : FuncData, (∀ (s : Shared) (us : List Value), us.length = (["n", "t", "u"] : List Str).length → BindsTo s fd ⟨us, []⟩ ((["n", "t", "u"] : List Str).zip us)) ∧ ∀ base : Heap, K.In base → base.Ns mainGlobals mg → (∀ q ∈ [(c1, p1), (c2, p2), (c3, p3)], LamAt base mg q.1 q.2) → FnOk P w K mg base CX0 12 fa fd ["n", "t", "u"] (spMain (tt3 p1 p2 p3) K) := by
  have e := hfa.symm.trans (PySem.W.mg_of X G a0)
  cases e
  have F1 := fun_mk (st := sRef2) l1 cd1_ k1
  have D_refusal_of_two : Def K mg "refusal_of_two" sRef2 ["n", "m", "t", "u", "most"] f1 _ := ⟨F1, PySem.W.mg_of X G a1, F1.binds (ps := ["n", "m", "t", "u", "most"]) fun _ _ _ _ _ _ us hl => match us, hl with | [_, _, _, _, _], _ => rfl⟩
  have F2 := fun_mk (st := sTurned) l2 cd2_ k2
  have D_turned : Def K mg "turned" sTurned ["n", "t", "x", "y"] f2 _ := ⟨F2, PySem.W.mg_of X G a2, F2.binds (ps := ["n", "t", "x", "y"]) fun _ _ _ _ _ _ us hl => match us, hl with | [_, _, _, _], _ => rfl⟩
  have F3 := fun_mk (st := sToa) l3 cd3_ k3
  have D_turn_one_another : Def K mg "turn_one_another" sToa ["n", "t"] f3 _ := ⟨F3, PySem.W.mg_of X G a3, F3.binds (ps := ["n", "t"]) fun _ _ _ _ _ _ us hl => match us, hl with | [_, _], _ => rfl⟩
  have F4 := fun_mk (st := sBelow) l4 cd4_ k4
  have D_all_below : Def K mg "all_below" sBelow ["n", "t"] f4 _ := ⟨F4, PySem.W.mg_of X G a4, F4.binds (ps := ["n", "t"]) fun _ _ _ _ _ _ us hl => match us, hl with | [_, _], _ => rfl⟩
  have F5 := fun_mk (st := sKeep) l5 cd5_ k5
  have D_all_keep_themselves : Def K mg "all_keep_themselves" sKeep ["n", "t"] f5 _ := ⟨F5, PySem.W.mg_of X G a5, F5.binds (ps := ["n", "t"]) fun _ _ _ _ _ _ us hl => match us, hl with | [_, _], _ => rfl⟩
  have F6 := fun_mk (st := sMerge) l6 cd6_ k6
  have D_none_merge : Def K mg "none_merge" sMerge ["n", "t"] f6 _ := ⟨F6, PySem.W.mg_of X G a6, F6.binds (ps := ["n", "t"]) fun _ _ _ _ _ _ us hl => match us, hl with | [_, _], _ => rfl⟩
  have F7 := fun_mk (st := sAre) l7 cd7_ k7
  have D_turns_are_turned : Def K mg "turns_are_turned" sAre ["n", "t"] f7 _ := ⟨F7, PySem.W.mg_of X G a7, F7.binds (ps := ["n", "t"]) fun _ _ _ _ _ _ us hl => match us, hl with | [_, _], _ => rfl⟩
  have F8 := fun_mk (st := sIs) l8 cd8_ k8
  have D_turn_is_turned : Def K mg "turn_is_turned" sIs ["n", "t", "x", "y"] f8 _ := ⟨F8, PySem.W.mg_of X G a8, F8.binds (ps := ["n", "t", "x", "y"]) fun _ _ _ _ _ _ us hl => match us, hl with | [_, _, _, _], _ => rfl⟩
  have F9 := fun_mk (st := sNames) l9 cd9_ k9
  have D_rows_by_name : Def K mg "rows_by_name" sNames ["n", "t", "u"] f9 _ := ⟨F9, PySem.W.mg_of X G a9, F9.binds (ps := ["n", "t", "u"]) fun _ _ _ _ _ _ us hl => match us, hl with | [_, _, _], _ => rfl⟩
  have F10 := fun_mk (st := sTell) l10 cd10_ k10
  have D_telling_places : Def K mg "telling_places" sTell ["n", "t", "tied"] f10 _ := ⟨F10, PySem.W.mg_of X G a10, F10.binds (ps := ["n", "t", "tied"]) fun _ _ _ _ _ _ us hl => match us, hl with | [_, _, _], _ => rfl⟩
  have F11 := fun_mk (st := sParts) l11 cd11_ k11
  have D_parts : Def K mg "parts" sParts ["n", "t", "tied", "places"] f11 _ := ⟨F11, PySem.W.mg_of X G a11, F11.binds (ps := ["n", "t", "tied", "places"]) fun _ _ _ _ _ _ us hl => match us, hl with | [_, _, _, _], _ => rfl⟩
  have F12 := fun_mk (st := sRA) l12 cd12_ k12
  have D_rows_alike : Def K mg "rows_alike" sRA ["n", "t", "u", "tied", "others", "places"] f12 _ := ⟨F12, PySem.W.mg_of X G a12, F12.binds (ps := ["n", "t", "u", "tied", "others", "places"]) fun _ _ _ _ _ _ us hl => match us, hl with | [_, _, _, _, _, _], _ => rfl⟩
  have F13 := fun_mk (st := sLRA) l13 cd13_ k13
  have D_longer_rows_alike : Def K mg "longer_rows_alike" sLRA ["n", "u", "tied", "row", "aim"] f13 _ := ⟨F13, PySem.W.mg_of X G a13, F13.binds (ps := ["n", "u", "tied", "row", "aim"]) fun _ _ _ _ _ _ us hl => match us, hl with | [_, _, _, _, _], _ => rfl⟩
  have F14 := fun_mk (st := sTakesTo) l14 cd14_ k14
  have D_takes_to : Def K mg "takes_to" sTakesTo ["n", "u", "tied", "first", "second"] f14 _ := ⟨F14, PySem.W.mg_of X G a14, F14.binds (ps := ["n", "u", "tied", "first", "second"]) fun _ _ _ _ _ _ us hl => match us, hl with | [_, _, _, _, _], _ => rfl⟩
  have F15 := fun_mk (st := sFirst) l15 cd15_ k15
  have D_first_alike : Def K mg "first_alike" sFirst ["n", "u", "tied", "row", "places", "aim"] f15 _ := ⟨F15, PySem.W.mg_of X G a15, F15.binds (ps := ["n", "u", "tied", "row", "places", "aim"]) fun _ _ _ _ _ _ us hl => match us, hl with | [_, _, _, _, _, _], _ => rfl⟩
  have F16 := fun_mk (st := sImg) l16 cd16_ k16
  have D_images_by_marks : Def K mg "images_by_marks" sImg ["n", "marks", "others"] f16 _ := ⟨F16, PySem.W.mg_of X G a16, F16.binds (ps := ["n", "marks", "others"]) fun _ _ _ _ _ _ us hl => match us, hl with | [_, _, _], _ => rfl⟩
  have F17 := fun_mk (st := sMost) l17 cd17_ k17
  have D_one_of_most : Def K mg "one_of_most" sMost ["marks"] f17 _ := ⟨F17, PySem.W.mg_of X G a17, F17.binds (ps := ["marks"]) fun _ _ _ _ _ _ us hl => match us, hl with | [_], _ => rfl⟩
  have F18 := fun_mk (st := sAlike) l18 cd18_ k18
  have D_are_alike : Def K mg "are_alike" sAlike ["one", "other"] f18 _ := ⟨F18, PySem.W.mg_of X G a18, F18.binds (ps := ["one", "other"]) fun _ _ _ _ _ _ us hl => match us, hl with | [_, _], _ => rfl⟩
  have F19 := fun_mk (st := sRanks) l19 cd19_ k19
  have D_ranks : Def K mg "ranks" sRanks ["signs"] f19 _ := ⟨F19, PySem.W.mg_of X G a19, F19.binds (ps := ["signs"]) fun _ _ _ _ _ _ us hl => match us, hl with | [_], _ => rfl⟩
  have F20 := fun_mk (st := sTold) l20 cd20_ k20
  have D_told_apart : Def K mg "told_apart" sTold ["marks", "signs_by"] f20 _ := ⟨F20, PySem.W.mg_of X G a20, F20.binds (ps := ["marks", "signs_by"]) fun _ _ _ _ _ _ us hl => match us, hl with | [_, _], _ => rfl⟩
  have F21 := fun_mk (st := sTies) l21 cd21_ k21
  have D_ties : Def K mg "ties" sTies ["n", "t"] f21 _ := ⟨F21, PySem.W.mg_of X G a21, F21.binds (ps := ["n", "t"]) fun _ _ _ _ _ _ us hl => match us, hl with | [_, _], _ => rfl⟩
  have F22 := fun_mk (st := sTie) l22 cd22_ k22
  have D_tie_sign : Def K mg "tie_sign" sTie ["n", "t", "tied", "x", "y"] f22 _ := ⟨F22, PySem.W.mg_of X G a22, F22.binds (ps := ["n", "t", "tied", "x", "y"]) fun _ _ _ _ _ _ us hl => match us, hl with | [_, _, _, _, _], _ => rfl⟩
  have F23 := fun_mk (st := sLook) l23 cd23_ k23
  have D_look : Def K mg "look" sLook ["n", "t", "tied", "places"] f23 _ := ⟨F23, PySem.W.mg_of X G a23, F23.binds (ps := ["n", "t", "tied", "places"]) fun _ _ _ _ _ _ us hl => match us, hl with | [_, _, _, _], _ => rfl⟩
  have F24 := fun_mk (st := sSign) l24 cd24_ k24
  have D_sign : Def K mg "sign" sSign ["n", "t", "tied", "marks", "x"] f24 _ := ⟨F24, PySem.W.mg_of X G a24, F24.binds (ps := ["n", "t", "tied", "marks", "x"]) fun _ _ _ _ _ _ us hl => match us, hl with | [_, _, _, _, _], _ => rfl⟩
  have F25 := fun_mk (st := sTakes) l25 cd25_ k25
  have D_takes_turns : Def K mg "takes_turns" sTakes ["n", "m", "t", "u", "row"] f25 _ := ⟨F25, PySem.W.mg_of X G a25, F25.binds (ps := ["n", "m", "t", "u", "row"]) fun _ _ _ _ _ _ us hl => match us, hl with | [_, _, _, _, _], _ => rfl⟩
  have F0 := fun_mk (st := sMain) l0 cd0_ k0
  have B : Blt mg := ⟨PySem.W.mg_none_of X G z0, PySem.W.mg_none_of X G z1, PySem.W.mg_none_of X G z2, PySem.W.mg_none_of X G z3, PySem.W.mg_none_of X G z4, PySem.W.mg_none_of X G z5⟩
  have B2 : Blt2 mg := ⟨PySem.W.mg_none_of X G z6, PySem.W.mg_none_of X G z7, PySem.W.mg_none_of X G z8, PySem.W.mg_none_of X G z9, PySem.W.mg_none_of X G z10⟩
  have C_MOST_THINGS := PySem.W.mg_of X G v0
  have C_OUT_OF_RANGE := PySem.W.mg_of X G v1
  have C_NOT_TURNING := PySem.W.mg_of X G v2
  have C_NONE_FOUND := PySem.W.mg_of X G v3
  have A : Toa K mg := ⟨B, _, _, _, _, _, _, _, _, _, _, _, _, _, _, D_turned, D_all_below, D_all_keep_themselves, D_none_merge, D_turns_are_turned, D_turn_is_turned, D_turn_one_another⟩
  exact ⟨PySem.W.fnOf "same" "same" (defArgs sMain) (defBody sMain) (defScope sMain) .none kV0 dc0 pm0 an0 cd0 ct0, fun s us hu => match us, hu with | [_, _, _], _ => .of_eq rfl, fun base _ _ hL => ok_main F0 A B2 n12 n13 n23 tb0 tb1 tb2 (hL (c1, p1) (by simp)) (hL (c2, p2) (by simp)) (hL (c3, p3) (by simp)) D_refusal_of_two D_rows_by_name D_rows_alike D_longer_rows_alike D_takes_to D_first_alike D_images_by_marks D_one_of_most D_are_alike D_ranks D_told_apart D_tie_sign D_ties D_look D_sign D_parts D_telling_places D_takes_turns D_turned C_MOST_THINGS C_OUT_OF_RANGE C_NOT_TURNING C_NONE_FOUND⟩
end My
open PySem PySem.W PyProof.Rows
set_option maxRecDepth 100000 in
set_option maxHeartbeats 0 in
theorem PySem.Challenge.cw_turningthings_s05_same_holds : PySem.Challenge.rw_turningthings_s05_same.Holds := by
  w_on; k_headS; (case hw => exact ⟨[.int 1, .list [.int 0], .list [.int 0]], by decide +kernel, by decide +kernel⟩)
  k_fillS
  refine L2.walk_specT (r := PySem.Challenge.rw_turningthings_s05_same) (k := 12) (ps := ["n", "t", "u"]) (tabs := [(151, 149), (163, 161), (124, 122)]) (sp := My.spMain (My.tt3 149 161 122)) (by decide +kernel) rfl rfl ⟨rfl, by decide, by decide⟩ (fun w h Y => PySem.W.kIn_of Y) (fun w => by kernel_rfl) ?T ?F ?S
  case T =>
    intro w lo mean mg mb h T X
    exact List.forall_mem_cons.mpr ⟨PySem.W.tab_of (x := PySem.Str.ofString "ties") (c := 151) (P := 149) T X rfl (by kernel_rfl), List.forall_mem_cons.mpr ⟨PySem.W.tab_of (x := PySem.Str.ofString "look") (c := 163) (P := 161) T X rfl (by kernel_rfl), List.forall_mem_cons.mpr ⟨PySem.W.tab_of (x := PySem.Str.ofString "images_by_marks") (c := 124) (P := 122) T X rfl (by kernel_rfl), fun _ h => by cases h⟩⟩⟩
  case F =>
    intro w mg fa h Y KX G hmg
    refine' My.all_mk (p1 := 149) (p2 := 161) (p3 := 122) (c1 := 151) (c2 := 163) (c3 := 124) KX G hmg (by decide) (by decide) (by decide) ?a0 ?l0 ?cdx0 ?k0 ?a1 ?l1 ?cdx1 ?k1 ?a2 ?l2 ?cdx2 ?k2 ?a3 ?l3 ?cdx3 ?k3 ?a4 ?l4 ?cdx4 ?k4 ?a5 ?l5 ?cdx5 ?k5 ?a6 ?l6 ?cdx6 ?k6 ?a7 ?l7 ?cdx7 ?k7 ?a8 ?l8 ?cdx8 ?k8 ?a9 ?l9 ?cdx9 ?k9 ?a10 ?l10 ?cdx10 ?k10 ?a11 ?l11 ?cdx11 ?k11 ?a12 ?l12 ?cdx12 ?k12 ?a13 ?l13 ?cdx13 ?k13 ?a14 ?l14 ?cdx14 ?k14 ?a15 ?l15 ?cdx15 ?k15 ?a16 ?l16 ?cdx16 ?k16 ?a17 ?l17 ?cdx17 ?k17 ?a18 ?l18 ?cdx18 ?k18 ?a19 ?l19 ?cdx19 ?k19 ?a20 ?l20 ?cdx20 ?k20 ?a21 ?l21 ?cdx21 ?k21 ?a22 ?l22 ?cdx22 ?k22 ?a23 ?l23 ?cdx23 ?k23 ?a24 ?l24 ?cdx24 ?k24 ?a25 ?l25 ?cdx25 ?k25 ?tb0 ?tb1 ?tb2 ?v0 ?v1 ?v2 ?v3 ?z0 ?z1 ?z2 ?z3 ?z4 ?z5 ?z6 ?z7 ?z8 ?z9 ?z10
    (case a0 => k_is)
    (case l0 => k_is)
    (case cdx0 => k_is)
    (case k0 => k_is)
    (case a1 => k_is)
    (case l1 => k_is)
    (case cdx1 => k_is)
    (case k1 => k_is)
    (case a2 => k_is)
    (case l2 => k_is)
    (case cdx2 => k_is)
    (case k2 => k_is)
    (case a3 => k_is)
    (case l3 => k_is)
    (case cdx3 => k_is)
    (case k3 => k_is)
    (case a4 => k_is)
    (case l4 => k_is)
    (case cdx4 => k_is)
    (case k4 => k_is)
    (case a5 => k_is)
    (case l5 => k_is)
    (case cdx5 => k_is)
    (case k5 => k_is)
    (case a6 => k_is)
    (case l6 => k_is)
    (case cdx6 => k_is)
    (case k6 => k_is)
    (case a7 => k_is)
    (case l7 => k_is)
    (case cdx7 => k_is)
    (case k7 => k_is)
    (case a8 => k_is)
    (case l8 => k_is)
    (case cdx8 => k_is)
    (case k8 => k_is)
    (case a9 => k_is)
    (case l9 => k_is)
    (case cdx9 => k_is)
    (case k9 => k_is)
    (case a10 => k_is)
    (case l10 => k_is)
    (case cdx10 => k_is)
    (case k10 => k_is)
    (case a11 => k_is)
    (case l11 => k_is)
    (case cdx11 => k_is)
    (case k11 => k_is)
    (case a12 => k_is)
    (case l12 => k_is)
    (case cdx12 => k_is)
    (case k12 => k_is)
    (case a13 => k_is)
    (case l13 => k_is)
    (case cdx13 => k_is)
    (case k13 => k_is)
    (case a14 => k_is)
    (case l14 => k_is)
    (case cdx14 => k_is)
    (case k14 => k_is)
    (case a15 => k_is)
    (case l15 => k_is)
    (case cdx15 => k_is)
    (case k15 => k_is)
    (case a16 => k_is)
    (case l16 => k_is)
    (case cdx16 => k_is)
    (case k16 => k_is)
    (case a17 => k_is)
    (case l17 => k_is)
    (case cdx17 => k_is)
    (case k17 => k_is)
    (case a18 => k_is)
    (case l18 => k_is)
    (case cdx18 => k_is)
    (case k18 => k_is)
    (case a19 => k_is)
    (case l19 => k_is)
    (case cdx19 => k_is)
    (case k19 => k_is)
    (case a20 => k_is)
    (case l20 => k_is)
    (case cdx20 => k_is)
    (case k20 => k_is)
    (case a21 => k_is)
    (case l21 => k_is)
    (case cdx21 => k_is)
    (case k21 => k_is)
    (case a22 => k_is)
    (case l22 => k_is)
    (case cdx22 => k_is)
    (case k22 => k_is)
    (case a23 => k_is)
    (case l23 => k_is)
    (case cdx23 => k_is)
    (case k23 => k_is)
    (case a24 => k_is)
    (case l24 => k_is)
    (case cdx24 => k_is)
    (case k24 => k_is)
    (case a25 => k_is)
    (case l25 => k_is)
    (case cdx25 => k_is)
    (case k25 => k_is)
    (case tb0 => exact rfl)
    (case tb1 => exact rfl)
    (case tb2 => exact rfl)
    (case v0 => k_is)
    (case v1 => k_is)
    (case v2 => k_is)
    (case v3 => k_is)
    (case z0 => k_is)
    (case z1 => k_is)
    (case z2 => k_is)
    (case z3 => k_is)
    (case z4 => k_is)
    (case z5 => k_is)
    (case z6 => k_is)
    (case z7 => k_is)
    (case z8 => k_is)
    (case z9 => k_is)
    (case z10 => k_is)
  case S =>
    intro K H xs a h0 hwi hask hx
    have hTab : L2.Tabs (My.tt3 149 161 122) H := My.tabs0 (h0 (151, 149) (by simp)) (h0 (163, 161) (by simp)) (h0 (124, 122) (by simp))
    obtain ⟨n, t, u, q⟩ := a
    cases hx with
    | cons h1 h4 =>
      cases h1
      cases h4 with
      | cons h5 h6 =>
        cases h6 with
        | cons h7 h8 =>
          cases h8
          cases h5 with
          | lst hs ha =>
            cases h7 with
            | lst hs' ha' =>
              have e := L2.ints_dw t _ ha
              subst e
              have e := L2.ints_dw u _ ha'
              subst e
              obtain ⟨q1, q3, q4, q5, q6⟩ := My.same_in (show PyRd12.same_asked n t u = true from hask)
              obtain ⟨k, rfl⟩ : ∃ k : Nat, n = My.cast k := ⟨n.toNat, (Int.toNat_of_nonneg q1).symm⟩
              obtain ⟨T, rfl⟩ : ∃ T : List Nat, t = T.map My.cast := ⟨_, (My.nats_cast q3).symm⟩
              obtain ⟨U, rfl⟩ : ∃ U : List Nat, u = U.map My.cast := ⟨_, (My.nats_cast q4).symm⟩
              have rg : ∀ j : Nat, (1 ≤ j ∧ j ≤ 16) → (1 ≤ My.cast j ∧ My.cast j ≤ 16) := fun j h => by show 1 ≤ (j : Int) ∧ (j : Int) ≤ 16; omega
              refine ⟨_, _, k, T, U, rfl, (by rw [My.map_vi]; exact hs), (by rw [My.map_vi]; exact hs'), fun hk => ?_, fun hk ht hu => ?_, hTab, fun H' p hp => .lst (L2.SqL.of hp) (L2.dw_ints _)⟩
              · have q7 := q5 (rg k hk)
                rw [List.length_map, List.length_map] at q7
                exact q7
              · rw [My.nats_map, My.nats_map] at q6
                exact q6 (rg k hk) ht hu
#print axioms PySem.Challenge.cw_turningthings_s05_same_holds
