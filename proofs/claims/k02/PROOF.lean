import PyProof.Rows.All
import Wide.All
import OpenK.AllK
import Wide.FinOn
import HandS.ForMost
import HandS.ForExc
import HandS.Flow
import HandS.TupAny
import HandS.Conv
import HandS.Wide
import HandS.Deep
import HandS.SortInts
import HandS.IsInst
import HandS.RaiseMore
import PyProof.ReprRoads
import PyProof.Rows.SortShell
import HandS.Strs
import HandS.SetBool
import HandS.TupSets
import HandS.SetFor
import HandS.Style
import HandS.Ends
import PyProof.ReprLen
import PySem.Challenge.RW_followrows_k02_flat_and_cost
set_option Elab.async false
set_option linter.all false
set_option maxRecDepth 100000
set_option maxHeartbeats 4000000
namespace Fr
open PySem PySem.Spec PyProof.Rows L2
/-! ## values by value, a store of the lists that change -/
inductive D where
  | non | bl (b : Bool) | int (i : Int) | str (x : Str) | ty (n : String)
  | tup (ds : List D) | lst (ds : List D) | rol (ds : List D) | ref (n : Nat)
mutual
/-- every store number in it is below n -/
def D.und (n : Nat) : D → Bool
  | .tup ds => D.unds n ds
  | .lst ds => D.unds n ds
  | .rol ds => D.unds n ds
  | .ref m => decide (m < n)
  | _ => true
def D.unds (n : Nat) : List D → Bool
  | [] => true
  | d :: ds => D.und n d && D.unds n ds
end
abbrev Hs := List (List D)
abbrev Rho := List (Option D)
/-- a list that is only read: the script -/
def RoL (K : PySem.W.Frag) (H : Hp) (a : Addr) (xs : List V) : Prop :=
  (∃ o, H a = some (.frz o (.lst xs))) ∨ ∃ (o : Obj) (its : Array Value) (n : Nat), K.lookup a = some o ∧ o.cls = .type "list" ∧ o.dict = none ∧ o.data = .seq its n ∧ its.size ≤ sizeLine ∧ Vals xs its.toList
theorem RoL.sq {K : PySem.W.Frag} {H : Hp} {a : Addr} {xs : List V} (r : RoL K H a xs) : SqL K H a xs := by
  rcases r with ⟨o, e⟩ | r
  · exact .inl (.inr ⟨o, e⟩)
  · exact .inr r
mutual
inductive RelD (K : PySem.W.Frag) (φ : List Addr) (H : Hp) : D → V → Prop
  | non : RelD K φ H .non .non
  | bl (b : Bool) : RelD K φ H (.bl b) (.bl b)
  | int (i : Int) : RelD K φ H (.int i) (.int i)
  | str (x : Str) : RelD K φ H (.str x) (.str x)
  | ty (x : String) : RelD K φ H (.ty x) (.ty x)
  | tup {a : Addr} {xs : List V} {ds : List D} : SqT K H a xs → RelDs K φ H ds xs → RelD K φ H (.tup ds) (.ref a)
  | lst {a : Addr} {xs : List V} {ds : List D} : H a = some (.lst xs) → a ∉ φ → RelDs K φ H ds xs → RelD K φ H (.lst ds) (.ref a)
  | rol {a : Addr} {xs : List V} {ds : List D} : RoL K H a xs → RelDs K φ H ds xs → RelD K φ H (.rol ds) (.ref a)
  | ref {n : Nat} {a : Addr} : φ[n]? = some a → RelD K φ H (.ref n) (.ref a)
inductive RelDs (K : PySem.W.Frag) (φ : List Addr) (H : Hp) : List D → List V → Prop
  | nil : RelDs K φ H [] []
  | cons {d : D} {v : V} {ds : List D} {vs : List V} : RelD K φ H d v → RelDs K φ H ds vs → RelDs K φ H (d :: ds) (v :: vs)
end
structure HRel (K : PySem.W.Frag) (φ : List Addr) (H : Hp) (h : Hs) : Prop where
  len : φ.length = h.length
  nd : φ.Nodup
  cell : ∀ n ds, h[n]? = some ds → ∃ a xs, φ[n]? = some a ∧ H a = some (.lst xs) ∧ RelDs K φ H ds xs ∧ D.unds n ds = true
structure Ext (φ : List Addr) (H : Hp) (φ' : List Addr) (H' : Hp) : Prop where
  pre : ∃ ψ, φ' = φ ++ ψ ∧ ∀ a ∈ ψ, H a = none
  keep : ∀ a o, (a ∉ φ ∨ ∀ xs, o ≠ .lst xs) → H a = some o → H' a = some o
  there : ∀ a o, H a = some o → ∃ o', H' a = some o'
structure RelS (K : PySem.W.Frag) (φ : List Addr) (H : Hp) (ρ : Rho) (σ : L2.St) : Prop where
  len : ρ.length = σ.length
  slot : ∀ (i : Nat) d, ρ[i]? = some (some d) → ∃ v, σ[i]? = some (some v) ∧ RelD K φ H d v
variable {K : PySem.W.Frag} {φ φ' φ1 φ2 : List Addr} {H H' H1 H2 : Hp} {h h' : Hs} {d : D} {ds es : List D} {v : V} {vs xs ys : List V} {a p : Addr} {n m : Nat} {ρ : Rho} {σ : L2.St}
theorem Ext.refl (φ : List Addr) (H : Hp) : Ext φ H φ H := ⟨⟨[], by simp, by simp⟩, fun _ _ _ e => e, fun _ o e => ⟨o, e⟩⟩
theorem Ext.free (x : Ext φ H φ' H') (e : H' a = none) : H a = none := by
  cases q : H a with
  | none => rfl
  | some o =>
    obtain ⟨o', e'⟩ := x.there a o q
    rw [e] at e'
    cases e'
theorem Ext.trans (x : Ext φ H φ1 H1) (y : Ext φ1 H1 φ2 H2) : Ext φ H φ2 H2 := by
  obtain ⟨ψ, e1, n1⟩ := x.pre
  obtain ⟨χ, e2, n2⟩ := y.pre
  refine ⟨⟨ψ ++ χ, by rw [e2, e1, List.append_assoc], fun a ha => ?_⟩, fun a o c e => ?_, fun a o e => ?_⟩
  · rcases List.mem_append.mp ha with z | z
    · exact n1 a z
    · exact x.free (n2 a z)
  · refine y.keep a o ?_ (x.keep a o c e)
    rcases c with c | c
    · refine .inl fun z => ?_
      rw [e1] at z
      rcases List.mem_append.mp z with z | z
      · exact c z
      · rw [n1 a z] at e
        cases e
    · exact .inr c
  · obtain ⟨o1, e1⟩ := x.there a o e
    exact y.there a o1 e1
theorem Ext.rd_tup (x : Ext φ H φ' H') (r : Rd H a (.tup xs)) : Rd H' a (.tup xs) := by
  rcases r with r | ⟨o, r⟩
  · exact .inl (x.keep a _ (.inr fun _ z => by cases z) r)
  · exact .inr ⟨o, x.keep a _ (.inr fun _ z => by cases z) r⟩
theorem Ext.sqT (x : Ext φ H φ' H') (r : SqT K H a xs) : SqT K H' a xs := by
  rcases r with r | r
  · exact .inl (x.rd_tup r)
  · exact .inr r
theorem Ext.ro (x : Ext φ H φ' H') (r : RoL K H a xs) : RoL K H' a xs := by
  rcases r with ⟨o, e⟩ | r
  · exact .inl ⟨o, x.keep _ _ (.inr fun _ z => by cases z) e⟩
  · exact .inr r
theorem Ext.notin (x : Ext φ H φ' H') {o : HO} (e : H a = some o) (na : a ∉ φ) : a ∉ φ' := by
  obtain ⟨ψ, e1, n1⟩ := x.pre
  rw [e1]
  intro z
  rcases List.mem_append.mp z with z | z
  · exact na z
  · rw [n1 a z] at e
    cases e
theorem Ext.ix (x : Ext φ H φ' H') (e : φ[n]? = some a) : φ'[n]? = some a := by
  obtain ⟨ψ, e1, _⟩ := x.pre
  rw [e1]
  have l : n < φ.length := (List.getElem?_eq_some_iff.mp e).1
  rw [List.getElem?_append_left l]
  exact e
mutual
theorem Ext.rel (x : Ext φ H φ' H') : ∀ {d : D} {v : V}, RelD K φ H d v → RelD K φ' H' d v
  | _, _, .non => .non
  | _, _, .bl b => .bl b
  | _, _, .int i => .int i
  | _, _, .str z => .str z
  | _, _, .ty z => .ty z
  | _, _, .tup s r => .tup (x.sqT s) (x.rels r)
  | _, _, .lst s na r => .lst (x.keep _ _ (.inl na) s) (x.notin s na) (x.rels r)
  | _, _, .rol s r => .rol (x.ro s) (x.rels r)
  | _, _, .ref e => .ref (x.ix e)
theorem Ext.rels (x : Ext φ H φ' H') : ∀ {ds : List D} {vs : List V}, RelDs K φ H ds vs → RelDs K φ' H' ds vs
  | _, _, .nil => .nil
  | _, _, .cons r rs => .cons (x.rel r) (x.rels rs)
end
theorem Ext.relS (x : Ext φ H φ' H') (s : RelS K φ H ρ σ) : RelS K φ' H' ρ σ := ⟨s.len, fun i d e => by
  obtain ⟨v, e1, r⟩ := s.slot i d e
  exact ⟨v, e1, x.rel r⟩⟩
theorem RelDs.length : ∀ {ds : List D} {vs : List V}, RelDs K φ H ds vs → ds.length = vs.length
  | _, _, .nil => rfl
  | _, _, .cons _ r => by rw [List.length_cons, List.length_cons, RelDs.length r]
theorem RelDs.append : ∀ {ds es : List D} {xs ys : List V}, RelDs K φ H ds xs → RelDs K φ H es ys → RelDs K φ H (ds ++ es) (xs ++ ys)
  | _, _, _, _, .nil, s => s
  | _, _, _, _, .cons r t, s => .cons r (RelDs.append t s)
theorem RelDs.get : ∀ {ds : List D} {xs : List V} {i : Nat} {d : D}, RelDs K φ H ds xs → ds[i]? = some d → ∃ v, xs[i]? = some v ∧ RelD K φ H d v
  | _, _, _, _, .nil, e => by simp at e
  | _, _, 0, _, .cons r _, e => by
    simp at e
    subst e
    exact ⟨_, rfl, r⟩
  | _, _, i + 1, d, .cons _ t, e => by
    obtain ⟨u, h1, h2⟩ := RelDs.get (i := i) (d := d) t (by simpa using e)
    exact ⟨u, by simpa using h1, h2⟩
theorem RelDs.set (r : RelD K φ H d v) : ∀ {ds : List D} {xs : List V} (i : Nat), RelDs K φ H ds xs → RelDs K φ H (ds.set i d) (xs.set i v)
  | _, _, _, .nil => .nil
  | _, _, 0, .cons _ t => .cons r t
  | _, _, i + 1, .cons q t => .cons q (RelDs.set r i t)
theorem RelDs.take : ∀ {ds : List D} {xs : List V} (n : Nat), RelDs K φ H ds xs → RelDs K φ H (ds.take n) (xs.take n)
  | _, _, 0, _ => .nil
  | _, _, _ + 1, .nil => .nil
  | _, _, n + 1, .cons r t => .cons r (RelDs.take n t)
theorem RelDs.drop : ∀ {ds : List D} {xs : List V} (n : Nat), RelDs K φ H ds xs → RelDs K φ H (ds.drop n) (xs.drop n)
  | _, _, 0, r => r
  | _, _, _ + 1, .nil => .nil
  | _, _, n + 1, .cons _ t => RelDs.drop n t
theorem RelDs.erase : ∀ {ds : List D} {xs : List V} (n : Nat), RelDs K φ H ds xs → RelDs K φ H (ds.eraseIdx n) (xs.eraseIdx n)
  | _, _, _, .nil => .nil
  | _, _, 0, .cons _ t => t
  | _, _, n + 1, .cons r t => .cons r (RelDs.erase n t)
mutual
theorem RelD.und : ∀ {d : D} {v : V}, RelD K φ H d v → d.und φ.length = true
  | _, _, .non => rfl
  | _, _, .bl b => rfl
  | _, _, .int i => rfl
  | _, _, .str z => rfl
  | _, _, .ty z => rfl
  | _, _, .tup s r => by
    unfold D.und
    exact RelDs.unds r
  | _, _, .lst s na r => by
    unfold D.und
    exact RelDs.unds r
  | _, _, .rol s r => by
    unfold D.und
    exact RelDs.unds r
  | _, _, .ref e => by
    unfold D.und
    exact decide_eq_true (List.getElem?_eq_some_iff.mp e).1
theorem RelDs.unds : ∀ {ds : List D} {vs : List V}, RelDs K φ H ds vs → D.unds φ.length ds = true
  | _, _, .nil => rfl
  | _, _, .cons r rs => by
    unfold D.unds
    rw [RelD.und r, RelDs.unds rs]
    rfl
end
mutual
theorem RelD.cut (n : Nat) : ∀ {d : D} {v : V}, RelD K φ H d v → d.und n = true → RelD K (φ.take n) H d v
  | _, _, .non, _ => .non
  | _, _, .bl b, _ => .bl b
  | _, _, .int i, _ => .int i
  | _, _, .str z, _ => .str z
  | _, _, .ty z, _ => .ty z
  | _, _, .tup s r, b => .tup s (RelDs.cut n r (by unfold D.und at b; exact b))
  | _, _, .lst s na r, b => .lst s (fun z => na (List.mem_of_mem_take z)) (RelDs.cut n r (by unfold D.und at b; exact b))
  | _, _, .rol s r, b => .rol s (RelDs.cut n r (by unfold D.und at b; exact b))
  | _, _, .ref (n := k) e, b => .ref (by
    unfold D.und at b
    rw [List.getElem?_take_of_lt (of_decide_eq_true b)]
    exact e)
theorem RelDs.cut (n : Nat) : ∀ {ds : List D} {vs : List V}, RelDs K φ H ds vs → D.unds n ds = true → RelDs K (φ.take n) H ds vs
  | _, _, .nil, _ => .nil
  | _, _, .cons r rs, b => by
    unfold D.unds at b
    rw [Bool.and_eq_true] at b
    exact .cons (RelD.cut n r b.1) (RelDs.cut n rs b.2)
end
mutual
theorem D.und_mono (hm : n ≤ m) : ∀ {d : D}, d.und n = true → d.und m = true
  | .non, _ => rfl
  | .bl _, _ => rfl
  | .int _, _ => rfl
  | .str _, _ => rfl
  | .ty _, _ => rfl
  | .tup ds, b => by
    unfold D.und at b ⊢
    exact D.unds_mono hm b
  | .lst ds, b => by
    unfold D.und at b ⊢
    exact D.unds_mono hm b
  | .rol ds, b => by
    unfold D.und at b ⊢
    exact D.unds_mono hm b
  | .ref k, b => by
    unfold D.und at b ⊢
    have := of_decide_eq_true b
    exact decide_eq_true (by omega)
theorem D.unds_mono (hm : n ≤ m) : ∀ {ds : List D}, D.unds n ds = true → D.unds m ds = true
  | [], _ => rfl
  | d :: ds, b => by
    unfold D.unds at b ⊢
    rw [Bool.and_eq_true] at b
    rw [D.und_mono hm b.1, D.unds_mono hm b.2]
    rfl
end
theorem D.unds_append : ∀ {ds es : List D}, D.unds n (ds ++ es) = (D.unds n ds && D.unds n es)
  | [], es => by simp [D.unds]
  | d :: ds, es => by
    show (D.und n d && D.unds n (ds ++ es)) = (D.und n d && D.unds n ds && D.unds n es)
    rw [D.unds_append, Bool.and_assoc]
theorem D.unds_iff : ∀ {ds : List D}, D.unds n ds = true ↔ ∀ d ∈ ds, d.und n = true
  | [] => by simp [D.unds]
  | d :: ds => by
    unfold D.unds
    rw [Bool.and_eq_true, D.unds_iff (ds := ds)]
    simp
theorem HRel.at_ (r : HRel K φ H h) (e : h[n]? = some ds) (e2 : φ[n]? = some a) : ∃ xs, H a = some (.lst xs) ∧ RelDs K φ H ds xs ∧ D.unds n ds = true := by
  obtain ⟨b, xs, e3, e4, e5, e6⟩ := r.cell n ds e
  rw [e2] at e3
  cases e3
  exact ⟨xs, e4, e5, e6⟩
/-- a new object that is not in the store -/
theorem Ext.new {o : HO} (np : H p = none) : Ext φ H φ (upd H p o) := ⟨⟨[], by simp, by simp⟩, fun a u _ e => by
  rw [upd_ne (ne_of_none e np)]
  exact e, fun a u e => ⟨u, by
  rw [upd_ne (ne_of_none e np)]
  exact e⟩⟩
theorem HRel.ext (r : HRel K φ H h) (x : Ext φ H φ H') (c : ∀ a ∈ φ, H' a = H a) : HRel K φ H' h := ⟨r.len, r.nd, fun n ds e => by
  obtain ⟨b, xs, e3, e4, e5, e6⟩ := r.cell n ds e
  exact ⟨b, xs, e3, by
    rw [c b (List.mem_of_getElem? e3)]
    exact e4, x.rels e5, e6⟩⟩
theorem HRel.inH (r : HRel K φ H h) (ha : a ∈ φ) : ∃ xs, H a = some (.lst xs) := by
  obtain ⟨i, hi, e⟩ := List.mem_iff_getElem.mp ha
  have hl : i < h.length := by rw [← r.len]; exact hi
  obtain ⟨b, xs, e3, e4, _⟩ := r.cell i h[i] (List.getElem?_eq_getElem hl)
  rw [List.getElem?_eq_getElem hi, e] at e3
  cases e3
  exact ⟨xs, e4⟩
theorem HRel.new {o : HO} (r : HRel K φ H h) (np : H p = none) : HRel K φ (upd H p o) h := r.ext (Ext.new np) fun a ha => by
  obtain ⟨xs, e⟩ := r.inH ha
  exact upd_ne (ne_of_none e np)
/-- a fresh list goes into the store -/
theorem Ext.push (np : H p = none) : Ext φ H (φ ++ [p]) (upd H p (.lst xs)) := ⟨⟨[p], rfl, by simpa using np⟩, (Ext.new (φ := φ) np).keep, (Ext.new (φ := φ) np).there⟩
theorem HRel.push (r : HRel K φ H h) (np : H p = none) (rs : RelDs K φ H ds xs) : HRel K (φ ++ [p]) (upd H p (.lst xs)) (h ++ [ds]) := by
  have x : Ext φ H (φ ++ [p]) (upd H p (.lst xs)) := Ext.push np
  refine ⟨by rw [List.length_append, List.length_append, r.len]; rfl, ?_, fun n es e => ?_⟩
  · refine List.nodup_append.mpr ⟨r.nd, by simp, fun a ha b hb z => ?_⟩
    have hb' : b = p := by simpa using hb
    obtain ⟨ys, e⟩ := r.inH ha
    rw [z, hb', np] at e
    cases e
  · by_cases hn : n < h.length
    · rw [List.getElem?_append_left hn] at e
      obtain ⟨b, ys, e3, e4, e5, e6⟩ := r.cell n es e
      exact ⟨b, ys, x.ix e3, by
        rw [upd_ne (ne_of_none e4 np)]
        exact e4, x.rels e5, e6⟩
    · have hl : n = h.length := by
        have := (List.getElem?_eq_some_iff.mp e).1
        rw [List.length_append, List.length_singleton] at this
        omega
      subst hl
      rw [List.getElem?_append_right (Nat.le_refl _), Nat.sub_self] at e
      have e' : ds = es := by simpa using e
      subst e'
      refine ⟨p, xs, ?_, upd_same, x.rels rs, ?_⟩
      · rw [← r.len, List.getElem?_append_right (Nat.le_refl _), Nat.sub_self]
        rfl
      · rw [← r.len]
        exact rs.unds
/-- a list of the store is written -/
theorem Ext.write (r : HRel K φ H h) (e : φ[n]? = some a) : Ext φ H φ (upd H a (.lst ys)) := by
  have ha : a ∈ φ := List.mem_of_getElem? e
  obtain ⟨xs, q⟩ := r.inH ha
  refine ⟨⟨[], by simp, by simp⟩, fun b o c eb => ?_, fun b o eb => ?_⟩
  · by_cases hb : b = a
    · subst hb
      rcases c with c | c
      · exact absurd ha c
      · rw [q] at eb
        cases eb
        exact absurd rfl (c xs)
    · rw [upd_ne hb]
      exact eb
  · by_cases hb : b = a
    · subst hb
      exact ⟨_, upd_same⟩
    · exact ⟨o, by rw [upd_ne hb]; exact eb⟩
theorem HRel.write (r : HRel K φ H h) (e : φ[n]? = some a) (rs : RelDs K φ H ds xs) (b : D.unds n ds = true) : HRel K φ (upd H a (.lst xs)) (h.set n ds) := by
  have x : Ext φ H φ (upd H a (.lst xs)) := Ext.write r e
  refine ⟨by rw [List.length_set]; exact r.len, r.nd, fun i es q => ?_⟩
  by_cases hi : i = n
  · subst hi
    have hl : i < h.length := by rw [← r.len]; exact (List.getElem?_eq_some_iff.mp e).1
    rw [List.getElem?_set_self hl] at q
    cases q
    exact ⟨a, xs, e, upd_same, x.rels rs, b⟩
  · rw [List.getElem?_set_ne (Ne.symm hi)] at q
    obtain ⟨c, ys, e3, e4, e5, e6⟩ := r.cell i es q
    have hc : c ≠ a := fun z => hi (nodup_ix' r.nd e3 (z ▸ e))
    exact ⟨c, ys, e3, by rw [upd_ne hc]; exact e4, x.rels e5, e6⟩
where
  nodup_ix' {l : List Addr} (hN : l.Nodup) {i j : Nat} {x : Addr} (a : l[i]? = some x) (b : l[j]? = some x) : i = j := by
    obtain ⟨h1, e1⟩ := List.getElem?_eq_some_iff.mp a
    obtain ⟨h2, e2⟩ := List.getElem?_eq_some_iff.mp b
    exact (List.getElem_inj hN).mp (e1.trans e2.symm)
/-- the store is cut -/
theorem HRel.cut (r : HRel K φ H h) (n : Nat) : HRel K (φ.take n) H (h.take n) := by
  refine ⟨by rw [List.length_take, List.length_take, r.len], r.nd.sublist (List.take_sublist _ _), fun i ds e => ?_⟩
  have hi : i < n := by
    have := (List.getElem?_eq_some_iff.mp e).1
    rw [List.length_take] at this
    omega
  rw [List.getElem?_take_of_lt hi] at e
  obtain ⟨b, ys, e3, e4, e5, e6⟩ := r.cell i ds e
  exact ⟨b, ys, by rw [List.getElem?_take_of_lt hi]; exact e3, e4, RelDs.cut n e5 (D.unds_mono (Nat.le_of_lt hi) e6), e6⟩
theorem Ext.cut (x : Ext φ H φ' H') : Ext φ H (φ'.take φ.length) H' := by
  obtain ⟨ψ, e1, n1⟩ := x.pre
  refine ⟨⟨[], ?_, by simp⟩, x.keep, x.there⟩
  rw [e1, List.take_left, List.append_nil]
end Fr
set_option Elab.async false
set_option linter.all false
set_option maxRecDepth 100000
set_option maxHeartbeats 4000000
namespace Fr
open PySem PySem.Spec PyProof.Rows L2
/-! ## what an evaluation gives -/
inductive Res where | val (d : D) | new (ds : List D)
inductive R (α : Type) where | ok (x : α) (h : Hs) | exc (c : Nat) (h : Hs) | bad
def Res.d : Res → D | .val d => d | .new ds => .lst ds
section
variable {α β : Type}
def R.bind (r : R α) (f : α → Hs → R β) : R β := match r with | .ok x h => f x h | .exc c h => .exc c h | .bad => .bad
/-- as a value -/
def bindD (r : R Res) (f : D → Hs → R β) : R β := match r with
  | .ok (.val d) h => f d h
  | .ok (.new ds) h => f (.lst ds) h
  | .exc c h => .exc c h
  | .bad => .bad
/-- a fresh list goes into the store -/
def bindO (own : Bool) (r : R Res) (f : D → Hs → R β) : R β := match r with
  | .ok (.val d) h => f d h
  | .ok (.new ds) h => if own then f (.ref h.length) (h ++ [ds]) else f (.lst ds) h
  | .exc c h => .exc c h
  | .bad => .bad
end
def seqOf (h : Hs) : D → Option (List D)
  | .tup ds => some ds
  | .lst ds => some ds
  | .rol ds => some ds
  | .ref n => h[n]?
  | _ => none
/-! ## the little language -/
inductive Bop | add | sub | mul | fdiv | mod | pow
inductive Cop | lt | le | gt | ge | eq | ne | isin | notin | is_ | isnot
inductive G where | nm (i : Nat) | tp (is : List Nat)
mutual
inductive Tm where
  | slot (i : Nat) | con (d : D) | bin (o : Bop) (a b : Tm) | neg (a : Tm)
  | cmp (o : Cop) (a b : Tm) | chain (o o' : Cop) (a b c : Tm)
  | and (a b : Tm) | or (a b : Tm) | not (a : Tm) | ife (c a b : Tm)
  | tup (es : Tms) | lst (es : Tms) | ix (a b : Tm) | sl (a : Tm) (lo hi : Tms)
  | call (f : Nat) (es : Tms) | blt (b : Nat) (es : Tms) | meth (m : Nat) (o : Tm) (es : Tms)
  | comp (e : Tm) (it : Tm) (g : G) (cs : Tms) (own : List Nat)
  | comp2 (e : Tm) (it : Tm) (g : G) (cs : Tms) (it1 : Tm) (g1 : G) (cs1 : Tms) (own : List Nat) (own1 : List Nat)
  | rng1 (a : Tm) | rng2 (a b : Tm) | lsc (e : Tm) (it : Tm) (g : G) (own : List Nat)
inductive Tms where | nil | cons (e : Tm) (es : Tms)
end
structure Cn where
  call : Nat → List D → Hs → R Res
  cA : Nat → Addr
  blt : Nat → List D → Hs → R Res
  meth : Nat → D → List D → Hs → R Res
  mty : Nat → D → Bool
  bin : Bop → D → D → Hs → R Res
  cmp : Cop → D → D → Hs → R Res
  fuel : Nat
/-- what a loop walks -/
inductive Src where | vals (ds : List D) | cell (n : Nat)
def wipeR (ρ : Rho) : List Nat → Rho
  | [] => ρ
  | v :: vs => (wipeR ρ vs).set v none
def setR (is : List Nat) (ds : List D) (ρ : Rho) : Option Rho := match is, ds with
  | [], [] => some ρ
  | i :: is, d :: ds => setR is ds (ρ.set i (some d))
  | _, _ => none
def asg (g : G) (d : D) (ρ : Rho) : Option Rho := match g with
  | .nm i => some (ρ.set i (some d))
  | .tp is => match d with | .tup ds => setR is ds ρ | _ => none
def truth (h : Hs) : D → Option Bool
  | .non => some false
  | .bl b => some b
  | .int i => some (i != 0)
  | .tup ds => some (!ds.isEmpty)
  | .lst ds => some (!ds.isEmpty)
  | .rol ds => some (!ds.isEmpty)
  | .ref n => (h[n]?).map fun ds => !ds.isEmpty
  | _ => none
def srcAt (s : Src) (i : Nat) (h : Hs) : Option (Option D) := match s with
  | .vals ds => some ds[i]?
  | .cell n => (h[n]?).map fun ds => ds[i]?
def srcLen (s : Src) (h : Hs) : Nat := match s with
  | .vals ds => ds.length
  | .cell n => (h[n]?.getD []).length
/-- the list at n grows by what f gives -/
def mapR (f : D → Hs → R (Option D)) (n : Nat) (s : Src) : Nat → Nat → Hs → R Res
  | 0, _, _ => .bad
  | k + 1, i, h => match srcAt s i h with
    | none => .bad
    | some none => match h[n]? with | some acc => .ok (.new acc) (h.take n) | none => .bad
    | some (some x) => match f x h with
      | .ok (some y) h1 => (match h1[n]? with
        | some acc => if acc.length < sizeLine ∧ y.und n = true then mapR f n s k (i + 1) (h1.set n (acc ++ [y])) else .bad
        | none => .bad)
      | .ok none h1 => mapR f n s k (i + 1) h1
      | _ => .bad
def mapS (f : D → Hs → R (Option D)) (s : Src) (h : Hs) : R Res := mapR f h.length s (srcLen s h + 1) 0 (h ++ [[]])
/-- the inner walk of two -/
def innR (f : D → Hs → R (Option D)) (n : Nat) (s : Src) : Nat → Nat → Hs → R Unit
  | 0, _, _ => .bad
  | k + 1, i, h => match srcAt s i h with
    | none => .bad
    | some none => .ok () h
    | some (some x) => match f x h with
      | .ok (some y) h1 => (match h1[n]? with
        | some acc => if acc.length < sizeLine ∧ y.und n = true then innR f n s k (i + 1) (h1.set n (acc ++ [y])) else .bad
        | none => .bad)
      | .ok none h1 => innR f n s k (i + 1) h1
      | _ => .bad
/-- the outer one -/
def mapU (f : D → Hs → R Unit) (n : Nat) (s : Src) : Nat → Nat → Hs → R Res
  | 0, _, _ => .bad
  | k + 1, i, h => match srcAt s i h with
    | none => .bad
    | some none => match h[n]? with | some acc => .ok (.new acc) (h.take n) | none => .bad
    | some (some x) => match f x h with
      | .ok _ h1 => mapU f n s k (i + 1) h1
      | _ => .bad
def map2 (f : Nat → D → Hs → R Unit) (s : Src) (h : Hs) : R Res := mapU (f h.length) h.length s (srcLen s h + 1) 0 (h ++ [[]])
/-- how many different ints f gives -/
def setL (f : D → Hs → R D) (s : Src) : Nat → Nat → List Int → Hs → R Res
  | 0, _, _, _ => .bad
  | k + 1, i, acc, h => match srcAt s i h with
    | none => .bad
    | some none => .ok (.val (.int acc.length)) h
    | some (some x) => match f x h with
      | .ok (.int j) h1 => if acc.length + 1 < 64 then setL f s k (i + 1) (if j ∈ acc then acc else j :: acc) h1 else .bad
      | _ => .bad
def rngD (lo : Int) : Nat → List D
  | 0 => []
  | n + 1 => .int lo :: rngD (lo + 1) n
def inRng (i : Int) : Bool := decide (-(2 ^ 62) ≤ i ∧ i < 2 ^ 62)
def srcOf (h : Hs) : D → Option Src
  | .tup ds => some (.vals ds)
  | .lst ds => some (.vals ds)
  | .rol ds => some (.vals ds)
  | .ref n => some (.cell n)
  | _ => none
def getS (ρ : Rho) (i : Nat) : Option D := (ρ[i]?).getD none
def okD (o : Option D) (h : Hs) : R Res := match o with | some d => .ok (.val d) h | none => .bad
def okB (o : Option Bool) (h : Hs) : R Bool := match o with | some d => .ok d h | none => .bad
def okS (o : Option Src) (h : Hs) : R Src := match o with | some d => .ok d h | none => .bad
def negR (x : D) (h : Hs) : R Res := match x with | .int i => .ok (.val (.int (-i))) h | _ => .bad
def chainR (z : D) (h : Hs) (k : R Res) : R Res := match z with | .bl true => k | .bl false => .ok (.val (.bl false)) h | _ => .bad
def andR (o : Option Bool) (x : D) (h : Hs) (k : R Res) : R Res := match o with | some true => k | some false => .ok (.val x) h | none => .bad
def orR (o : Option Bool) (x : D) (h : Hs) (k : R Res) : R Res := match o with | some false => k | some true => .ok (.val x) h | none => .bad
def atD (ds : List D) (y : D) : Option D := match y with | .int i => atI ds i | _ => none
def ixR (o : Option (List D)) (y : D) (h : Hs) : R Res := match o with | some ds => okD (atD ds y) h | none => .bad
def tupR (ds : List D) (h : Hs) : R Res := if ds.length ≤ sizeLine then .ok (.val (.tup ds)) h else .bad
def lstR (ds : List D) (h : Hs) : R Res := if ds.length ≤ sizeLine then .ok (.new ds) h else .bad
def rng1R (x : D) (h : Hs) : R Src := match x with | .int j => if inRng j then .ok (.vals (rngD 0 j.toNat)) h else .bad | _ => .bad
def rng2R (x y : D) (h : Hs) : R Src := match x, y with
  | .int i, .int j => if inRng i && inRng j then .ok (.vals (rngD i (j - i).toNat)) h else .bad
  | _, _ => .bad
def cutD (xs : List D) (lo hi : Option Int) : List D := (xs.drop (HT.sIx xs.length 0 lo)).take (HT.sIx xs.length xs.length hi - HT.sIx xs.length 0 lo)
def partD (l : List D) : Option (Option Int) := match l with | [] => some none | [.int i] => some (some i) | _ => none
def cutAt (x : D) (lo hi : Option Int) (h : Hs) : R Res := match x with
  | .tup ds => .ok (.val (.tup (cutD ds lo hi))) h
  | .lst ds => .ok (.new (cutD ds lo hi)) h
  | .rol ds => .ok (.new (cutD ds lo hi)) h
  | .ref n => match h[n]? with | some ds => .ok (.new (cutD ds lo hi)) h | none => .bad
  | _ => .bad
def optR {α β : Type} (o : Option α) (f : α → R β) : R β := match o with | some x => f x | none => .bad
def compL (o : Option Rho) (f : Rho → R D) : R D := match o with | some ρ => f ρ | none => .bad
def compE (o : Option Rho) (f : Rho → R (Option D)) : R (Option D) := match o with | some ρ => f ρ | none => .bad
def compU (o : Option Rho) (f : Rho → R Unit) : R Unit := match o with | some ρ => f ρ | none => .bad
def keepU (k : Bool) (h : Hs) (r : R Unit) : R Unit := if k then r else .ok () h
def keepR (k : Bool) (h : Hs) (r : R (Option D)) : R (Option D) := if k then r else .ok none h
def iteR {α : Type} (k : Bool) (a b : R α) : R α := if k then a else b
mutual
def ev (c : Cn) (ρ : Rho) : Tm → Hs → R Res
  | .slot i, h => okD (getS ρ i) h
  | .con d, h => .ok (.val d) h
  | .bin o a b, h => bindD (ev c ρ a h) fun x h1 => bindD (ev c ρ b h1) fun y h2 => c.bin o x y h2
  | .neg a, h => bindD (ev c ρ a h) fun x h1 => negR x h1
  | .cmp o a b, h => bindD (ev c ρ a h) fun x h1 => bindD (ev c ρ b h1) fun y h2 => c.cmp o x y h2
  | .chain o o' a b e, h => bindD (ev c ρ a h) fun x h1 => bindD (ev c ρ b h1) fun y h2 => bindD (c.cmp o x y h2) fun z h3 =>
      chainR z h3 (bindD (ev c ρ e h3) fun u h4 => c.cmp o' y u h4)
  | .and a b, h => bindD (ev c ρ a h) fun x h1 => andR (truth h1 x) x h1 (ev c ρ b h1)
  | .or a b, h => bindD (ev c ρ a h) fun x h1 => orR (truth h1 x) x h1 (ev c ρ b h1)
  | .not a, h => bindD (ev c ρ a h) fun x h1 => (okB (truth h1 x) h1).bind fun k h2 => .ok (.val (.bl (!k))) h2
  | .ife t a b, h => (evT c ρ t h).bind fun k h1 => iteR k (ev c ρ a h1) (ev c ρ b h1)
  | .tup es, h => (evs c ρ es h).bind fun ds h1 => tupR ds h1
  | .lst es, h => (evs c ρ es h).bind fun ds h1 => lstR ds h1
  | .ix a b, h => bindD (ev c ρ a h) fun x h1 => bindD (ev c ρ b h1) fun y h2 => ixR (seqOf h2 x) y h2
  | .sl a lo hi, h => bindD (ev c ρ a h) fun x h1 => (evs c ρ lo h1).bind fun l h2 => optR (partD l) fun l' => (evs c ρ hi h2).bind fun u h3 => optR (partD u) fun u' => cutAt x l' u' h3
  | .call f es, h => (evs c ρ es h).bind fun ds h1 => c.call f ds h1
  | .blt b es, h => (evs c ρ es h).bind fun ds h1 => c.blt b ds h1
  | .meth m o es, h => bindD (ev c ρ o h) fun x h1 => iteR (c.mty m x) ((evs c ρ es h1).bind fun ds h2 => c.meth m x ds h2) .bad
  | .comp e it g cs own, h => (evI c ρ it h).bind fun s h1 => mapS (fun x h2 => compE (asg g x (wipeR ρ own)) fun ρ1 =>
      (evC c ρ1 cs h2).bind fun k h3 => keepR k h3 (bindD (ev c ρ1 e h3) fun y h4 => .ok (some y) h4)) s h1
  | .comp2 e it g cs it1 g1 cs1 own own1, h => (evI c ρ it h).bind fun s h1 => map2 (fun n x h2 => compU (asg g x (wipeR ρ own)) fun ρ1 =>
      (evC c ρ1 cs h2).bind fun k h3 => keepU k h3 ((evI c ρ1 it1 h3).bind fun s1 h4 => innR (fun y h5 => compE (asg g1 y (wipeR ρ1 own1)) fun ρ2 =>
        (evC c ρ2 cs1 h5).bind fun k h6 => keepR k h6 (bindD (ev c ρ2 e h6) fun y h7 => .ok (some y) h7)) n s1 (srcLen s1 h4 + 1) 0 h4)) s h1
  | .rng1 _, _ => .bad
  | .rng2 _ _, _ => .bad
  | .lsc e it g own, h => (evI c ρ it h).bind fun s h1 => setL (fun x h2 => compL (asg g x (wipeR ρ own)) fun ρ1 => bindD (ev c ρ1 e h2) fun y h3 => .ok y h3) s (srcLen s h1 + 1) 0 [] h1
def evs (c : Cn) (ρ : Rho) : Tms → Hs → R (List D)
  | .nil, h => .ok [] h
  | .cons e es, h => bindD (ev c ρ e h) fun x h1 => (evs c ρ es h1).bind fun xs h2 => .ok (x :: xs) h2
/-- as a test -/
def evT (c : Cn) (ρ : Rho) : Tm → Hs → R Bool
  | .and a b, h => (evT c ρ a h).bind fun k h1 => iteR k (evT c ρ b h1) (.ok false h1)
  | .or a b, h => (evT c ρ a h).bind fun k h1 => iteR k (.ok true h1) (evT c ρ b h1)
  | .not a, h => (evT c ρ a h).bind fun k h1 => .ok (!k) h1
  | e, h => bindD (ev c ρ e h) fun x h1 => okB (truth h1 x) h1
/-- the tests of a comprehension -/
def evC (c : Cn) (ρ : Rho) : Tms → Hs → R Bool
  | .nil, h => .ok true h
  | .cons e _, h => evT c ρ e h
/-- what is walked -/
def evI (c : Cn) (ρ : Rho) : Tm → Hs → R Src
  | .rng1 a, h => bindD (ev c ρ a h) fun x h1 => rng1R x h1
  | .rng2 a b, h => bindD (ev c ρ a h) fun x h1 => bindD (ev c ρ b h1) fun y h2 => rng2R x y h2
  | e, h => bindD (ev c ρ e h) fun x h1 => okS (srcOf h1 x) h1
end
end Fr
namespace Fr
open PySem PySem.Spec PyProof.Rows L2
/-! ## statements -/
inductive RS where
  | nx (ρ : Rho) (h : Hs) | ret (r : Res) (h : Hs) | bk (ρ : Rho) (h : Hs) | ct (ρ : Rho) (h : Hs) | exc (c : Nat) (ρ : Rho) (h : Hs) | bad
mutual
inductive Sm where
  | asg (own : Bool) (g : G) (e : Tm) | asgs (os : List Bool) (is : List Nat) (es : Tms) | par (o1 o2 : Bool) (i j : Nat) (a b : Tm)
  | setix (o i e : Tm) | aug (b : Bop) (i : Nat) (e : Tm)
  | expr (e : Tm) | ret (e : Tm) | retN | pass | brk | cnt
  | ifs (t : Tm) (a b : Sms) | whl (t : Tm) (b : Sms) | for_ (g : G) (it : Tm) (b : Sms)
  | raise (c : Nat) | try_ (b : Sms) (c : Nat) (i : Option Nat) (s : Sms)
inductive Sms where | nil | cons (s : Sm) (ss : Sms)
end
def RS.seq (r : RS) (f : Rho → Hs → RS) : RS := match r with | .nx ρ h => f ρ h | x => x
/-- an expression's end in a statement: at the slots ρ -/
def toS {α : Type} (ρ : Rho) (r : R α) (f : α → Hs → RS) : RS := match r with | .ok x h => f x h | .exc c h => .exc c ρ h | .bad => .bad
def asgR (o : Option Rho) (h : Hs) : RS := match o with | some ρ => .nx ρ h | none => .bad
/-- o[i] = d -/
def setAt (o i d : D) (ρ : Rho) (h : Hs) : RS := match o, i with
  | .ref n, .int k => (match h[n]? with
    | some ds => (match ixN ds.length k with | some j => if d.und n = true then .nx ρ (h.set n (ds.set j d)) else .bad | none => .bad)
    | none => .bad)
  | _, _ => .bad
def iteS (k : Bool) (a b : RS) : RS := if k then a else b
def forI (body : Rho → Hs → RS) (g : G) (s : Src) : Nat → Nat → Rho → Hs → RS
  | 0, _, _, _ => .bad
  | k + 1, i, ρ, h => match srcAt s i h with
    | none => .bad
    | some none => .nx ρ h
    | some (some x) => match asg g x ρ with
      | none => .bad
      | some ρ1 => match body ρ1 h with
        | .nx ρ2 h2 => forI body g s k (i + 1) ρ2 h2
        | .ct ρ2 h2 => forI body g s k (i + 1) ρ2 h2
        | .bk ρ2 h2 => .nx ρ2 h2
        | r => r
def whlI (t : Rho → Hs → R Bool) (body : Rho → Hs → RS) : Nat → Rho → Hs → RS
  | 0, _, _ => .bad
  | k + 1, ρ, h => toS ρ (t ρ h) fun b h1 => match b with
    | false => .nx ρ h1
    | true => match body ρ h1 with
      | .nx ρ2 h2 => whlI t body k ρ2 h2
      | .ct ρ2 h2 => whlI t body k ρ2 h2
      | .bk ρ2 h2 => .nx ρ2 h2
      | r => r
/-- values from the left, some of them kept in the store -/
def evsO (c : Cn) (ρ : Rho) : List Bool → Tms → Hs → R (List D)
  | o :: os, .cons e es, h => bindO o (ev c ρ e h) fun x h1 => (evsO c ρ os es h1).bind fun xs h2 => .ok (x :: xs) h2
  | [], .nil, h => .ok [] h
  | _, _, _ => .bad
def gateS (b : Bool) (r : RS) : RS := if b then r else .bad
mutual
def ex (c : Cn) : Sm → Rho → Hs → RS
  | .asgs os is es, ρ, h => toS ρ (evsO c ρ os es h) fun ds h1 => gateS (decide (ds.length ≤ sizeLine)) (asgR (setR is ds ρ) h1)
  | .asg own g e, ρ, h => toS ρ (bindO own (ev c ρ e h) fun d h1 => .ok d h1) fun d h1 => asgR (asg g d ρ) h1
  | .par o1 o2 i j a b, ρ, h => toS ρ (bindO o1 (ev c ρ a h) fun x h1 => bindO o2 (ev c ρ b h1) fun y h2 => .ok (x, y) h2) fun p h2 => .nx ((ρ.set i (some p.1)).set j (some p.2)) h2
  | .setix o i e, ρ, h => toS ρ (bindD (ev c ρ e h) fun x h1 => bindD (ev c ρ o h1) fun y h2 => bindD (ev c ρ i h2) fun z h3 => .ok (y, z, x) h3) fun p h3 => setAt p.1 p.2.1 p.2.2 ρ h3
  | .aug b i e, ρ, h => match getS ρ i with
    | none => .bad
    | some x => toS ρ (bindD (ev c ρ e h) fun y h1 => bindD (c.bin b x y h1) fun z h2 => .ok z h2) fun z h2 => .nx (ρ.set i (some z)) h2
  | .expr e, ρ, h => toS ρ (bindD (ev c ρ e h) fun _ h1 => .ok () h1) fun _ h1 => .nx ρ h1
  | .ret e, ρ, h => toS ρ (ev c ρ e h) fun r h1 => .ret r h1
  | .retN, _, h => .ret (.val .non) h
  | .pass, ρ, h => .nx ρ h
  | .brk, ρ, h => .bk ρ h
  | .cnt, ρ, h => .ct ρ h
  | .ifs t a b, ρ, h => toS ρ (evT c ρ t h) fun k h1 => iteS k (exs c a ρ h1) (exs c b ρ h1)
  | .whl t b, ρ, h => whlI (fun ρ h => evT c ρ t h) (fun ρ h => exs c b ρ h) c.fuel ρ h
  | .for_ g it b, ρ, h => toS ρ (evI c ρ it h) fun s h1 => forI (fun ρ h => exs c b ρ h) g s (srcLen s h1 + 1) 0 ρ h1
  | .raise k, ρ, h => .exc k ρ h
  | .try_ .., _, _ => .bad
def exs (c : Cn) : Sms → Rho → Hs → RS
  | .nil, ρ, h => .nx ρ h
  | .cons s ss, ρ, h => (ex c s ρ h).seq fun ρ1 h1 => exs c ss ρ1 h1
end
/-- a def's end: the store is cut to what the caller knows -/
def fin (m : Nat) (r : RS) : R Res := match r with
  | .nx _ h => .ok (.val .non) (h.take m)
  | .ret (.new ds) h => if D.unds m ds = true then .ok (.new ds) (h.take m) else .bad
  | .ret (.val (.ref n)) h => if n < m then .ok (.val (.ref n)) (h.take m) else match h[n]? with
    | some ds => if D.unds m ds = true then .ok (.new ds) (h.take m) else .bad
    | none => .bad
  | .ret (.val d) h => if d.und m = true then .ok (.val d) (h.take m) else .bad
  | .exc c _ h => .exc c (h.take m)
  | .bk .. => .bad
  | .ct .. => .bad
  | .bad => .bad
end Fr
set_option Elab.async false
set_option linter.all false
set_option maxRecDepth 100000
set_option maxHeartbeats 4000000
namespace Fr
open PySem PySem.Spec PyProof.Rows L2
abbrev XW := Nat → Hp → Prop
/-- what an evaluation's end asks of the wishes -/
def PostR (K : PySem.W.Frag) (φ : List Addr) (H : Hp) (r : R Res) (Q : VK) (E : XW) : Prop := match r with
  | .ok (.val d) h' => ∀ φ' H' v, Ext φ H φ' H' → HRel K φ' H' h' → RelD K φ' H' d v → Q v H'
  | .ok (.new ds) h' => ∀ φ' H1 p xs, Ext φ H φ' H1 → HRel K φ' H1 h' → H1 p = none → RelDs K φ' H1 ds xs → Q (.ref p) (upd H1 p (.lst xs))
  | .exc c h' => ∀ φ' H', Ext φ H φ' H' → HRel K φ' H' h' → E c H'
  | .bad => False
/-- .. of a list of values -/
def PostL (K : PySem.W.Frag) (φ : List Addr) (H : Hp) (r : R (List D)) (Q : List V → Hp → Prop) (E : XW) : Prop := match r with
  | .ok ds h' => ∀ φ' H' vs, Ext φ H φ' H' → HRel K φ' H' h' → RelDs K φ' H' ds vs → Q vs H'
  | .exc c h' => ∀ φ' H', Ext φ H φ' H' → HRel K φ' H' h' → E c H'
  | .bad => False
def PostB (K : PySem.W.Frag) (φ : List Addr) (H : Hp) (r : R Bool) (Q : Bool → Hp → Prop) (E : XW) : Prop := match r with
  | .ok k h' => ∀ φ' H', Ext φ H φ' H' → HRel K φ' H' h' → Q k H'
  | .exc c h' => ∀ φ' H', Ext φ H φ' H' → HRel K φ' H' h' → E c H'
  | .bad => False
variable {K : PySem.W.Frag} {φ φ' φ1 φ2 : List Addr} {H H' H1 H2 : Hp} {h h' h1 : Hs} {d x y : D} {ds es : List D} {v u : V} {vs xs ys : List V} {a p : Addr} {n m : Nat} {ρ : Rho} {σ : L2.St} {Q : VK} {E : XW} {X : Cx}
theorem PostR.ext {r : R Res} (q : PostR K φ H r Q E) (x : Ext φ H φ1 H1) : PostR K φ1 H1 r Q E := by
  match r, q with
  | .ok (.val d) h', q => exact fun φ' H' v y hr rd => q φ' H' v (x.trans y) hr rd
  | .ok (.new ds) h', q => exact fun φ' H' p xs y hr np rd => q φ' H' p xs (x.trans y) hr np rd
  | .exc c h', q => exact fun φ' H' y hr => q φ' H' (x.trans y) hr
theorem PostL.ext {r : R (List D)} {Q : List V → Hp → Prop} (q : PostL K φ H r Q E) (x : Ext φ H φ1 H1) : PostL K φ1 H1 r Q E := by
  match r, q with
  | .ok d h', q => exact fun φ' H' v y hr rd => q φ' H' v (x.trans y) hr rd
  | .exc c h', q => exact fun φ' H' y hr => q φ' H' (x.trans y) hr
theorem PostB.ext {r : R Bool} {Q : Bool → Hp → Prop} (q : PostB K φ H r Q E) (x : Ext φ H φ1 H1) : PostB K φ1 H1 r Q E := by
  match r, q with
  | .ok d h', q => exact fun φ' H' y hr => q φ' H' (x.trans y) hr
  | .exc c h', q => exact fun φ' H' y hr => q φ' H' (x.trans y) hr
/-- the new list as a value -/
theorem rel_new (hr : HRel K φ H h) (np : H p = none) (rs : RelDs K φ H ds xs) : RelD K φ (upd H p (.lst xs)) (.lst ds) (.ref p) :=
  .lst upd_same (fun z => by
    obtain ⟨ys, e⟩ := hr.inH z
    rw [np] at e
    cases e) ((Ext.new np).rels rs)
/-- one after another: a value, then what f asks -/
theorem seqR {α : Type} {m : R Res} {f : D → Hs → R α} {P : R α → List Addr → Hp → Prop} {Q' : VK}
    (hE : ∀ c h', m = .exc c h' → P (.exc c h') φ H → ∀ φ' H', Ext φ H φ' H' → HRel K φ' H' h' → E c H')
    (hb : ¬ P .bad φ H)
    (q : P (bindD m f) φ H)
    (k : ∀ d h1 φ1 H1 v, P (f d h1) φ H → Ext φ H φ1 H1 → HRel K φ1 H1 h1 → RelD K φ1 H1 d v → Q' v H1) : PostR K φ H m Q' E := by
  match m, q with
  | .ok (.val d) h1, q => exact fun φ1 H1 v x hr rd => k d h1 φ1 H1 v q x hr rd
  | .ok (.new ds) h1, q => exact fun φ1 H1 p xs x hr np rd => k (.lst ds) h1 φ1 _ _ q (x.trans (Ext.new np)) (hr.new np) (rel_new hr np rd)
  | .exc c h1, q => exact fun φ1 H1 x hr => hE c h1 rfl q φ1 H1 x hr
  | .bad, q => exact absurd q hb
theorem seqRR {m : R Res} {f : D → Hs → R Res} {Q' : VK} (q : PostR K φ H (bindD m f) Q E)
    (k : ∀ d h1 φ1 H1 v, PostR K φ1 H1 (f d h1) Q E → Ext φ H φ1 H1 → HRel K φ1 H1 h1 → RelD K φ1 H1 d v → Q' v H1) : PostR K φ H m Q' E :=
  seqR (P := fun r φ H => PostR K φ H r Q E) (fun c h' _ q => q) (fun z => z) q fun d h1 φ1 H1 v q x => k d h1 φ1 H1 v (q.ext x) x
theorem seqRL {m : R Res} {f : D → Hs → R (List D)} {Q : List V → Hp → Prop} {Q' : VK} (q : PostL K φ H (bindD m f) Q E)
    (k : ∀ d h1 φ1 H1 v, PostL K φ1 H1 (f d h1) Q E → Ext φ H φ1 H1 → HRel K φ1 H1 h1 → RelD K φ1 H1 d v → Q' v H1) : PostR K φ H m Q' E :=
  seqR (P := fun r φ H => PostL K φ H r Q E) (fun c h' _ q => q) (fun z => z) q fun d h1 φ1 H1 v q x => k d h1 φ1 H1 v (q.ext x) x
theorem seqRB {m : R Res} {f : D → Hs → R Bool} {Q : Bool → Hp → Prop} {Q' : VK} (q : PostB K φ H (bindD m f) Q E)
    (k : ∀ d h1 φ1 H1 v, PostB K φ1 H1 (f d h1) Q E → Ext φ H φ1 H1 → HRel K φ1 H1 h1 → RelD K φ1 H1 d v → Q' v H1) : PostR K φ H m Q' E :=
  seqR (P := fun r φ H => PostB K φ H r Q E) (fun c h' _ q => q) (fun z => z) q fun d h1 φ1 H1 v q x => k d h1 φ1 H1 v (q.ext x) x
theorem seqLR {m : R (List D)} {f : List D → Hs → R Res} {Q' : List V → Hp → Prop} (q : PostR K φ H (m.bind f) Q E)
    (k : ∀ ds h1 φ1 H1 vs, PostR K φ1 H1 (f ds h1) Q E → Ext φ H φ1 H1 → HRel K φ1 H1 h1 → RelDs K φ1 H1 ds vs → Q' vs H1) : PostL K φ H m Q' E := by
  match m, q with
  | .ok d h1, q => exact fun φ1 H1 v x hr rd => k d h1 φ1 H1 v (PostR.ext q x) x hr rd
  | .exc c h1, q => exact fun φ1 H1 x hr => q φ1 H1 x hr
  | .bad, q => exact absurd q (fun z => z)
theorem seqLL {m : R (List D)} {f : List D → Hs → R (List D)} {Q Q' : List V → Hp → Prop} (q : PostL K φ H (m.bind f) Q E)
    (k : ∀ ds h1 φ1 H1 vs, PostL K φ1 H1 (f ds h1) Q E → Ext φ H φ1 H1 → HRel K φ1 H1 h1 → RelDs K φ1 H1 ds vs → Q' vs H1) : PostL K φ H m Q' E := by
  match m, q with
  | .ok d h1, q => exact fun φ1 H1 v x hr rd => k d h1 φ1 H1 v (PostL.ext q x) x hr rd
  | .exc c h1, q => exact fun φ1 H1 x hr => q φ1 H1 x hr
  | .bad, q => exact absurd q (fun z => z)
theorem seqBR {m : R Bool} {f : Bool → Hs → R Res} {Q' : Bool → Hp → Prop} (q : PostR K φ H (m.bind f) Q E)
    (k : ∀ b h1 φ1 H1, PostR K φ1 H1 (f b h1) Q E → Ext φ H φ1 H1 → HRel K φ1 H1 h1 → Q' b H1) : PostB K φ H m Q' E := by
  match m, q with
  | .ok d h1, q => exact fun φ1 H1 x hr => k d h1 φ1 H1 (PostR.ext q x) x hr
  | .exc c h1, q => exact fun φ1 H1 x hr => q φ1 H1 x hr
  | .bad, q => exact absurd q (fun z => z)
theorem seqBB {m : R Bool} {f : Bool → Hs → R Bool} {Q Q' : Bool → Hp → Prop} (q : PostB K φ H (m.bind f) Q E)
    (k : ∀ b h1 φ1 H1, PostB K φ1 H1 (f b h1) Q E → Ext φ H φ1 H1 → HRel K φ1 H1 h1 → Q' b H1) : PostB K φ H m Q' E := by
  match m, q with
  | .ok d h1, q => exact fun φ1 H1 x hr => k d h1 φ1 H1 (PostB.ext q x) x hr
  | .exc c h1, q => exact fun φ1 H1 x hr => q φ1 H1 x hr
  | .bad, q => exact absurd q (fun z => z)
/-! ## the readings -/
def T (c : Cn) (K : PySem.W.Frag) (W : WX) (e : Tm) : TE := fun σ H Q => ∃ φ ρ h, HRel K φ H h ∧ RelS K φ H ρ σ ∧ PostR K φ H (ev c ρ e h) Q fun x H' => W (.ref (c.cA x)) none σ H'
def Ts (c : Cn) (K : PySem.W.Frag) (W : WX) (es : Tms) : TA := fun σ H Q => ∃ φ ρ h, HRel K φ H h ∧ RelS K φ H ρ σ ∧ PostL K φ H (evs c ρ es h) Q fun x H' => W (.ref (c.cA x)) none σ H'
def Tt (c : Cn) (K : PySem.W.Frag) (W : WX) (e : Tm) : TT := fun σ H Q => ∃ φ ρ h, HRel K φ H h ∧ RelS K φ H ρ σ ∧ PostB K φ H (evT c ρ e h) Q fun x H' => W (.ref (c.cA x)) none σ H'
theorem _root_.L2.PE.imp {e : Expr} {t t' : TE} (h : PE X e t) (i : ∀ σ H Q, t' σ H Q → t σ H Q) : PE X e t' := ⟨fun pins s σ H Q I q => h.run pins s σ H Q I (i σ H Q q)⟩
theorem _root_.L2.PA.imp {e : List Expr} {t t' : TA} (h : PA X e t) (i : ∀ σ H Q, t' σ H Q → t σ H Q) : PA X e t' := ⟨fun pos pins s σ H Q I q => h.run pos pins s σ H Q I (i σ H Q q)⟩
theorem _root_.L2.PT.imp {e : Expr} {t t' : TT} (h : PT X e t) (i : ∀ σ H Q, t' σ H Q → t σ H Q) : PT X e t' := ⟨fun pins s σ H Q I q => h.run pins s σ H Q I (i σ H Q q)⟩
theorem _root_.L2.PW.imp {e : Expr} {t t' : TT} (h : PW X e t) (i : ∀ σ H Q, t' σ H Q → t σ H Q) : PW X e t' := ⟨fun wh pins s σ H Q I q => h.run wh pins s σ H Q I (i σ H Q q)⟩
theorem _root_.L2.PS.imp {e : Stmt} {t t' : TS} (h : PS X e t) (i : ∀ D σ H, t' D σ H → t D σ H) : PS X e t' := ⟨fun pins s σ H D I q => h.run pins s σ H D I (i D σ H q)⟩
theorem _root_.L2.PSs.imp {e : List Stmt} {t t' : TS} (h : PSs X e t) (i : ∀ D σ H, t' D σ H → t D σ H) : PSs X e t' := ⟨fun pins s σ H D I q => h.run pins s σ H D I (i D σ H q)⟩
variable {c : Cn} {W : WX} {ie ia ib ic : Tm} {ies : Tms} {a b e : Expr} {pos : Pos}
/-! ## names, constants -/
theorem e_slot (i : Nat) {x : Str} (h : PE X (.Name x pos) (tVar i)) : PE X (.Name x pos) (T c X.K W (.slot i)) := h.imp fun σ H Q ⟨φ, ρ, h, hr, hs, q⟩ => by
  simp only [ev, getS] at q
  cases e : ρ[i]? with
  | none =>
    rw [e] at q
    exact False.elim q
  | some o =>
    rw [e] at q
    cases o with
    | none => exact False.elim q
    | some d =>
      obtain ⟨v, e1, r⟩ := hs.slot i d e
      exact ⟨v, e1, q φ H v (Ext.refl _ _) hr r⟩
theorem e_con {d : D} {v : V} (h : PE X e (tC v)) (hd : ∀ φ H, RelD X.K φ H d v) : PE X e (T c X.K W (.con d)) := h.imp fun σ H Q ⟨φ, ρ, h, hr, hs, q⟩ => by
  simp only [ev] at q
  exact q φ H v (Ext.refl _ _) hr (hd φ H)
theorem e_int {i : Int} {j : Nat} : PE X (.Constant (.int i) j pos) (T c X.K W (.con (.int i))) := e_con pe_int fun _ _ => .int i
theorem e_bl {i : Bool} {j : Nat} : PE X (.Constant (.bool i) j pos) (T c X.K W (.con (.bl i))) := e_con pe_bl fun _ _ => .bl i
theorem e_non {j : Nat} : PE X (.Constant .none j pos) (T c X.K W (.con .non)) := e_con pe_non fun _ _ => .non
theorem e_str {x : Str} {j : Nat} : PE X (.Constant (.str x) j pos) (T c X.K W (.con (.str x))) := e_con pe_str fun _ _ => .str x
/-! ## lists of expressions -/
theorem l_nil : PA X [] (Ts c X.K W .nil) := pa_nil.imp fun σ H Q ⟨φ, ρ, h, hr, hs, q⟩ => by
  simp only [evs] at q
  exact q φ H [] (Ext.refl _ _) hr .nil
theorem l_cons {es : List Expr} (ha : PE X e (T c X.K W ie)) (hr : PA X es (Ts c X.K W ies)) (hs : starEach (e :: es) X.env = (false, eval e X.env) :: starEach es X.env := by rfl) : PA X (e :: es) (Ts c X.K W (.cons ie ies)) :=
  (pa_cons ha hr hs).imp fun σ H Q ⟨φ, ρ, h, hr, hs, q⟩ => by
    simp only [evs] at q
    refine ⟨φ, ρ, h, hr, hs, seqRL q fun x h1 φ1 H1 v q x1 hr1 rd => ?_⟩
    refine ⟨φ1, ρ, h1, hr1, x1.relS hs, seqLL q fun xs h2 φ2 H2 vs q x2 hr2 rds => ?_⟩
    exact q φ2 H2 (v :: vs) (Ext.refl _ _) hr2 (.cons (x2.rel rd) rds)
theorem e_tup {es : List Expr} {j : Nat} (ha : PA X es (Ts c X.K W ies)) : PE X (.Tuple es j pos) (T c X.K W (.tup ies)) := (pe_tup ha).imp fun σ H Q ⟨φ, ρ, h, hr, hs, q⟩ => by
  simp only [ev] at q
  refine ⟨φ, ρ, h, hr, hs, seqLR q fun xs h1 φ1 H1 vs q x1 hr1 rds => ?_⟩
  simp only [tupR, lstR] at q
  split at q
  · rename_i hl
    refine ⟨by rw [← rds.length]; exact hl, fun p np => ?_⟩
    exact q φ1 _ _ (Ext.new np) (hr1.new np) (.tup (.inl (.inl upd_same)) ((Ext.new np).rels rds))
  · exact False.elim q
theorem e_lst {es : List Expr} (ha : PA X es (Ts c X.K W ies)) : PE X (.List es pos) (T c X.K W (.lst ies)) := (pe_lst ha).imp fun σ H Q ⟨φ, ρ, h, hr, hs, q⟩ => by
  simp only [ev] at q
  refine ⟨φ, ρ, h, hr, hs, seqLR q fun xs h1 φ1 H1 vs q x1 hr1 rds => ?_⟩
  simp only [tupR, lstR] at q
  split at q
  · rename_i hl
    have hl' : vs.length ≤ sizeLine := by rw [← rds.length]; exact hl
    refine ⟨hl', fun p np => ?_⟩
    exact q φ1 H1 p vs (Ext.refl _ _) hr1 np rds
  · exact False.elim q
/-! ## operators, by values -/
/-- what an operator of two values asks -/
def R2of (K : PySem.W.Frag) (f : D → D → Hs → R Res) : R2 := fun v u H Q => ∃ φ h x y, HRel K φ H h ∧ RelD K φ H x v ∧ RelD K φ H y u ∧ PostR K φ H (f x y h) Q fun _ _ => False
def RLof (K : PySem.W.Frag) (f : List D → Hs → R Res) : List V → Hp → VK → Prop := fun vs H Q => ∃ φ h ds, HRel K φ H h ∧ RelDs K φ H ds vs ∧ PostR K φ H (f ds h) Q fun _ _ => False
def RMof (K : PySem.W.Frag) (f : D → List D → Hs → R Res) : V → List V → Hp → VK → Prop := fun v vs H Q => ∃ φ h x ds, HRel K φ H h ∧ RelD K φ H x v ∧ RelDs K φ H ds vs ∧ PostR K φ H (f x ds h) Q fun _ _ => False
/-- f lets no exception out -/
def Calm (r : R Res) : Prop := ∀ c h, r ≠ .exc c h
theorem PostR.calm {r : R Res} (hc : Calm r) (q : PostR K φ H r Q E) {E' : XW} : PostR K φ H r Q E' := by
  match r, q with
  | .ok (.val d) h', q => exact q
  | .ok (.new ds) h', q => exact q
  | .exc c h', q => exact absurd rfl (hc c h')
structure BinOk (X : Cx) (f : D → D → Hs → R Res) (op : Operator) : Prop where
  rule : OpR X (binaryOp op) (R2of X.K f)
  calm : ∀ x y h, Calm (f x y h)
theorem e_bin {o : Bop} {op : Operator} (ho : BinOk X (c.bin o) op) (ha : PE X a (T c X.K W ia)) (hb : PE X b (T c X.K W ib)) : PE X (.BinOp a op b pos) (T c X.K W (.bin o ia ib)) :=
  (pe_op ho.rule ha hb).imp fun σ H Q ⟨φ, ρ, h, hr, hs, q⟩ => by
    simp only [ev] at q
    refine ⟨φ, ρ, h, hr, hs, seqRR q fun x h1 φ1 H1 v q x1 hr1 rd => ?_⟩
    refine ⟨φ1, ρ, h1, hr1, x1.relS hs, seqRR q fun y h2 φ2 H2 u q x2 hr2 rd2 => ?_⟩
    exact ⟨φ2, h2, x, y, hr2, x2.rel rd, rd2, q.calm (ho.calm x y h2)⟩
structure CmpOk (X : Cx) (f : D → D → Hs → R Res) (op : CmpOp) : Prop where
  rule : OpR X (compareOp op) (R2of X.K f)
  calm : ∀ x y h, Calm (f x y h)
theorem e_cmp {o : Cop} {op : CmpOp} (ho : CmpOk X (c.cmp o) op) (ha : PE X a (T c X.K W ia)) (hb : PE X b (T c X.K W ib)) (hm : behindInMarks op b = false) : PE X (.Compare a [op] [b] pos) (T c X.K W (.cmp o ia ib)) :=
  (pe_cmpR ho.rule ha hb hm).imp fun σ H Q ⟨φ, ρ, h, hr, hs, q⟩ => by
    simp only [ev] at q
    refine ⟨φ, ρ, h, hr, hs, seqRR q fun x h1 φ1 H1 v q x1 hr1 rd => ?_⟩
    refine ⟨φ1, ρ, h1, hr1, x1.relS hs, seqRR q fun y h2 φ2 H2 u q x2 hr2 rd2 => ?_⟩
    exact ⟨φ2, h2, x, y, hr2, x2.rel rd, rd2, q.calm (ho.calm x y h2)⟩
theorem e_neg (ha : PE X a (T c X.K W ia)) : PE X (.UnaryOp .USub a pos) (T c X.K W (.neg ia)) := (pe_un un_neg ha).imp fun σ H Q ⟨φ, ρ, h, hr, hs, q⟩ => by
  simp only [ev] at q
  refine ⟨φ, ρ, h, hr, hs, seqRR q fun x h1 φ1 H1 v q x1 hr1 rd => ?_⟩
  cases rd with
  | int i => exact ⟨i, rfl, q φ1 H1 _ (Ext.refl _ _) hr1 (.int _)⟩
  | _ => exact False.elim q
/-! ## tests -/
theorem truth_ok {k : Bool} (hr : HRel K φ H h) (rd : RelD K φ H x v) (e : truth h x = some k) : TruV K v H k := by
  cases rd with
  | non => simpa [truth, TruV] using e.symm
  | bl b => simpa [truth, TruV] using e.symm
  | int i => simpa [truth, TruV] using e.symm
  | tup s r =>
    refine .inr (.inl ⟨_, s, ?_⟩)
    have e' : (!_) = k := Option.some.inj e
    rw [← e']
    cases r <;> rfl
  | lst s na r =>
    refine .inl ⟨_, .inl (.inl s), ?_⟩
    have e' : (!_) = k := Option.some.inj e
    rw [← e']
    cases r <;> rfl
  | rol s r =>
    refine .inl ⟨_, s.sq, ?_⟩
    have e' : (!_) = k := Option.some.inj e
    rw [← e']
    cases r <;> rfl
  | ref en =>
    rename_i n a
    have e1 : (h[n]?).map (fun ds => !ds.isEmpty) = some k := e
    cases q : h[n]? with
    | none =>
      rw [q] at e1
      cases e1
    | some ds =>
      rw [q] at e1
      obtain ⟨xs, e2, r, _⟩ := hr.at_ q en
      refine .inl ⟨xs, .inl (.inl e2), ?_⟩
      have e' : (!_) = k := Option.some.inj e1
      rw [← e']
      cases r <;> rfl
  | _ => cases e
/-- any expression but and, or, not, as a test -/
def plainT : Tm → Bool
  | .and _ _ => false
  | .or _ _ => false
  | .not _ => false
  | _ => true
theorem evT_plain (hp : plainT ie = true) (h : Hs) : evT c ρ ie h = bindD (ev c ρ ie h) fun x h1 => okB (truth h1 x) h1 := by
  cases ie <;> first | (cases hp; done) | (simp only [evT]; done)
theorem t_val (ha : PE X a (T c X.K W ia)) (hp : plainT ia = true := by rfl) (he : ∀ whole, isTrue a X.env whole = (do let v ← whole; standAt a.pos; holding [v] (truthy v)) := by intro _; rfl) : PT X a (Tt c X.K W ia) :=
  (pt_truth ha he).imp fun σ H Q ⟨φ, ρ, h, hr, hs, q⟩ => by
    rw [evT_plain hp] at q
    refine ⟨φ, ρ, h, hr, hs, seqRB q fun x h1 φ1 H1 v q x1 hr1 rd => ?_⟩
    cases e : truth h1 x with
    | none =>
      rw [e] at q
      exact False.elim q
    | some k =>
      rw [e] at q
      exact ⟨k, truth_ok hr1 rd e, q φ1 H1 (Ext.refl _ _) hr1⟩
theorem w_and1 (ha : PT X a (Tt c X.K W ia)) : PW X (.BoolOp .And [a] pos) (Tt c X.K W ia) := pw_and1 ha
theorem w_or1 (ha : PT X a (Tt c X.K W ia)) : PW X (.BoolOp .Or [a] pos) (Tt c X.K W ia) := pw_or1 ha
theorem w_and {rest : List Expr} (ha : PT X a (Tt c X.K W ia)) (hb : PW X (.BoolOp .And (b :: rest) pos) (Tt c X.K W ib)) : PW X (.BoolOp .And (a :: b :: rest) pos) (Tt c X.K W (.and ia ib)) :=
  (pw_and ha hb).imp fun σ H Q ⟨φ, ρ, h, hr, hs, q⟩ => by
    simp only [evT] at q
    refine ⟨φ, ρ, h, hr, hs, seqBB q fun k h1 φ1 H1 q x1 hr1 => ?_⟩
    cases k with
    | true => exact ⟨φ1, ρ, h1, hr1, x1.relS hs, q⟩
    | false => exact q φ1 H1 (Ext.refl _ _) hr1
theorem w_or {rest : List Expr} (ha : PT X a (Tt c X.K W ia)) (hb : PW X (.BoolOp .Or (b :: rest) pos) (Tt c X.K W ib)) : PW X (.BoolOp .Or (a :: b :: rest) pos) (Tt c X.K W (.or ia ib)) :=
  (pw_or ha hb).imp fun σ H Q ⟨φ, ρ, h, hr, hs, q⟩ => by
    simp only [evT] at q
    refine ⟨φ, ρ, h, hr, hs, seqBB q fun k h1 φ1 H1 q x1 hr1 => ?_⟩
    cases k with
    | false => exact ⟨φ1, ρ, h1, hr1, x1.relS hs, q⟩
    | true => exact q φ1 H1 (Ext.refl _ _) hr1
theorem t_not (ha : PT X a (Tt c X.K W ia)) : PT X (.UnaryOp .Not a pos) (Tt c X.K W (.not ia)) := (pt_not ha).imp fun σ H Q ⟨φ, ρ, h, hr, hs, q⟩ => by
  simp only [evT] at q
  refine ⟨φ, ρ, h, hr, hs, seqBB q fun k h1 φ1 H1 q x1 hr1 => ?_⟩
  exact q φ1 H1 (Ext.refl _ _) hr1
/-! ## and, or, not, if as values -/
theorem e_and {rest : List Expr} (ha : PE X a (T c X.K W ia)) (hb : PE X (.BoolOp .And (b :: rest) pos) (T c X.K W ib)) : PE X (.BoolOp .And (a :: b :: rest) pos) (T c X.K W (.and ia ib)) :=
  (pe_andT ha hb).imp fun σ H Q ⟨φ, ρ, h, hr, hs, q⟩ => by
    simp only [ev] at q
    refine ⟨φ, ρ, h, hr, hs, seqRR q fun x h1 φ1 H1 v q x1 hr1 rd => ?_⟩
    cases e : truth h1 x with
    | none =>
      rw [e] at q
      exact False.elim q
    | some k =>
      rw [e] at q
      refine ⟨k, truth_ok hr1 rd e, ?_⟩
      cases k with
      | true => exact ⟨φ1, ρ, h1, hr1, x1.relS hs, q⟩
      | false => exact q φ1 H1 v (Ext.refl _ _) hr1 rd
theorem e_or {rest : List Expr} (ha : PE X a (T c X.K W ia)) (hb : PE X (.BoolOp .Or (b :: rest) pos) (T c X.K W ib)) : PE X (.BoolOp .Or (a :: b :: rest) pos) (T c X.K W (.or ia ib)) :=
  (pe_orT ha hb).imp fun σ H Q ⟨φ, ρ, h, hr, hs, q⟩ => by
    simp only [ev] at q
    refine ⟨φ, ρ, h, hr, hs, seqRR q fun x h1 φ1 H1 v q x1 hr1 rd => ?_⟩
    cases e : truth h1 x with
    | none =>
      rw [e] at q
      exact False.elim q
    | some k =>
      rw [e] at q
      refine ⟨k, truth_ok hr1 rd e, ?_⟩
      cases k with
      | false => exact ⟨φ1, ρ, h1, hr1, x1.relS hs, q⟩
      | true => exact q φ1 H1 v (Ext.refl _ _) hr1 rd
theorem e_one {op : BoolOp} (ha : PE X a (T c X.K W ia)) : PE X (.BoolOp op [a] pos) (T c X.K W ia) := pe_one ha
theorem e_ife {t : Expr} {it : Tm} (ht : PT X t (Tt c X.K W it)) (ha : PE X a (T c X.K W ia)) (hb : PE X b (T c X.K W ib)) : PE X (.IfExp t a b pos) (T c X.K W (.ife it ia ib)) :=
  (pe_ifExp ht ha hb).imp fun σ H Q ⟨φ, ρ, h, hr, hs, q⟩ => by
    simp only [ev] at q
    refine ⟨φ, ρ, h, hr, hs, seqBR q fun k h1 φ1 H1 q x1 hr1 => ?_⟩
    cases k with
    | true => exact ⟨φ1, ρ, h1, hr1, x1.relS hs, q⟩
    | false => exact ⟨φ1, ρ, h1, hr1, x1.relS hs, q⟩
end Fr
set_option Elab.async false
set_option linter.all false
set_option maxRecDepth 100000
set_option maxHeartbeats 4000000
namespace Fr
open PySem PySem.Spec PyProof.Rows L2
variable {K : PySem.W.Frag} {φ φ' φ1 φ2 : List Addr} {H H' H1 H2 : Hp} {h h' h1 : Hs} {d x y : D} {ds es : List D} {v u : V} {vs xs ys : List V} {p : Addr} {n m : Nat} {ρ : Rho} {σ : L2.St} {Q : VK} {E : XW} {X : Cx}
variable {c : Cn} {W : WX} {ie ia ib ic : Tm} {ies jes : Tms} {a b e : Expr} {pos : Pos}
/-! ## sequences -/
theorem seq_ok (hr : HRel K φ H h) (rd : RelD K φ H x v) (e : seqOf h x = some ds) : ∃ a xs, v = .ref a ∧ (SqL K H a xs ∨ SqT K H a xs) ∧ RelDs K φ H ds xs := by
  cases rd with
  | tup s r =>
    cases e
    exact ⟨_, _, rfl, .inr s, r⟩
  | lst s na r =>
    cases e
    exact ⟨_, _, rfl, .inl (.inl (.inl s)), r⟩
  | rol s r =>
    cases e
    exact ⟨_, _, rfl, .inl s.sq, r⟩
  | ref en =>
    obtain ⟨xs, e2, r, _⟩ := hr.at_ (show h[_]? = some ds from e) en
    exact ⟨_, xs, rfl, .inl (.inl (.inl e2)), r⟩
  | _ => cases e
theorem RelDs.atI {i : Int} (r : RelDs K φ H ds xs) (e : atI ds i = some d) : ∃ v, L2.atI xs i = some v ∧ RelD K φ H d v := by
  unfold L2.atI at e ⊢
  rw [← r.length]
  cases q : ixN ds.length i with
  | none =>
    rw [q] at e
    cases e
  | some j =>
    rw [q] at e
    exact r.get e
theorem e_ix (ha : PE X a (T c X.K W ia)) (hb : PE X b (T c X.K W ib)) (hs : PlainIx b := by intro _ _; rfl) : PE X (.Subscript a b pos) (T c X.K W (.ix ia ib)) :=
  (pe_ix (ix_list.or ix_tup) ha hb hs).imp fun σ H Q ⟨φ, ρ, h, hr, hs, q⟩ => by
    simp only [ev] at q
    refine ⟨φ, ρ, h, hr, hs, seqRR q fun x h1 φ1 H1 v q x1 hr1 rd => ?_⟩
    refine ⟨φ1, ρ, h1, hr1, x1.relS hs, seqRR q fun y h2 φ2 H2 u q x2 hr2 rd2 => ?_⟩
    cases e1 : seqOf h2 x with
    | none =>
      rw [e1] at q
      exact False.elim q
    | some ds =>
      rw [e1] at q
      obtain ⟨a, xs, rfl, s, rs⟩ := seq_ok hr2 (x2.rel rd) e1
      cases rd2 with
      | int i =>
        cases e2 : atI ds i with
        | none =>
          simp only [ixR, atD, e2] at q
          exact False.elim q
        | some d =>
          simp only [ixR, atD, e2, okD] at q
          obtain ⟨w, e3, rw⟩ := rs.atI e2
          have qq := q φ2 H2 w (Ext.refl _ _) hr2 rw
          rcases s with s | s
          · exact .inl ⟨a, xs, i, w, rfl, rfl, s, e3, qq⟩
          · exact .inr ⟨a, xs, i, w, rfl, rfl, s, e3, qq⟩
      | _ => exact False.elim q
/-! ## slices -/
def PostO (K : PySem.W.Frag) (φ : List Addr) (H : Hp) (r : R (List D)) (Q : Option Int → Hp → Prop) (E : XW) : Prop := match r with
  | .ok ds h' => ∃ lo, partD ds = some lo ∧ ∀ φ' H', Ext φ H φ' H' → HRel K φ' H' h' → Q lo H'
  | .exc c h' => ∀ φ' H', Ext φ H φ' H' → HRel K φ' H' h' → E c H'
  | .bad => False
def To (c : Cn) (K : PySem.W.Frag) (W : WX) (es : Tms) : TO := fun σ H Q => ∃ φ ρ h, HRel K φ H h ∧ RelS K φ H ρ σ ∧ PostO K φ H (evs c ρ es h) Q fun x H' => W (.ref (c.cA x)) none σ H'
theorem _root_.L2.PO.imp {e : Option Expr} {t t' : TO} (h : PO X e t) (i : ∀ σ H Q, t' σ H Q → t σ H Q) : PO X e t' := ⟨fun pins s σ H Q I q => h.run pins s σ H Q I (i σ H Q q)⟩
theorem o_none : PO X none (To c X.K W .nil) := po_none.imp fun σ H Q ⟨φ, ρ, h, hr, hs, q⟩ => by
  simp only [evs] at q
  obtain ⟨lo, e, q⟩ := q
  cases e
  exact q φ H (Ext.refl _ _) hr
theorem o_some (ha : PE X a (T c X.K W ia)) : PO X (some a) (To c X.K W (.cons ia .nil)) := (po_some ha).imp fun σ H Q ⟨φ, ρ, h, hr, hs, q⟩ => by
  simp only [evs] at q
  refine ⟨φ, ρ, h, hr, hs, seqR (P := fun r φ H => PostO X.K φ H r Q fun x H' => W (.ref (c.cA x)) none σ H') (fun c h' _ q => q) (fun z => z) q fun d h1 φ1 H1 v q x1 hr1 rd => ?_⟩
  obtain ⟨lo, e, q⟩ := (q : ∃ lo, partD [d] = some lo ∧ _)
  cases rd with
  | int i =>
    cases e
    exact ⟨i, rfl, q φ1 H1 x1 hr1⟩
  | _ => cases e
theorem cutD_rel (r : RelDs K φ H ds xs) (lo hi : Option Int) : RelDs K φ H (cutD ds lo hi) (cutV xs lo hi) := by
  unfold cutD cutV
  rw [← r.length]
  exact (r.drop _).take _
theorem cutD_len (xs : List D) (lo hi : Option Int) : (cutD xs lo hi).length ≤ xs.length := by
  unfold cutD
  rw [List.length_take, List.length_drop]
  omega
theorem sIx_le' (n d : Nat) (hd : d ≤ n) (o : Option Int) : HT.sIx n d o ≤ n := HT.sIx_le n d hd o
theorem cutD_whole (ds : List D) (lo hi : Option Int) (hw : HT.sIx ds.length 0 lo = 0 ∧ HT.sIx ds.length ds.length hi = ds.length) : cutD ds lo hi = ds := by
  unfold cutD
  rw [hw.1, hw.2]
  simp
theorem e_sl {lo hi : Option Expr} {p2 : Pos} (ha : PE X a (T c X.K W ia)) (hl : PO X lo (To c X.K W ies)) (hu : PO X hi (To c X.K W jes)) : PE X (.Subscript a (.Slice lo hi none p2) pos) (T c X.K W (.sl ia ies jes)) :=
  (pe_slice (sl_list.or sl_tupA) ha hl hu).imp fun σ H Q ⟨φ, ρ, h, hr, hs, q⟩ => by
    simp only [ev] at q
    refine ⟨φ, ρ, h, hr, hs, seqRR q fun x h1 φ1 H1 v q x1 hr1 rd => ?_⟩
    refine ⟨φ1, ρ, h1, hr1, x1.relS hs, ?_⟩
    cases e1 : evs c ρ ies h1 with
    | bad =>
      rw [e1] at q
      exact False.elim q
    | exc k h2 =>
      rw [e1] at q
      exact q
    | ok l h2 =>
      rw [e1] at q
      cases e2 : partD l with
      | none =>
        simp only [R.bind, optR, e2] at q
        exact False.elim q
      | some l0 =>
        simp only [R.bind, optR, e2] at q
        refine ⟨l0, e2, fun φ2 H2 x2 hr2 => ?_⟩
        refine ⟨φ2, ρ, h2, hr2, (x1.trans x2).relS hs, ?_⟩
        cases e3 : evs c ρ jes h2 with
        | bad =>
          rw [e3] at q
          exact False.elim q
        | exc k h3 =>
          rw [e3] at q
          exact fun φ3 H3 x3 hr3 => q φ3 H3 (x2.trans x3) hr3
        | ok us h3 =>
          rw [e3] at q
          cases e4 : partD us with
          | none =>
            simp only [e4] at q
            exact False.elim q
          | some u0 =>
            simp only [e4] at q
            refine ⟨u0, e4, fun φ3 H3 x3 hr3 => ?_⟩
            have x23 := x2.trans x3
            cases rd with
            | tup s r =>
              refine .inr ⟨_, _, rfl, x23.sqT s, fun hw => ?_, fun hw p np => ?_⟩
              · refine q φ3 H3 _ x23 hr3 ?_
                rw [cutD_whole _ _ _ (by rw [r.length]; exact hw)]
                exact .tup (x23.sqT s) (x23.rels r)
              · exact q φ3 _ _ (x23.trans (Ext.new np)) (hr3.new np) (.tup (.inl (.inl upd_same)) ((Ext.new np).rels (cutD_rel (x23.rels r) _ _)))
            | lst s na r =>
              refine .inl ⟨_, _, rfl, .inl (.inl (x23.keep _ _ (.inl na) s)), fun p np => ?_⟩
              exact q φ3 H3 p _ x23 hr3 np (cutD_rel (x23.rels r) _ _)
            | rol s r =>
              refine .inl ⟨_, _, rfl, (x23.ro s).sq, fun p np => ?_⟩
              exact q φ3 H3 p _ x23 hr3 np (cutD_rel (x23.rels r) _ _)
            | ref en =>
              simp only [cutAt] at q
              split at q
              · rename_i ds0 e5
                obtain ⟨ys, e6, rs, _⟩ := hr3.at_ e5 (x23.ix en)
                refine .inl ⟨_, _, rfl, .inl (.inl e6), fun p np => ?_⟩
                exact q φ3 H3 p _ x23 hr3 np (cutD_rel rs _ _)
              · exact False.elim q
            | _ => exact False.elim q
end Fr
set_option Elab.async false
set_option linter.all false
set_option maxRecDepth 100000
set_option maxHeartbeats 4000000
namespace Fr
open PySem PySem.Spec PyProof.Rows L2
variable {K : PySem.W.Frag} {φ φ' φ1 φ2 : List Addr} {H H' H1 H2 : Hp} {h h' h1 : Hs} {d x y : D} {ds es : List D} {v u : V} {vs xs ys : List V} {p : Addr} {n m : Nat} {ρ : Rho} {σ : L2.St} {Q : VK} {E : XW} {X : Cx}
variable {c : Cn} {W : WX} {ie ia ib ic : Tm} {ies jes : Tms} {a b e : Expr} {pos : Pos}
/-! ## a cell of the store is taken out: it is an object beside it again -/
def hide (H : Hp) (a : Addr) : Hp := fun b => if b = a then none else H b
theorem hide_same {a : Addr} : hide H a a = none := by
  unfold hide
  rw [if_pos rfl]
theorem hide_ne {a b : Addr} (z : b ≠ a) : hide H a b = H b := by
  unfold hide
  rw [if_neg z]
theorem upd_hide {a : Addr} {o : HO} (e : H a = some o) : upd (hide H a) a o = H := by
  funext b
  by_cases z : b = a
  · subst z
    rw [upd_same, e]
  · rw [upd_ne z, hide_ne z]
theorem nodup_at {l : List Addr} (hN : l.Nodup) {i j : Nat} {x : Addr} (a : l[i]? = some x) (b : l[j]? = some x) : i = j := by
  obtain ⟨h1, e1⟩ := List.getElem?_eq_some_iff.mp a
  obtain ⟨h2, e2⟩ := List.getElem?_eq_some_iff.mp b
  exact (List.getElem_inj hN).mp (e1.trans e2.symm)
section
variable {D0 : Addr}
mutual
theorem RelD.hide (nd : φ.Nodup) (e0 : φ[n]? = some D0) (eH : H D0 = some (.lst ys)) (hm : m ≤ n) : ∀ {d : D} {v : V}, RelD K φ H d v → d.und m = true → RelD K (φ.take m) (Fr.hide H D0) d v
  | _, _, .non, _ => .non
  | _, _, .bl b, _ => .bl b
  | _, _, .int i, _ => .int i
  | _, _, .str z, _ => .str z
  | _, _, .ty z, _ => .ty z
  | _, _, .tup (a := a) s r, b => .tup (by
      rcases s with (s | ⟨o, s⟩) | s
      · exact .inl (.inl (by rw [hide_ne (fun z => by rw [z, eH] at s; cases s)]; exact s))
      · exact .inl (.inr ⟨o, by rw [hide_ne (fun z => by rw [z, eH] at s; cases s)]; exact s⟩)
      · exact .inr s) (RelDs.hide nd e0 eH hm r (by unfold D.und at b; exact b))
  | _, _, .rol s r, b => .rol (by
      rcases s with ⟨o, s⟩ | s
      · exact .inl ⟨o, by rw [hide_ne (fun z => by rw [z, eH] at s; cases s)]; exact s⟩
      · exact .inr s) (RelDs.hide nd e0 eH hm r (by unfold D.und at b; exact b))
  | _, _, .lst (a := a) s na r, b => .lst (by
      have ne : a ≠ D0 := fun z => na (by rw [z]; exact List.mem_of_getElem? e0)
      rw [hide_ne ne]
      exact s) (fun z => na (List.mem_of_mem_take z)) (RelDs.hide nd e0 eH hm r (by unfold D.und at b; exact b))
  | _, _, .ref (n := k) e, b => .ref (by
    unfold D.und at b
    rw [List.getElem?_take_of_lt (of_decide_eq_true b)]
    exact e)
theorem RelDs.hide (nd : φ.Nodup) (e0 : φ[n]? = some D0) (eH : H D0 = some (.lst ys)) (hm : m ≤ n) : ∀ {ds : List D} {vs : List V}, RelDs K φ H ds vs → D.unds m ds = true → RelDs K (φ.take m) (Fr.hide H D0) ds vs
  | _, _, .nil, _ => .nil
  | _, _, .cons r rs, b => by
    unfold D.unds at b
    rw [Bool.and_eq_true] at b
    exact .cons (RelD.hide nd e0 eH hm r b.1) (RelDs.hide nd e0 eH hm rs b.2)
end
theorem HRel.hide (r : HRel K φ H h) (e0 : φ[n]? = some D0) (eH : H D0 = some (.lst ys)) (hm : m ≤ n) : HRel K (φ.take m) (Fr.hide H D0) (h.take m) := by
  refine ⟨by rw [List.length_take, List.length_take, r.len], r.nd.sublist (List.take_sublist _ _), fun i ds e => ?_⟩
  have hi : i < m := by
    have := (List.getElem?_eq_some_iff.mp e).1
    rw [List.length_take] at this
    omega
  rw [List.getElem?_take_of_lt hi] at e
  obtain ⟨b, ys, e3, e4, e5, e6⟩ := r.cell i ds e
  have ne : b ≠ D0 := fun z => by
    have := nodup_at r.nd e3 (z ▸ e0)
    omega
  exact ⟨b, ys, by rw [List.getElem?_take_of_lt hi]; exact e3, by rw [hide_ne ne]; exact e4, RelDs.hide r.nd e0 eH hm e5 (D.unds_mono (Nat.le_of_lt hi) e6), e6⟩
theorem Ext.hide (x : Ext φ H φ' H') (e0 : φ'[n]? = some D0) (nd : φ'.Nodup) (hm : φ.length ≤ n) : H D0 = none ∧ Ext φ H (φ'.take φ.length) (Fr.hide H' D0) := by
  obtain ⟨ψ, e1, n1⟩ := x.pre
  have hD : H D0 = none := by
    refine n1 D0 ?_
    rw [e1, List.getElem?_append_right hm] at e0
    exact List.mem_of_getElem? e0
  refine ⟨hD, ⟨[], ?_, by simp⟩, fun a o k e => ?_, fun a o e => ?_⟩
  · rw [e1, List.take_left, List.append_nil]
  · rw [hide_ne (ne_of_none e hD)]
    exact x.keep a o k e
  · rw [hide_ne (ne_of_none e hD)]
    exact x.there a o e
end
/-! ## what is walked -/
inductive SrcOk (K : PySem.W.Frag) (φ : List Addr) (H : Hp) : Src → It → Prop
  | lst {a : Addr} {xs : List V} {ds : List D} : H a = some (.lst xs) → a ∉ φ → RelDs K φ H ds xs → SrcOk K φ H (.vals ds) (Itl K a)
  | rol {a : Addr} {xs : List V} {ds : List D} : RoL K H a xs → RelDs K φ H ds xs → SrcOk K φ H (.vals ds) (Itl K a)
  | tup {a : Addr} {xs : List V} {ds : List D} : SqT K H a xs → RelDs K φ H ds xs → SrcOk K φ H (.vals ds) (Itt K a)
  | rng {lo : Int} {n : Nat} : SrcOk K φ H (.vals (rngD lo n)) (Itr lo n)
  | cell {n : Nat} {a : Addr} : φ[n]? = some a → SrcOk K φ H (.cell n) (Itl K a)
theorem SrcOk.ext {s : Src} {J : It} (x : Ext φ H φ' H') (r : SrcOk K φ H s J) : SrcOk K φ' H' s J := by
  cases r with
  | lst s na r => exact .lst (x.keep _ _ (.inl na) s) (x.notin s na) (x.rels r)
  | rol s r => exact .rol (x.ro s) (x.rels r)
  | tup s r => exact .tup (x.sqT s) (x.rels r)
  | rng => exact .rng
  | cell e => exact .cell (x.ix e)
theorem rngD_get : ∀ {n : Nat} {lo : Int} {i : Nat}, (rngD lo n)[i]? = if i < n then some (.int (lo + i)) else none
  | 0, lo, i => by simp [rngD]
  | n + 1, lo, 0 => by simp [rngD]
  | n + 1, lo, i + 1 => by
    have ih := rngD_get (n := n) (lo := lo + 1) (i := i)
    show (rngD (lo + 1) n)[i]? = _
    rw [ih]
    by_cases z : i < n
    · rw [if_pos z, if_pos (by omega)]
      congr 2
      omega
    · rw [if_neg z, if_neg (by omega)]
theorem SrcOk.go {s : Src} {J : It} {i : Nat} (hr : HRel K φ H h) (r : SrcOk K φ H s J) (e : srcAt s i h = some (some x)) : J.go i H ∧ ∀ y H', J.yld i H y H' → H' = H ∧ RelD K φ H x y := by
  cases r with
  | lst s na r =>
    obtain ⟨v, e1, rv⟩ := r.get (Option.some.inj e)
    refine ⟨⟨_, v, .inl (.inl s), e1⟩, fun y H' z => ⟨z.1, ?_⟩⟩
    have := z.2 _ (.inl (.inl s))
    rw [e1] at this
    cases this
    exact rv
  | rol s r =>
    obtain ⟨v, e1, rv⟩ := r.get (Option.some.inj e)
    refine ⟨⟨_, v, s.sq, e1⟩, fun y H' z => ⟨z.1, ?_⟩⟩
    have := z.2 _ (s.sq)
    rw [e1] at this
    cases this
    exact rv
  | tup s r =>
    obtain ⟨v, e1, rv⟩ := r.get (Option.some.inj e)
    refine ⟨⟨_, v, s, e1⟩, fun y H' z => ⟨z.1, ?_⟩⟩
    have := z.2 _ s
    rw [e1] at this
    cases this
    exact rv
  | rng =>
    rename_i lo n
    have e1 : (rngD lo n)[i]? = some x := Option.some.inj e
    rw [rngD_get] at e1
    by_cases z : i < n
    · rw [if_pos z] at e1
      cases e1
      exact ⟨z, fun y H' w => ⟨w.1, by rw [w.2]; exact .int _⟩⟩
    · rw [if_neg z] at e1
      cases e1
  | cell en =>
    rename_i n a
    have e1 : (h[n]?).map (fun ds => ds[i]?) = some (some x) := e
    cases q : h[n]? with
    | none =>
      rw [q] at e1
      cases e1
    | some ds =>
      rw [q] at e1
      obtain ⟨xs, e2, r, _⟩ := hr.at_ q en
      obtain ⟨v, e3, rv⟩ := r.get (Option.some.inj e1)
      have s : SqL K H a xs := .inl (.inl e2)
      refine ⟨⟨_, v, s, e3⟩, fun y H' z => ⟨z.1, ?_⟩⟩
      have := z.2 _ s
      rw [e3] at this
      cases this
      exact rv
theorem SrcOk.stop {s : Src} {J : It} {i : Nat} (hr : HRel K φ H h) (r : SrcOk K φ H s J) (e : srcAt s i h = some none) : J.stop i H := by
  cases r with
  | lst s na r =>
    have e1 := List.getElem?_eq_none_iff.mp (Option.some.inj e)
    exact ⟨_, .inl (.inl s), by rw [← r.length]; exact e1⟩
  | rol s r =>
    have e1 := List.getElem?_eq_none_iff.mp (Option.some.inj e)
    exact ⟨_, s.sq, by rw [← r.length]; exact e1⟩
  | tup s r =>
    have e1 := List.getElem?_eq_none_iff.mp (Option.some.inj e)
    exact ⟨_, s, by rw [← r.length]; exact e1⟩
  | rng =>
    rename_i lo n
    have e1 : (rngD lo n)[i]? = none := Option.some.inj e
    rw [rngD_get] at e1
    show n ≤ i
    by_cases z : i < n
    · rw [if_pos z] at e1
      cases e1
    · omega
  | cell en =>
    rename_i n a
    have e1 : (h[n]?).map (fun ds => ds[i]?) = some none := e
    cases q : h[n]? with
    | none =>
      rw [q] at e1
      cases e1
    | some ds =>
      rw [q] at e1
      obtain ⟨xs, e2, r, _⟩ := hr.at_ q en
      have e3 := List.getElem?_eq_none_iff.mp (Option.some.inj e1)
      exact ⟨xs, .inl (.inl e2), by rw [← r.length]; exact e3⟩
def PostI (K : PySem.W.Frag) (φ : List Addr) (H : Hp) (r : R Src) (Q : It → Hp → Prop) (E : XW) : Prop := match r with
  | .ok s h' => ∀ φ' H' J, Ext φ H φ' H' → HRel K φ' H' h' → SrcOk K φ' H' s J → Q J H'
  | .exc c h' => ∀ φ' H', Ext φ H φ' H' → HRel K φ' H' h' → E c H'
  | .bad => False
def Ti (c : Cn) (K : PySem.W.Frag) (W : WX) (e : Tm) : TI := fun σ H R => ∃ φ ρ h, HRel K φ H h ∧ RelS K φ H ρ σ ∧ PostI K φ H (evI c ρ e h) R fun x H' => W (.ref (c.cA x)) none σ H'
theorem _root_.L2.PI.imp {tg e : Expr} {t t' : TI} (h : PI X tg e t) (i : ∀ σ H Q, t' σ H Q → t σ H Q) : PI X tg e t' := ⟨fun pins s σ H Q I q => h.run pins s σ H Q I (i σ H Q q)⟩
theorem _root_.L2.PI.or {tg e : Expr} {t t' : TI} (h : PI X tg e t) (h' : PI X tg e t') : PI X tg e (fun σ H R => t σ H R ∨ t' σ H R) := ⟨fun pins s σ H Q I q => by
  rcases q with q | q
  · exact h.run pins s σ H Q I q
  · exact h'.run pins s σ H Q I q⟩
/-- a list or a tuple: which one is seen when it is there -/
theorem pi_seq {tg l : Expr} {tl : TE} (hl : PE X l tl) : PI X tg l (fun σ H R => tl σ H fun x H1 => ∃ a, x = .ref a ∧ (((∃ xs, SqL X.K H1 a xs) ∧ R (Itl X.K a) H1) ∨ ((∃ xs, SqT X.K H1 a xs) ∧ R (Itt X.K a) H1))) := by
  refine ⟨fun pins s σ H R I hw => thn (hl.run pins s σ H _ I hw) fun w s1 ⟨x, H1, I1, r1, q1⟩ => ?_⟩
  obtain ⟨a, rfl, ⟨⟨xs, sq⟩, q⟩ | ⟨⟨xs, sq⟩, q⟩⟩ := q1
  · cases r1
    obtain ⟨its, rv, pl, hz⟩ := I1.list sq
    refine wpAny_pyIter_list pl.isList ⟨s1.heap.objs.size, [s1.heap.objs.size], _, _, H1, rfl, I1.kept (t' := s1.toks) (fun b o z => Heap.get?_push_of_some _ z), turn_list a _, ⟨_, Heap.get?_push_size _ rfl, rfl, rfl⟩, ?_, q⟩
    rintro b hb
    rw [List.mem_singleton.mp hb]
    exact I1.fpOk (Nat.le_refl _) I1.fresh
  · cases r1
    obtain ⟨its, rv, pl, hz⟩ := I1.tuple sq
    refine wpAny_pyIter_tuple (show s1.heap.IsTuple a its.toArray from pl) ⟨s1.heap.objs.size, [s1.heap.objs.size], _, _, H1, rfl, I1.kept (t' := s1.toks) (fun b o z => Heap.get?_push_of_some _ z), turn_tuple a _, ⟨_, Heap.get?_push_size _ rfl, rfl, rfl⟩, ?_, q⟩
    rintro b hb
    rw [List.mem_singleton.mp hb]
    exact I1.fpOk (Nat.le_refl _) I1.fresh
/-- what is not a range, walked -/
def plainI : Tm → Bool
  | .rng1 _ => false
  | .rng2 _ _ => false
  | _ => true
theorem evI_seq (hp : plainI ie = true) (h : Hs) : evI c ρ ie h = bindD (ev c ρ ie h) fun x h1 => okS (srcOf h1 x) h1 := by
  cases ie <;> first | (cases hp; done) | (simp only [evI]; done)
theorem i_seq {tg : Expr} (ha : PE X a (T c X.K W ia)) (hp : plainI ia = true := by rfl) : PI X tg a (Ti c X.K W ia) := (pi_seq ha).imp fun σ H R ⟨φ, ρ, h, hr, hs, q⟩ => by
  rw [evI_seq hp] at q
  refine ⟨φ, ρ, h, hr, hs, seqR (P := fun r φ H => PostI X.K φ H r R fun x H' => W (.ref (c.cA x)) none σ H') (fun c h' _ q => q) (fun z => z) q fun d h1 φ1 H1 v q x1 hr1 rd => ?_⟩
  cases rd with
  | tup s r => exact ⟨_, rfl, .inr ⟨⟨_, s⟩, q φ1 H1 _ x1 hr1 (.tup s r)⟩⟩
  | lst s na r => exact ⟨_, rfl, .inl ⟨⟨_, .inl (.inl s)⟩, q φ1 H1 _ x1 hr1 (.lst s na r)⟩⟩
  | rol s r => exact ⟨_, rfl, .inl ⟨⟨_, s.sq⟩, q φ1 H1 _ x1 hr1 (.rol s r)⟩⟩
  | ref en =>
    have z := List.mem_of_getElem? en
    obtain ⟨xs, e⟩ := hr1.inH z
    exact ⟨_, rfl, .inl ⟨⟨xs, .inl (.inl e)⟩, q φ1 H1 _ x1 hr1 (.cell en)⟩⟩
  | _ => exact False.elim q
theorem PostI.ext {r : R Src} {R : It → Hp → Prop} (q : PostI K φ H r R E) (x : Ext φ H φ1 H1) : PostI K φ1 H1 r R E := by
  match r, q with
  | .ok d h', q => exact fun φ' H' v y hr rd => q φ' H' v (x.trans y) hr rd
  | .exc c h', q => exact fun φ' H' y hr => q φ' H' (x.trans y) hr
theorem i_rng1 {tg : Expr} {q pos : Pos} (hg : Gl X "range") (hm : X.mg "range" = none) (ha : PE X a (T c X.K W ia)) (hs : starEach [a] X.env = [(false, eval a X.env)] := by rfl) : PI X tg (.Call (.Name "range" q) [a] [] pos) (Ti c X.K W (.rng1 ia)) :=
  (pi_range1 hg hm (pa_cons ha pa_nil hs) hs).imp fun σ H R ⟨φ, ρ, h, hr, hs, q⟩ => by
    simp only [evI] at q
    refine ⟨φ, ρ, h, hr, hs, seqR (P := fun r φ H => PostI X.K φ H r R fun x H' => W (.ref (c.cA x)) none σ H') (fun c h' _ q => q) (fun z => z) q fun d h1 φ1 H1 v q x1 hr1 rd => ?_⟩
    cases rd with
    | int j =>
      simp only [rng1R] at q
      split at q
      · rename_i z
        have z' := of_decide_eq_true z
        exact ⟨j, rfl, z'.1, z'.2, q φ1 H1 _ x1 hr1 .rng⟩
      · exact False.elim q
    | _ => exact False.elim q
theorem i_rng2 {tg : Expr} {q pos : Pos} (hg : Gl X "range") (hm : X.mg "range" = none) (ha : PE X a (T c X.K W ia)) (hb : PE X b (T c X.K W ib)) (hs : starEach [a, b] X.env = [(false, eval a X.env), (false, eval b X.env)] := by rfl)
    (hs2 : starEach [b] X.env = [(false, eval b X.env)] := by rfl) : PI X tg (.Call (.Name "range" q) [a, b] [] pos) (Ti c X.K W (.rng2 ia ib)) :=
  (pi_range2 hg hm (pa_cons ha (pa_cons hb pa_nil hs2) (by rw [hs, hs2])) hs hs2).imp fun σ H R ⟨φ, ρ, h, hr, hs, q⟩ => by
    simp only [evI] at q
    refine ⟨φ, ρ, h, hr, hs, seqR (P := fun r φ H => PostI X.K φ H r R fun x H' => W (.ref (c.cA x)) none σ H') (fun c h' _ q => q) (fun z => z) q fun x h1 φ1 H1 v q x1 hr1 rd => ?_⟩
    refine ⟨φ1, ρ, h1, hr1, x1.relS hs, seqR (P := fun r φ H => PostI X.K φ H r R fun x H' => W (.ref (c.cA x)) none σ H') (fun c h' _ q => q) (fun z => z) (q.ext x1) fun y h2 φ2 H2 v q x2 hr2 rd2 => ?_⟩
    cases rd with
    | int i =>
      cases rd2 with
      | int j =>
        simp only [rng2R] at q
        split at q
        · rename_i z
          rw [Bool.and_eq_true] at z
          have z1 := of_decide_eq_true z.1
          have z2 := of_decide_eq_true z.2
          exact ⟨i, j, rfl, ⟨z1.1, z1.2, z2.1, z2.2⟩, q φ2 H2 _ x2 hr2 .rng⟩
        · exact False.elim q
      | _ => exact False.elim q
    | _ => cases rd2 <;> exact False.elim q
end Fr
set_option Elab.async false
set_option linter.all false
set_option maxRecDepth 100000
set_option maxHeartbeats 4000000
namespace Fr
open PySem PySem.Spec PyProof.Rows L2
variable {K : PySem.W.Frag} {φ φ' φ1 φ2 : List Addr} {H H' H1 H2 : Hp} {h h' h1 : Hs} {d x y : D} {ds es : List D} {v u : V} {vs xs ys : List V} {p : Addr} {n m : Nat} {ρ ρ' : Rho} {σ σ' : L2.St} {Q : VK} {E : XW} {X : Cx}
variable {c : Cn} {W : WX} {ie ia ib ic it : Tm} {ies jes cs : Tms} {a b e : Expr} {pos : Pos} {g : G} {own : List Nat}
/-! ## slots -/
theorem RelS.set (s : RelS K φ H ρ σ) (r : RelD K φ H d v) (i : Nat) : RelS K φ H (ρ.set i (some d)) (σ.set i (some v)) := by
  refine ⟨by rw [List.length_set, List.length_set, s.len], fun j d' e => ?_⟩
  by_cases z : i = j
  · subst z
    by_cases l : i < ρ.length
    · rw [List.getElem?_set_self l] at e
      cases e
      exact ⟨v, by rw [List.getElem?_set_self (by rw [← s.len]; exact l)], r⟩
    · rw [List.getElem?_eq_none (by rw [List.length_set]; omega)] at e
      cases e
  · rw [List.getElem?_set_ne z] at e
    obtain ⟨w, e1, r1⟩ := s.slot j d' e
    exact ⟨w, by rw [List.getElem?_set_ne z]; exact e1, r1⟩
theorem RelS.drop1 (s : RelS K φ H ρ σ) (i : Nat) : RelS K φ H (ρ.set i none) (σ.set i none) := by
  refine ⟨by rw [List.length_set, List.length_set, s.len], fun j d' e => ?_⟩
  by_cases z : i = j
  · subst z
    by_cases l : i < ρ.length
    · rw [List.getElem?_set_self l] at e
      cases e
    · rw [List.getElem?_eq_none (by rw [List.length_set]; omega)] at e
      cases e
  · rw [List.getElem?_set_ne z] at e
    obtain ⟨w, e1, r1⟩ := s.slot j d' e
    exact ⟨w, by rw [List.getElem?_set_ne z]; exact e1, r1⟩
theorem RelS.wipe (s : RelS K φ H ρ σ) : ∀ vs : List Nat, RelS K φ H (wipeR ρ vs) (L2.wipe σ vs)
  | [] => s
  | i :: vs => (RelS.wipe s vs).drop1 i
theorem wipe_get (σ : L2.St) (j : Nat) : ∀ vs : List Nat, (L2.wipe σ vs)[j]? = if j ∈ vs then (σ[j]?).map (fun _ => none) else σ[j]?
  | [] => by simp [L2.wipe]
  | i :: vs => by
    have ih := wipe_get σ j vs
    show ((L2.wipe σ vs).set i none)[j]? = _
    by_cases z : i = j
    · subst z
      rw [if_pos List.mem_cons_self]
      by_cases l : i < σ.length
      · rw [List.getElem?_set_self (by rw [wipe_length]; exact l), List.getElem?_eq_getElem l]
        rfl
      · rw [List.getElem?_eq_none (by rw [List.length_set, wipe_length]; omega), List.getElem?_eq_none (by omega)]
        rfl
    · rw [List.getElem?_set_ne z, ih]
      by_cases w : j ∈ vs
      · rw [if_pos w, if_pos (List.mem_cons_of_mem _ w)]
      · rw [if_neg w, if_neg (fun q => by
          rcases List.mem_cons.mp q with q | q
          · exact z q.symm
          · exact w q)]
theorem wipe_set {i : Nat} {o : Option V} {vs : List Nat} (hi : i ∈ vs) : L2.wipe (σ.set i o) vs = L2.wipe σ vs := by
  apply List.ext_getElem?
  intro j
  rw [wipe_get, wipe_get]
  by_cases z : i = j
  · subst z
    rw [if_pos hi, if_pos hi]
    by_cases l : i < σ.length
    · rw [List.getElem?_set_self l, List.getElem?_eq_getElem l]
      rfl
    · rw [List.getElem?_eq_none (by rw [List.length_set]; omega), List.getElem?_eq_none (by omega)]
  · rw [List.getElem?_set_ne z]
theorem wipe_wipe {vs : List Nat} : L2.wipe (L2.wipe σ vs) vs = L2.wipe σ vs := by
  apply List.ext_getElem?
  intro j
  rw [wipe_get, wipe_get]
  by_cases z : j ∈ vs
  · rw [if_pos z, if_pos z]
    cases σ[j]? <;> rfl
  · rw [if_neg z, if_neg z]
/-! ## targets -/
def G.slots : G → List Nat
  | .nm i => [i]
  | .tp is => is
def WipeEq (is : List Nat) (σ σ' : L2.St) : Prop := ∀ vs : List Nat, (∀ i ∈ is, i ∈ vs) → L2.wipe σ' vs = L2.wipe σ vs
def Tg (K : PySem.W.Frag) (g : G) : TG := fun v σ H Q => ∃ φ ρ d ρ', RelS K φ H ρ σ ∧ RelD K φ H d v ∧ asg g d ρ = some ρ' ∧ ∀ σ', RelS K φ H ρ' σ' → WipeEq g.slots σ σ' → Q σ' H
def Tgs (K : PySem.W.Frag) (is : List Nat) : TGs := fun vs σ H Q => ∃ φ ρ ds ρ', RelS K φ H ρ σ ∧ RelDs K φ H ds vs ∧ setR is ds ρ = some ρ' ∧ ∀ σ', RelS K φ H ρ' σ' → WipeEq is σ σ' → Q σ' H
theorem _root_.L2.PG.imp {e : Expr} {t t' : TG} (h : PG X e t) (i : ∀ v σ H Q, t' v σ H Q → t v σ H Q) : PG X e t' := ⟨fun pins s σ H v u Q I r q => h.run pins s σ H v u Q I r (i v σ H Q q)⟩
theorem _root_.L2.PGs.imp {e : List Expr} {t t' : TGs} (h : PGs X e t) (i : ∀ v σ H Q, t' v σ H Q → t v σ H Q) : PGs X e t' := ⟨fun pins s σ H v u Q I r q => h.run pins s σ H v u Q I r (i v σ H Q q)⟩
theorem g_nm {i : Nat} (hg : PG X e (gName i)) : PG X e (Tg X.K (.nm i)) := hg.imp fun v σ H Q ⟨φ, ρ, d, ρ', hs, rd, ha, q⟩ => by
  cases ha
  exact q _ (hs.set rd i) fun vs hv => wipe_set (hv i (by simp [G.slots]))
theorem gs_nil : PGs X [] (Tgs X.K []) := pgs_nil.imp fun v σ H Q ⟨φ, ρ, ds, ρ', hs, rd, ha, q⟩ => by
  cases rd with
  | nil =>
    cases ha
    exact ⟨rfl, q σ hs fun _ _ => rfl⟩
  | cons r rs => cases ha
theorem gs_cons {es : List Expr} {i : Nat} {is : List Nat} (hg : PG X e (gName i)) (hs : PGs X es (Tgs X.K is)) (ha : (assignEach (e :: es) X.env).map (·.2) = assign e X.env :: (assignEach es X.env).map (·.2) := by rfl) : PGs X (e :: es) (Tgs X.K (i :: is)) :=
  (pgs_cons hg hs ha).imp fun v σ H Q ⟨φ, ρ, ds, ρ', hs, rd, ha, q⟩ => by
    cases rd with
    | nil => cases ha
    | cons r rs =>
      refine ⟨_, _, rfl, φ, _, _, ρ', hs.set r i, rs, ha, fun σ' s' w => q σ' s' fun vs hv => ?_⟩
      rw [w vs (fun j hj => hv j (List.mem_cons_of_mem _ hj)), wipe_set (hv i List.mem_cons_self)]
theorem setR_len : ∀ {is : List Nat} {ds : List D} {ρ ρ' : Rho}, setR is ds ρ = some ρ' → ds.length = is.length
  | [], [], _, _, _ => rfl
  | [], _ :: _, _, _, e => by cases e
  | _ :: _, [], _, _, e => by cases e
  | i :: is, d :: ds, ρ, ρ', e => by
    have := setR_len (is := is) (ds := ds) e
    rw [List.length_cons, List.length_cons, this]
theorem g_tp {es : List Expr} {k : Nat} {is : List Nat} (hc : X.calm = true) (hs : PGs X es (Tgs X.K is)) (hn : (assignEach es X.env).length = is.length := by rfl) (hst : (assignEach es X.env).findIdx? (·.1) = none := by rfl) : PG X (.Tuple es k pos) (Tg X.K (.tp is)) :=
  (pg_tup hc hs hn hst).imp fun v σ H Q ⟨φ, ρ, d, ρ', hs, rd, ha, q⟩ => by
    cases rd with
    | tup s r =>
      have l := setR_len (show setR is _ ρ = some ρ' from ha)
      exact ⟨_, _, rfl, s, by rw [← r.length]; exact l, φ, ρ, _, ρ', hs, r, ha, q⟩
    | _ => cases ha
/-! ## a comprehension -/
def Tcs (c : Cn) (K : PySem.W.Frag) (W : WX) (es : Tms) : TT := fun σ H Q => ∃ φ ρ h, HRel K φ H h ∧ RelS K φ H ρ σ ∧ PostB K φ H (evC c ρ es h) Q fun x H' => W (.ref (c.cA x)) none σ H'
theorem _root_.L2.PTs.imp {e : List Expr} {t t' : TT} (h : PTs X e t) (i : ∀ σ H Q, t' σ H Q → t σ H Q) : PTs X e t' := ⟨fun pins s σ H Q I q => h.run pins s σ H Q I (i σ H Q q)⟩
theorem c_nil : PTs X [] (Tcs c X.K W .nil) := pts_nil.imp fun σ H Q ⟨φ, ρ, h, hr, hs, q⟩ => by
  simp only [evC] at q
  exact q φ H (Ext.refl _ _) hr
theorem c_one (ht : PT X a (Tt c X.K W ia)) : PTs X [a] (Tcs c X.K W (.cons ia .nil)) := (pts_one ht).imp fun σ H Q ⟨φ, ρ, h, hr, hs, q⟩ => by
  simp only [evC] at q
  exact ⟨φ, ρ, h, hr, hs, q⟩
theorem seqI {m : R Src} {f : Src → Hs → R Res} {Q' : It → Hp → Prop} (q : PostR K φ H (m.bind f) Q E)
    (k : ∀ s h1 φ1 H1 J, PostR K φ1 H1 (f s h1) Q E → Ext φ H φ1 H1 → HRel K φ1 H1 h1 → SrcOk K φ1 H1 s J → Q' J H1) : PostI K φ H m Q' E := by
  match m, q with
  | .ok d h1, q => exact fun φ1 H1 v x hr rd => k d h1 φ1 H1 v (PostR.ext q x) x hr rd
  | .exc c h1, q => exact fun φ1 H1 x hr => q φ1 H1 x hr
  | .bad, q => exact absurd q (fun z => z)
abbrev W0 : WX := fun _ _ _ _ => False
theorem und_len (hr : HRel K φ H h) (rd : RelD K φ H d v) : d.und h.length = true := by
  rw [← hr.len]
  exact rd.und
/-- the element's evaluation, in the interpreter -/
def compF (c : Cn) (ρ : Rho) (e : Tm) (g : G) (cs : Tms) (own : List Nat) : D → Hs → R (Option D) := fun x h2 => compE (asg g x (wipeR ρ own)) fun ρ1 =>
  (evC c ρ1 cs h2).bind fun k h3 => keepR k h3 (bindD (ev c ρ1 e h3) fun y h4 => .ok (some y) h4)
theorem ev_comp (h : Hs) : ev c ρ (.comp ie it g cs own) h = (evI c ρ it h).bind fun s h1 => mapS (compF c ρ ie g cs own) s h1 := by
  simp only [ev]
  rfl
theorem comp_ok (hsl : ∀ i ∈ g.slots, i ∈ own) (q : T c K W (.comp ie it g cs own) σ H Q) : tLc (Ti c K W it) (Tg K g) (Tcs c K W0 cs) (T c K W0 ie) own σ H Q := by
  obtain ⟨φ, ρ, h, hr, hs, q⟩ := q
  rw [ev_comp] at q
  refine ⟨φ, ρ, h, hr, hs, seqI q fun s h1 φ1 H1 J q x1 hr1 so L0 nD => ?_⟩
  have hl : φ1.length = h1.length := hr1.len
  refine ⟨fun i m Hx => ∃ φx hx, Ext φ1 H1 φx Hx ∧ HRel K φx Hx hx ∧ φx[h1.length]? = some L0 ∧ PostR K φ1 H1 (mapR (compF c ρ ie g cs own) h1.length s m i hx) Q fun x H' => W (.ref (c.cA x)) none σ H',
    ⟨srcLen s h1 + 1, φ1 ++ [L0], h1 ++ [[]], Ext.push nD, hr1.push nD .nil, by rw [← hl]; simp, q⟩, ?_⟩
  rintro i m H2 ⟨φ2, h2, x2, hr2, eD, q2⟩
  have so2 := so.ext x2
  cases m with
  | zero =>
    simp only [mapR] at q2
    exact False.elim q2
  | succ k =>
    unfold mapR at q2
    cases e : srcAt s i h2 with
    | none =>
      rw [e] at q2
      exact False.elim q2
    | some o =>
      rw [e] at q2
      cases o with
      | none =>
        refine .inl ⟨so2.stop hr2 e, ?_⟩
        cases e1 : h2[h1.length]? with
        | none =>
          simp only [e1] at q2
          exact False.elim q2
        | some acc =>
          simp only [e1] at q2
          obtain ⟨xs, eH, rs, un⟩ := hr2.at_ e1 eD
          have hx := x2.hide eD hr2.nd (by omega)
          have g1 := q2 (φ2.take φ1.length) (hide H2 L0) L0 xs hx.2 (by rw [hl]; exact hr2.hide eD eH (Nat.le_refl _)) hide_same (by rw [hl]; exact RelDs.hide hr2.nd eD eH (Nat.le_refl _) rs un)
          rw [upd_hide eH] at g1
          exact g1
      | some x =>
        obtain ⟨go, yld⟩ := so2.go hr2 e
        refine .inr ⟨go, fun Hn => ∃ φx hx, Ext φ1 H1 φx Hn ∧ HRel K φx Hn hx ∧ φx[h1.length]? = some L0 ∧ PostR K φ1 H1 (mapR (compF c ρ ie g cs own) h1.length s k (i + 1) hx) Q fun x H' => W (.ref (c.cA x)) none σ H', fun Hn z => ⟨k, Nat.lt_succ_self _, z⟩, fun y Hy hy => ?_⟩
        obtain ⟨rfl, rx⟩ := yld y Hy hy
        have hs2 : RelS K φ2 Hy ρ σ := (x1.trans x2).relS hs
        cases ea : asg g x (wipeR ρ own) with
        | none =>
          simp only [compF, ea, compE] at q2
          exact False.elim q2
        | some ρ1 =>
          refine ⟨φ2, wipeR ρ own, x, ρ1, hs2.wipe own, rx, ea, fun σ1 hs1 we => ⟨?_, ?_⟩⟩
          · rw [we own hsl, wipe_wipe]
          · refine ⟨φ2, ρ1, h2, hr2, hs1, ?_⟩
            cases ec : evC c ρ1 cs h2 with
            | bad =>
              simp only [compF, ea, compE, ec, R.bind] at q2
              exact False.elim q2
            | exc k2 h3 =>
              simp only [compF, ea, compE, ec, R.bind] at q2
              exact False.elim q2
            | ok b h3 =>
              intro φ3 H3 x3 hr3
              cases b with
              | false =>
                simp only [compF, ea, compE, ec, R.bind, keepR] at q2
                rw [if_neg Bool.false_ne_true]
                exact ⟨φ3, h3, x2.trans x3, hr3, x3.ix eD, q2⟩
              | true =>
                rw [if_pos rfl]
                refine ⟨φ3, ρ1, h3, hr3, x3.relS hs1, ?_⟩
                have fin : ∀ (y : D) (h4 : Hs) (φ4 : List Addr) (H4 : Hp) (v : V), Ext φ3 H3 φ4 H4 → HRel K φ4 H4 h4 → RelD K φ4 H4 y v →
                    (PostR K φ1 H1 (match h4[h1.length]? with
                      | some acc => if acc.length < sizeLine ∧ y.und h1.length = true then mapR (compF c ρ ie g cs own) h1.length s k (i + 1) (h4.set h1.length (acc ++ [y])) else .bad
                      | none => .bad) Q fun x H' => W (.ref (c.cA x)) none σ H') →
                    ∃ acc, H4 L0 = some (.lst acc) ∧ acc.length < sizeLine ∧ ∃ φx hx, Ext φ1 H1 φx (upd H4 L0 (.lst (acc ++ [v]))) ∧ HRel K φx (upd H4 L0 (.lst (acc ++ [v]))) hx ∧ φx[h1.length]? = some L0 ∧
                      PostR K φ1 H1 (mapR (compF c ρ ie g cs own) h1.length s k (i + 1) hx) Q fun x H' => W (.ref (c.cA x)) none σ H' := by
                  intro y h4 φ4 H4 v x4 hr4 ry q4
                  have eD4 := x4.ix (x3.ix eD)
                  cases e4 : h4[h1.length]? with
                  | none =>
                    rw [e4] at q4
                    exact False.elim q4
                  | some acc =>
                    simp only [e4] at q4
                    split at q4
                    · rename_i hz
                      obtain ⟨xs, eH, rs, un⟩ := hr4.at_ e4 eD4
                      have rs2 : RelDs K φ4 H4 (acc ++ [y]) (xs ++ [v]) := rs.append (.cons ry .nil)
                      have un2 : D.unds h1.length (acc ++ [y]) = true := by
                        rw [D.unds_append, un]
                        show (true && (y.und h1.length && true)) = true
                        rw [hz.2]
                        rfl
                      refine ⟨xs, eH, by rw [← rs.length]; exact hz.1, φ4, _, (x2.trans (x3.trans x4)).trans (Ext.write hr4 eD4), hr4.write eD4 rs2 un2, eD4, q4⟩
                    · exact False.elim q4
                cases ev4 : ev c ρ1 ie h3 with
                | bad =>
                  simp only [compF, ea, compE, ec, R.bind, keepR, ev4, bindD] at q2
                  exact False.elim q2
                | exc k2 h4 =>
                  simp only [compF, ea, compE, ec, R.bind, keepR, ev4, bindD] at q2
                  exact False.elim q2
                | ok r h4 =>
                  cases r with
                  | val y =>
                    simp only [compF, ea, compE, ec, R.bind, keepR, ev4, bindD, if_true] at q2
                    intro φ4 H4 v x4 hr4 ry
                    exact fin y h4 φ4 H4 v x4 hr4 ry q2
                  | new ys =>
                    simp only [compF, ea, compE, ec, R.bind, keepR, ev4, bindD, if_true] at q2
                    intro φ4 H4 p xs x4 hr4 np rs
                    exact fin (.lst ys) h4 φ4 _ _ (x4.trans (Ext.new np)) (hr4.new np) (rel_new hr4 np rs) q2
theorem e_comp {tg iter : Expr} {ifs : List Expr} {scope : Scope} {ow : List (Str × Nat)} (hc : X.calm = true) (hN : X.N.Nodup) (hi : PI X tg iter (Ti c X.K W it)) (ok : BlkOk X.N X.env.scope scope ow) (hsl : ∀ i ∈ g.slots, i ∈ ow.map (·.2))
    (hg : ∀ (s : Shared) (H : Hp) (C : Addr) (cl : List (Str × Addr)) (fp : List Addr), PG (X.blk s H scope (compEnvC scope cl C X.env) fp) tg (Tg X.K g)) (ht : ∀ (s : Shared) (H : Hp) (C : Addr) (cl : List (Str × Addr)) (fp : List Addr), PTs (X.blk s H scope (compEnvC scope cl C X.env) fp) ifs (Tcs c X.K W0 cs))
    (he : ∀ (s : Shared) (H : Hp) (C : Addr) (cl : List (Str × Addr)) (fp : List Addr), PE (X.blk s H scope (compEnvC scope cl C X.env) fp) e (T c X.K W0 ie)) (hf : ∀ x, foldedSetIterable iter X.env x = pure x := by intro _; rfl) :
    PE X (.ListComp e [⟨tg, iter, ifs, 0⟩] scope pos) (T c X.K W (.comp ie it g cs (ow.map (·.2)))) := (pe_lc hc hN hi ok hg ht he hf).imp fun σ H Q q => comp_ok hsl q
end Fr
set_option Elab.async false
set_option linter.all false
set_option maxRecDepth 100000
set_option maxHeartbeats 4000000
namespace Fr
open PySem PySem.Spec PyProof.Rows L2
variable {K : PySem.W.Frag} {φ φ' φ1 φ2 : List Addr} {H H' H1 H2 : Hp} {h h' h1 : Hs} {d x y : D} {ds es : List D} {v u : V} {vs xs ys : List V} {p : Addr} {n m : Nat} {ρ ρ' : Rho} {σ σ' : L2.St} {Q : VK} {E : XW} {X : Cx}
variable {c : Cn} {W : WX} {ie ia ib ic it : Tm} {ies jes cs : Tms} {a b e : Expr} {pos : Pos} {g : G} {own : List Nat} {ss tt : Sms} {st : Sm}
/-! ## calls -/
/-- what the def number f promises: what the interpreter tells of it -/
def SpOf (c : Cn) (K : PySem.W.Frag) (f : Nat) : Sp := fun vs H Q E => ∃ φ h ds, HRel K φ H h ∧ RelDs K φ H ds vs ∧ PostR K φ H (c.call f ds h) Q fun x H' => E (.ref (c.cA x)) none H'
/-- a def's promise where no object is being shown (repr) -/
structure GnOk (P : Program) (w : World) (K : PySem.W.Frag) (mg : Str → Option Value) (base : Heap) (k : Nat) (fa : Addr) (fd : FuncData) (ps : List Str) (sp : Sp) : Prop where
  len : ∀ vs H Q E, sp vs H Q E → vs.length = ps.length
  go : ∀ (A : Around) (l : List Env) (s : Shared) (H : Hp) (as : Args) (us : List Value) (vs : List V) (Q : VK) (E : XK), A.guards = some [] → Room k A → Env0 P w K mg base A l s H →
    BindsTo s fd as (ps.zip us) → Vals vs us → sp vs H Q E → codeAny (model P w) A (.call (.ref fa) as) (CR (L2.CX P w) l P w H s Q E) s
/-- nothing is being shown, and there is room -/
structure Fit (X : Cx) : Prop where
  gd : X.A.guards = some []
  rm : Room 0 X.A
theorem run_g {k : Nat} {fa : Addr} {fd : FuncData} {ps : List Str} {sp : Sp} {pins : List (Addr × Obj)} {s : Shared} {us : List Value} {E : XK} (F : GnOk X.prog X.w X.K X.mg X.base k fa fd ps sp) (rm : Room k X.A) (gd : X.A.guards = some []) (bd : Binds X.K fd ps [])
    (px : PassesAt (L2.CX X.prog X.w) X σ E) (I : Inv X pins σ H s) (rv : Vals vs us) (q : sp vs H Q E) : wpAny (model X.prog X.w) X.A (call (.ref fa) us) (EP X pins σ Q) X.xe s := by
  have hl : us.length = ps.length := rv.length ▸ F.len _ _ _ _ q
  have b0 : BindsTo s fd ⟨us, []⟩ (ps.zip us) := by
    have z := bd s us I.kIn (by rw [List.append_nil, hl])
    rwa [List.append_nil] at z
  refine wpAny_call (codeAny_mono (F.go X.A X.stack s H ⟨us, []⟩ us vs Q E gd rm I.env0 b0 rv q) fun r s' z => ?_)
  match r, z with
  | .error e, z => exact px pins H s e s' I z
  | .ok (.ret u), z => exact I.after z
structure Callee (X : Cx) (c : Cn) (f : Nat) (x : Str) : Prop where
  ex : ∃ (k : Nat) (fa : Addr) (fd : FuncData) (ps : List Str), GnOk X.prog X.w X.K X.mg X.base k fa fd ps (SpOf c X.K f) ∧ Room k X.A ∧ X.mg x = some (.ref fa) ∧ PySem.W.keepIn X.K (.ref fa) = true ∧ Binds X.K fd ps []
theorem e_call {f : Nat} {x : Str} {es : List Expr} {q : Pos} (C : Callee X c f x) (ft : Fit X) (tk : Takes X W) (hg : Gl X x) (ha : PA X (e :: es) (Ts c X.K W ies)) (hdb : (x == ("__debug__" : Str)) = false := by decide)
    (he : starEach (e :: es) X.env = (false, eval e X.env) :: starEach es X.env := by rfl) (hpl : (backTo pos (starEach es X.env)).any (·.1) = false := by rfl) : PE X (.Call (.Name x q) (e :: es) [] pos) (T c X.K W (.call f ies)) := by
  obtain ⟨k, fa, fd, ps, F, hr, hm, kp, hb⟩ := C.ex
  refine ⟨fun pins s σ H Q I ⟨φ, ρ, h, hr', hs, q⟩ => wpAny_Call_Name_kw (ld_glob I hg hm ?_ hdb)⟩
  simp only [ev] at q
  have t1 : Ts c X.K W ies σ H fun vs H1 => SpOf c X.K f vs H1 Q (WE W σ) := ⟨φ, ρ, h, hr', hs, seqLR q fun ds h1 φ1 H1 vs q x1 hr1 rds => ⟨φ1, h1, ds, hr1, rds, q⟩⟩
  refine PySem.W.callWith_K (h₀ := X.base) I.mod.kin kp (thn (ha.run pos pins s σ H _ I t1) fun us s1 z => ?_) he hpl
  obtain ⟨vs, H1, I1, rv, sp⟩ := z
  exact ⟨I1.kIn, run_g F hr ft.gd hb (passAt tk σ) I1 rv sp⟩
theorem e_call0 {f : Nat} {x : Str} {q : Pos} (C : Callee X c f x) (ft : Fit X) (tk : Takes X W) (hg : Gl X x) (hdb : (x == ("__debug__" : Str)) = false := by decide) : PE X (.Call (.Name x q) [] [] pos) (T c X.K W (.call f .nil)) := by
  obtain ⟨k, fa, fd, ps, F, hr, hm, kp, hb⟩ := C.ex
  refine ⟨fun pins s σ H Q I ⟨φ, ρ, h, hr', hs, q⟩ => wpAny_Call_Name_kw (ld_glob I hg hm ?_ hdb)⟩
  simp only [ev, evs, R.bind] at q
  exact PySem.W.callWith_K0 I.kIn kp (run_g (us := []) F hr ft.gd hb (passAt tk σ) I .nil ⟨φ, h, [], hr', .nil, q⟩)
structure BltOk (X : Cx) (f : List D → Hs → R Res) (w : Value) : Prop where
  rule : CallR X w (RLof X.K f)
  calm : ∀ ds h, Calm (f ds h)
theorem blt_imp {i : Nat} {w : Value} {es : List Expr} (B : BltOk X (c.blt i) w) {σ : L2.St} {H : Hp} {Q : VK} (q : T c X.K W (.blt i ies) σ H Q) : tCB (RLof X.K (c.blt i)) (Ts c X.K W ies) σ H Q := by
  obtain ⟨φ, ρ, h, hr, hs, q⟩ := q
  simp only [ev] at q
  exact ⟨φ, ρ, h, hr, hs, seqLR q fun ds h1 φ1 H1 vs q x1 hr1 rds => ⟨φ1, h1, ds, hr1, rds, q.calm (B.calm ds h1)⟩⟩
theorem e_blt {i : Nat} {x : Str} {id : String} {es : List Expr} {q : Pos} (B : BltOk X (c.blt i) (.builtin id)) (hg : Gl X x) (hm : X.mg x = none) (hv : bootBuiltins x = some (.builtin id)) (ha : PA X (e :: es) (Ts c X.K W ies)) (hn : x ≠ "__name__" := by decide) (hdb : (x == ("__debug__" : Str)) = false := by decide)
    (he : starEach (e :: es) X.env = (false, eval e X.env) :: starEach es X.env := by rfl) (hpl : (backTo pos (starEach es X.env)).any (·.1) = false := by rfl) : PE X (.Call (.Name x q) (e :: es) [] pos) (T c X.K W (.blt i ies)) :=
  (pe_callB B.rule hg hm hv ha hn hdb he hpl).imp fun _ _ _ q => blt_imp (es := es) B q
theorem e_bltT {i : Nat} {x : Str} {id : String} {es : List Expr} {q : Pos} (B : BltOk X (c.blt i) (.type id)) (hg : Gl X x) (hm : X.mg x = none) (hv : bootBuiltins x = some (.type id)) (ha : PA X (e :: es) (Ts c X.K W ies)) (hn : x ≠ "__name__" := by decide) (hdb : (x == ("__debug__" : Str)) = false := by decide)
    (he : starEach (e :: es) X.env = (false, eval e X.env) :: starEach es X.env := by rfl) (hpl : (backTo pos (starEach es X.env)).any (·.1) = false := by rfl) : PE X (.Call (.Name x q) (e :: es) [] pos) (T c X.K W (.blt i ies)) :=
  (pe_callTy B.rule hg hm hv ha hn hdb he hpl).imp fun _ _ _ q => blt_imp (es := es) B q
/-- a method of a built-in type named Ty -/
structure MethOk (X : Cx) (c : Cn) (i : Nat) (Ty id : String) : Prop where
  rule : MtR X id (RMof X.K (c.meth i))
  calm : ∀ x ds h, Calm (c.meth i x ds h)
  ty : ∀ φ H h x v, HRel X.K φ H h → RelD X.K φ H x v → c.mty i x = true → tyV X.K Ty v H
theorem seqRI {r : R Res} {k : Bool} (q : PostR K φ H (iteR k r .bad) Q E) : k = true ∧ PostR K φ H r Q E := by
  cases k with
  | true => exact ⟨rfl, q⟩
  | false => exact False.elim q
theorem e_meth {i : Nat} {o : Expr} {Ty id : String} {es : List Expr} {name : Str} {apos cpos : Pos} (M : MethOk X c i Ty id) (pa : PlainAttrs Ty) (slot : Slot Ty name id) (hty : typeOf (.builtin id) = pure (.type "method_descriptor")) (ho : PE X o (T c X.K W ia)) (ha : PA X (e :: es) (Ts c X.K W ies))
    (hbase : attributeBase o name X.env (eval o X.env) = eval o X.env := by rfl)
    (hfew : ((backTo cpos (starEach (e :: es) X.env)).all (fun x => !x.1) && (backToKw cpos (keywordEach [] X.env)).all (fun x => x.1.isSome) && decide ((e :: es).length + ([] : List Keyword).length + (if ([] : List Keyword).isEmpty then 0 else 1) < 30)) = true := by rfl)
    (hline : (apos.endLine == cpos.line) = true := by rfl) (hs : starEach (e :: es) X.env = (false, eval e X.env) :: starEach es X.env := by rfl) (hplain : (backTo cpos (starEach es X.env)).any (·.1) = false := by rfl) :
    PE X (.Call (.Attribute o name apos) (e :: es) [] cpos) (T c X.K W (.meth i ia ies)) :=
  (pe_bm pa slot hty M.rule ho ha hbase hfew hline hs hplain).imp fun σ H Q ⟨φ, ρ, h, hr, hs, q⟩ => by
    simp only [ev] at q
    refine ⟨φ, ρ, h, hr, hs, seqRR q fun x h1 φ1 H1 v q x1 hr1 rd => ?_⟩
    obtain ⟨ht, q⟩ := seqRI q
    refine ⟨M.ty φ1 H1 h1 x v hr1 rd ht, φ1, ρ, h1, hr1, x1.relS hs, seqLR q fun ds h2 φ2 H2 vs q x2 hr2 rds => ?_⟩
    exact ⟨φ2, h2, x, ds, hr2, x2.rel rd, rds, q.calm (M.calm x ds h2)⟩
theorem e_chain {o o' : Cop} {op op' : CmpOp} {cc : Expr} (ho : CmpOk X (c.cmp o) op) (ho' : CmpOk X (c.cmp o') op') (ha : PE X a (T c X.K W ia)) (hb : PE X b (T c X.K W ib)) (hc : PE X cc (T c X.K W ic)) (hm : lastMarks [op, op'] [b, cc] = false := by with_unfolding_all rfl) :
    PE X (.Compare a [op, op'] [b, cc] pos) (T c X.K W (.chain o o' ia ib ic)) := (pe_chain ho.rule ho'.rule ha hb hc hm).imp fun σ H Q ⟨φ, ρ, h, hr, hs, q⟩ => by
  simp only [ev] at q
  refine ⟨φ, ρ, h, hr, hs, seqRR q fun x h1 φ1 H1 v q x1 hr1 rd => ?_⟩
  refine ⟨φ1, ρ, h1, hr1, x1.relS hs, seqRR q fun y h2 φ2 H2 u q x2 hr2 rd2 => ?_⟩
  refine ⟨φ2, h2, x, y, hr2, x2.rel rd, rd2, ?_⟩
  refine PostR.calm (E := fun x H' => W (.ref (c.cA x)) none σ H') (ho.calm x y h2) (seqRR q fun z h3 φ3 H3 w q x3 hr3 rd3 => ?_)
  cases rd3 with
  | bl k =>
    refine ⟨k, rfl, ?_⟩
    cases k with
    | false =>
      rw [if_neg Bool.false_ne_true]
      exact q φ3 H3 _ (Ext.refl _ _) hr3 (.bl false)
    | true =>
      rw [if_pos rfl]
      refine ⟨φ3, ρ, h3, hr3, (x1.trans (x2.trans x3)).relS hs, seqRR q fun z h4 φ4 H4 w q x4 hr4 rd4 => ?_⟩
      exact ⟨φ4, h4, y, z, hr4, (x3.trans x4).rel rd2, rd4, q.calm (ho'.calm y z h4)⟩
  | _ => exact False.elim q
/-! ## statements -/
def PostS (K : PySem.W.Frag) (cA : Nat → Addr) (φ : List Addr) (H : Hp) (r : RS) (D : Ends) (W : WX) : Prop := match r with
  | .nx ρ h' => ∀ φ' H' σ', Ext φ H φ' H' → HRel K φ' H' h' → RelS K φ' H' ρ σ' → D.nx σ' H'
  | .bk ρ h' => ∀ φ' H' σ', Ext φ H φ' H' → HRel K φ' H' h' → RelS K φ' H' ρ σ' → D.bk σ' H'
  | .ct ρ h' => ∀ φ' H' σ', Ext φ H φ' H' → HRel K φ' H' h' → RelS K φ' H' ρ σ' → D.ct σ' H'
  | .ret r h' => PostR K φ H (.ok r h') D.rt fun _ _ => False
  | .exc k ρ h' => ∀ φ' H' σ', Ext φ H φ' H' → HRel K φ' H' h' → RelS K φ' H' ρ σ' → W (.ref (cA k)) none σ' H'
  | .bad => False
theorem PostS.ext {r : RS} {D : Ends} {cA : Nat → Addr} (q : PostS K cA φ H r D W) (x : Ext φ H φ1 H1) : PostS K cA φ1 H1 r D W := by
  match r, q with
  | .nx ρ h', q => exact fun φ' H' σ' y hr rs => q φ' H' σ' (x.trans y) hr rs
  | .bk ρ h', q => exact fun φ' H' σ' y hr rs => q φ' H' σ' (x.trans y) hr rs
  | .ct ρ h', q => exact fun φ' H' σ' y hr rs => q φ' H' σ' (x.trans y) hr rs
  | .exc k ρ h', q => exact fun φ' H' σ' y hr rs => q φ' H' σ' (x.trans y) hr rs
  | .ret r h', q => exact PostR.ext (r := .ok r h') q x
def Tx (c : Cn) (K : PySem.W.Frag) (W : WX) (s : Sm) : TS := fun D σ H => ∃ φ ρ h, HRel K φ H h ∧ RelS K φ H ρ σ ∧ PostS K c.cA φ H (ex c s ρ h) D W
def Txs (c : Cn) (K : PySem.W.Frag) (W : WX) (s : Sms) : TS := fun D σ H => ∃ φ ρ h, HRel K φ H h ∧ RelS K φ H ρ σ ∧ PostS K c.cA φ H (exs c s ρ h) D W
theorem s_nil : PSs X [] (Txs c X.K W .nil) := pss_nil.imp fun D σ H ⟨φ, ρ, h, hr, hs, q⟩ => by
  simp only [exs] at q
  exact q φ H σ (Ext.refl _ _) hr hs
theorem s_cons {s1 : Stmt} {rest : List Stmt} (ha : PS X s1 (Tx c X.K W st)) (hb : PSs X rest (Txs c X.K W ss)) : PSs X (s1 :: rest) (Txs c X.K W (.cons st ss)) := (pss_cons ha hb).imp fun D σ H ⟨φ, ρ, h, hr, hs, q⟩ => by
  simp only [exs] at q
  refine ⟨φ, ρ, h, hr, hs, ?_⟩
  cases e : ex c st ρ h with
  | nx ρ1 h1 =>
    rw [e] at q
    exact fun φ1 H1 σ1 x1 hr1 hs1 => ⟨φ1, ρ1, h1, hr1, hs1, q.ext x1⟩
  | ret r h1 =>
    rw [e] at q
    exact q
  | bk ρ1 h1 =>
    rw [e] at q
    exact q
  | ct ρ1 h1 =>
    rw [e] at q
    exact q
  | exc k ρ1 h1 =>
    rw [e] at q
    exact q
  | bad =>
    rw [e] at q
    exact q
/-- a value, then a statement's rest -/
theorem seqRS {r : R Res} {f : D → Hs → RS} {D : Ends} {Q' : VK} {o : Bool} (q : PostS K c.cA φ H (toS ρ (bindO o r fun d h1 => .ok d h1) f) D W) (hs : RelS K φ H ρ σ)
    (k : ∀ d h1 φ1 H1 v, PostS K c.cA φ1 H1 (f d h1) D W → Ext φ H φ1 H1 → HRel K φ1 H1 h1 → RelD K φ1 H1 d v → Q' v H1) : PostR K φ H r Q' fun x H' => W (.ref (c.cA x)) none σ H' := by
  match r, q with
  | .ok (.val d) h1, q => exact fun φ1 H1 v x hr rd => k d h1 φ1 H1 v (PostS.ext q x) x hr rd
  | .ok (.new ds) h1, q =>
    intro φ1 H1 p xs x hr np rd
    cases o with
    | false => exact k (.lst ds) h1 φ1 _ _ (PostS.ext q (x.trans (Ext.new np))) (x.trans (Ext.new np)) (hr.new np) (rel_new hr np rd)
    | true =>
      refine k (.ref h1.length) (h1 ++ [ds]) (φ1 ++ [p]) _ _ (PostS.ext q (x.trans (Ext.push np))) (x.trans (Ext.push np)) (hr.push np rd) (.ref ?_)
      rw [← hr.len]
      simp
  | .exc k h1, q => exact fun φ1 H1 x hr => q φ1 H1 σ x hr (x.relS hs)
theorem s_asg {tg : Expr} {o : Bool} (he : PE X e (T c X.K W ie)) (hg : PG X tg (Tg X.K g)) (hs : swapsWithSole [tg] e pos.line X.env = pure false := by rfl) (hw : swappedStores [tg] e X.env = pure none := by rfl) (h1 : (assignEach [tg] X.env).map (·.2) = [assign tg X.env] := by rfl) :
    PS X (.Assign [tg] e pos) (Tx c X.K W (.asg o g ie)) := (ps_asg he hg hs hw h1).imp fun D σ H ⟨φ, ρ, h, hr, hs, q⟩ => by
  simp only [ex] at q
  refine ⟨φ, ρ, h, hr, hs, seqRS q hs fun d h1 φ1 H1 v q x1 hr1 rd => ?_⟩
  cases ea : asg g d ρ with
  | none =>
    simp only [ea, asgR] at q
    exact False.elim q
  | some ρ1 =>
    simp only [ea, asgR] at q
    exact ⟨φ1, ρ, d, ρ1, x1.relS hs, rd, ea, fun σ1 hs1 _ => q φ1 H1 σ1 (Ext.refl _ _) hr1 hs1⟩
theorem s_set {i : Nat} {x : Str} {o : Bool} {pos' : Pos} (hN : X.N.Nodup) (hi : X.N[i]? = some x) (hx : Loc X.env.scope x) (he : PE X e (T c X.K W ie)) (hs : swapsWith e (some (.Name x pos')) pos.line X.env = pure false := by rfl) (hf : X.fn x = true ∨ X.env.scope.names.lookup x = some .local := by first | exact .inl rfl | exact .inr rfl | assumption) :
    PS X (.Assign [.Name x pos'] e pos) (Tx c X.K W (.asg o (.nm i) ie)) := (ps_set hN hi hx he hs hf).imp fun D σ H ⟨φ, ρ, h, hr, hs, q⟩ => by
  simp only [ex] at q
  refine ⟨φ, ρ, h, hr, hs, seqRS q hs fun d h1 φ1 H1 v q x1 hr1 rd => ?_⟩
  simp only [asg, asgR] at q
  exact q φ1 H1 _ (Ext.refl _ _) hr1 ((x1.relS hs).set rd i)
theorem s_expr (he : PE X e (T c X.K W ie)) (hs : swapsWith e none pos.line X.env = pure false := by rfl) : PS X (.Expr e pos) (Tx c X.K W (.expr ie)) := (ps_expr he hs).imp fun D σ H ⟨φ, ρ, h, hr, hs, q⟩ => by
  simp only [ex] at q
  refine ⟨φ, ρ, h, hr, hs, ?_⟩
  have q' : PostS X.K c.cA φ H (toS ρ (bindO false (ev c ρ ie h) fun d h1 => .ok d h1) fun _ h1 => .nx ρ h1) D W := by
    cases z : ev c ρ ie h with
    | ok r h1 =>
      rw [z] at q
      cases r <;> exact q
    | exc k h1 =>
      rw [z] at q
      exact q
    | bad =>
      rw [z] at q
      exact q
  exact seqRS q' hs fun d h1 φ1 H1 v q x1 hr1 rd => q φ1 H1 σ (Ext.refl _ _) hr1 (x1.relS hs)
theorem s_ret (he : PE X e (T c X.K W ie)) : PS X (.Return (some e) pos) (Tx c X.K W (.ret ie)) := (ps_ret he).imp fun D σ H ⟨φ, ρ, h, hr, hs, q⟩ => by
  simp only [ex] at q
  refine ⟨φ, ρ, h, hr, hs, ?_⟩
  cases z : ev c ρ ie h with
  | ok r h1 =>
    rw [z] at q
    exact PostR.calm (r := .ok r h1) (fun _ _ w => by cases w) (q : PostR X.K φ H (.ok r h1) D.rt _)
  | exc k h1 =>
    rw [z] at q
    exact fun φ1 H1 x hr1 => q φ1 H1 σ x hr1 (x.relS hs)
  | bad =>
    rw [z] at q
    exact q
theorem s_retN : PS X (.Return none pos) (Tx c X.K W .retN) := ps_retN.imp fun D σ H ⟨φ, ρ, h, hr, hs, q⟩ => by
  simp only [ex] at q
  exact q φ H _ (Ext.refl _ _) hr .non
theorem s_pass : PS X (.Pass pos) (Tx c X.K W .pass) := ps_pass.imp fun D σ H ⟨φ, ρ, h, hr, hs, q⟩ => by
  simp only [ex] at q
  exact q φ H σ (Ext.refl _ _) hr hs
theorem s_doc {x : Str} {j : Nat} {pos' : Pos} : PS X (.Expr (.Constant (.str x) j pos) pos') (Tx c X.K W .pass) := ps_doc.imp fun D σ H ⟨φ, ρ, h, hr, hs, q⟩ => by
  simp only [ex] at q
  exact q φ H σ (Ext.refl _ _) hr hs
theorem s_brk : PS X (.Break pos) (Tx c X.K W .brk) := ps_break.imp fun D σ H ⟨φ, ρ, h, hr, hs, q⟩ => by
  simp only [ex] at q
  exact q φ H σ (Ext.refl _ _) hr hs
theorem s_cnt : PS X (.Continue pos) (Tx c X.K W .cnt) := ps_continue.imp fun D σ H ⟨φ, ρ, h, hr, hs, q⟩ => by
  simp only [ex] at q
  exact q φ H σ (Ext.refl _ _) hr hs
theorem s_ifs {t : Expr} {A B : List Stmt} (ht : PT X t (Tt c X.K W it)) (ha : PSs X A (Txs c X.K W ss)) (hb : PSs X B (Txs c X.K W tt)) : PS X (.If t A B pos) (Tx c X.K W (.ifs it ss tt)) := (ps_if ht ha hb).imp fun D σ H ⟨φ, ρ, h, hr, hs, q⟩ => by
  simp only [ex] at q
  refine ⟨φ, ρ, h, hr, hs, ?_⟩
  cases z : evT c ρ it h with
  | ok k h1 =>
    rw [z] at q
    intro φ1 H1 x1 hr1
    have q' : PostS X.K c.cA φ1 H1 (iteS k (exs c ss ρ h1) (exs c tt ρ h1)) D W := PostS.ext q x1
    cases k with
    | true => exact ⟨φ1, ρ, h1, hr1, x1.relS hs, q'⟩
    | false => exact ⟨φ1, ρ, h1, hr1, x1.relS hs, q'⟩
  | exc k h1 =>
    rw [z] at q
    exact fun φ1 H1 x hr1 => q φ1 H1 σ x hr1 (x.relS hs)
  | bad =>
    rw [z] at q
    exact q
theorem seqIS {m : R Src} {f : Src → Hs → RS} {D : Ends} {Q' : It → Hp → Prop} (q : PostS K c.cA φ H (toS ρ m f) D W) (hs : RelS K φ H ρ σ)
    (k : ∀ s h1 φ1 H1 J, PostS K c.cA φ1 H1 (f s h1) D W → Ext φ H φ1 H1 → HRel K φ1 H1 h1 → SrcOk K φ1 H1 s J → Q' J H1) : PostI K φ H m Q' fun x H' => W (.ref (c.cA x)) none σ H' := by
  match m, q with
  | .ok d h1, q => exact fun φ1 H1 v x hr rd => k d h1 φ1 H1 v (PostS.ext q x) x hr rd
  | .exc k h1, q => exact fun φ1 H1 x hr => q φ1 H1 σ x hr (x.relS hs)
theorem s_for {tg iter : Expr} {B : List Stmt} (hp : PassesOwn (model X.prog X.w) X.A X.env X.xe) (hc : X.calm = true) (hi : PI X tg iter (Ti c X.K W it)) (hg : PG X tg (Tg X.K g)) (hb : PSs X B (Txs c X.K W ss)) (hf : ∀ x, foldedSetIterable iter X.env x = pure x := by intro _; rfl) :
    PS X (.For tg iter B [] pos) (Tx c X.K W (.for_ g it ss)) := (ps_for hp hc hi hg hb hf).imp fun D σ H ⟨φ, ρ, h, hr, hs, q⟩ => by
  simp only [ex] at q
  refine ⟨φ, ρ, h, hr, hs, seqIS q hs fun s h1 φ1 H1 J q x1 hr1 so => ?_⟩
  refine ⟨fun i m σx Hx => ∃ φx ρx hx, Ext φ1 H1 φx Hx ∧ HRel X.K φx Hx hx ∧ RelS X.K φx Hx ρx σx ∧ PostS X.K c.cA φ1 H1 (forI (fun ρ h => exs c ss ρ h) g s m i ρx hx) D W,
    ⟨srcLen s h1 + 1, φ1, ρ, h1, Ext.refl _ _, hr1, x1.relS hs, q⟩, ?_⟩
  rintro i m σ2 H2 ⟨φ2, ρ2, h2, x2, hr2, hs2, q2⟩
  have so2 := so.ext x2
  cases m with
  | zero =>
    simp only [forI] at q2
    exact False.elim q2
  | succ k =>
    unfold forI at q2
    cases e : srcAt s i h2 with
    | none =>
      rw [e] at q2
      exact False.elim q2
    | some o =>
      rw [e] at q2
      cases o with
      | none => exact .inl ⟨so2.stop hr2 e, q2 φ2 H2 σ2 x2 hr2 hs2⟩
      | some x =>
        obtain ⟨go, yld⟩ := so2.go hr2 e
        refine .inr ⟨go, fun σn Hn => ∃ φx ρx hx, Ext φ1 H1 φx Hn ∧ HRel X.K φx Hn hx ∧ RelS X.K φx Hn ρx σn ∧ PostS X.K c.cA φ1 H1 (forI (fun ρ h => exs c ss ρ h) g s k (i + 1) ρx hx) D W, fun σn Hn z => ⟨k, Nat.lt_succ_self _, z⟩, fun y Hy hy => ?_⟩
        obtain ⟨rfl, rx⟩ := yld y Hy hy
        cases ea : asg g x ρ2 with
        | none =>
          simp only [ea] at q2
          exact False.elim q2
        | some ρ3 =>
          simp only [ea] at q2
          refine ⟨φ2, ρ2, x, ρ3, hs2, rx, ea, fun σ3 hs3 _ => ⟨φ2, ρ3, h2, hr2, hs3, ?_⟩⟩
          cases eb : exs c ss ρ3 h2 with
          | nx ρ4 h4 =>
            simp only [eb] at q2
            exact fun φ4 H4 σ4 x4 hr4 hs4 => ⟨φ4, ρ4, h4, x2.trans x4, hr4, hs4, q2⟩
          | ct ρ4 h4 =>
            simp only [eb] at q2
            exact fun φ4 H4 σ4 x4 hr4 hs4 => ⟨φ4, ρ4, h4, x2.trans x4, hr4, hs4, q2⟩
          | bk ρ4 h4 =>
            simp only [eb] at q2
            exact fun φ4 H4 σ4 x4 hr4 hs4 => q2 φ4 H4 σ4 (x2.trans x4) hr4 hs4
          | ret r h4 =>
            simp only [eb] at q2
            exact PostR.ext (r := .ok r h4) q2 x2
          | exc k ρ4 h4 =>
            simp only [eb] at q2
            exact fun φ4 H4 σ4 x4 hr4 hs4 => q2 φ4 H4 σ4 (x2.trans x4) hr4 hs4
          | bad =>
            simp only [eb] at q2
            exact False.elim q2
theorem s_whl {t : Expr} {B : List Stmt} (hp : PassesOwn (model X.prog X.w) X.A X.env X.xe) (ht : PT X t (Tt c X.K W it)) (hb : PSs X B (Txs c X.K W ss)) : PS X (.While t B [] pos) (Tx c X.K W (.whl it ss)) := (ps_while hp ht hb).imp fun D σ H ⟨φ, ρ, h, hr, hs, q⟩ => by
  simp only [ex] at q
  refine ⟨fun m σx Hx => ∃ φx ρx hx, Ext φ H φx Hx ∧ HRel X.K φx Hx hx ∧ RelS X.K φx Hx ρx σx ∧ PostS X.K c.cA φ H (whlI (fun ρ h => evT c ρ it h) (fun ρ h => exs c ss ρ h) m ρx hx) D W, ⟨c.fuel, φ, ρ, h, Ext.refl _ _, hr, hs, q⟩, ?_⟩
  rintro m σ2 H2 ⟨φ2, ρ2, h2, x2, hr2, hs2, q2⟩
  cases m with
  | zero =>
    simp only [whlI] at q2
    exact False.elim q2
  | succ k =>
    unfold whlI at q2
    refine ⟨φ2, ρ2, h2, hr2, hs2, ?_⟩
    cases e : evT c ρ2 it h2 with
    | bad =>
      rw [e] at q2
      exact q2
    | exc k h3 =>
      rw [e] at q2
      exact fun φ3 H3 x3 hr3 => q2 φ3 H3 σ2 (x2.trans x3) hr3 (x3.relS hs2)
    | ok b h3 =>
      rw [e] at q2
      simp only [toS] at q2
      intro φ3 H3 x3 hr3
      cases b with
      | false =>
        rw [if_neg Bool.false_ne_true]
        exact q2 φ3 H3 σ2 (x2.trans x3) hr3 (x3.relS hs2)
      | true =>
        rw [if_pos rfl]
        refine ⟨fun σn Hn => ∃ φx ρx hx, Ext φ H φx Hn ∧ HRel X.K φx Hn hx ∧ RelS X.K φx Hn ρx σn ∧ PostS X.K c.cA φ H (whlI (fun ρ h => evT c ρ it h) (fun ρ h => exs c ss ρ h) k ρx hx) D W, fun σn Hn z => ⟨k, Nat.lt_succ_self _, z⟩, φ3, ρ2, h3, hr3, x3.relS hs2, ?_⟩
        cases eb : exs c ss ρ2 h3 with
        | nx ρ4 h4 =>
          simp only [eb] at q2
          exact fun φ4 H4 σ4 x4 hr4 hs4 => ⟨φ4, ρ4, h4, x2.trans (x3.trans x4), hr4, hs4, q2⟩
        | ct ρ4 h4 =>
          simp only [eb] at q2
          exact fun φ4 H4 σ4 x4 hr4 hs4 => ⟨φ4, ρ4, h4, x2.trans (x3.trans x4), hr4, hs4, q2⟩
        | bk ρ4 h4 =>
          simp only [eb] at q2
          exact fun φ4 H4 σ4 x4 hr4 hs4 => q2 φ4 H4 σ4 (x2.trans (x3.trans x4)) hr4 hs4
        | ret r h4 =>
          simp only [eb] at q2
          exact PostR.ext (r := .ok r h4) q2 (x2.trans x3)
        | exc k ρ4 h4 =>
          simp only [eb] at q2
          exact fun φ4 H4 σ4 x4 hr4 hs4 => q2 φ4 H4 σ4 (x2.trans (x3.trans x4)) hr4 hs4
        | bad =>
          simp only [eb] at q2
          exact False.elim q2
end Fr
set_option Elab.async false
set_option linter.all false
set_option maxRecDepth 100000
set_option maxHeartbeats 4000000
namespace Fr
open PySem PySem.Spec PyProof.Rows L2
variable {K : PySem.W.Frag} {φ φ' φ1 φ2 : List Addr} {H H' H1 H2 : Hp} {h h' h1 : Hs} {d x y : D} {ds es : List D} {v u : V} {vs xs ys : List V} {p : Addr} {n m : Nat} {ρ ρ' : Rho} {σ σ' : L2.St} {Q : VK} {E : XW} {X : Cx}
variable {c : Cn} {W : WX} {ie ia ib ic it : Tm} {ies jes cs : Tms} {a b e : Expr} {pos : Pos} {g : G} {own : List Nat} {ss tt : Sms} {st : Sm}
/-! ## more statements -/
theorem s_par {i j : Nat} {x y : Str} {o1 o2 : Bool} {px py pt : Pos} {kt k2 : Nat} {pt2 : Pos} (hc : X.calm = true) (hN : X.N.Nodup) (hi : X.N[i]? = some x) (hj : X.N[j]? = some y) (hij : i ≠ j) (hx : X.env.scope.names.lookup x = some .local) (hy : X.env.scope.names.lookup y = some .local)
    (ha : PE X a (T c X.K W ia)) (hb : PE X b (T c X.K W ib)) (hw : swappedStores [.Tuple [.Name x px, .Name y py] kt pt] (.Tuple [a, b] k2 pt2) X.env = pure (some [x, y]))
    (hs : swapsWithSole [.Tuple [.Name x px, .Name y py] kt pt] (.Tuple [a, b] k2 pt2) pos.line X.env = pure false := by rfl)
    (s1 : starEach [a, b] X.env = (false, eval a X.env) :: starEach [b] X.env := by rfl) (s2 : starEach [b] X.env = (false, eval b X.env) :: starEach [] X.env := by rfl) :
    PS X (.Assign [.Tuple [.Name x px, .Name y py] kt pt] (.Tuple [a, b] k2 pt2) pos) (Tx c X.K W (.par o1 o2 i j ia ib)) := (ps_par hc hN hi hj hij hx hy (pa_cons ha (pa_cons hb pa_nil s2) s1) hw hs).imp fun D σ H ⟨φ, ρ, h, hr, hs, q⟩ => by
  simp only [ex] at q
  have q' : PostS X.K c.cA φ H (toS ρ (bindO o1 (ev c ρ ia h) fun d h1 => .ok d h1) fun x h1 => toS ρ (bindO o2 (ev c ρ ib h1) fun d h2 => .ok d h2) fun y h2 => .nx ((ρ.set i (some x)).set j (some y)) h2) D W := by
    cases z : ev c ρ ia h with
    | bad =>
      rw [z] at q
      exact q
    | exc k h1 =>
      rw [z] at q
      exact q
    | ok r h1 =>
      rw [z] at q
      have go : ∀ (d : Fr.D) (h1 : Hs), PostS X.K c.cA φ H (toS ρ (bindO o2 (ev c ρ ib h1) fun y h2 => .ok (d, y) h2) fun p h2 => .nx ((ρ.set i (some p.1)).set j (some p.2)) h2) D W →
          PostS X.K c.cA φ H (toS ρ (bindO o2 (ev c ρ ib h1) fun d h2 => .ok d h2) fun y h2 => .nx ((ρ.set i (some d)).set j (some y)) h2) D W := fun d h1 q => by
        cases z : ev c ρ ib h1 with
        | bad =>
          rw [z] at q
          exact q
        | exc k h1 =>
          rw [z] at q
          exact q
        | ok r h1 =>
          rw [z] at q
          cases r with
          | val d => exact q
          | new ds => cases o2 <;> exact q
      cases r with
      | val d => exact go d h1 q
      | new ds =>
        cases o1 with
        | false => exact go _ h1 q
        | true => exact go _ _ q
  refine ⟨φ, ρ, h, hr, hs, seqRS q' hs fun d h1 φ1 H1 v q x1 hr1 rd => ?_⟩
  refine ⟨φ1, ρ, h1, hr1, x1.relS hs, seqRS q (x1.relS hs) fun d2 h2 φ2 H2 v2 q x2 hr2 rd2 => ?_⟩
  exact ⟨v, v2, rfl, q φ2 H2 _ (Ext.refl _ _) hr2 ((((x1.trans x2).relS hs).set (x2.rel rd) i).set rd2 j)⟩
/-- the built-in store of a list's item -/
theorem s_setix {o i : Expr} {io ii : Tm} {tpos : Pos} (he : PE X e (T c X.K W ie)) (ho : PE X o (T c X.K W io)) (hi : PE X i (T c X.K W ii))
    (hs : swapsWithSole [.Subscript o i tpos] e pos.line X.env = pure false := by rfl) (hw : swappedStores [.Subscript o i tpos] e X.env = pure none := by rfl) (h1 : (assignEach [.Subscript o i tpos] X.env).map (·.2) = [assign (.Subscript o i tpos) X.env] := by rfl)
    (ha : ∀ v, assign (.Subscript o i tpos) X.env v = (do
      let ov ← holding [v] (eval o X.env)
      let iv ← holding [v, ov] (eval i X.env)
      standAt tpos
      holding [v, ov, iv] (setItem ov iv v)
      release [v, ov, iv] []) := by intro _; rfl) :
    PS X (.Assign [.Subscript o i tpos] e pos) (Tx c X.K W (.setix io ii ie)) := (ps_asg he (pg_sub ho hi set_list ha) hs hw h1).imp fun D σ H ⟨φ, ρ, h, hr, hs, q⟩ => by
  simp only [ex] at q
  have P1 : ∀ {α β : Type} (r : R Res) (f : Fr.D → Hs → R α) (k : α → Hs → RS), toS ρ (bindD r f) k = toS ρ (bindO false r fun d h1 => .ok d h1) fun d h1 => toS ρ (f d h1) k := by
    intro α β r f k
    cases r with
    | ok r h => cases r <;> rfl
    | exc k h => rfl
    | bad => rfl
  rw [P1 (β := Unit)] at q
  refine ⟨φ, ρ, h, hr, hs, seqRS q hs fun d h1 φ1 H1 v q x1 hr1 rd => ?_⟩
  rw [P1 (β := Unit)] at q
  refine ⟨φ1, ρ, h1, hr1, x1.relS hs, seqRS q (x1.relS hs) fun d2 h2 φ2 H2 v2 q x2 hr2 rd2 => ?_⟩
  rw [P1 (β := Unit)] at q
  refine ⟨φ2, ρ, h2, hr2, (x1.trans x2).relS hs, seqRS q ((x1.trans x2).relS hs) fun d3 h3 φ3 H3 v3 q x3 hr3 rd3 => ?_⟩
  simp only [toS] at q
  cases rd2 with
  | ref en =>
    cases rd3 with
    | int k =>
      simp only [setAt] at q
      split at q
      · rename_i ds0 e5
        split at q
        · rename_i j ej
          split at q
          · rename_i un
            obtain ⟨ys, e6, rs, un0⟩ := hr3.at_ e5 (x3.ix en)
            refine ⟨_, ys, k, j, rfl, rfl, e6, by rw [← rs.length]; exact ej, ?_⟩
            have rdv := (x2.trans x3).rel rd
            have un1 : Fr.D.unds _ (ds0.set j d) = true := Fr.D.unds_iff.mpr fun z hz => by
              rcases List.mem_or_eq_of_mem_set hz with w | w
              · exact Fr.D.unds_iff.mp un0 z w
              · rw [w]
                exact un
            exact q φ3 _ _ (Ext.write hr3 (x3.ix en)) (hr3.write (x3.ix en) (rs.set rdv j) un1) ((x1.trans (x2.trans (x3.trans (Ext.write hr3 (x3.ix en))))).relS hs)
          · exact False.elim q
        · exact False.elim q
      · exact False.elim q
    | _ => exact False.elim q
  | _ => exact False.elim q
theorem s_raise {t : L2.St → Hp → XK → Prop} {k : Nat} (hc : X.calm = true) (tk : Takes X W) (he : PMk X e (fun _ H Q => Q (.ref (c.cA k)) none H)) : PS X (.Raise (some e) none pos) (Tx c X.K W (.raise k)) := (ps_raise hc tk he).imp fun D σ H ⟨φ, ρ, h, hr, hs, q⟩ => by
  simp only [ex] at q
  exact q φ H σ (Ext.refl _ _) hr hs
/-! ## a def -/
theorem fin_ok {r : RS} {cA : Nat → Addr} (hm : φ.length = m) (hW : ∀ k σ H, E k H → W (.ref (cA k)) none σ H) (q : PostR K φ H (fin m r) Q E) : PostS K cA φ H r { nx := fun _ H' => Q .non H', rt := Q } W := by
  subst hm
  match r, q with
  | .nx ρ h', q => exact fun φ' H' σ' x hr rs => q _ H' .non x.cut (hr.cut _) .non
  | .exc k ρ h', q => exact fun φ' H' σ' x hr rs => hW _ _ _ (q _ H' x.cut (hr.cut _))
  | .ret (.new ds) h', q =>
    simp only [fin] at q
    split at q
    · rename_i un
      exact fun φ' H1 p xs x hr np rd => q _ H1 p xs x.cut (hr.cut _) np (rd.cut _ un)
    · exact False.elim q
  | .ret (.val d) h', q =>
    have plain : ∀ d : Fr.D, PostR K φ H (if d.und φ.length = true then .ok (.val d) (h'.take φ.length) else .bad) Q E → PostR K φ H (.ok (.val d) h') Q fun _ _ => False := fun d q => by
      split at q
      · rename_i un
        exact fun φ' H' v x hr rd => q _ H' v x.cut (hr.cut _) (rd.cut _ un)
      · exact False.elim q
    cases d with
    | ref n =>
      simp only [fin] at q
      split at q
      · rename_i hn
        exact fun φ' H' v x hr rd => q _ H' v x.cut (hr.cut _) (rd.cut _ (by unfold D.und; exact decide_eq_true hn))
      · rename_i hn
        split at q
        · rename_i ds e
          split at q
          · rename_i un
            intro φ' H' v x hr rd
            cases rd with
            | ref en =>
              rename_i a
              obtain ⟨xs, eH, rs, _⟩ := hr.at_ e en
              have hx := x.hide en hr.nd (by omega)
              have g1 := q _ (hide H' a) a xs hx.2 (hr.hide en eH (by omega)) hide_same (RelDs.hide hr.nd en eH (by omega) rs un)
              rw [upd_hide eH] at g1
              exact g1
          · exact False.elim q
        · exact False.elim q
    | _ => exact plain _ q
  | .bk ρ h', q => exact False.elim q
  | .ct ρ h', q => exact False.elim q
structure Fd where
  np : Nat
  ns : Nat
  body : Sms
def initR (ns : Nat) (ds : List D) : Rho := ds.map some ++ List.replicate (ns - ds.length) none
def callN (base : Cn) (fns : Nat → Option Fd) : Nat → Nat → List D → Hs → R Res
  | 0, _, _, _ => .bad
  | n + 1, f, ds, h => match fns f with
    | none => .bad
    | some F => if ds.length = F.np then fin h.length (exs { base with call := callN base fns n } F.body (initR F.ns ds) h) else .bad
abbrev cnN (base : Cn) (fns : Nat → Option Fd) (n : Nat) : Cn := { base with call := callN base fns n }
theorem init_ok {N : List Str} (r : RelDs K φ H ds vs) (hl : vs.length ≤ N.length) : RelS K φ H (initR N.length ds) (L2.start N vs) := by
  unfold initR L2.start
  refine ⟨?_, fun i d e => ?_⟩
  · rw [List.length_append, List.length_append, List.length_map, List.length_map, List.length_replicate, List.length_replicate, r.length]
  · by_cases hi : i < ds.length
    · rw [List.getElem?_append_left (by rw [List.length_map]; exact hi), List.getElem?_map] at e
      cases e1 : ds[i]? with
      | none =>
        rw [e1] at e
        cases e
      | some d' =>
        rw [e1] at e
        cases e
        obtain ⟨v, e2, rv⟩ := r.get e1
        exact ⟨v, by rw [List.getElem?_append_left (by rw [List.length_map, ← r.length]; exact hi), List.getElem?_map, e2]; rfl, rv⟩
    · rw [List.getElem?_append_right (by rw [List.length_map]; omega), List.getElem?_replicate] at e
      split at e <;> cases e
theorem fn_zero {P : Program} {w : World} {mg : Str → Option Value} {base : Heap} {bc : Cn} {fns : Nat → Option Fd} {fa : Addr} {fd : FuncData} {ps : List Str} {f : Nat} : GnOk P w K mg base 0 fa fd ps (SpOf (cnN bc fns 0) K f) :=
  ⟨fun vs H Q E ⟨φ, h, ds, hr, rd, q⟩ => False.elim q, fun A outer s H args us vs Q E _ _ _ _ _ ⟨φ, h, ds, hr, rd, q⟩ => False.elim q⟩
theorem fn_ok {P : Program} {w : World} {mg : Str → Option Value} {base : Heap} {bc : Cn} {fns : Nat → Option Fd} {fa : Addr} {fd : FuncData} {N ps : List Str} {f k : Nat} {x qual : Str} {stm : Stmt} {body : Sms} (F : Fun K x qual stm fa fd) (S : FnScope N ps (defScope stm))
    (hf : fns f = some ⟨ps.length, N.length, body⟩)
    (hb : ∀ (cdv : Value) (A : Around) (l : List Env) (s : Shared) (H : Hp) (E : XK), A.guards = some [] → Room k (A.deeper (envOfC qual (defScope stm) s.heap.objs.size fa cdv)) → Takes (cxOf (L2.CX P w) P w K mg base N qual (defScope stm) fa cdv A l s H E) (fun cls d _ H => E cls d H) →
      PSs (cxOf (L2.CX P w) P w K mg base N qual (defScope stm) fa cdv A l s H E) (defBody stm) (Txs (cnN bc fns k) K (fun cls d _ H => E cls d H) body)) :
    GnOk P w K mg base (k + 1) fa fd ps (SpOf (cnN bc fns (k + 1)) K f) := by
  have len : ∀ vs H Q E, SpOf (cnN bc fns (k + 1)) K f vs H Q E → vs.length = ps.length := fun vs H Q E ⟨φ, h, ds, hr, rd, q⟩ => by
    simp only [callN, hf] at q
    split at q
    · rename_i z
      rw [← rd.length]
      exact z
    · exact False.elim q
  obtain ⟨oc, od, kV, doc, pm, an, cdv, ct, osl, rfl, lk, hcd⟩ := F.ex
  refine ⟨len, fun A l s H as us vs Q E gd rm e0 bd rv sp => ?_⟩
  have KX : K.In s.heap := e0.mod.kin.keeps fun b o z => (e0.bs b o z).1
  refine codeAny_call_function rm.depth (KX _ _ lk) rfl S.co S.gen rfl (PySem.W.codeRec_of KX hcd) (bd _ _ _ _ ?_)
  refine wpAny_newFunctionEnv_cells S.kind (fun y hy => ?_) fun env he s1 ic => ?_
  · rcases S.par y.1 (List.of_mem_zip hy).1 with z | z
    · exact .inl z
    · exact .inr ⟨z, PySem.W.cellsFrom_some _ _ _ (.inl z)⟩
  · subst he
    refine ⟨(e0.mod.nolimit.keeps fun b o z => (e0.bs b o z).1).keeps ic.toInCall.keep, codeAny_func ?_⟩
    have tk : Takes (cxOf (L2.CX P w) P w K mg base N qual (defScope stm) fa cdv A l s H E) (fun cls d _ H => E cls d H) := takes_of rfl rfl rfl rfl
    have hl := len vs H Q E sp
    have hN : ps.length ≤ N.length := by
      have := congrArg List.length S.pre
      rw [List.length_take] at this
      omega
    have I0 : Inv (cxOf (L2.CX P w) P w K mg base N qual (defScope stm) fa cdv A l s H E) [] (L2.start N vs) H s1 := inv_start S rm.hd e0 hl rv ic
    obtain ⟨φ, h, ds, hrel, rd, q⟩ := sp
    simp only [callN, hf] at q
    split at q
    · have t0 : Txs (cnN bc fns k) K (fun cls d _ H => E cls d H) body { nx := fun _ H' => Q .non H', rt := Q } (L2.start N vs) H := ⟨φ, _, h, hrel, init_ok rd (by omega), fin_ok (E := fun x H' => E (.ref (bc.cA x)) none H') hrel.len (fun k σ H z => z) q⟩
      refine wpAny_mono ((hb cdv A l s H E gd (rm.deeper _) tk).run [] s1 _ H _ I0 t0) (fun fl s' z => ?_) fun e s' z => z
      match fl, z with
      | .ret u, ⟨v, σ', H', J, rv', q'⟩ => exact ⟨v, H', J.os, J.bare, J.base, J.hok, rv', q'⟩
      | .next, ⟨σ', H', J, q'⟩ => exact ⟨V.non, H', J.os, J.bare, J.base, J.hok, rfl, q'⟩
      | .brk, ⟨_, _, _, q'⟩ => exact False.elim q'
      | .cont, ⟨_, _, _, q'⟩ => exact False.elim q'
    · exact False.elim q
/-! ## the law's own call -/
theorem law_end {P : Program} {w : World} {mg mb : Str → Option Value} {k : Nat} {fa a : Addr} {fd : FuncData} {x : Str} {sp : Sp} {s₁ : Shared} {vs : List Value} {ns : List Int}
    (KX : K.In s₁.heap) (gl : s₁.heap.Ns mainGlobals mg) (nb : s₁.heap.Ns builtinsNs mb) (nbb : ∀ x : Str, x ≠ "__name__" → mb x = bootBuiltins x) (lim : s₁.heap.NoLimit) (g0 : s₁.gens = #[])
    (at_ : s₁.heap.get? a = some { cls := .type "list", data := .seq vs.toArray }) (ia : IntsAre vs ns) (len : ns.length ≤ sizeLine) (rm : Room k callerA)
    (F : ∀ base : Heap, K.In base → base.Ns mainGlobals mg → GnOk P w K mg base k fa fd [x] sp) (bd : ∀ (s : Shared) (u : Value), BindsTo s fd ⟨[u], []⟩ [(x, u)])
    (q : ∀ H : Hp, RoL K H a (ns.map V.int) → sp [.ref a] H (fun v _ => v = .bl true) fun _ _ _ => False) :
    codeAny (model P w) callerA (.call (.ref fa) ⟨[.ref a], []⟩) (fun r s' => r = .ok (.ret (.bool true)) ∧ OldK s₁.heap s'.heap ∧ s'.os = s₁.os ∧ AllBare s'.gens) s₁ := by
  have rv := vals_ints ia
  have core : ∀ H : Hp, (∀ b, H b = none ∨ (b = a ∧ K.lookup a = none ∧ ∃ o xs, H b = some (.frz o (.lst xs)))) → RoL K H a (ns.map V.int) → HOk P w H s₁.heap →
      codeAny (model P w) callerA (.call (.ref fa) ⟨[.ref a], []⟩) (fun r s' => r = .ok (.ret (.bool true)) ∧ OldK s₁.heap s'.heap ∧ s'.os = s₁.os ∧ AllBare s'.gens) s₁ := by
    intro H Hn ro ok
    have dict : ∀ {b : Addr} {m : Str → Option Value}, s₁.heap.Ns b m → (hidT s₁.heap H).Ns b m := fun {b m} ⟨o, es, ep, e, d, r⟩ => ⟨o, es, ep, hidT_get e (by
      rcases Hn b with z | ⟨z, _⟩
      · exact z
      · subst z
        rw [at_] at e
        cases e
        cases (show Data.seq vs.toArray _ = Data.dict es ep from d)), d, r⟩
    have KB : K.In (hidT s₁.heap H) := fun b o e => hidT_get (KX b o e) (by
      rcases Hn b with z | ⟨z, nk, _⟩
      · exact z
      · subst z
        rw [nk] at e
        cases e)
    have M : Mod K mg (hidT s₁.heap H) := ⟨KB, dict gl, ⟨mb, dict nb, nbb⟩, by
      obtain ⟨mc, z1, z2⟩ := lim
      exact ⟨mc, dict z1, z2⟩⟩
    have e0 : Env0 P w K mg (hidT s₁.heap H) callerA [] s₁ H := ⟨rfl, M, fun b o e => of_hidT e, by rw [hidT_size]; exact Nat.le_refl _, trivial, fun b z => (List.not_mem_nil z).elim, ok, .of_eq g0⟩
    refine codeAny_mono ((F _ KB (dict gl)).go callerA [] s₁ H ⟨[.ref a], []⟩ [.ref a] [.ref a] _ _ rfl rm e0 (bd s₁ _) (.cons rfl .nil) (q H ro)) fun r s' z => ?_
    match r, z with
    | .error e, ⟨_, _, _, _, _, _, _, _, _, _, _, _, no⟩ => exact no.elim
    | .ok (.ret u), ⟨v, H', os, bare, un, ok', rv', e⟩ =>
      have e' : v = .bl true := e
      subst e'
      refine ⟨by rw [show u = Value.bool true from rv'], OldK.of_keep fun b o e => ?_, os, bare⟩
      rcases Hn b with z | ⟨_, _, o', xs, z⟩
      · exact un.keep b o e z (fun z => (List.not_mem_nil z).elim) (fun z => (List.not_mem_nil z).elim)
      · obtain ⟨e1, _⟩ := ok _ _ z
        obtain ⟨e2, _⟩ := ok' _ _ (un.frzs _ _ _ z)
        rw [e] at e1
        cases e1
        exact e2
  cases hk : K.lookup a with
  | some o =>
    have e := KX a o hk
    rw [at_] at e
    cases e
    refine core (fun _ => none) (fun _ => .inl rfl) (.inr ⟨_, vs.toArray, _, hk, rfl, rfl, rfl, by rw [List.size_toArray, ia.length]; exact len, by simpa using rv⟩) fun b u z => ?_
    have z' : (none : Option HO) = some u := z
    cases z'
  | none =>
    obtain ⟨H, eH⟩ : ∃ H : Hp, H = fun b => if b = a then some (.frz { cls := .type "list", data := .seq vs.toArray } (.lst (ns.map V.int))) else none := ⟨_, rfl⟩
    have Ha : H a = some (.frz { cls := .type "list", data := .seq vs.toArray } (.lst (ns.map V.int))) := by
      rw [eH]
      exact if_pos rfl
    have Hn : ∀ b, b ≠ a → H b = none := fun b z => by
      rw [eH]
      exact if_neg z
    refine core H (fun b => ?_) (.inl ⟨_, Ha⟩) fun b u e => ?_
    · by_cases z : b = a
      · exact .inr ⟨z, hk, _, _, by rw [z]; exact Ha⟩
      · exact .inl (Hn b z)
    · by_cases z : b = a
      · subst z
        rw [Ha] at e
        cases e
        exact ⟨at_, by rw [List.length_map]; exact len, vs, _, rv, at_⟩
      · rw [Hn b z] at e
        cases e
end Fr
set_option Elab.async false
set_option linter.all false
set_option maxRecDepth 100000
set_option maxHeartbeats 4000000
namespace Fr
open PySem PySem.Spec PyProof.Rows L2
variable {K : PySem.W.Frag} {φ φ' φ1 φ2 : List Addr} {H H' H1 H2 : Hp} {h h' h1 : Hs} {d x y : D} {ds es : List D} {v u : V} {vs xs ys : List V} {p : Addr} {n m : Nat} {ρ ρ' : Rho} {σ σ' : L2.St} {Q : VK} {E : XW} {X : Cx}
theorem opImp {f : Value → Value → Sem Value} {r r' : R2} (h : OpR X f r) (i : ∀ x y H Q, r' x y H Q → r x y H Q) : OpR X f r' := fun pins s σ H x y v u Q I rx ry q => h pins s σ H x y v u Q I rx ry (i x y H Q q)
theorem callImp {f : Value} {r r' : List V → Hp → VK → Prop} (h : CallR X f r) (i : ∀ xs H Q, r' xs H Q → r xs H Q) : CallR X f r' := fun pins s σ H xs us Q I rx q => h pins s σ H xs us Q I rx (i xs H Q q)
theorem mtImp {id : String} {r r' : V → List V → Hp → VK → Prop} (h : MtR X id r) (i : ∀ x xs H Q, r' x xs H Q → r x xs H Q) : MtR X id r' := fun pins s σ H x xs v us Q I rx rxs q => h pins s σ H x xs v us Q I rx rxs (i x xs H Q q)
/-! ## operators -/
def gate (b : Bool) (r : R Res) : R Res := if b then r else .bad
theorem gate_post {b : Bool} {r : R Res} (q : PostR K φ H (gate b r) Q E) : b = true ∧ PostR K φ H r Q E := by
  cases b with
  | true => exact ⟨rfl, q⟩
  | false => exact False.elim q
def okV (d : D) (h : Hs) : R Res := .ok (.val d) h
def lstOf (h : Hs) : D → Option (List D)
  | .lst ds => some ds
  | .ref n => h[n]?
  | _ => none
theorem lst_ok (hr : HRel K φ H h) (rd : RelD K φ H x v) (e : lstOf h x = some ds) : ∃ a xs, v = .ref a ∧ H a = some (.lst xs) ∧ RelDs K φ H ds xs := by
  cases rd with
  | lst s na r =>
    cases e
    exact ⟨_, _, rfl, s, r⟩
  | ref en =>
    obtain ⟨xs, e2, r, _⟩ := hr.at_ (show h[_]? = some ds from e) en
    exact ⟨_, xs, rfl, e2, r⟩
  | _ => cases e
def fits (xs ys : List D) : Bool := decide (xs.length + ys.length ≤ sizeLine)
def addD (x y : D) (h : Hs) : R Res := match x, y with
  | .int i, .int j => okV (.int (i + j)) h
  | .str s, .str t => gate (decide (s.length + t.length ≤ sizeLine)) (okV (.str (s ++ t)) h)
  | .tup s, .tup t => gate (fits s t) (okV (.tup (s ++ t)) h)
  | x, y => optR (lstOf h x) fun s => optR (lstOf h y) fun t => gate (fits s t) (.ok (.new (s ++ t)) h)
theorem calm_gate {b : Bool} {r : R Res} (h : Calm r) : Calm (gate b r) := by
  cases b with
  | true => exact h
  | false => exact fun _ _ z => by cases z
theorem calm_ok {r : Res} : Calm (.ok r h) := fun _ _ z => by cases z
theorem calm_bad : Calm .bad := fun _ _ z => by cases z
theorem calm_opt {α : Type} {o : Option α} {f : α → R Res} (hf : ∀ a, Calm (f a)) : Calm (optR o f) := by
  cases o with
  | none => exact calm_bad
  | some a => exact hf a
theorem opt_post {α : Type} {o : Option α} {f : α → R Res} (q : PostR K φ H (optR o f) Q E) : ∃ a, o = some a ∧ PostR K φ H (f a) Q E := by
  cases o with
  | none => exact False.elim q
  | some a => exact ⟨a, rfl, q⟩
theorem post_val (q : PostR K φ H (okV d h) Q E) (hr : HRel K φ H h) (rd : RelD K φ H d v) : Q v H := q φ H v (Ext.refl _ _) hr rd
theorem add_lists (hr : HRel K φ H h) (rx : RelD K φ H x v) (ry : RelD K φ H y u) (q : PostR K φ H (optR (lstOf h x) fun s => optR (lstOf h y) fun t => gate (fits s t) (.ok (.new (s ++ t)) h)) Q E) : rCat v u H Q := by
  obtain ⟨s, es, q⟩ := opt_post q
  obtain ⟨t, et, q⟩ := opt_post q
  obtain ⟨hz, q⟩ := gate_post q
  obtain ⟨a, xs, rfl, ha, ra⟩ := lst_ok hr rx es
  obtain ⟨b, ys, rfl, hb, rb⟩ := lst_ok hr ry et
  refine ⟨a, b, xs, ys, rfl, rfl, ha, hb, ?_, fun p np => q φ H p _ (Ext.refl _ _) hr np (ra.append rb)⟩
  have := of_decide_eq_true hz
  rw [← ra.length, ← rb.length]
  exact this
theorem add_ok : BinOk X addD .Add where
  rule := opImp (((op_add.or op_add_str).or op_catA).or op_cat) fun v u H Q ⟨φ, h, x, y, hr, rx, ry, q⟩ => by
    cases rx with
    | int i =>
      cases ry with
      | int j => exact .inl (.inl (.inl ⟨i, j, rfl, rfl, post_val q hr (.int _)⟩))
      | _ => exact False.elim q
    | str s =>
      cases ry with
      | str t =>
        obtain ⟨hz, q⟩ := gate_post q
        exact .inl (.inl (.inr ⟨s, t, rfl, rfl, of_decide_eq_true hz, post_val q hr (.str _)⟩))
      | _ => exact False.elim q
    | tup s rs =>
      cases ry with
      | tup t rt =>
        obtain ⟨hz, q⟩ := gate_post q
        refine .inl (.inr ⟨_, _, _, _, rfl, rfl, s, t, ?_, fun e => ?_, fun _ e => ?_, fun _ _ p np => ?_⟩)
        · have := of_decide_eq_true hz
          rw [← rs.length, ← rt.length]
          exact this
        · subst e
          cases rs
          exact post_val q hr (.tup t rt)
        · subst e
          cases rt
          rw [List.append_nil] at q
          exact post_val q hr (.tup s rs)
        · exact q φ _ _ (Ext.new np) (hr.new np) (.tup (.inl (.inl upd_same)) ((Ext.new np).rels (rs.append rt)))
      | _ => exact False.elim q
    | non => exact .inr (add_lists hr .non ry q)
    | bl b => exact .inr (add_lists hr (.bl b) ry q)
    | ty b => exact .inr (add_lists hr (.ty b) ry q)
    | lst s na r => exact .inr (add_lists hr (.lst s na r) ry q)
    | rol s r => exact .inr (add_lists hr (.rol s r) ry q)
    | ref e => exact .inr (add_lists hr (.ref e) ry q)
  calm := fun x y h => by
    unfold addD
    split <;> first | exact calm_ok | exact calm_gate calm_ok | exact calm_opt fun _ => calm_opt fun _ => calm_gate calm_ok
def int2 (f : Int → Int → Option D) (x y : D) (h : Hs) : R Res := match x, y with
  | .int i, .int j => okD (f i j) h
  | _, _ => .bad
theorem int2_calm {f : Int → Int → Option D} : Calm (int2 f x y h) := by
  unfold int2 okD
  split
  · split
    · exact calm_ok
    · exact calm_bad
  · exact calm_bad
theorem int2_post {f : Int → Int → Option D} (rx : RelD K φ H x v) (ry : RelD K φ H y u) (q : PostR K φ H (int2 f x y h) Q E) : ∃ i j d, v = .int i ∧ u = .int j ∧ f i j = some d ∧ PostR K φ H (okV d h) Q E := by
  cases rx with
  | int i =>
    cases ry with
    | int j =>
      have q' : PostR K φ H (okD (f i j) h) Q E := q
      cases e : f i j with
      | none =>
        rw [e] at q'
        exact False.elim q'
      | some d =>
        rw [e] at q'
        exact ⟨i, j, d, rfl, rfl, e, q'⟩
    | _ => exact False.elim q
  | _ => exact False.elim q
def subD : D → D → Hs → R Res := int2 fun i j => some (.int (i - j))
theorem sub_ok : BinOk X subD .Sub where
  rule := opImp op_sub fun v u H Q ⟨φ, h, x, y, hr, rx, ry, q⟩ => by
    obtain ⟨i, j, d, rfl, rfl, e, q⟩ := int2_post rx ry q
    cases e
    exact ⟨i, j, rfl, rfl, post_val q hr (.int _)⟩
  calm := fun x y h => int2_calm
def mulFits (i j : Int) : Bool := decide (i.natAbs < 2 ^ 64) || decide (j.natAbs < 2 ^ 64) || decide (i.natAbs.log2 + j.natAbs.log2 < 1000000)
def mulD : D → D → Hs → R Res := int2 fun i j => if mulFits i j then some (.int (i * j)) else none
theorem mul_ok : BinOk X mulD .Mult where
  rule := opImp (op_mul.or op_mulW) fun v u H Q ⟨φ, h, x, y, hr, rx, ry, q⟩ => by
    obtain ⟨i, j, d, rfl, rfl, e, q⟩ := int2_post rx ry q
    split at e
    · rename_i hz
      cases e
      have qq : Q (.int (i * j)) H := post_val q hr (.int _)
      unfold mulFits at hz
      rw [Bool.or_eq_true, Bool.or_eq_true] at hz
      rcases hz with (hz | hz) | hz
      · have := of_decide_eq_true hz
        exact .inl ⟨i, j, rfl, rfl, .inl (by omega), qq⟩
      · have := of_decide_eq_true hz
        exact .inl ⟨i, j, rfl, rfl, .inr (by omega), qq⟩
      · exact .inr ⟨i, j, rfl, rfl, of_decide_eq_true (p := i.natAbs.log2 + j.natAbs.log2 < 1000000) hz, qq⟩
    · cases e
  calm := fun x y h => int2_calm
def fdivD : D → D → Hs → R Res := int2 fun i j => if decide (0 < j) && decide (j.natAbs.log2 < 9000) then some (.int (i / j)) else none
theorem fdiv_ok : BinOk X fdivD .FloorDiv where
  rule := opImp op_fdivW fun v u H Q ⟨φ, h, x, y, hr, rx, ry, q⟩ => by
    obtain ⟨i, j, d, rfl, rfl, e, q⟩ := int2_post rx ry q
    split at e
    · rename_i hz
      cases e
      rw [Bool.and_eq_true] at hz
      exact ⟨i, j, rfl, rfl, ⟨of_decide_eq_true hz.1, of_decide_eq_true hz.2⟩, post_val q hr (.int _)⟩
    · cases e
  calm := fun x y h => int2_calm
def modD : D → D → Hs → R Res := int2 fun i j => if 0 < j then some (.int (i % j)) else none
theorem mod_ok : BinOk X modD .Mod where
  rule := opImp op_mod fun v u H Q ⟨φ, h, x, y, hr, rx, ry, q⟩ => by
    obtain ⟨i, j, d, rfl, rfl, e, q⟩ := int2_post rx ry q
    split at e
    · rename_i hz
      cases e
      exact ⟨i, j, rfl, rfl, hz, post_val q hr (.int _)⟩
    · cases e
  calm := fun x y h => int2_calm
def powD : D → D → Hs → R Res := int2 fun i j => if 0 ≤ j ∧ j ≤ 1000000 ∧ i.natAbs < 2 ^ 64 then some (.int (i ^ j.toNat)) else none
theorem pow_ok : BinOk X powD .Pow where
  rule := opImp op_pow fun v u H Q ⟨φ, h, x, y, hr, rx, ry, q⟩ => by
    obtain ⟨i, j, d, rfl, rfl, e, q⟩ := int2_post rx ry q
    split at e
    · rename_i hz
      cases e
      exact ⟨i, j, rfl, rfl, hz, post_val q hr (.int _)⟩
    · cases e
  calm := fun x y h => int2_calm
def binD : Bop → D → D → Hs → R Res
  | .add => addD | .sub => subD | .mul => mulD | .fdiv => fdivD | .mod => modD | .pow => powD
/-! ## comparisons -/
mutual
def toP0 : D → Option PyData
  | .non => some .none
  | .bl b => some (.bool b)
  | .int i => some (.int i)
  | .str x => some (.str x)
  | .tup ds => (toPs ds).map .tuple
  | .lst ds => (toPs ds).map .list
  | .rol ds => (toPs ds).map .list
  | _ => none
def toPs : List D → Option (List PyData)
  | [] => some []
  | d :: ds => (toP0 d).bind fun p => (toPs ds).map fun ps => p :: ps
end
def toP (h : Hs) : D → Option PyData
  | .ref n => (h[n]?).bind fun ds => (toPs ds).map .list
  | d => toP0 d
mutual
theorem toP0_ok : ∀ {d : D} {v : V} {p : PyData}, RelD K φ H d v → toP0 d = some p → Dp K H v p
  | _, _, _, .non, e => by
    unfold toP0 at e
    cases e
    exact .non
  | _, _, _, .bl b, e => by
    unfold toP0 at e
    cases e
    exact .bl b
  | _, _, _, .int i, e => by
    unfold toP0 at e
    cases e
    exact .int i
  | _, _, _, .str z, e => by
    unfold toP0 at e
    cases e
    exact .str z
  | _, _, _, .ty z, e => by
    unfold toP0 at e
    cases e
  | _, _, _, .ref z, e => by
    unfold toP0 at e
    cases e
  | _, _, p, .tup (ds := ds) s r, e => by
    unfold toP0 at e
    cases q : toPs ds with
    | none =>
      rw [q] at e
      cases e
    | some ps =>
      rw [q] at e
      cases e
      exact .tup s (toPs_ok r q)
  | _, _, p, .lst (ds := ds) s na r, e => by
    unfold toP0 at e
    cases q : toPs ds with
    | none =>
      rw [q] at e
      cases e
    | some ps =>
      rw [q] at e
      cases e
      exact .lst (.inl (.inl s)) (toPs_ok r q)
  | _, _, p, .rol (ds := ds) s r, e => by
    unfold toP0 at e
    cases q : toPs ds with
    | none =>
      rw [q] at e
      cases e
    | some ps =>
      rw [q] at e
      cases e
      exact .lst s.sq (toPs_ok r q)
theorem toPs_ok : ∀ {ds : List D} {vs : List V} {ps : List PyData}, RelDs K φ H ds vs → toPs ds = some ps → DpAll K H vs ps
  | _, _, _, .nil, e => by
    unfold toPs at e
    cases e
    exact .nil
  | _, _, ps, .cons (d := d) (ds := ds) r rs, e => by
    unfold toPs at e
    cases q : toP0 d with
    | none =>
      rw [q] at e
      cases e
    | some p =>
      cases q2 : toPs ds with
      | none =>
        rw [q, q2] at e
        cases e
      | some ps =>
        rw [q, q2] at e
        cases e
        exact .cons (toP0_ok r q) (toPs_ok rs q2)
end
theorem toP_ok {q : PyData} (hr : HRel K φ H h) (rd : RelD K φ H d v) (e : toP h d = some q) : Dp K H v q := by
  cases rd with
  | ref en =>
    rename_i n a
    have e' : (h[n]?).bind (fun ds => (toPs ds).map PyData.list) = some q := e
    cases z : h[n]? with
    | none =>
      rw [z] at e'
      cases e'
    | some ds =>
      rw [z] at e'
      obtain ⟨xs, e2, r, _⟩ := hr.at_ z en
      cases w : toPs ds with
      | none =>
        have e3 : (toPs ds).map PyData.list = some q := e'
        rw [w] at e3
        cases e3
      | some ps =>
        have e3 : (toPs ds).map PyData.list = some q := e'
        rw [w] at e3
        cases e3
        exact .lst (.inl (.inl e2)) (toPs_ok r w)
  | non => exact toP0_ok (φ := φ) .non e
  | bl b => exact toP0_ok (φ := φ) (.bl b) e
  | int b => exact toP0_ok (φ := φ) (.int b) e
  | str b => exact toP0_ok (φ := φ) (.str b) e
  | ty b => exact toP0_ok (φ := φ) (.ty b) e
  | tup s r => exact toP0_ok (.tup s r) e
  | lst s na r => exact toP0_ok (.lst s na r) e
  | rol s r => exact toP0_ok (.rol s r) e
def shp (p : PyData) : Bool := SeqAt.shaped p
def eqR (f : Bool → Bool) (x y : D) (h : Hs) : R Res := match x, y with
  | .int i, .int j => okV (.bl (f (decide (i = j)))) h
  | .str i, .str j => okV (.bl (f (decide (i = j)))) h
  | .bl i, .bl j => okV (.bl (f (decide (i = j)))) h
  | x, y => optR (toP h x) fun p => optR (toP h y) fun q => gate (shp p && shp q) (okV (.bl (f (PyData.eqv p q))) h)
theorem eqR_calm {f : Bool → Bool} : Calm (eqR f x y h) := by
  unfold eqR
  split <;> first | exact calm_ok | exact calm_opt fun _ => calm_opt fun _ => calm_gate calm_ok
theorem eq_deep {f : Bool → Bool} (hr : HRel K φ H h) (rx : RelD K φ H x v) (ry : RelD K φ H y u) (q : PostR K φ H (optR (toP h x) fun p => optR (toP h y) fun q => gate (shp p && shp q) (okV (.bl (f (PyData.eqv p q))) h)) Q E) :
    ∃ d e, Dp K H v d ∧ Dp K H u e ∧ SeqAt.shaped d = true ∧ SeqAt.shaped e = true ∧ Q (.bl (f (PyData.eqv d e))) H := by
  obtain ⟨p, ep, q⟩ := opt_post q
  obtain ⟨r, er, q⟩ := opt_post q
  obtain ⟨hz, q⟩ := gate_post q
  rw [Bool.and_eq_true] at hz
  exact ⟨p, r, toP_ok hr rx ep, toP_ok hr ry er, hz.1, hz.2, post_val q hr (.bl _)⟩
theorem eq_int {f : Bool → Bool} {i j : Int} {k : Bool} (q : Q (.bl (f (decide (i = j)))) H) : Q (.bl (f (decide (V.int i = V.int j)))) H := by
  have : decide (V.int i = V.int j) = decide (i = j) := by
    by_cases z : i = j
    · subst z; simp
    · rw [decide_eq_false z, decide_eq_false fun e => z (V.int.inj e)]
  rw [this]
  exact q
theorem eq_str {f : Bool → Bool} {i j : Str} (q : Q (.bl (f (decide (i = j)))) H) : Q (.bl (f (decide (V.str i = V.str j)))) H := by
  have : decide (V.str i = V.str j) = decide (i = j) := by
    by_cases z : i = j
    · subst z; simp
    · rw [decide_eq_false z, decide_eq_false fun e => z (V.str.inj e)]
  rw [this]
  exact q
theorem eq_bl {f : Bool → Bool} {i j : Bool} (q : Q (.bl (f (decide (i = j)))) H) : Q (.bl (f (decide (V.bl i = V.bl j)))) H := by
  have : decide (V.bl i = V.bl j) = decide (i = j) := by
    by_cases z : i = j
    · subst z; simp
    · rw [decide_eq_false z, decide_eq_false fun e => z (V.bl.inj e)]
  rw [this]
  exact q
theorem eq_ways {f : Bool → Bool} (hr : HRel K φ H h) (rx : RelD K φ H x v) (ry : RelD K φ H y u) (q : PostR K φ H (eqR f x y h) Q E) :
    (scal v u = true ∧ Q (.bl (f (decide (v = u)))) H) ∨ ∃ d e, Dp K H v d ∧ Dp K H u e ∧ SeqAt.shaped d = true ∧ SeqAt.shaped e = true ∧ Q (.bl (f (PyData.eqv d e))) H := by
  have deep : PostR K φ H (optR (toP h x) fun p => optR (toP h y) fun q => gate (shp p && shp q) (okV (.bl (f (PyData.eqv p q))) h)) Q E → _ := fun q => eq_deep hr rx ry q
  cases rx with
  | int i =>
    cases ry with
    | int j => exact .inl ⟨rfl, eq_int (f := f) (k := true) (post_val q hr (.bl _))⟩
    | _ => exact .inr (deep q)
  | str i =>
    cases ry with
    | str j => exact .inl ⟨rfl, eq_str (f := f) (post_val q hr (.bl _))⟩
    | _ => exact .inr (deep q)
  | bl i =>
    cases ry with
    | bl j => exact .inl ⟨rfl, eq_bl (f := f) (post_val q hr (.bl _))⟩
    | _ => exact .inr (deep q)
  | _ => exact .inr (deep q)
def eqD : D → D → Hs → R Res := eqR fun b => b
def neD : D → D → Hs → R Res := eqR fun b => !b
theorem eq_ok (ft : Fit X) : CmpOk X eqD .Eq where
  rule := opImp (op_eq.or (op_eqD (by have := ft.rm.un; omega))) fun v u H Q ⟨φ, h, x, y, hr, rx, ry, q⟩ => eq_ways hr rx ry q
  calm := fun x y h => eqR_calm
theorem ne_ok (ft : Fit X) : CmpOk X neD .NotEq where
  rule := opImp (op_ne.or (op_neD (by have := ft.rm.un; omega))) fun v u H Q ⟨φ, h, x, y, hr, rx, ry, q⟩ => eq_ways hr rx ry q
  calm := fun x y h => eqR_calm
def ltD : D → D → Hs → R Res := int2 fun i j => some (.bl (decide (i < j)))
def leD : D → D → Hs → R Res := int2 fun i j => some (.bl (decide (i ≤ j)))
def gtD : D → D → Hs → R Res := int2 fun i j => some (.bl (decide (j < i)))
def geD : D → D → Hs → R Res := int2 fun i j => some (.bl (decide (j ≤ i)))
theorem cmpI {f : Int → Int → Bool} {op : CmpOp} (r : OpR X (compareOp op) (rI0 fun i j => .bl (f i j))) : CmpOk X (int2 fun i j => some (.bl (f i j))) op where
  rule := opImp r fun v u H Q ⟨φ, h, x, y, hr, rx, ry, q⟩ => by
    obtain ⟨i, j, d, rfl, rfl, e, q⟩ := int2_post rx ry q
    cases e
    exact ⟨i, j, rfl, rfl, post_val q hr (.bl _)⟩
  calm := fun x y h => int2_calm
theorem lt_ok : CmpOk X ltD .Lt := cmpI op_lt
theorem le_ok : CmpOk X leD .LtE := cmpI op_le
theorem gt_ok : CmpOk X gtD .Gt := cmpI op_gt
theorem ge_ok : CmpOk X geD .GtE := cmpI op_ge
def inAny (p : PyData) (ps : List PyData) : Bool := ps.any fun z => PyData.eqv z p
def inR (f : Bool → Bool) (x y : D) (h : Hs) : R Res := optR (toP h x) fun p => optR (toP h y) fun q => match q with
  | .list ps => gate (shp p && shp (.list ps)) (okV (.bl (f (inAny p ps))) h)
  | .tuple ps => gate (shp p && shp (.tuple ps)) (okV (.bl (f (inAny p ps))) h)
  | _ => .bad
theorem inR_calm {f : Bool → Bool} : Calm (inR f x y h) := calm_opt fun _ => calm_opt fun q => by
  cases q <;> first | exact calm_bad | exact calm_gate calm_ok
def rInS (K : PySem.W.Frag) (f : Bool → Bool) : R2 := fun x y H Q => ∃ d ds, Dp K H x d ∧ (Dp K H y (.list ds) ∨ Dp K H y (.tuple ds)) ∧ SeqAt.shaped d = true ∧ SeqAt.shaped (.list ds) = true ∧ Q (.bl (f (ds.any fun z => PyData.eqv z d))) H
theorem in_ways {f : Bool → Bool} (hr : HRel K φ H h) (rx : RelD K φ H x v) (ry : RelD K φ H y u) (q : PostR K φ H (inR f x y h) Q E) : rInS K f v u H Q := by
  obtain ⟨p, ep, q⟩ := opt_post q
  obtain ⟨r, er, q⟩ := opt_post q
  have d1 := toP_ok hr rx ep
  have d2 := toP_ok hr ry er
  cases r with
  | list ps =>
    obtain ⟨hz, q⟩ := gate_post q
    rw [Bool.and_eq_true] at hz
    exact ⟨p, ps, d1, .inl d2, hz.1, hz.2, post_val q hr (.bl _)⟩
  | tuple ps =>
    obtain ⟨hz, q⟩ := gate_post q
    rw [Bool.and_eq_true] at hz
    have z : SeqAt.shaped (.list ps) = true := hz.2
    exact ⟨p, ps, d1, .inr d2, hz.1, z, post_val q hr (.bl _)⟩
  | _ => exact False.elim q
def inD : D → D → Hs → R Res := inR fun b => b
def notinD : D → D → Hs → R Res := inR fun b => !b
theorem in_ok (ft : Fit X) : CmpOk X inD .In where
  rule := by
    intro pins s σ H x y v u Q I rx ry ⟨φ, h, x', y', hr, r1, r2, q⟩
    obtain ⟨d, ds, hd, he, sd, se, q⟩ := in_ways hr r1 r2 q
    obtain ⟨as, z1⟩ := Dp.reads I d x v hd rx
    have hu : X.A.units + 65 < cLine := by have := ft.rm.un; omega
    rcases he with he | he
    · obtain ⟨bs, z2⟩ := Dp.reads I (.list ds) y u he ry
      exact SeqAt.in_list_reads z2 z1 (SeqAt.canLay_of_shaped se) (SeqAt.canLay_of_shaped sd) (room_in_shaped sd hu) ⟨V.bl _, H, I, rfl, q⟩
    · obtain ⟨bs, z2⟩ := Dp.reads I (.tuple ds) y u he ry
      exact SeqAt.in_tuple_reads z2 z1 (SeqAt.canLay_of_shaped se) (SeqAt.canLay_of_shaped sd) (room_in_shaped sd hu) ⟨V.bl _, H, I, rfl, q⟩
  calm := fun x y h => inR_calm
theorem notin_ok (ft : Fit X) : CmpOk X notinD .NotIn where
  rule := by
    intro pins s σ H x y v u Q I rx ry ⟨φ, h, x', y', hr, r1, r2, q⟩
    obtain ⟨d, ds, hd, he, sd, se, q⟩ := in_ways hr r1 r2 q
    obtain ⟨as, z1⟩ := Dp.reads I d x v hd rx
    have hu : X.A.units + 65 < cLine := by have := ft.rm.un; omega
    rcases he with he | he
    · obtain ⟨bs, z2⟩ := Dp.reads I (.list ds) y u he ry
      exact SeqAt.notIn_list_reads z2 z1 (SeqAt.canLay_of_shaped se) (SeqAt.canLay_of_shaped sd) (room_in_shaped sd hu) ⟨V.bl _, H, I, rfl, q⟩
    · obtain ⟨bs, z2⟩ := Dp.reads I (.tuple ds) y u he ry
      exact SeqAt.notIn_tuple_reads z2 z1 (SeqAt.canLay_of_shaped se) (SeqAt.canLay_of_shaped sd) (room_in_shaped sd hu) ⟨V.bl _, H, I, rfl, q⟩
  calm := fun x y h => inR_calm
end Fr
set_option Elab.async false
set_option linter.all false
set_option maxRecDepth 100000
set_option maxHeartbeats 4000000
namespace Fr
open PySem PySem.Spec PyProof.Rows L2
section
variable {prog : Program} {w : World} {A : Around} {E : Value → Shared → Prop} {s : Shared}
/-- what a tuple holds, collected: as for a list, the collected list stands at the old size -/
theorem collect_tup {t : Addr} {us : List Value} {Q : List Value → Shared → Prop} (ht : IsTup s.heap t us.toArray)
    (q : Q us { s with heap := (s.heap.push (seqObj "list" #[] 0)).update s.heap.objs.size (Obj.mapSeq (· ++ us.toArray)) }) (z : us.length ≤ sizeLine) : wpAny (model prog w) A (collect (.ref t)) Q E s := by
  obtain ⟨ob, g, gc, k, gd⟩ := id ht
  unfold collect
  have g' : (s.heap.push (seqObj "list" #[] 0)).get? t = some ob := Heap.get?_push_of_some _ g
  refine wpAny_bind (wpAny_runValue (codeAny_builtin entry_proto_collect' (show wpAny _ _ (do again (.builtin "list.__iadd__" ⟨[← newList [], .ref t], []⟩)) _ _ s from ?_)))
  refine wpAny_bind (wpAny_newList (wpAny_pure ⟨Code.quiet_builtin _ (by decide +kernel), codeAny_builtin entry_list_iadd' (show wpAny _ _ (Builtin.List.listExtendWith (.ref s.heap.objs.size) (.ref t) (.ref s.heap.objs.size)) _ _ { s with heap := s.heap.push (seqObj "list" #[] 0) } from ?_)⟩))
  unfold Builtin.List.listExtendWith
  refine wpAny_bind (wpAny_typeOf (T := "tuple") ⟨ob, g', gc⟩ ?_)
  rw [if_pos (by rw [show (Value.type "tuple" == Value.type "tuple") = true by rfl]; simp)]
  refine wpAny_bind (listItems_at g' gd (wpAny_bind (listItems_at (xs := #[]) (n := 0) (Heap.get?_push_size _ rfl) rfl ?_)))
  rw [if_neg (by simp)]
  refine wpAny_bind (listUpdate_at (xs := #[]) (n := 0) (Heap.get?_push_size _ rfl) rfl ?_ (Nat.zero_le _) (by
    show (#[] ++ us.toArray).size ≤ sizeLine + 1
    rw [Array.size_append, List.size_toArray]
    simp
    omega))
  refine wpAny_pure (show wpAny (model prog w) A (do
      let o ← load s.heap.objs.size
      match o.data with
      | .seq xs _ => pure xs.toList
      | _ => unsupported "internal:collect") Q E { s with heap := (s.heap.push (seqObj "list" #[] 0)).update s.heap.objs.size (Obj.mapSeq (· ++ us.toArray)) } from ?_)
  refine wpAny_bind (wpAny_load (get?_update_seq (Heap.get?_push_size _ rfl) _) (show wpAny _ _ (pure ((#[] : Array Value) ++ us.toArray).toList) Q E _ from wpAny_pure ?_))
  rw [show ((#[] : Array Value) ++ us.toArray).toList = us by simp]
  exact q
theorem sorted_tup {t : Addr} {us : List Value} {lt : Value → Value → Bool} {Q : Value → Shared → Prop} (O : SrtO.Swo lt) (ht : IsTup s.heap t us.toArray) (z : us.length ≤ sizeLine)
    (hS : 2 ≤ us.length → ∀ (g : Heap) (b : Addr), g.get? b = some (seqObj "list" us.toArray 0) → SrtO.SortableO prog w A.in1.in1 { s with heap := g } b us lt)
    (q : ∀ out : List Value, SrtO.Srtd lt out → SrtO.Stb lt out us → Q (.ref (s.heap.objs.size + 1)) { s with heap := sortedAll s.heap us out.toArray }) : wpAny (model prog w) A (call (.builtin "sorted") [.ref t]) Q E s := by
  refine Calls.call_function_entry kind_sorted plain_sorted entry_sorted (args_sorted1 _) ?_
  unfold Builtin.«sorted»
  refine wpAny_bind (m := checkCount "sorted" 1 1 _) (wpAny_pure (wpAny_bind (collect_tup ht (wpAny_bind (wpAny_newList ?_ z)) z)))
  have sz : ((s.heap.push (seqObj "list" #[] 0)).update s.heap.objs.size (Obj.mapSeq (· ++ us.toArray))).objs.size = s.heap.objs.size + 1 := by rw [Heap.size_update, Heap.size_push]
  have new : (((s.heap.push (seqObj "list" #[] 0)).update s.heap.objs.size (Obj.mapSeq (· ++ us.toArray))).push (seqObj "list" us.toArray 0)).get? (s.heap.objs.size + 1) = some (seqObj "list" us.toArray 0) := by
    rw [← sz]
    exact Heap.get?_push_size _ rfl
  show wpAny _ _ _ _ _ { s with heap := ((s.heap.push (seqObj "list" #[] 0)).update s.heap.objs.size (Obj.mapSeq (· ++ us.toArray))).push (seqObj "list" us.toArray 0) }
  rw [sz]
  exact wpAny_bind (wpAny_holding (wpAny_call_entry slot_list_sort ⟨_, new, rfl⟩ entry_list_sort (SrtO.list_sort_ord O new z (fun h2 => hS h2 _ _ new) fun out hs hb => ⟨_, rfl, wpAny_pure ⟨_, rfl, q out hs hb⟩⟩) (args_list_sort _)))
end
/-- sorted(t), t a tuple of ints -/
def rSortedTI (K : PySem.W.Frag) : List V → Hp → VK → Prop := fun vs H Q => ∃ (a : Addr) (ns : List Int), vs = [V.ref a] ∧ SqT K H a (ns.map V.int) ∧ ∀ (ns' : List Int) (p : Addr), ns'.Perm ns → ns'.Pairwise (· ≤ ·) → H p = none → Q (.ref p) (upd H p (.lst (ns'.map V.int)))
theorem cr_sortedTI {X : Cx} : CallR X (.builtin "sorted") (rSortedTI X.K) := by
  rintro pins s σ H vs us Q I r ⟨a, ns, rfl, st, q⟩
  obtain ⟨its, rv, ht, hz⟩ := I.tuple st
  rw [Vals.ref1 r]
  have hi := rv.ints
  refine sorted_tup SrtO.swo_int ht (by rw [← rv.length]; exact hz) (fun h2 g b _ => SrtO.ints_sortable hi h2) fun out h1 h2 => ?_
  obtain ⟨k1, k2, k3⟩ := SrtO.ints_out hi h1 h2
  obtain ⟨ep, at_⟩ := PyProof.Rows.sortedAll_at s.heap its out.toArray
  have hl : ((out.map SrtO.iv).map V.int).length ≤ sizeLine := by
    rw [List.length_map, k2.length_eq]
    rwa [List.length_map] at hz
  exact ⟨.ref _, upd H (s.heap.objs.size + 1) (.lst ((out.map SrtO.iv).map V.int)), I.laid (t' := s.toks) (fun _ _ => PyProof.Rows.sortedAll_old) (Nat.le_succ _) ⟨hl, out, ep, vals_of_ints k1, at_⟩, rfl, q _ _ k2 k3 (I.hok.fresh (Nat.le_succ _))⟩
end Fr
set_option Elab.async false
set_option linter.all false
set_option maxRecDepth 100000
set_option maxHeartbeats 4000000
namespace Fr
open PySem PySem.Spec PyProof.Rows L2
variable {K : PySem.W.Frag} {φ φ' φ1 φ2 : List Addr} {H H' H1 H2 : Hp} {h h' h1 : Hs} {d x y : D} {ds es : List D} {v u : V} {vs xs ys : List V} {p : Addr} {n m : Nat} {ρ ρ' : Rho} {σ σ' : L2.St} {Q : VK} {E : XW} {X : Cx}
variable {c : Cn} {W : WX} {ie ia ib ic it : Tm} {ies jes cs : Tms} {a b e : Expr} {pos : Pos} {g : G} {own : List Nat} {ss tt : Sms} {st : Sm}
theorem rel1 (r : RelDs K φ H [x] vs) : ∃ v, vs = [v] ∧ RelD K φ H x v := by
  cases r with
  | cons r1 r2 =>
    cases r2
    exact ⟨_, rfl, r1⟩
theorem rel2 (r : RelDs K φ H [x, y] vs) : ∃ v u, vs = [v, u] ∧ RelD K φ H x v ∧ RelD K φ H y u := by
  cases r with
  | cons r1 r2 =>
    cases r2 with
    | cons r2 r3 =>
      cases r3
      exact ⟨_, _, rfl, r1, r2⟩
def one (f : D → Hs → R Res) (ds : List D) (h : Hs) : R Res := match ds with | [x] => f x h | _ => .bad
def two (f : D → D → Hs → R Res) (ds : List D) (h : Hs) : R Res := match ds with | [x, y] => f x y h | _ => .bad
theorem one_calm {f : D → Hs → R Res} (hf : ∀ x h, Calm (f x h)) : Calm (one f ds h) := by
  unfold one
  split
  · exact hf _ _
  · exact calm_bad
theorem two_calm {f : D → D → Hs → R Res} (hf : ∀ x y h, Calm (f x y h)) : Calm (two f ds h) := by
  unfold two
  split
  · exact hf _ _ _
  · exact calm_bad
theorem one_ok {f : D → Hs → R Res} {w : Value} {r : List V → Hp → VK → Prop} (hr : CallR X w r) (hc : ∀ x h, Calm (f x h))
    (i : ∀ φ h x v H Q, HRel X.K φ H h → RelD X.K φ H x v → (PostR X.K φ H (f x h) Q fun _ _ => False) → r [v] H Q) : BltOk X (one f) w where
  rule := callImp hr fun vs H Q ⟨φ, h, ds, hr, rd, q⟩ => by
    unfold one at q
    split at q
    · obtain ⟨v, rfl, rv⟩ := rel1 rd
      exact i φ h _ v H Q hr rv q
    · exact False.elim q
  calm := fun ds h => one_calm hc
theorem two_ok {f : D → D → Hs → R Res} {w : Value} {r : List V → Hp → VK → Prop} (hr : CallR X w r) (hc : ∀ x y h, Calm (f x y h))
    (i : ∀ φ h x y v u H Q, HRel X.K φ H h → RelD X.K φ H x v → RelD X.K φ H y u → (PostR X.K φ H (f x y h) Q fun _ _ => False) → r [v, u] H Q) : BltOk X (two f) w where
  rule := callImp hr fun vs H Q ⟨φ, h, ds, hr, rd, q⟩ => by
    unfold two at q
    split at q
    · obtain ⟨v, u, rfl, rv, ru⟩ := rel2 rd
      exact i φ h _ _ v u H Q hr rv ru q
    · exact False.elim q
  calm := fun ds h => two_calm hc
/-! ## len, int, tuple, list, abs, min, max -/
def lenD (x : D) (h : Hs) : R Res := match x with
  | .str z => gate (decide (z.length ≤ sizeLine)) (okV (.int z.length) h)
  | x => optR (seqOf h x) fun l => okV (.int l.length) h
theorem len_ok : BltOk X (one lenD) (.builtin "len") := one_ok (call_len_seq.or call_len_str) (fun x h => by
  unfold lenD
  split <;> first | exact calm_gate calm_ok | exact calm_opt fun _ => calm_ok) fun φ h x v H Q hr rd q => by
  have go : (PostR X.K φ H (optR (seqOf h x) fun l => okV (.int l.length) h) Q fun _ _ => False) → ∃ p ys, [v] = [V.ref p] ∧ (SqL X.K H p ys ∨ SqT X.K H p ys) ∧ Q (.int ys.length) H := fun q => by
    obtain ⟨l, e, q⟩ := opt_post q
    obtain ⟨a, xs, rfl, s, rs⟩ := seq_ok hr rd e
    rw [rs.length] at q
    exact ⟨a, xs, rfl, s, post_val q hr (.int _)⟩
  cases rd with
  | str z =>
    obtain ⟨hz, q⟩ := gate_post q
    exact .inr ⟨z, rfl, of_decide_eq_true hz, post_val q hr (.int _)⟩
  | _ => exact .inl (go q)
def intD (x : D) (h : Hs) : R Res := match x with
  | .int i => okV (.int i) h
  | .bl k => okV (.int (if k then 1 else 0)) h
  | _ => .bad
theorem int_ok : BltOk X (one intD) (.type "int") := one_ok call_int1 (fun x h => by
  unfold intD
  split <;> first | exact calm_ok | exact calm_bad) fun φ h x v H Q hr rd q => by
  cases rd with
  | int i => exact .inl ⟨i, rfl, post_val q hr (.int _)⟩
  | bl k => exact .inr ⟨k, rfl, post_val q hr (.int _)⟩
  | _ => exact False.elim q
def absD (x : D) (h : Hs) : R Res := match x with
  | .int i => okV (.int (if i < 0 then -i else i)) h
  | _ => .bad
theorem abs_ok : BltOk X (one absD) (.builtin "abs") := one_ok call_abs (fun x h => by
  unfold absD
  split <;> first | exact calm_ok | exact calm_bad) fun φ h x v H Q hr rd q => by
  cases rd with
  | int i => exact ⟨i, rfl, post_val q hr (.int _)⟩
  | _ => exact False.elim q
def tupD (x : D) (h : Hs) : R Res := optR (seqOf h x) fun l => okV (.tup l) h
theorem tuple_ok : BltOk X (one tupD) (.type "tuple") := one_ok call_tuple_of (fun x h => calm_opt fun _ => calm_ok) fun φ h x v H Q hr rd q => by
  obtain ⟨l, e, z⟩ := opt_post q
  clear q
  cases rd with
  | tup s r =>
    cases e
    exact ⟨_, _, rfl, .inr ⟨s, post_val z hr (.tup s r)⟩⟩
  | lst s na r =>
    cases e
    exact ⟨_, _, rfl, .inl ⟨.inl (.inl s), fun l np => z φ _ _ (Ext.new np) (hr.new np) (.tup (.inl (.inl upd_same)) ((Ext.new np).rels r))⟩⟩
  | rol s r =>
    cases e
    exact ⟨_, _, rfl, .inl ⟨s.sq, fun l np => z φ _ _ (Ext.new np) (hr.new np) (.tup (.inl (.inl upd_same)) ((Ext.new np).rels r))⟩⟩
  | ref en =>
    obtain ⟨xs, e2, r, _⟩ := hr.at_ (show h[_]? = some l from e) en
    exact ⟨_, xs, rfl, .inl ⟨.inl (.inl e2), fun l np => z φ _ _ (Ext.new np) (hr.new np) (.tup (.inl (.inl upd_same)) ((Ext.new np).rels r))⟩⟩
  | _ => cases e
def listD (x : D) (h : Hs) : R Res := optR (seqOf h x) fun l => .ok (.new l) h
theorem list_ok : BltOk X (one listD) (.type "list") := one_ok call_list_of (fun x h => calm_opt fun _ => calm_ok) fun φ h x v H Q hr rd q => by
  obtain ⟨l, e, q⟩ := opt_post q
  obtain ⟨a, xs, rfl, s, rs⟩ := seq_ok hr rd e
  exact ⟨a, xs, rfl, s, fun l np => q φ H l xs (Ext.refl _ _) hr np rs⟩
def minD : D → D → Hs → R Res := int2 fun i j => some (.int (if j < i then j else i))
def maxD : D → D → Hs → R Res := int2 fun i j => some (.int (if j > i then j else i))
theorem min_ok (hc : X.calm = true) : BltOk X (two minD) (.builtin "min") := two_ok (call_min2 hc) (fun x y h => int2_calm) fun φ h x y v u H Q hr rx ry q => by
  obtain ⟨i, j, d, rfl, rfl, e, q⟩ := int2_post rx ry q
  cases e
  exact ⟨i, j, rfl, post_val q hr (.int _)⟩
theorem max_ok (hc : X.calm = true) : BltOk X (two maxD) (.builtin "max") := two_ok (call_max2 hc) (fun x y h => int2_calm) fun φ h x y v u H Q hr rx ry q => by
  obtain ⟨i, j, d, rfl, rfl, e, q⟩ := int2_post rx ry q
  cases e
  exact ⟨i, j, rfl, post_val q hr (.int _)⟩
/-! ## all, any, sorted -/
def blsOf : List D → Option (List Bool)
  | [] => some []
  | .bl b :: ds => (blsOf ds).map fun bs => b :: bs
  | _ :: _ => none
theorem bls_ok : ∀ {ds : List D} {vs : List V} {bs : List Bool}, RelDs K φ H ds vs → blsOf ds = some bs → vs = bs.map V.bl
  | [], _, _, .nil, e => by
    cases e
    rfl
  | .bl b :: ds, _, bs, .cons (.bl _) rs, e => by
    have e' : (blsOf ds).map (fun bs => b :: bs) = some bs := e
    cases q : blsOf ds with
    | none =>
      rw [q] at e'
      cases e'
    | some cs =>
      rw [q] at e'
      cases e'
      rw [bls_ok rs q]
      rfl
def intsOf : List D → Option (List Int)
  | [] => some []
  | .int b :: ds => (intsOf ds).map fun bs => b :: bs
  | _ :: _ => none
theorem ints_ok : ∀ {ds : List D} {vs : List V} {bs : List Int}, RelDs K φ H ds vs → intsOf ds = some bs → vs = bs.map V.int
  | [], _, _, .nil, e => by
    cases e
    rfl
  | .int b :: ds, _, bs, .cons (.int _) rs, e => by
    have e' : (intsOf ds).map (fun bs => b :: bs) = some bs := e
    cases q : intsOf ds with
    | none =>
      rw [q] at e'
      cases e'
    | some cs =>
      rw [q] at e'
      cases e'
      rw [ints_ok rs q]
      rfl
def listOf (h : Hs) : D → Option (List D)
  | .lst ds => some ds
  | .rol ds => some ds
  | .ref n => h[n]?
  | _ => none
theorem list_of (hr : HRel K φ H h) (rd : RelD K φ H x v) (e : listOf h x = some ds) : ∃ a xs, v = .ref a ∧ SqL K H a xs ∧ RelDs K φ H ds xs := by
  cases rd with
  | lst s na r =>
    cases e
    exact ⟨_, _, rfl, .inl (.inl s), r⟩
  | rol s r =>
    cases e
    exact ⟨_, _, rfl, s.sq, r⟩
  | ref en =>
    obtain ⟨xs, e2, r, _⟩ := hr.at_ (show h[_]? = some ds from e) en
    exact ⟨_, xs, rfl, .inl (.inl e2), r⟩
  | _ => cases e
def allD (x : D) (h : Hs) : R Res := optR (listOf h x) fun l => optR (blsOf l) fun bs => okV (.bl (bs.all id)) h
def anyD (x : D) (h : Hs) : R Res := optR (listOf h x) fun l => optR (blsOf l) fun bs => okV (.bl (bs.any id)) h
theorem all_ok (hc : X.calm = true) : BltOk X (one allD) (.builtin "all") := one_ok (cr_all hc) (fun x h => calm_opt fun _ => calm_opt fun _ => calm_ok) fun φ h x v H Q hr rd q => by
  obtain ⟨l, e, q⟩ := opt_post q
  obtain ⟨bs, e2, q⟩ := opt_post q
  obtain ⟨a, xs, rfl, s, rs⟩ := list_of hr rd e
  have z := bls_ok rs e2
  subst z
  exact ⟨a, bs, rfl, s, post_val q hr (.bl _)⟩
theorem any_ok (hc : X.calm = true) : BltOk X (one anyD) (.builtin "any") := one_ok (cr_any hc) (fun x h => calm_opt fun _ => calm_opt fun _ => calm_ok) fun φ h x v H Q hr rd q => by
  obtain ⟨l, e, q⟩ := opt_post q
  obtain ⟨bs, e2, q⟩ := opt_post q
  obtain ⟨a, xs, rfl, s, rs⟩ := list_of hr rd e
  have z := bls_ok rs e2
  subst z
  exact ⟨a, bs, rfl, s, post_val q hr (.bl _)⟩
/-- a list of ints, put in order -/
def insI (i : Int) : List Int → List Int
  | [] => [i]
  | j :: r => if i ≤ j then i :: j :: r else j :: insI i r
def sortI : List Int → List Int
  | [] => []
  | i :: r => insI i (sortI r)
theorem insI_perm (i : Int) : ∀ l : List Int, (insI i l).Perm (i :: l)
  | [] => List.Perm.refl _
  | j :: r => by
    unfold insI
    split
    · exact List.Perm.refl _
    · exact ((insI_perm i r).cons j).trans (List.Perm.swap i j r)
theorem sortI_perm : ∀ l : List Int, (sortI l).Perm l
  | [] => List.Perm.refl _
  | i :: r => (insI_perm i _).trans ((sortI_perm r).cons i)
theorem insI_up (i : Int) : ∀ {l : List Int}, l.Pairwise (· ≤ ·) → (insI i l).Pairwise (· ≤ ·)
  | [], _ => by simp [insI]
  | j :: r, h => by
    unfold insI
    have hj := List.pairwise_cons.mp h
    split
    · rename_i le
      refine List.pairwise_cons.mpr ⟨fun k hk => ?_, h⟩
      rcases List.mem_cons.mp hk with e | e
      · rw [e]
        exact le
      · exact Int.le_trans le (hj.1 k e)
    · rename_i nle
      refine List.pairwise_cons.mpr ⟨fun k hk => ?_, insI_up i hj.2⟩
      rcases List.mem_cons.mp ((insI_perm i r).mem_iff.mp hk) with e | e
      · rw [e]
        omega
      · exact hj.1 k e
theorem sortI_up : ∀ l : List Int, (sortI l).Pairwise (· ≤ ·)
  | [] => List.Pairwise.nil
  | i :: r => insI_up i (sortI_up r)
theorem sorted_eq : ∀ {l l' : List Int}, l.Perm l' → l.Pairwise (· ≤ ·) → l'.Pairwise (· ≤ ·) → l = l' := fun {l l'} p h h' => p.eq_of_pairwise (fun a b _ _ h1 h2 => Int.le_antisymm h1 h2) h h'
def sortedD (x : D) (h : Hs) : R Res := optR (seqOf h x) fun l => optR (intsOf l) fun ns => .ok (.new ((sortI ns).map .int)) h
theorem rel_ints : ∀ ns : List Int, RelDs K φ H (ns.map .int) (ns.map V.int)
  | [] => .nil
  | i :: r => .cons (.int i) (rel_ints r)
theorem sorted_ok : BltOk X (one sortedD) (.builtin "sorted") := one_ok (cr_sortedI.or cr_sortedTI) (fun x h => calm_opt fun _ => calm_opt fun _ => calm_ok) fun φ h x v H Q hr rd q => by
  obtain ⟨l, e, q⟩ := opt_post q
  obtain ⟨ns, e2, q⟩ := opt_post q
  obtain ⟨a, xs, rfl, s, rs⟩ := seq_ok hr rd e
  have z := ints_ok rs e2
  subst z
  have fin : ∀ (ns' : List Int) (p : Addr), ns'.Perm ns → ns'.Pairwise (· ≤ ·) → H p = none → Q (.ref p) (upd H p (.lst (ns'.map V.int))) := fun ns' p pm up np => by
    rw [sorted_eq (pm.trans (sortI_perm ns).symm) up (sortI_up ns)]
    exact q φ H p _ (Ext.refl _ _) hr np (rel_ints _)
  rcases s with s | s
  · exact .inl ⟨a, ns, rfl, s, fin⟩
  · exact .inr ⟨a, ns, rfl, s, fin⟩
/-! ## repr -/
def showD (x : D) (h : Hs) : R Res := optR (toP h x) fun p => gate (p.showable && decide (p.depth ≤ 64) && decide (p.shown.length ≤ sizeLine)) (okV (.str p.shown) h)
mutual
theorem dp_nodict : ∀ {v : V} {p : PyData}, Dp K H v p → p.hasDict = false
  | _, _, .non => by simp [PyData.hasDict]
  | _, _, .bl b => by simp [PyData.hasDict]
  | _, _, .int b => by simp [PyData.hasDict]
  | _, _, .str b => by simp [PyData.hasDict]
  | _, _, .lst s r => by simpa [PyData.hasDict] using dps_nodict r
  | _, _, .tup s r => by simpa [PyData.hasDict] using dps_nodict r
theorem dps_nodict : ∀ {vs : List V} {ps : List PyData}, DpAll K H vs ps → PyData.hasDictAll ps = false
  | _, _, .nil => by simp [PyData.hasDictAll]
  | _, _, .cons r rs => by simp [PyData.hasDictAll, dp_nodict r, dps_nodict rs]
end
theorem show_ok (ft : Fit X) : BltOk X (one showD) (.builtin "repr") where
  rule := by
    rintro pins s σ H vs us Q I r ⟨φ, h, ds, hr, rd, q⟩
    unfold one at q
    split at q
    · obtain ⟨v, rfl, rv⟩ := rel1 rd
      obtain ⟨p, e, q⟩ := opt_post q
      obtain ⟨hz, q⟩ := gate_post q
      rw [Bool.and_eq_true, Bool.and_eq_true] at hz
      have dp := toP_ok hr rv e
      have qq : Q (.str p.shown) H := post_val q hr (.str _)
      obtain ⟨u, rfl, ru⟩ := Vals.one r
      obtain ⟨as, rd⟩ := Dp.reads I p v u dp ru
      have nd := dp_nodict dp
      have hd := of_decide_eq_true hz.1.2
      have hl := of_decide_eq_true hz.2
      have hu : X.A.units + (p.depth + 1) < cLine := by have := ft.rm.un; omega
      have ends : ∀ (h' : Heap) (t : Tok) (tk : Nat), (∀ b o, s.heap.get? b = some o → h'.get? b = some o) → EP X pins σ Q (.str p.shown t) { s with heap := h', toks := tk } := fun h' t tk k => ⟨.str p.shown, H, I.kept k, ⟨t, rfl⟩, qq⟩
      cases dp with
      | non =>
        cases ru
        exact PySem.P.repr_of_none (by simpa [PyData.shown] using ends s.heap _ _ fun _ _ z => z)
      | bl b =>
        cases ru
        exact PySem.P.repr_of_bool (by simpa [PyData.shown] using ends s.heap _ _ fun _ _ z => z)
      | int i =>
        obtain ⟨t, rfl⟩ := ru
        exact PySem.P.repr_of_int (by simpa [PyData.showable] using hz.1.1) (by simpa [PyData.shown] using ends s.heap _ _ fun _ _ z => z)
      | str x =>
        obtain ⟨t, rfl⟩ := ru
        exact PySem.P.repr_of_str (by simpa [PyData.shown] using ends s.heap _ _ fun _ _ z => z) (by simpa [PyData.shown] using hl)
      | lst s' r' =>
        cases ru
        exact repr_of_reads' rd hz.1.1 (fun z => by rw [nd] at z; cases z) ft.gd hu (fun _ _ z => z) (fun h' t tk k => ends h' t tk k) hl
      | tup s' r' =>
        cases ru
        exact repr_of_reads' rd hz.1.1 (fun z => by rw [nd] at z; cases z) ft.gd hu (fun _ _ z => z) (fun h' t tk k => ends h' t tk k) hl
    · exact False.elim q
  calm := fun ds h => one_calm fun x h => calm_opt fun _ => calm_gate calm_ok
/-! ## methods of lists -/
def isListD : D → Bool
  | .lst _ => true
  | .rol _ => true
  | .ref _ => true
  | _ => false
theorem isList_ty (hr : HRel K φ H h) (rd : RelD K φ H x v) (e : isListD x = true) : tyV K "list" v H := by
  cases rd with
  | lst s na r => exact .inl ⟨rfl, _, .inl (.inl s)⟩
  | rol s r => exact .inl ⟨rfl, _, s.sq⟩
  | ref en =>
    obtain ⟨xs, e⟩ := hr.inH (List.mem_of_getElem? en)
    exact .inl ⟨rfl, xs, .inl (.inl e)⟩
  | _ => cases e
/-- a cell of the store is changed -/
def cellR (x : D) (h : Hs) (f : Nat → List D → R Res) : R Res := match x with
  | .ref n => optR h[n]? fun ds => f n ds
  | _ => .bad
theorem cell_post {f : Nat → List D → R Res} (hr : HRel K φ H h) (rd : RelD K φ H x v) (q : PostR K φ H (cellR x h f) Q E) : ∃ n a ds xs, x = .ref n ∧ v = .ref a ∧ φ[n]? = some a ∧ h[n]? = some ds ∧ H a = some (.lst xs) ∧ RelDs K φ H ds xs ∧ D.unds n ds = true ∧ PostR K φ H (f n ds) Q E := by
  cases rd with
  | ref en =>
    obtain ⟨ds, e, q⟩ := opt_post q
    obtain ⟨xs, e2, r, un⟩ := hr.at_ e en
    exact ⟨_, _, ds, xs, rfl, rfl, en, e, e2, r, un, q⟩
  | _ => exact False.elim q
theorem cell_calm {f : Nat → List D → R Res} (hf : ∀ n ds, Calm (f n ds)) : Calm (cellR x h f) := by
  unfold cellR
  split
  · exact calm_opt fun _ => hf _ _
  · exact calm_bad
def appendD (x : D) (ds : List D) (h : Hs) : R Res := match ds with
  | [y] => cellR x h fun n l => gate (decide (l.length < sizeLine) && y.und n) (okV .non (h.set n (l ++ [y])))
  | _ => .bad
theorem append_ok {i : Nat} (hm : c.meth i = appendD) (ht : c.mty i = isListD) : MethOk X c i "list" "list.append" where
  rule := by
    rw [hm]
    refine mtImp mt_append fun v vs H Q ⟨φ, h, x, ds, hr, rx, rd, q⟩ => ?_
    unfold appendD at q
    split at q
    · obtain ⟨u, rfl, ru⟩ := rel1 rd
      obtain ⟨n, a, l, xs, rfl, rfl, en, e, e2, r, un, q⟩ := cell_post hr rx q
      obtain ⟨hz, q⟩ := gate_post q
      rw [Bool.and_eq_true] at hz
      refine ⟨a, xs, u, rfl, rfl, e2, by rw [← r.length]; exact of_decide_eq_true hz.1, ?_⟩
      exact q φ _ _ (Ext.write hr en) (hr.write en (r.append (.cons ru .nil)) (by rw [D.unds_append, un]; simp [D.unds, hz.2])) .non
    · exact False.elim q
  calm := fun x ds h => by
    rw [hm]
    unfold appendD
    split
    · exact cell_calm fun _ _ => calm_gate calm_ok
    · exact calm_bad
  ty := fun φ H h x v hr rd z => isList_ty hr rd (by rw [ht] at z; exact z)
def extendD (x : D) (ds : List D) (h : Hs) : R Res := match ds with
  | [y] => cellR x h fun n l => optR (lstOf h y) fun m => gate (fits l m && D.unds n m) (okV .non (h.set n (l ++ m)))
  | _ => .bad
theorem extend_ok {i : Nat} (hm : c.meth i = extendD) (ht : c.mty i = isListD) : MethOk X c i "list" "list.extend" where
  rule := by
    rw [hm]
    refine mtImp mt_extend fun v vs H Q ⟨φ, h, x, ds, hr, rx, rd, q⟩ => ?_
    unfold extendD at q
    split at q
    · obtain ⟨u, rfl, ru⟩ := rel1 rd
      obtain ⟨n, a, l, xs, rfl, rfl, en, e, e2, r, un, q⟩ := cell_post hr rx q
      obtain ⟨m, em, q⟩ := opt_post q
      obtain ⟨hz, q⟩ := gate_post q
      rw [Bool.and_eq_true] at hz
      obtain ⟨b, ys, rfl, hb, rb⟩ := lst_ok hr ru em
      refine ⟨a, b, xs, ys, rfl, rfl, e2, hb, by rw [← r.length, ← rb.length]; exact of_decide_eq_true hz.1, ?_⟩
      exact q φ _ _ (Ext.write hr en) (hr.write en (r.append rb) (by rw [D.unds_append, un, hz.2]; rfl)) .non
    · exact False.elim q
  calm := fun x ds h => by
    rw [hm]
    unfold extendD
    split
    · exact cell_calm fun _ _ => calm_opt fun _ => calm_gate calm_ok
    · exact calm_bad
  ty := fun φ H h x v hr rd z => isList_ty hr rd (by rw [ht] at z; exact z)
def popD (x : D) (ds : List D) (h : Hs) : R Res := match ds with
  | [.int i] => cellR x h fun n l => gate (inRng i) (optR (seqIndex? i l.length) fun k => optR l[k]? fun y => okV y (h.set n (l.eraseIdx k)))
  | _ => .bad
theorem unds_erase : ∀ {l : List D} (k : Nat), D.unds n l = true → D.unds n (l.eraseIdx k) = true := fun {l} k e => D.unds_iff.mpr fun d hd => D.unds_iff.mp e d (List.mem_of_mem_eraseIdx hd)
theorem pop_ok {i : Nat} (hm : c.meth i = popD) (ht : c.mty i = isListD) : MethOk X c i "list" "list.pop" where
  rule := by
    rw [hm]
    refine mtImp mt_popAt fun v vs H Q ⟨φ, h, x, ds, hr, rx, rd, q⟩ => ?_
    unfold popD at q
    split at q
    · rename_i i
      obtain ⟨u, rfl, ru⟩ := rel1 rd
      cases ru
      obtain ⟨n, a, l, xs, rfl, rfl, en, e, e2, r, un, q⟩ := cell_post hr rx q
      obtain ⟨hz, q⟩ := gate_post q
      obtain ⟨k, ek, q⟩ := opt_post q
      obtain ⟨y, ey, q⟩ := opt_post q
      obtain ⟨w, ew, rw'⟩ := r.get ey
      have z := of_decide_eq_true hz
      have x1 : Ext φ H φ (upd H a (.lst (xs.eraseIdx k))) := Ext.write hr en
      exact ⟨a, xs, i, k, w, rfl, rfl, e2, by omega, by omega, by rw [← r.length]; exact ek, ew, q φ _ _ x1 (hr.write en (r.erase k) (unds_erase k un)) (x1.rel rw')⟩
    · exact False.elim q
  calm := fun x ds h => by
    rw [hm]
    unfold popD
    split
    · exact cell_calm fun _ _ => calm_gate (calm_opt fun _ => calm_opt fun _ => calm_ok)
    · exact calm_bad
  ty := fun φ H h x v hr rd z => isList_ty hr rd (by rw [ht] at z; exact z)
/-! ## list(range(a, b)) -/
def lrngD (x y : D) (h : Hs) : R Res := match x, y with
  | .int i, .int j => gate (inRng i && inRng j && decide ((j - i).toNat ≤ 2 ^ 24)) (.ok (.new (rngD i (j - i).toNat)) h)
  | _, _ => .bad
theorem rel_rng : ∀ (n : Nat) (lo : Int), RelDs K φ H (rngD lo n) ((List.range n).map fun i => V.int (lo + (i : Nat)))
  | 0, _ => .nil
  | n + 1, lo => by
    rw [List.range_succ_eq_map, List.map_cons, List.map_map]
    refine .cons ?_ ?_
    · have : lo + ((0 : Nat) : Int) = lo := by simp
      rw [this]
      exact .int lo
    · have ih := rel_rng n (lo + 1)
      have e : ((fun i : Nat => V.int (lo + (i : Nat))) ∘ Nat.succ) = fun i : Nat => V.int (lo + 1 + (i : Nat)) := by
        funext i
        show V.int (lo + ((i + 1 : Nat) : Int)) = _
        congr 1
        omega
      rw [e]
      exact ih
theorem e_lrng2 {i : Nat} {p1 p2 q : Pos} (hb' : c.blt i = two lrngD) (hc : X.calm = true) (g1 : Gl X "list") (m1 : X.mg "list" = none) (g2 : Gl X "range") (m2 : X.mg "range" = none) (ha : PE X a (T c X.K W ia)) (hb : PE X b (T c X.K W ib))
    (na : starEach [a, b] X.env = (false, eval a X.env) :: starEach [b] X.env := by rfl) (nb : starEach [b] X.env = (false, eval b X.env) :: starEach [] X.env := by rfl) (hp : (backTo q (starEach [b] X.env)).any (·.1) = false := by rfl)
    (nc : starEach [.Call (.Name "range" p2) [a, b] [] q] X.env = (false, eval (.Call (.Name "range" p2) [a, b] [] q) X.env) :: starEach [] X.env := by rfl) :
    PE X (.Call (.Name "list" p1) [.Call (.Name "range" p2) [a, b] [] q] [] pos) (T c X.K W (.blt i (.cons ia (.cons ib .nil)))) :=
  (pe_listRg hc g1 m1 (prg_2 g2 m2 ha hb na nb hp) nc).imp fun σ H Q ⟨φ, ρ, h, hr, hs, q⟩ => by
    have q1 : PostR X.K φ H (bindD (ev c ρ ia h) fun x h1 => bindD (ev c ρ ib h1) fun y h2 => lrngD x y h2) Q fun x H' => W (.ref (c.cA x)) none σ H' := by
      simp only [ev, evs, hb'] at q
      have s1 : ∀ {α β : Type} (r : R Res) (f : D → Hs → R α) (k : α → Hs → R β), (bindD r f).bind k = bindD r fun x h => (f x h).bind k := by
        intro α β r f k
        cases r with
        | ok r h => cases r <;> rfl
        | exc c h => rfl
        | bad => rfl
      rw [s1] at q
      simp only [s1] at q
      exact q
    refine ⟨φ, ρ, h, hr, hs, seqRR q1 fun x h1 φ1 H1 v q x1 hr1 rd => ?_⟩
    refine ⟨φ1, ρ, h1, hr1, x1.relS hs, seqRR q fun y h2 φ2 H2 u q x2 hr2 rd2 => ?_⟩
    cases rd with
    | int i =>
      cases rd2 with
      | int j =>
        obtain ⟨hz, q⟩ := gate_post q
        rw [Bool.and_eq_true, Bool.and_eq_true] at hz
        have z1 := of_decide_eq_true hz.1.1
        have z2 := of_decide_eq_true hz.1.2
        have z3 := of_decide_eq_true hz.2
        refine ⟨i, j, rfl, rfl, ⟨by omega, by omega, by omega, by omega, z3⟩, fun p np => ?_⟩
        exact q φ2 H2 p _ (Ext.refl _ _) hr2 np (rel_rng _ _)
      | _ => exact False.elim q
    | _ => exact False.elim q
end Fr
set_option Elab.async false
set_option linter.all false
set_option maxRecDepth 100000
set_option maxHeartbeats 4000000
namespace Fr
open PySem PySem.Spec PyProof.Rows L2
variable {K : PySem.W.Frag} {φ φ' φ1 φ2 : List Addr} {H H' H1 H2 : Hp} {h h' h1 : Hs} {d x y : D} {ds es : List D} {v u : V} {vs xs ys : List V} {p : Addr} {n m : Nat} {ρ ρ' : Rho} {σ σ' : L2.St} {Q : VK} {E : XW} {X : Cx}
variable {c : Cn} {W : WX} {ie ia ib ic it : Tm} {ies jes cs : Tms} {a b e : Expr} {pos : Pos} {g : G} {own : List Nat} {ss tt : Sms} {st : Sm}
/-! ## {e for x in it}: a new set of ints -/
def tSi (w : World) (wi : TI) (g : TG) (te : TE) (vs : List Nat) : TE := fun σ H Q => wi σ H fun J H1 => ∀ L0, H1 L0 = none → ∃ W : Nat → Nat → Hp → Prop, (∃ m, W 0 m (upd H1 L0 (SetO w L0 (fun _ => false) 0))) ∧ ∀ i m H, W i m H →
  (J.stop i H ∧ Q (.ref L0) H) ∨ (J.go i H ∧ ∃ Nx : Hp → Prop, (∀ H', Nx H' → ∃ m', m' < m ∧ W (i + 1) m' H') ∧ ∀ x H', J.yld i H x H' → g x (L2.wipe σ vs) H' fun σ2 H2 => L2.wipe σ2 vs = L2.wipe σ vs ∧
    te σ2 H2 fun y H4 => ∃ (j : Int) (S : Int → Bool) (n : Nat), y = .int j ∧ H4 L0 = some (SetO w L0 S n) ∧ n + 1 < scanBound ∧ Nx (upd H4 L0 (SetO w L0 (fun i => S i || decide (i = j)) (if S j = true then n else n + 1))))
theorem pe_si {elt tg iter : Expr} {scope : Scope} {ow : List (Str × Nat)} {wi : TI} {tgr : TG} {te : TE} (hc : X.calm = true) (hN : X.N.Nodup) (hi : PI X tg iter wi) (ok : BlkOk X.N X.env.scope scope ow)
    (hg : ∀ (s : Shared) (H : Hp) (C : Addr) (cl : List (Str × Addr)) (fp : List Addr), PG (X.blk s H scope (compEnvC scope cl C X.env) fp) tg tgr)
    (he : ∀ (s : Shared) (H : Hp) (C : Addr) (cl : List (Str × Addr)) (fp : List Addr), PE (X.blk s H scope (compEnvC scope cl C X.env) fp) elt te) (hf : ∀ x, foldedSetIterable iter X.env x = pure x := by intro _; rfl) :
    PE X (.SetComp elt [⟨tg, iter, [], 0⟩] scope pos) (tSi X.w wi tgr te (ow.map (·.2))) := by
  refine ⟨fun pins s σ H Q I q => ?_⟩
  rw [PpSet.eval_SetComp]
  have fr : ∀ y ∈ scope.names, y.2 = .free → ∃ c, X.env.cells.lookup y.1 = some c := fun y hy z => (ok.free y hy z).elim (fun k => I.ok.has _ (.inl k)) fun k => I.ok.has _ (.inr k)
  refine wpAny_comprehension_free (use := none) rfl hf (closure_ok fr) ok.kind (fun y hy z => by rw [ok.uniq y hy, z]) (thn (hi.run pins s σ H _ I q) fun xv s1 w1 => thn w1 fun itv s2 w2 => ?_)
  obtain ⟨it, fp, tn, J, H2, rfl, I2, T, st2, f2, q⟩ := w2
  refine PpSet.newSet_ok (newEnv_comp ?_)
  have nL : H2 s2.heap.objs.size = none := I2.fresh
  obtain ⟨W, ⟨m0, w0⟩, turn⟩ := q _ nL
  generalize eL : s2.heap.objs.size = L0 at nL w0 turn ⊢
  generalize eo : ({ cls := .type "set", dict := none, data := .set #[] 0 (.fresh 0 0 (!X.w.params.followText "set-order")) } : Obj) = ob
  have I3 : Inv X pins σ (upd H2 L0 (SetO X.w L0 (fun _ => false) 0)) { s2 with heap := s2.heap.push ob } := by
    refine I2.laid (t' := s2.toks) (fun b o z => Heap.get?_push_of_some _ z) (Nat.le_of_eq eL) ?_
    rw [← eL, ← eo]
    exact setO_new (setR_fresh X.w)
  have below : ∀ b ∈ fp, b < s2.heap.objs.size := fun b hb => by
    obtain ⟨o, z, _⟩ := T.obj _ _ st2 b hb
    exact Heap.lt_size z
  have f3 : ∀ b ∈ fp, FpOk X pins (upd H2 L0 (SetO X.w L0 (fun _ => false) 0)) b ∧ b < (s2.heap.push ob).objs.size := fun b hb => by
    have lt := below b hb
    refine ⟨⟨?_, (f2 b hb).2⟩, by rw [Heap.size_push]; exact Nat.lt_succ_of_lt lt⟩
    rw [upd_ne (by rw [← eL]; exact Nat.ne_of_lt lt)]
    exact (f2 b hb).1
  have st3 : tn 0 (s2.heap.push ob) := T.keep _ _ _ st2 fun b _ o z => Heap.get?_push_of_some _ z
  have I4 := block_start I3 ok hN f3
  have pg := hg { s2 with heap := s2.heap.push ob } (upd H2 L0 (SetO X.w L0 (fun _ => false) 0)) (s2.heap.push ob).objs.size (cellsFrom ((s2.heap.push ob).objs.size + 1) scope.names (cloFrom X.env.cells scope.names [])) fp
  have pe := he { s2 with heap := s2.heap.push ob } (upd H2 L0 (SetO X.w L0 (fun _ => false) 0)) (s2.heap.push ob).objs.size (cellsFrom ((s2.heap.push ob).objs.size + 1) scope.names (cloFrom X.env.cells scope.names [])) fp
  generalize eC : compEnvC scope (cellsFrom ((s2.heap.push ob).objs.size + 1) scope.names (cloFrom X.env.cells scope.names [])) (s2.heap.push ob).objs.size X.env = ce at I4 pg pe
  have cL : ce.locals = (s2.heap.push ob).objs.size := by
    rw [← eC]
    rfl
  have nfp : ∀ b ∈ fp, (upd H2 L0 (SetO X.w L0 (fun _ => false) 0)) b = none := fun b hb => (f3 b hb).1.1
  generalize eH : upd H2 L0 (SetO X.w L0 (fun _ => false) 0) = H3 at I3 I4 pg pe w0 nfp f3
  have st4 : tn 0 (pushCells ((s2.heap.push ob).push { cls := .type "dict", data := .dict #[] }) scope.names) := T.keep _ _ _ st3 fun b _ o z => pushCells_keeps _ _ _ _ (Heap.get?_push_of_some _ z)
  have stat : ∀ {σ' : L2.St} {H' : Hp} {s' : Shared}, Inv (X.blk { s2 with heap := s2.heap.push ob } H3 scope ce fp) [] σ' H' s' → (∀ b ∈ fp, H' b = none) → ∀ b ∈ fp, FpOk (X.blk { s2 with heap := s2.heap.push ob } H3 scope ce fp) [] H' b := fun J' hn b hb =>
    ⟨hn b hb, (J'.ok.exf b hb).1, J'.ok.exfs b hb, .inl hb, fun x k z => (J'.ok.exf b hb).2 x k z, fun q hq => absurd (show q ∈ ([] : List (Addr × Obj)) ++ [] from hq) (by simp)⟩
  have go : codeAny (model X.prog X.w) X.A (.compLoop (.SetComp elt [⟨tg, iter, [], 0⟩] scope pos) 0 (.ref it) (.ref L0) ce) (compPost (model X.prog X.w) X.A X.xe none (EP X pins σ Q) (.ref L0) (s2.heap.push ob).objs.size) { s2 with heap := pushCells ((s2.heap.push ob).push { cls := .type "dict", data := .dict #[] }) scope.names } := by
    refine PpSet.compLoopS_any (fun k s' => ∃ i H', Inv (X.blk { s2 with heap := s2.heap.push ob } H3 scope ce fp) [] (L2.wipe σ (ow.map (·.2))) H' s' ∧ tn i s'.heap ∧ (∀ b ∈ fp, H' b = none) ∧ W i k H') ?_ m0 ⟨0, H3, I4, st4, nfp, w0⟩
    rintro k s5 ⟨i, H5, I5, st5, n5, w5⟩
    rcases turn i k H5 w5 with ⟨stop, qq⟩ | ⟨gg, Nx, hNx, step⟩
    · refine thnF (T.done (X.blk { s2 with heap := s2.heap.push ob } H3 scope ce fp) rfl rfl rfl hc i [] s5 _ H5 (fun _ _ => False) I5 (stat I5 n5) st5 stop) fun r s6 w6 => ?_
      obtain ⟨rfl, I6⟩ := w6
      have I7 : Inv X pins σ H5 s6 := I3.call' (ch := fp) I6.os I6.base I6.hok I6.bare fun b hb => ⟨(f3 b hb).1.2.2.2.1, (f3 b hb).1.2.1, (f3 b hb).1.2.2.2.2.1, (f3 b hb).1.2.2.2.2.2⟩
      have nC : H5 (s2.heap.push ob).objs.size = none := by
        have z : H5 ce.locals = none := I6.free
        rwa [cL] at z
      obtain ⟨mm, hn, _⟩ := I6.loc
      have hn' : s6.heap.Ns ce.locals mm := hn
      rw [cL] at hn'
      obtain ⟨f0, f1, f2', f3', f4, f5⟩ : FpOk X pins H5 (s2.heap.push ob).objs.size := I3.fpOk (Nat.le_refl _) nC
      exact ⟨mm, hn', fun h'' sb => ⟨.ref L0, H5, I7.turned (t' := s6.toks) (fun b o hb z => (sb.2 b hb).trans z) f0 f1 f3' f4 f5, rfl, qq⟩⟩
    · refine thnF (T.item (X.blk { s2 with heap := s2.heap.push ob } H3 scope ce fp) rfl rfl rfl hc i [] s5 _ H5 (fun _ _ => False) I5 (stat I5 n5) st5 gg) fun r s6 w6 => ?_
      obtain ⟨uu, rfl, w6⟩ := w6
      refine thnF w6 fun _ s7 w7 => ?_
      obtain ⟨x, H7, I7, r7, y7, st7, n7⟩ := w7
      have I7' := I7.pinned (stat I7 n7) (T.obj _ _ st7)
      refine thnF (pg.run _ s7 _ H7 x uu _ I7' r7 (step x H7 y7)) fun _ s8 w8 => ?_
      obtain ⟨σ8, H8, I8, hw8, q8⟩ := w8
      refine wpAny_pure ?_
      rw [if_pos rfl]
      refine thnF (pe.run _ s8 σ8 H8 _ I8 q8) fun z s10 w10 => ?_
      obtain ⟨yv, H10, I10, r10, j, S0, n0, rfl, hD10, room, nx⟩ := w10
      obtain ⟨tk, rfl⟩ := r10
      have R0 : SetR X.w s10.heap L0 S0 n0 := setO_get (X := X.blk { s2 with heap := s2.heap.push ob } H3 scope ce fp) I10 hD10
      refine setR_add (P := X.prog) R0 room fun h' sb new => ?_
      have he' : ∃ o, h'.get? L0 = some o := by
        have ⟨o, _, _, _, ho, _⟩ := new
        exact ⟨o, ho⟩
      have I11 := I10.write (e := L0) (t' := s10.toks + 1) (by rw [hD10]; trivial) (.inl rfl) (fun b o hb z => (sb.2 b hb).trans z) he' (setO_new new)
      obtain ⟨m', hm, w'⟩ := hNx _ nx
      have pin' : ∀ b ∈ fp, ∀ o, s7.heap.get? b = some o → h'.get? b = some o ∧ (upd H10 L0 (SetO X.w L0 (fun i => S0 i || decide (i = j)) (if S0 j = true then n0 else n0 + 1))) b = none := fun b hb o z =>
        ⟨(I11.pin (b, o) (List.mem_append_right _ (List.mem_append_right _ (mem_pinsAt hb z)))).1, (I11.pin (b, o) (List.mem_append_right _ (List.mem_append_right _ (mem_pinsAt hb z)))).2.1⟩
      have hl : (L2.wipe σ (ow.map (·.2))).length = σ8.length := by rw [← hw8, wipe_length]
      refine ⟨m', hm, i + 1, _, (I11.unpinned (pins := [])).weak hl (fun jj v z => ?_), T.keep _ _ _ st7 fun b hb o z => (pin' b hb o z).1, fun b hb => ?_, w'⟩
      · rw [← hw8] at z
        exact (wipe_some z).1
      · obtain ⟨o, z, _⟩ := T.obj _ _ st7 b hb
        exact (pin' b hb o z).2
  rw [← eC] at go
  exact PpSet.codeAny_compStart_set go (T.self X.A 0 _ _ _ st4 go)
end Fr
set_option Elab.async false
set_option linter.all false
set_option maxRecDepth 100000
set_option maxHeartbeats 4000000
namespace Fr
open PySem PySem.Spec PyProof.Rows L2
section
variable {P : Program} {w : World} {A : Around} {E : Value → Shared → Prop} {s : Shared}
/-- set(t), t a tuple of tuples of ints -/
theorem set_of_tups {t : Addr} {its : Array Value} (ks : List (Addr × List Int)) {Q : Value → Shared → Prop} (hh : A.handled = none) (ht : s.heap.IsTuple t its) (hi : its.toList = ks.map fun p => Value.ref p.1)
    (hk : ∀ p ∈ ks, IsT P w s.heap p.2 p.1) (few : ks.length < 64) (hu : A.units + 3 < cLine)
    (q : ∀ (h' : Heap) (tk : Nat) L es ep tb, SetTR P w h' s.heap.objs.size L es ep tb → Got ks ks.length L → (∀ b o, s.heap.get? b = some o → h'.get? b = some o) → Q (.ref s.heap.objs.size) { s with heap := h', toks := tk }) :
    wpAny (model P w) A (call (.type "set") [.ref t]) Q E s := by
  have sz : its.size = ks.length := by
    have z := congrArg List.length hi
    rwa [Array.length_toList, List.length_map] at z
  obtain ⟨c, tl, hmro⟩ := F.called_set.mro
  have k1 := F.called_set.made
  have k2 := F.called_set.sub
  refine wpAny_call (codeAny_of_tree (show wpAny _ _ (callAny (.type "set") _) _ _ _ from wpAny_pure ⟨Code.quiet_builtin _ (by decide +kernel), codeAny_builtin F.entry_type_call ?_⟩))
  rw [Around.under_plain (weight_type_call_type "set" [.ref t] []) rfl]
  have k3 := F.called_set.notType
  have k4 := F.called_set.canCreate
  have k5 := F.typeCall_set_1 (.ref t)
  repeat (any_goals (first | assumption | wp_step))
  obtain ⟨ob, eob⟩ : ∃ ob : Obj, ob = { cls := .type "set", dict := none, data := .set #[] 0 (.fresh 0 0 (!w.params.followText "set-order")) } := ⟨_, rfl⟩
  refine codeAny_mono (code_set_led1 (.ref t) (E := E) (Q₁ := fun o s₁ => o = .ref s.heap.objs.size ∧ s₁ = { s with heap := s.heap.push ob }) ⟨rfl, by rw [eob]⟩) fun r s₁ hr => ?_
  match r, hr with
  | .error e, hr => exact hr
  | .ok (.ret o), hr =>
    obtain ⟨rfl, rfl⟩ := hr
    have g0 : (s.heap.push ob).get? s.heap.objs.size = some ob := Heap.get?_push_size _ (by rw [eob]; rfl)
    have ty : Shared.TypeIs { s with heap := s.heap.push ob } (.ref s.heap.objs.size) "set" := ⟨_, g0, by rw [eob]⟩
    have k6 := F.called_set.init.lookup
    have k7 := F.called_set.init.bind (.ref s.heap.objs.size)
    repeat (any_goals (first | assumption | wp_step))
    refine codeAny_mono (codeAny_call_builtin (R := wants (fun r s₂ => r = .none ∧ ∃ h' tk L es ep tb, s₂ = { s with heap := h', toks := tk } ∧ SetTR P w h' s.heap.objs.size L es ep tb ∧ Got ks ks.length L ∧ (∀ b o, s.heap.get? b = some o → h'.get? b = some o)) E)
      F.called_set.init.plain F.entry_set_init (check_set_init_1 ty ?_)) fun r₂ s₂ hr₂ => ?_
    · obtain ⟨⟨oc, od, dt, sl⟩, g1, rfl, n, rfl⟩ := ht
      have g2 : (s.heap.push ob).get? t = some { cls := .type "tuple", dict := od, data := .seq its n, slots := sl } := Heap.get?_push_of_some _ g1
      have k8 := F.sub_tuple_set
      have k9 := F.sub_tuple_frozenset
      have k10 : (Value.type "tuple" == Value.type "dict") = false := by decide
      have it1 : (s.heap.push ob).IsTuple t its := ⟨_, g2, rfl, n, rfl⟩
      have lt : t < s.heap.objs.size := Heap.lt_size g1
      have s1 : (s.heap.push ob).objs.size = s.heap.objs.size + 1 := Heap.size_push ..
      have nI : t ≠ (s.heap.push ob).objs.size := by
        rw [s1]
        exact Nat.ne_of_lt (Nat.lt_succ_of_lt lt)
      subst eob; unfold Builtin.«set.__init__» noKeywords Builtin.Frozenset.updateFrom
      generalize hPI : pyIter = PI
      wp_walk
      subst hPI
      refine wpAny_pyIter_tuple it1 ?_; refine wpAny_bind (wpAny_runValue ?_)
      have no : ∀ b, s.heap.objs.size ≤ b → s.heap.get? b = none := fun b hb => Heap.get?_none_of_le hb
      refine set_update_tups ((Walks.tuple (show A.in1.in1.in1.handled = none by simp [hh]) _ t nI its).toS) s.heap.objs.size (fun z => ?_) ks sz few (fun i v hv => ?_) s.heap hk (no _ (Nat.le_refl _)) (fun b hb => no b (by
          rw [List.mem_singleton.mp hb, s1]
          exact Nat.le_succ _)) hu (its.size - 0) 0 _ (by omega) (Nat.zero_le _)
        ⟨⟨_, Heap.get?_push_size _ rfl, rfl, rfl⟩, (it1.push _)⟩ (fun b o e => Heap.get?_push_of_some _ (Heap.get?_push_of_some _ e)) ⟨[], #[], 0, _, setTR_fresh (Heap.get?_push_of_some _ g0), Got.zero ks⟩ fun s' L es ep tb mv st gt hkp => ?_
      · rw [s1] at z
        rcases List.mem_cons.mp z with z | z
        · exact absurd z (Nat.ne_of_lt (Nat.lt_succ_self _))
        · exact absurd (List.mem_singleton.mp z) (Nat.ne_of_gt lt)
      · have z : its.toList[i]? = some v := by
          rw [Array.getElem?_toList]
          exact hv
        rw [hi, List.getElem?_map] at z
        cases e : ks[i]? with
        | none =>
          rw [e] at z
          cases z
        | some p =>
          rw [e] at z
          exact ⟨p, rfl, (Option.some.inj z).symm⟩
      · obtain ⟨h', g', d', tk', os'⟩ := s'
        obtain rfl : g' = s.gens := mv.gens
        obtain rfl : d' = s.drawn := mv.drawn
        obtain rfl : os' = s.os := mv.os
        rw [sz] at gt
        exact (show wpAny _ _ _ _ _ _ from wpAny_pure (show wpAny _ _ (ret Value.none) _ _ _ from wpAny_pure ⟨rfl, h', tk', L, es, ep, tb, rfl, st, gt, hkp⟩))
    · match r₂, hr₂ with
      | .error e, hr₂ => exact hr₂
      | .ok (.ret r), hr₂ =>
        obtain ⟨rfl, h', tk, L, es, ep, tb, rfl, st, gt, hk'⟩ := hr₂
        repeat (any_goals (first | assumption | wp_step))
        exact q _ _ _ _ _ _ st gt hk'
      | .ok .next, hr₂ => exact hr₂.elim
      | .ok .brk, hr₂ => exact hr₂.elim
      | .ok .cont, hr₂ => exact hr₂.elim
  | .ok .next, hr => exact hr.elim
  | .ok .brk, hr => exact hr.elim
  | .ok .cont, hr => exact hr.elim
end
end Fr
set_option Elab.async false
set_option linter.all false
set_option maxRecDepth 100000
set_option maxHeartbeats 4000000
namespace Fr
open PySem PySem.Spec PyProof.Rows L2
variable {K : PySem.W.Frag} {φ φ' φ1 φ2 : List Addr} {H H' H1 H2 : Hp} {h h' h1 : Hs} {d x y : D} {ds es : List D} {v u : V} {vs xs ys : List V} {p : Addr} {n m : Nat} {ρ ρ' : Rho} {σ σ' : L2.St} {Q : VK} {E : XW} {X : Cx}
variable {c : Cn} {W : WX} {ie ia ib ic it : Tm} {ies jes cs : Tms} {a b e : Expr} {pos : Pos} {g : G} {own : List Nat} {ss tt : Sms} {st : Sm}
/-! ## how many different ones -/
def nub {α : Type} [DecidableEq α] : List α → List α
  | [] => []
  | x :: r => if x ∈ r then nub r else x :: nub r
theorem mem_nub {α : Type} [DecidableEq α] : ∀ {l : List α} {a : α}, a ∈ nub l ↔ a ∈ l
  | [], a => by simp [nub]
  | x :: r, a => by
    unfold nub
    split
    · rename_i hx
      rw [mem_nub, List.mem_cons]
      exact ⟨.inr, fun z => z.elim (fun e => e ▸ hx) id⟩
    · rw [List.mem_cons, List.mem_cons, mem_nub]
theorem nodup_nub {α : Type} [DecidableEq α] : ∀ {l : List α}, (nub l).Nodup
  | [] => by simp [nub]
  | x :: r => by
    unfold nub
    split
    · exact nodup_nub
    · rename_i hx
      exact List.nodup_cons.mpr ⟨fun z => hx (mem_nub.mp z), nodup_nub⟩
theorem nub_len {α : Type} [DecidableEq α] {l m : List α} (nd : m.Nodup) (e : ∀ a, a ∈ m ↔ a ∈ l) : m.length = (nub l).length :=
  ((List.perm_ext_iff_of_nodup nd nodup_nub).mpr fun a => (e a).trans mem_nub.symm).length_eq
theorem nub_le {α : Type} [DecidableEq α] : ∀ (l : List α), (nub l).length ≤ l.length
  | [] => Nat.le_refl _
  | x :: r => by
    unfold nub
    split
    · exact Nat.le_succ_of_le (nub_le r)
    · exact Nat.succ_le_succ (nub_le r)
theorem nub_self {α : Type} [DecidableEq α] {l : List α} (nd : l.Nodup) : (nub l).length = l.length := (nub_len nd fun _ => Iff.rfl).symm
/-! ## a set, of which only the size is asked -/
def Sz (h : Heap) (a : Addr) (n : Nat) : Prop := ∃ o es ep t, h.get? a = some o ∧ o.ExactSet ∧ o.data = .set es ep t ∧ t.fits es.size = true ∧ es.size = n
def SzO (a : Addr) (n : Nat) : HO := .ext fun h => Sz h a n
theorem szO_new {P : Program} {w : World} {H : Hp} {h : Heap} {a : Addr} {n : Nat} (R : Sz h a n) : ObjOk P w H h a (SzO a n) := by
  refine ⟨R, ?_, fun h1 h2 p k => ?_⟩
  · obtain ⟨o, _, _, _, e, _⟩ := R
    exact ⟨o, e⟩
  · obtain ⟨o, es, ep, t, e, r⟩ := p
    exact ⟨o, es, ep, t, k o e, r⟩
def rLenSz (w : World) : List V → Hp → VK → Prop := fun vs H Q => ∃ (a : Addr) (n : Nat), vs = [.ref a] ∧ (H a = some (SzO a n) ∨ ∃ S, H a = some (SetO w a S n)) ∧ n < 2 ^ 62 ∧ Q (.int n) H
theorem cr_lenSz : CallR X (.builtin "len") (rLenSz X.w) := by
  rintro pins s σ H vs us Q I r ⟨a, n, rfl, hs, lt, q⟩
  rw [Vals.ref1 r]
  have z : Sz s.heap a n := by
    rcases hs with hs | ⟨S, hs⟩
    · exact (I.hok a _ hs).1
    · obtain ⟨o, es, ep, t, e, x, d, _, _, _, f, k⟩ := (setO_get I hs).setOf (P := X.prog)
      exact ⟨o, es, ep, t, e, x, d, f, k⟩
  obtain ⟨o, es, ep, t, e, x, d, f, rfl⟩ := z
  exact call_len_set e x d f (by omega) ⟨.int es.size, H, I.tok _, ⟨_, rfl⟩, q⟩
def tupsOf : List D → Option (List (List Int))
  | [] => some []
  | .tup l :: ds => (intsOf l).bind fun k => (tupsOf ds).map fun ks => k :: ks
  | _ :: _ => none
theorem tups_ok : ∀ {ds : List D} {vs : List V} {ks : List (List Int)}, RelDs K φ H ds vs → tupsOf ds = some ks → ∃ ps : List (Addr × List Int), ps.map (·.2) = ks ∧ vs = ps.map (fun p => V.ref p.1) ∧ ∀ p ∈ ps, SqT K H p.1 (p.2.map V.int)
  | [], _, _, .nil, e => by
    cases e
    exact ⟨[], rfl, rfl, by simp⟩
  | .tup l :: ds, _, ks, .cons (.tup s r) rs, e => by
    have e' : (intsOf l).bind (fun k => (tupsOf ds).map fun ks => k :: ks) = some ks := e
    cases q : intsOf l with
    | none =>
      rw [q] at e'
      cases e'
    | some k =>
      cases q2 : tupsOf ds with
      | none =>
        rw [q, q2] at e'
        cases e'
      | some ks' =>
        rw [q, q2] at e'
        cases e'
        obtain ⟨ps, e1, e2, e3⟩ := tups_ok rs q2
        have e4 := ints_ok r q
        subst e4
        refine ⟨(_, k) :: ps, by rw [List.map_cons, e1], by rw [List.map_cons, e2], fun p hp => ?_⟩
        rcases List.mem_cons.mp hp with z | z
        · rw [z]
          exact s
        · exact e3 p z
def lsetD (x : D) (h : Hs) : R Res := match x with
  | .tup l => optR (tupsOf l) fun ks => gate (decide (ks.length < 64)) (okV (.int (nub ks).length) h)
  | x => optR (listOf h x) fun l => optR (intsOf l) fun ns => gate (decide (ns.length < 64)) (okV (.int (nub ns).length) h)
theorem lset_calm : Calm (lsetD x h) := by
  unfold lsetD
  split <;> first | exact calm_opt fun _ => calm_gate calm_ok | exact calm_opt fun _ => calm_opt fun _ => calm_gate calm_ok
/-- set(x) -/
def rSetSz (K : PySem.W.Frag) : List V → Hp → VK → Prop := fun vs H Q =>
  (∃ (t : Addr) (ps : List (Addr × List Int)), vs = [.ref t] ∧ SqT K H t (ps.map fun p => V.ref p.1) ∧ (∀ p ∈ ps, SqT K H p.1 (p.2.map V.int)) ∧ ps.length < 64 ∧ ∀ a, H a = none → Q (.ref a) (upd H a (SzO a (nub (ps.map (·.2))).length))) ∨
  (∃ (t : Addr) (ns : List Int), vs = [.ref t] ∧ SqL K H t (ns.map V.int) ∧ ns.length < 64 ∧ ∀ a, H a = none → Q (.ref a) (upd H a (SzO a (nub ns).length)))
theorem dedup_mem : ∀ (l acc : List Int) (a : Int), a ∈ l.foldl step_dedup acc ↔ a ∈ acc ∨ a ∈ l
  | [], acc, a => by simp
  | k :: l, acc, a => by
    rw [List.foldl_cons, dedup_mem l]
    unfold step_dedup
    split
    · rename_i hx
      obtain ⟨b, hb, e⟩ := List.any_eq_true.mp hx
      have e' : b = k := by simpa using e
      subst e'
      rw [List.mem_cons]
      exact ⟨fun z => z.elim .inl fun z => .inr (.inr z), fun z => z.elim .inl fun z => z.elim (fun z => .inl (z ▸ hb)) .inr⟩
    · rw [List.mem_append, List.mem_singleton, List.mem_cons, or_assoc]
theorem dedup_nodup : ∀ (l acc : List Int), acc.Nodup → (l.foldl step_dedup acc).Nodup
  | [], acc, h => h
  | k :: l, acc, h => by
    rw [List.foldl_cons]
    refine dedup_nodup l _ ?_
    unfold step_dedup
    split
    · exact h
    · rename_i hx
      refine List.nodup_append.mpr ⟨h, by simp, fun a ha b hb z => hx ?_⟩
      rw [List.mem_singleton.mp hb] at z
      rw [← z]
      exact List.any_eq_true.mpr ⟨a, ha, by simp⟩
theorem range_getD (ns : List Int) : (List.range ns.length).map (fun i => ns.getD i 0) = ns := by
  apply List.ext_getElem?
  intro i
  rw [List.getElem?_map]
  by_cases z : i < ns.length
  · rw [List.getElem?_eq_getElem (by simpa using z), List.getElem?_eq_getElem z]
    simp [List.getD_eq_getElem?_getD, z]
  · rw [List.getElem?_eq_none (by simpa using z), List.getElem?_eq_none (by omega)]
    rfl
theorem firstMet_nub (ns : List Int) : (firstMet (fun i => ns.getD i 0) ns.length).length = (nub ns).length := by
  unfold firstMet
  rw [range_getD]
  exact nub_len (dedup_nodup ns [] List.nodup_nil) fun a => by rw [dedup_mem]; simp
theorem cr_setSz (hc : X.calm = true) (hu : X.A.units + 64 < cLine) : CallR X (.type "set") (rSetSz X.K) := by
  rintro pins s σ H vs us Q I r (⟨t, ps, rfl, st, sk, lt, q⟩ | ⟨t, ns, rfl, sl, lt, q⟩)
  · rw [Vals.ref1 r]
    obtain ⟨its, rv, tp, hz⟩ := I.tuple st
    refine set_of_tups (P := X.prog) (w := X.w) ps (I.ok.hd hc) (show s.heap.IsTuple t its.toArray from tp) (by have z := refs_of_vals rv; simpa using z) (fun p hp => I.isT (sk p hp)) lt (by omega) fun h' tk L es ep tb R g k => ?_
    have n0 : H s.heap.objs.size = none := I.hok.fresh (Nat.le_refl _)
    have e : es.size = (nub (ps.map (·.2))).length := by
      rw [SetTR.size (s := { s with heap := h' }) R, ← nub_len (m := L.map (·.2)) R.nd (fun a => ?_), List.length_map]
      refine ⟨fun z => ?_, fun z => ?_⟩
      · obtain ⟨p, hp, rfl⟩ := List.mem_map.mp z
        exact List.mem_map.mpr ⟨p, List.mem_of_mem_take (g.sub p hp), rfl⟩
      · obtain ⟨p, hp, rfl⟩ := List.mem_map.mp z
        exact g.all p (by rw [List.take_length]; exact hp)
    obtain ⟨o, e1, e2, e3⟩ := R.ob
    have sz : Sz h' s.heap.objs.size (nub (ps.map (·.2))).length := ⟨o, es, ep, tb, e1, e2, e3, SetTR.fits (s := { s with heap := h' }) R, e⟩
    exact ⟨.ref s.heap.objs.size, _, I.laid (t' := tk) k (Nat.le_refl _) (szO_new sz), rfl, q _ n0⟩
  · rw [Vals.ref1 r]
    obtain ⟨its, rv, tp, hz⟩ := I.list sl
    have hl : its.toArray.size = ns.length := by rw [List.size_toArray, ← rv.length, List.length_map]
    have n0 : H s.heap.objs.size = none := I.hok.fresh (Nat.le_refl _)
    refine call_set_list (I.ok.hd hc) tp.isList (ns := ns) (by simpa using rv.ints) (by rw [hl]; unfold scanBound; omega) fun h' tk hS hk => ?_
    rw [hl, firstMet_nub] at hS
    obtain ⟨o, es, ep, t, e1, e2, e3, _, _, _, f, k⟩ := hS
    have sz : Sz h' s.heap.objs.size (nub ns).length := ⟨o, es, ep, t, e1, e2, e3, f, k⟩
    exact ⟨.ref s.heap.objs.size, _, I.laid (t' := tk) (fun b o z => hk b o (Heap.lt_size z) z) (Nat.le_refl _) (szO_new sz), rfl, q _ n0⟩
theorem e_lset {i : Nat} {p1 p2 q : Pos} (hb : c.blt i = one lsetD) (hc : X.calm = true) (ft : Fit X) (g1 : Gl X "len") (m1 : X.mg "len" = none) (g2 : Gl X "set") (m2 : X.mg "set" = none) (ha : PE X a (T c X.K W ia))
    (na : starEach [a] X.env = (false, eval a X.env) :: starEach [] X.env := by rfl) (nc : starEach [.Call (.Name "set" p2) [a] [] q] X.env = (false, eval (.Call (.Name "set" p2) [a] [] q) X.env) :: starEach [] X.env := by rfl)
    (hp1 : (backTo q (starEach [] X.env)).any (·.1) = false := by rfl) (hp2 : (backTo pos (starEach [] X.env)).any (·.1) = false := by rfl) :
    PE X (.Call (.Name "len" p1) [.Call (.Name "set" p2) [a] [] q] [] pos) (T c X.K W (.blt i (.cons ia .nil))) :=
  (pe_callB cr_lenSz g1 m1 PySem.boot_len (pa_cons (pe_callTy (cr_setSz hc (by have := ft.rm.un; omega)) g2 m2 PyProof.Rows.boot_set (pa_cons ha pa_nil na) (by decide) (by decide) na hp1) pa_nil nc) (by decide) (by decide) nc hp2).imp fun σ H Q ⟨φ, ρ, h, hr, hs, q⟩ => by
    have q1 : PostR X.K φ H (bindD (ev c ρ ia h) fun x h1 => lsetD x h1) Q fun x H' => W (.ref (c.cA x)) none σ H' := by
      simp only [ev, evs, hb] at q
      cases z : ev c ρ ia h with
      | ok r h => 
        rw [z] at q
        cases r <;> exact q
      | exc k h =>
        rw [z] at q
        exact q
      | bad =>
        rw [z] at q
        exact q
    refine ⟨φ, ρ, h, hr, hs, seqRR q1 fun x h1 φ1 H1 v q x1 hr1 rd => ?_⟩
    have fin : ∀ k : Nat, k < 2 ^ 62 → PostR X.K φ1 H1 (okV (.int k) h1) Q (fun x H' => W (.ref (c.cA x)) none σ H') → ∀ a, H1 a = none → rLenSz X.w [.ref a] (upd H1 a (SzO a k)) Q := fun k lt q a na => ⟨a, k, rfl, .inl upd_same, lt, q φ1 _ _ (Ext.new na) (hr1.new na) (.int k)⟩
    have other : PostR X.K φ1 H1 (optR (listOf h1 x) fun l => optR (intsOf l) fun ns => gate (decide (ns.length < 64)) (okV (.int (nub ns).length) h1)) Q (fun x H' => W (.ref (c.cA x)) none σ H') → rSetSz X.K [v] H1 fun u H' => rLenSz X.w [u] H' Q := fun q => by
      obtain ⟨l, e1, q⟩ := opt_post q
      obtain ⟨ns, e2, q⟩ := opt_post q
      obtain ⟨lt, q⟩ := gate_post q
      obtain ⟨a, xs, rfl, sl, rs⟩ := list_of hr1 rd e1
      have e3 := ints_ok rs e2
      subst e3
      have lt' := of_decide_eq_true lt
      exact .inr ⟨a, ns, rfl, sl, lt', fin _ (Nat.lt_of_le_of_lt (nub_le ns) (by omega)) q⟩
    cases rd with
    | tup s r =>
      obtain ⟨ks, e1, q⟩ := opt_post (show PostR X.K φ1 H1 (optR (tupsOf _) fun ks => gate (decide (ks.length < 64)) (okV (.int (nub ks).length) h1)) Q _ from q)
      obtain ⟨lt, q⟩ := gate_post q
      obtain ⟨ps, e2, rfl, e3⟩ := tups_ok r e1
      subst e2
      have lt' := of_decide_eq_true lt
      rw [List.length_map] at lt'
      refine .inl ⟨_, ps, rfl, s, e3, lt', fin _ (Nat.lt_of_le_of_lt (nub_le _) (by rw [List.length_map]; omega)) q⟩
    | _ => exact other q
end Fr
set_option Elab.async false
set_option linter.all false
set_option maxRecDepth 100000
set_option maxHeartbeats 4000000
namespace Fr
open PySem PySem.Spec PyProof.Rows L2
variable {K : PySem.W.Frag} {φ φ' φ1 φ2 : List Addr} {H H' H1 H2 : Hp} {h h' h1 : Hs} {d x y : D} {ds es : List D} {v u : V} {vs xs ys : List V} {p : Addr} {n m : Nat} {ρ ρ' : Rho} {σ σ' : L2.St} {Q : VK} {E : XW} {X : Cx}
variable {c : Cn} {W : WX} {ie ia ib ic it : Tm} {ies jes cs : Tms} {a b e : Expr} {pos : Pos} {g : G} {own : List Nat} {ss tt : Sms} {st : Sm}
/-! ## an object that is no value of ours is turned -/
section
variable {L0 : Addr} {pp : Heap → Prop}
mutual
theorem RelD.off (e : H L0 = some (.ext pp)) (k : ∀ b, b ≠ L0 → H' b = H b) : ∀ {d : D} {v : V}, RelD K φ H d v → RelD K φ H' d v
  | _, _, .non => .non
  | _, _, .bl b => .bl b
  | _, _, .int i => .int i
  | _, _, .str z => .str z
  | _, _, .ty z => .ty z
  | _, _, .tup (a := a) s r => .tup (by
      rcases s with (s | ⟨o, s⟩) | s
      · exact .inl (.inl (by rw [k a (fun z => by rw [z, e] at s; cases s)]; exact s))
      · exact .inl (.inr ⟨o, by rw [k a (fun z => by rw [z, e] at s; cases s)]; exact s⟩)
      · exact .inr s) (RelDs.off e k r)
  | _, _, .rol (a := a) s r => .rol (by
      rcases s with ⟨o, s⟩ | s
      · exact .inl ⟨o, by rw [k a (fun z => by rw [z, e] at s; cases s)]; exact s⟩
      · exact .inr s) (RelDs.off e k r)
  | _, _, .lst (a := a) s na r => .lst (by
      rw [k a (fun z => by rw [z, e] at s; cases s)]
      exact s) na (RelDs.off e k r)
  | _, _, .ref e2 => .ref e2
theorem RelDs.off (e : H L0 = some (.ext pp)) (k : ∀ b, b ≠ L0 → H' b = H b) : ∀ {ds : List D} {vs : List V}, RelDs K φ H ds vs → RelDs K φ H' ds vs
  | _, _, .nil => .nil
  | _, _, .cons r rs => .cons (RelD.off e k r) (RelDs.off e k rs)
end
theorem HRel.off (r : HRel K φ H h) (e : H L0 = some (.ext pp)) (k : ∀ b, b ≠ L0 → H' b = H b) : HRel K φ H' h := ⟨r.len, r.nd, fun n ds e1 => by
  obtain ⟨b, xs, e3, e4, e5, e6⟩ := r.cell n ds e1
  exact ⟨b, xs, e3, by
    rw [k b (fun z => by rw [z, e] at e4; cases e4)]
    exact e4, RelDs.off e k e5, e6⟩⟩
end
theorem Ext.turn {o : HO} (x : Ext φ H φ' H') (np : H p = none) : Ext φ H φ' (upd H' p o) := ⟨x.pre, fun a u k e => by
  rw [upd_ne (ne_of_none e np)]
  exact x.keep a u k e, fun a u e => by
  rw [upd_ne (ne_of_none e np)]
  exact x.there a u e⟩
def lscF (c : Cn) (ρ : Rho) (e : Tm) (g : G) (own : List Nat) : D → Hs → R D := fun x h2 => compL (asg g x (wipeR ρ own)) fun ρ1 => bindD (ev c ρ1 e h2) fun y h3 => .ok y h3
theorem lsc_ok (hsl : ∀ i ∈ g.slots, i ∈ own) (q : T c K W (.lsc ie it g own) σ H Q) : tSi X.w (Ti c K W it) (Tg K g) (T c K W0 ie) own σ H fun v H' => rLenSz X.w [v] H' Q := by
  obtain ⟨φ, ρ, h, hr, hs, q⟩ := q
  have q : PostR K φ H ((evI c ρ it h).bind fun s h1 => setL (lscF c ρ ie g own) s (srcLen s h1 + 1) 0 [] h1) Q fun x H' => W (.ref (c.cA x)) none σ H' := by
    simp only [ev] at q
    exact q
  refine ⟨φ, ρ, h, hr, hs, seqI q fun s h1 φ1 H1 J q x1 hr1 so L0 nD => ?_⟩
  refine ⟨fun i m Hx => ∃ φx hx acc S, Ext φ1 H1 φx Hx ∧ HRel K φx Hx hx ∧ Hx L0 = some (SetO X.w L0 S acc.length) ∧ (∀ j, S j = true ↔ j ∈ acc) ∧ acc.length < 64 ∧ PostR K φ1 H1 (setL (lscF c ρ ie g own) s m i acc hx) Q fun x H' => W (.ref (c.cA x)) none σ H',
    ⟨srcLen s h1 + 1, φ1, h1, [], _, Ext.new nD, hr1.new nD, upd_same, by simp, by simp, q⟩, ?_⟩
  rintro i m H2 ⟨φ2, h2, acc, S, x2, hr2, eD, hS, lt, q2⟩
  have so2 := so.ext x2
  cases m with
  | zero =>
    simp only [setL] at q2
    exact False.elim q2
  | succ k =>
    unfold setL at q2
    cases e : srcAt s i h2 with
    | none =>
      rw [e] at q2
      exact False.elim q2
    | some o =>
      rw [e] at q2
      cases o with
      | none => exact .inl ⟨so2.stop hr2 e, L0, acc.length, rfl, .inr ⟨S, eD⟩, by omega, q2 φ2 H2 _ x2 hr2 (.int _)⟩
      | some x =>
        obtain ⟨go, yld⟩ := so2.go hr2 e
        refine .inr ⟨go, fun Hn => ∃ φx hx acc S, Ext φ1 H1 φx Hn ∧ HRel K φx Hn hx ∧ Hn L0 = some (SetO X.w L0 S acc.length) ∧ (∀ j, S j = true ↔ j ∈ acc) ∧ acc.length < 64 ∧ PostR K φ1 H1 (setL (lscF c ρ ie g own) s k (i + 1) acc hx) Q fun x H' => W (.ref (c.cA x)) none σ H', fun Hn z => ⟨k, Nat.lt_succ_self _, z⟩, fun y Hy hy => ?_⟩
        obtain ⟨rfl, rx⟩ := yld y Hy hy
        have hs2 : RelS K φ2 Hy ρ σ := (x1.trans x2).relS hs
        cases ea : asg g x (wipeR ρ own) with
        | none =>
          simp only [lscF, ea, compL] at q2
          exact False.elim q2
        | some ρ1 =>
          refine ⟨φ2, wipeR ρ own, x, ρ1, hs2.wipe own, rx, ea, fun σ1 hs1 we => ⟨?_, ?_⟩⟩
          · rw [we own hsl, wipe_wipe]
          · refine ⟨φ2, ρ1, h2, hr2, hs1, ?_⟩
            have fin : ∀ (y : D) (h3 : Hs) (φ3 : List Addr) (H3 : Hp) (v : V), Ext φ2 Hy φ3 H3 → HRel K φ3 H3 h3 → RelD K φ3 H3 y v →
                PostR K φ1 H1 (match (R.ok y h3 : R D) with
                  | .ok (.int j) h1 => if acc.length + 1 < 64 then setL (lscF c ρ ie g own) s k (i + 1) (if j ∈ acc then acc else j :: acc) h1 else .bad
                  | _ => .bad) Q (fun x H' => W (.ref (c.cA x)) none σ H') →
                ∃ (j : Int) (S : Int → Bool) (n : Nat), v = .int j ∧ H3 L0 = some (SetO X.w L0 S n) ∧ n + 1 < scanBound ∧ ∃ φx hx acc S', Ext φ1 H1 φx (upd H3 L0 (SetO X.w L0 (fun i => S i || decide (i = j)) (if S j = true then n else n + 1))) ∧
                  HRel K φx (upd H3 L0 (SetO X.w L0 (fun i => S i || decide (i = j)) (if S j = true then n else n + 1))) hx ∧ (upd H3 L0 (SetO X.w L0 (fun i => S i || decide (i = j)) (if S j = true then n else n + 1))) L0 = some (SetO X.w L0 S' acc.length) ∧ (∀ j, S' j = true ↔ j ∈ acc) ∧ acc.length < 64 ∧
                  PostR K φ1 H1 (setL (lscF c ρ ie g own) s k (i + 1) acc hx) Q fun x H' => W (.ref (c.cA x)) none σ H' := by
              intro y h3 φ3 H3 v x3 hr3 ry q3
              have eD3 : H3 L0 = some (SetO X.w L0 S acc.length) := x3.keep L0 _ (.inr fun _ z => by cases z) eD
              cases ry with
              | int j =>
                have q3 : PostR K φ1 H1 (if acc.length + 1 < 64 then setL (lscF c ρ ie g own) s k (i + 1) (if j ∈ acc then acc else j :: acc) h3 else .bad) Q (fun x H' => W (.ref (c.cA x)) none σ H') := q3
                split at q3
                · rename_i hz
                  refine ⟨j, S, acc.length, rfl, eD3, by unfold scanBound; omega, φ3, h3, if j ∈ acc then acc else j :: acc, fun i => S i || decide (i = j), (x2.trans x3).turn nD, hr3.off (L0 := L0) eD3 fun b hb => upd_ne hb, ?_, fun i => ?_, ?_, q3⟩
                  · rw [upd_same]
                    by_cases w : j ∈ acc
                    · rw [if_pos w, if_pos ((hS j).mpr w)]
                    · rw [if_neg w, if_neg (fun z => w ((hS j).mp z))]
                      rfl
                  · by_cases w : j ∈ acc
                    · rw [if_pos w, Bool.or_eq_true, hS i, decide_eq_true_eq]
                      exact ⟨fun z => z.elim id fun z => z ▸ w, .inl⟩
                    · rw [if_neg w, Bool.or_eq_true, hS i, decide_eq_true_eq, List.mem_cons]
                      exact ⟨fun z => z.elim .inr .inl, fun z => z.elim .inr .inl⟩
                  · by_cases w : j ∈ acc
                    · rw [if_pos w]
                      exact lt
                    · rw [if_neg w]
                      exact hz
                · exact False.elim q3
              | _ => exact False.elim q3
            cases ev4 : ev c ρ1 ie h2 with
            | bad =>
              simp only [lscF, ea, compL, ev4, bindD] at q2
              exact False.elim q2
            | exc k2 h4 =>
              simp only [lscF, ea, compL, ev4, bindD] at q2
              exact False.elim q2
            | ok r h4 =>
              cases r with
              | val y =>
                simp only [lscF, ea, compL, ev4, bindD] at q2
                intro φ4 H4 v x4 hr4 ry
                exact fin y h4 φ4 H4 v x4 hr4 ry q2
              | new ys =>
                simp only [lscF, ea, compL, ev4, bindD] at q2
                exact False.elim q2
theorem e_lsc {tg iter : Expr} {scope : Scope} {ow : List (Str × Nat)} {p1 : Pos} (hc : X.calm = true) (hN : X.N.Nodup) (g1 : Gl X "len") (m1 : X.mg "len" = none) (hi : PI X tg iter (Ti c X.K W it)) (ok : BlkOk X.N X.env.scope scope ow) (hsl : ∀ i ∈ g.slots, i ∈ ow.map (·.2))
    (hg : ∀ (s : Shared) (H : Hp) (C : Addr) (cl : List (Str × Addr)) (fp : List Addr), PG (X.blk s H scope (compEnvC scope cl C X.env) fp) tg (Tg X.K g))
    (he : ∀ (s : Shared) (H : Hp) (C : Addr) (cl : List (Str × Addr)) (fp : List Addr), PE (X.blk s H scope (compEnvC scope cl C X.env) fp) e (T c X.K W0 ie)) {q : Pos} (hf : ∀ x, foldedSetIterable iter X.env x = pure x := by intro _; rfl)
    (nc : starEach [.SetComp e [⟨tg, iter, [], 0⟩] scope q] X.env = (false, eval (.SetComp e [⟨tg, iter, [], 0⟩] scope q) X.env) :: starEach [] X.env := by rfl) (hp : (backTo pos (starEach [] X.env)).any (·.1) = false := by rfl) :
    PE X (.Call (.Name "len" p1) [.SetComp e [⟨tg, iter, [], 0⟩] scope q] [] pos) (T c X.K W (.lsc ie it g (ow.map (·.2)))) :=
  (pe_callB cr_lenSz g1 m1 PySem.boot_len (pa_cons (pe_si hc hN hi ok hg he hf) pa_nil nc) (by decide) (by decide) nc hp).imp fun σ H Q q => lsc_ok hsl q
end Fr
set_option Elab.async false
set_option linter.all false
set_option maxRecDepth 100000
set_option maxHeartbeats 4000000
namespace Fr
open PySem PySem.Spec PyProof.Rows L2
variable {K : PySem.W.Frag} {φ φ' φ1 φ2 : List Addr} {H H' H1 H2 : Hp} {h h' h1 : Hs} {d x y : D} {ds es : List D} {v u : V} {vs xs ys : List V} {p : Addr} {n m : Nat} {ρ ρ' : Rho} {σ σ' : L2.St} {Q : VK} {E : XW} {X : Cx}
variable {c : Cn} {W : WX} {ie ia ib ic it it1 : Tm} {ies jes cs cs1 : Tms} {a b e : Expr} {pos : Pos} {g g1 : G} {own own1 : List Nat} {ss tt : Sms} {st : Sm}
/-! ## a comprehension of two walks -/
def innF (c : Cn) (ρ1 : Rho) (e : Tm) (g1 : G) (cs1 : Tms) (own1 : List Nat) : D → Hs → R (Option D) := fun y h5 => compE (asg g1 y (wipeR ρ1 own1)) fun ρ2 =>
  (evC c ρ2 cs1 h5).bind fun k h6 => keepR k h6 (bindD (ev c ρ2 e h6) fun y h7 => .ok (some y) h7)
def outF (c : Cn) (ρ : Rho) (e : Tm) (g : G) (cs : Tms) (it1 : Tm) (g1 : G) (cs1 : Tms) (own own1 : List Nat) (n : Nat) : D → Hs → R Unit := fun x h2 => compU (asg g x (wipeR ρ own)) fun ρ1 =>
  (evC c ρ1 cs h2).bind fun k h3 => keepU k h3 ((evI c ρ1 it1 h3).bind fun s1 h4 => innR (innF c ρ1 e g1 cs1 own1) n s1 (srcLen s1 h4 + 1) 0 h4)
def contU (r : R Unit) (k : Hs → R Res) : R Res := match r with | .ok _ h1 => k h1 | _ => .bad
theorem mapU_step {f : D → Hs → R Unit} {s : Src} {k i : Nat} (e : srcAt s i h = some (some x)) : mapU f n s (k + 1) i h = contU (f x h) fun h1 => mapU f n s k (i + 1) h1 := by
  simp only [mapU, e]
  cases f x h <;> rfl
def pushC (n : Nat) (o : Option D) (h1 : Hs) (k : Hs → R Unit) : R Unit := match o with
  | none => k h1
  | some y => match h1[n]? with | some acc => if acc.length < sizeLine ∧ y.und n = true then k (h1.set n (acc ++ [y])) else .bad | none => .bad
theorem innR_step {f : D → Hs → R (Option D)} {s : Src} {k i : Nat} (e : srcAt s i h = some (some x)) : innR f n s (k + 1) i h = match f x h with | .ok o h1 => pushC n o h1 (fun h2 => innR f n s k (i + 1) h2) | _ => .bad := by
  simp only [innR, e]
  cases f x h with
  | ok o h1 => cases o <;> rfl
  | exc k h1 => rfl
  | bad => rfl
theorem ev_comp2 (h : Hs) : ev c ρ (.comp2 ie it g cs it1 g1 cs1 own own1) h = (evI c ρ it h).bind fun s h1 => map2 (outF c ρ ie g cs it1 g1 cs1 own own1) s h1 := by
  simp only [ev]
  rfl
theorem comp2_ok (hsl : ∀ i ∈ g.slots, i ∈ own) (hsl1 : ∀ i ∈ g1.slots, i ∈ own1) (q : T c K W (.comp2 ie it g cs it1 g1 cs1 own own1) σ H Q) :
    tLc2 (Ti c K W it) (Tg K g) (Tcs c K W0 cs) (Ti c K W0 it1) (Tg K g1) (Tcs c K W0 cs1) (T c K W0 ie) own own1 σ H Q := by
  obtain ⟨φ, ρ, h, hr, hs, q⟩ := q
  rw [ev_comp2] at q
  refine ⟨φ, ρ, h, hr, hs, seqI q fun s h1 φ1 H1 J q x1 hr1 so L0 nD => ?_⟩
  have hl : φ1.length = h1.length := hr1.len
  obtain ⟨F, eF⟩ : ∃ F, F = outF c ρ ie g cs it1 g1 cs1 own own1 h1.length := ⟨_, rfl⟩
  have q : PostR K φ1 H1 (mapU F h1.length s (srcLen s h1 + 1) 0 (h1 ++ [[]])) Q fun x H' => W (.ref (c.cA x)) none σ H' := by
    rw [eF]
    exact q
  refine ⟨fun i m Hx => ∃ φx hx, Ext φ1 H1 φx Hx ∧ HRel K φx Hx hx ∧ φx[h1.length]? = some L0 ∧ PostR K φ1 H1 (mapU F h1.length s m i hx) Q fun x H' => W (.ref (c.cA x)) none σ H',
    ⟨srcLen s h1 + 1, φ1 ++ [L0], h1 ++ [[]], Ext.push nD, hr1.push nD .nil, by rw [← hl]; simp, q⟩, ?_⟩
  rintro i m H2 ⟨φ2, h2, x2, hr2, eD, q2⟩
  have so2 := so.ext x2
  cases m with
  | zero =>
    simp only [mapU] at q2
    exact False.elim q2
  | succ k =>
    cases e : srcAt s i h2 with
    | none =>
      unfold mapU at q2
      rw [e] at q2
      exact False.elim q2
    | some o =>
      cases o with
      | none =>
        unfold mapU at q2
        rw [e] at q2
        refine .inl ⟨so2.stop hr2 e, ?_⟩
        cases e1 : h2[h1.length]? with
        | none =>
          simp only [e1] at q2
          exact False.elim q2
        | some acc =>
          simp only [e1] at q2
          obtain ⟨xs, eH, rs, un⟩ := hr2.at_ e1 eD
          have hx := x2.hide eD hr2.nd (by omega)
          have g1 := q2 (φ2.take φ1.length) (hide H2 L0) L0 xs hx.2 (by rw [hl]; exact hr2.hide eD eH (Nat.le_refl _)) hide_same (by rw [hl]; exact RelDs.hide hr2.nd eD eH (Nat.le_refl _) rs un)
          rw [upd_hide eH] at g1
          exact g1
      | some x =>
        rw [mapU_step e] at q2
        obtain ⟨go, yld⟩ := so2.go hr2 e
        obtain ⟨KK, eK⟩ : ∃ KK : Hs → R Res, KK = fun h1' => mapU F h1.length s k (i + 1) h1' := ⟨_, rfl⟩
        rw [← eK] at q2
        refine .inr ⟨go, fun Hn => ∃ φx hx, Ext φ1 H1 φx Hn ∧ HRel K φx Hn hx ∧ φx[h1.length]? = some L0 ∧ PostR K φ1 H1 (KK hx) Q fun x H' => W (.ref (c.cA x)) none σ H', fun Hn ⟨φx, hx, z1, z2, z3, z⟩ => ⟨k, Nat.lt_succ_self _, φx, hx, z1, z2, z3, by rw [eK] at z; exact z⟩, fun y Hy hy => ?_⟩
        clear eK
        obtain ⟨rfl, rx⟩ := yld y Hy hy
        have hs2 : RelS K φ2 Hy ρ σ := (x1.trans x2).relS hs
        have q2 : PostR K φ1 H1 (contU (outF c ρ ie g cs it1 g1 cs1 own own1 h1.length x h2) KK) Q fun x H' => W (.ref (c.cA x)) none σ H' := by
          rw [← eF]
          exact q2
        cases ea : asg g x (wipeR ρ own) with
        | none =>
          simp only [outF, ea, compU] at q2
          exact False.elim q2
        | some ρ1 =>
          refine ⟨φ2, wipeR ρ own, x, ρ1, hs2.wipe own, rx, ea, fun σ1 hs1 we => ⟨?_, ?_⟩⟩
          · rw [we own hsl, wipe_wipe]
          · refine ⟨φ2, ρ1, h2, hr2, hs1, ?_⟩
            simp only [outF, ea, compU] at q2
            cases ec : evC c ρ1 cs h2 with
            | bad =>
              simp only [ec, R.bind] at q2
              exact False.elim q2
            | exc k2 h3 =>
              simp only [ec, R.bind] at q2
              exact False.elim q2
            | ok b h3 =>
              simp only [ec, R.bind] at q2
              intro φ3 H3 x3 hr3
              cases b with
              | false =>
                rw [if_neg Bool.false_ne_true]
                exact ⟨φ3, h3, x2.trans x3, hr3, x3.ix eD, q2⟩
              | true =>
                rw [if_pos rfl]
                simp only [keepU, if_true] at q2
                refine ⟨φ3, ρ1, h3, hr3, x3.relS hs1, ?_⟩
                cases ei : evI c ρ1 it1 h3 with
                | bad =>
                  simp only [ei, R.bind] at q2
                  exact False.elim q2
                | exc k2 h4 =>
                  simp only [ei, R.bind] at q2
                  exact False.elim q2
                | ok s1 h4 =>
                  simp only [ei, R.bind] at q2
                  intro φ4 H4 J1 x4 hr4 so4
                  have eD4 := x4.ix (x3.ix eD)
                  have hs4 := (x3.trans x4).relS hs1
                  obtain ⟨f1, ef⟩ : ∃ f1, f1 = innF c ρ1 ie g1 cs1 own1 := ⟨_, rfl⟩
                  rw [← ef] at q2
                  refine ⟨fun j mm Hx => ∃ φx hx, Ext φ4 H4 φx Hx ∧ HRel K φx Hx hx ∧ φx[h1.length]? = some L0 ∧ PostR K φ1 H1 (contU (innR f1 h1.length s1 mm j hx) KK) Q fun x H' => W (.ref (c.cA x)) none σ H', ⟨_, φ4, h4, Ext.refl _ _, hr4, eD4, q2⟩, ?_⟩
                  rintro j mm H5 ⟨φ5, h5, x5, hr5, eD5, q5⟩
                  have so5 := so4.ext x5
                  have x15 : Ext φ1 H1 φ5 H5 := x2.trans (x3.trans (x4.trans x5))
                  cases mm with
                  | zero =>
                    simp only [innR] at q5
                    exact False.elim q5
                  | succ k5 =>
                    cases e5 : srcAt s1 j h5 with
                    | none =>
                      unfold innR at q5
                      rw [e5] at q5
                      exact False.elim q5
                    | some o =>
                      cases o with
                      | none =>
                        unfold innR at q5
                        rw [e5] at q5
                        exact .inl ⟨so5.stop hr5 e5, φ5, h5, x15, hr5, eD5, q5⟩
                      | some z =>
                        rw [innR_step e5] at q5
                        obtain ⟨go5, yld5⟩ := so5.go hr5 e5
                        refine .inr ⟨go5, fun Hn => ∃ φx hx, Ext φ4 H4 φx Hn ∧ HRel K φx Hn hx ∧ φx[h1.length]? = some L0 ∧ PostR K φ1 H1 (contU (innR f1 h1.length s1 k5 (j + 1) hx) KK) Q fun x H' => W (.ref (c.cA x)) none σ H', fun Hn z => ⟨k5, Nat.lt_succ_self _, z⟩, fun y5 Hy5 hy5 => ?_⟩
                        obtain ⟨rfl, rx5⟩ := yld5 y5 Hy5 hy5
                        rw [ef] at q5
                        rw [ef]
                        have hs5 := x5.relS hs4
                        cases ea5 : asg g1 z (wipeR ρ1 own1) with
                        | none =>
                          simp only [innF, ea5, compE] at q5
                          exact False.elim q5
                        | some ρ2 =>
                          refine ⟨φ5, wipeR ρ1 own1, z, ρ2, hs5.wipe own1, rx5, ea5, fun σ6 hs6 we6 => ⟨?_, ?_⟩⟩
                          · rw [we6 own1 hsl1, wipe_wipe]
                          · refine ⟨φ5, ρ2, h5, hr5, hs6, ?_⟩
                            cases ec6 : evC c ρ2 cs1 h5 with
                            | bad =>
                              simp only [innF, ea5, compE, ec6, R.bind] at q5
                              exact False.elim q5
                            | exc k2 h3 =>
                              simp only [innF, ea5, compE, ec6, R.bind] at q5
                              exact False.elim q5
                            | ok b h6 =>
                              intro φ6 H6 x6 hr6
                              cases b with
                              | false =>
                                simp only [innF, ea5, compE, ec6, R.bind, keepR, pushC, if_false] at q5
                                rw [if_neg Bool.false_ne_true]
                                exact ⟨φ6, h6, x5.trans x6, hr6, x6.ix eD5, q5⟩
                              | true =>
                                rw [if_pos rfl]
                                refine ⟨φ6, ρ2, h6, hr6, x6.relS hs6, ?_⟩
                                have fin : ∀ (y : D) (h7 : Hs) (φ7 : List Addr) (H7 : Hp) (v : V), Ext φ6 H6 φ7 H7 → HRel K φ7 H7 h7 → RelD K φ7 H7 y v →
                                    (PostR K φ1 H1 (contU (pushC h1.length (some y) h7 fun h2 => innR (innF c ρ1 ie g1 cs1 own1) h1.length s1 k5 (j + 1) h2) KK) Q fun x H' => W (.ref (c.cA x)) none σ H') →
                                    ∃ acc, H7 L0 = some (.lst acc) ∧ acc.length < sizeLine ∧ ∃ φx hx, Ext φ4 H4 φx (upd H7 L0 (.lst (acc ++ [v]))) ∧ HRel K φx (upd H7 L0 (.lst (acc ++ [v]))) hx ∧ φx[h1.length]? = some L0 ∧
                                      PostR K φ1 H1 (contU (innR (innF c ρ1 ie g1 cs1 own1) h1.length s1 k5 (j + 1) hx) KK) Q fun x H' => W (.ref (c.cA x)) none σ H' := by
                                  intro y h7 φ7 H7 v x7 hr7 ry q7
                                  have eD7 := x7.ix (x6.ix eD5)
                                  cases e7 : h7[h1.length]? with
                                  | none =>
                                    simp only [pushC, e7] at q7
                                    exact False.elim q7
                                  | some acc =>
                                    simp only [pushC, e7] at q7
                                    split at q7
                                    · rename_i hz
                                      obtain ⟨xs, eH, rs, un⟩ := hr7.at_ e7 eD7
                                      have rs2 : RelDs K φ7 H7 (acc ++ [y]) (xs ++ [v]) := rs.append (.cons ry .nil)
                                      have un2 : D.unds h1.length (acc ++ [y]) = true := by
                                        rw [D.unds_append, un]
                                        show (true && (y.und h1.length && true)) = true
                                        rw [hz.2]
                                        rfl
                                      refine ⟨xs, eH, by rw [← rs.length]; exact hz.1, φ7, _, (x5.trans (x6.trans x7)).trans (Ext.write hr7 eD7), hr7.write eD7 rs2 un2, eD7, q7⟩
                                    · exact False.elim q7
                                cases ev7 : ev c ρ2 ie h6 with
                                | bad =>
                                  simp only [innF, ea5, compE, ec6, R.bind, keepR, ev7, bindD] at q5
                                  exact False.elim q5
                                | exc k2 h4 =>
                                  simp only [innF, ea5, compE, ec6, R.bind, keepR, ev7, bindD] at q5
                                  exact False.elim q5
                                | ok r h7 =>
                                  cases r with
                                  | val y =>
                                    simp only [innF, ea5, compE, ec6, R.bind, keepR, ev7, bindD, if_true] at q5
                                    intro φ7 H7 v x7 hr7 ry
                                    exact fin y h7 φ7 H7 v x7 hr7 ry q5
                                  | new ys =>
                                    simp only [innF, ea5, compE, ec6, R.bind, keepR, ev7, bindD, if_true] at q5
                                    intro φ7 H7 p xs x7 hr7 np rs
                                    exact fin (.lst ys) h7 φ7 _ _ (x7.trans (Ext.new np)) (hr7.new np) (rel_new hr7 np rs) q5
theorem e_comp2 {tg iter tg1 iter1 : Expr} {ifs ifs1 : List Expr} {scope : Scope} {ow : List (Str × Nat)} {own1 : List Nat} (hc : X.calm = true) (hN : X.N.Nodup) (hi : PI X tg iter (Ti c X.K W it)) (ok : BlkOk X.N X.env.scope scope ow) (hv : ∀ i ∈ own1, i ∈ ow.map (·.2)) (hsl : ∀ i ∈ g.slots, i ∈ ow.map (·.2)) (hsl1 : ∀ i ∈ g1.slots, i ∈ own1)
    (hg : ∀ (s : Shared) (H : Hp) (C : Addr) (cl : List (Str × Addr)) (fp : List Addr), PG (X.blk s H scope (compEnvC scope cl C X.env) fp) tg (Tg X.K g)) (ht : ∀ (s : Shared) (H : Hp) (C : Addr) (cl : List (Str × Addr)) (fp : List Addr), PTs (X.blk s H scope (compEnvC scope cl C X.env) fp) ifs (Tcs c X.K W0 cs))
    (hi1 : ∀ (s : Shared) (H : Hp) (C : Addr) (cl : List (Str × Addr)) (fp : List Addr), PI (X.blk s H scope (compEnvC scope cl C X.env) fp) tg1 iter1 (Ti c X.K W0 it1))
    (hg1 : ∀ (s : Shared) (H : Hp) (C : Addr) (cl : List (Str × Addr)) (fp : List Addr), PG (X.blk s H scope (compEnvC scope cl C X.env) fp) tg1 (Tg X.K g1)) (ht1 : ∀ (s : Shared) (H : Hp) (C : Addr) (cl : List (Str × Addr)) (fp : List Addr), PTs (X.blk s H scope (compEnvC scope cl C X.env) fp) ifs1 (Tcs c X.K W0 cs1))
    (he : ∀ (s : Shared) (H : Hp) (C : Addr) (cl : List (Str × Addr)) (fp : List Addr), PE (X.blk s H scope (compEnvC scope cl C X.env) fp) e (T c X.K W0 ie)) (hf : ∀ x, foldedSetIterable iter X.env x = pure x := by intro _; rfl) (hf1 : ∀ env x, foldedSetIterable iter1 env x = pure x := by intro _ _; rfl) :
    PE X (.ListComp e [⟨tg, iter, ifs, 0⟩, ⟨tg1, iter1, ifs1, 0⟩] scope pos) (T c X.K W (.comp2 ie it g cs it1 g1 cs1 (ow.map (·.2)) own1)) := (pe_lc2 hc hN hi ok hv hg ht hi1 hg1 ht1 he hf hf1).imp fun σ H Q q => comp2_ok hsl hsl1 q
end Fr
set_option Elab.async false
set_option linter.all false
set_option maxRecDepth 100000
set_option maxHeartbeats 4000000
namespace Fr
open PySem PySem.Spec PyProof.Rows L2
variable {K : PySem.W.Frag} {φ φ' φ1 φ2 : List Addr} {H H' H1 H2 : Hp} {h h' h1 : Hs} {d x y : D} {ds es : List D} {v u : V} {vs xs ys : List V} {p : Addr} {n m : Nat} {ρ ρ' : Rho} {σ σ' : L2.St} {Q : VK} {E : XW} {X : Cx}
variable {c : Cn} {W : WX} {ie ia ib ic it it1 : Tm} {ies jes cs cs1 : Tms} {a b e : Expr} {pos : Pos} {g g1 : G} {own own1 : List Nat} {ss tt : Sms} {st : Sm}
/-! ## isinstance, built-in types -/
def tyN : D → Option String
  | .non => some "NoneType"
  | .bl _ => some "bool"
  | .int _ => some "int"
  | .str _ => some "str"
  | .tup _ => some "tuple"
  | .lst _ => some "list"
  | .rol _ => some "list"
  | .ref _ => some "list"
  | .ty _ => none
def tysB (t : String) : List D → Option Bool
  | [] => some false
  | .ty n :: cs => (kitB t n).bind fun b => if b then some true else tysB t cs
  | _ :: _ => none
def isiD (x y : D) (h : Hs) : R Res := match y with
  | .ty n => optR (tyN x) fun t => optR (kitB t n) fun b => okV (.bl b) h
  | .tup cs => optR (tyN x) fun t => optR (tysB t cs) fun b => okV (.bl b) h
  | _ => .bad
theorem tyN_ok {t : String} (hr : HRel K φ H h) (rd : RelD K φ H x v) (e : tyN x = some t) : TyX K H v (.type t) := by
  cases rd with
  | non => cases e; exact .base .non
  | bl b => cases e; exact .base (.bl b)
  | int i => cases e; exact .base (.int i)
  | str z => cases e; exact .base (.str z)
  | ty z => cases e
  | tup s r =>
    cases e
    rcases s with (s | ⟨o, s⟩) | ⟨o, its, n, hk, hc, _⟩
    · exact .base (.tup s)
    · exact .fTuple s
    · exact .kTuple hk hc
  | lst s na r => cases e; exact .base (.lst s)
  | rol s r =>
    cases e
    rcases s with ⟨o, s⟩ | ⟨o, its, n, hk, hc, _⟩
    · exact .base (.frz s)
    · exact .kList hk hc
  | ref en =>
    cases e
    obtain ⟨xs, e⟩ := hr.inH (List.mem_of_getElem? en)
    exact .base (.lst e)
theorem tysB_ok {t : String} {b : Bool} : ∀ {cs : List D} {vs : List V} {us : List Value}, RelDs K φ H cs vs → Vals vs us → tysB t cs = some b → PySem.W.kitAny K (.type t) us = some b
  | [], _, _, .nil, .nil, e => by cases e; rfl
  | .ty n :: cs, _, _, .cons (.ty _) rs, .cons r t', e => by
    cases r
    have e' : ((kitB t n).bind fun b => if b then some true else tysB t cs) = some b := e
    cases q : kitB t n with
    | none =>
      rw [q] at e'
      cases e'
    | some k =>
      rw [q] at e'
      refine kitAny_cons (kit_ty q) (fun z => ?_) fun z => ?_
      · subst z
        exact tysB_ok rs t' e'
      · subst z
        exact (Option.some.inj e').symm
theorem isi_ok : BltOk X (two isiD) (.builtin "isinstance") := by
  refine ⟨?_, fun ds h => two_calm (fun x y h => by unfold isiD; split <;> first | exact calm_bad | exact calm_opt fun _ => calm_opt fun _ => calm_ok)⟩
  rintro pins s σ H vs us Q I r ⟨φ, h, ds, hr, rds, q⟩
  match ds, rds, q with
  | [], _, q => exact False.elim q
  | [_], _, q => exact False.elim q
  | _ :: _ :: _ :: _, _, q => exact False.elim q
  | [x, y], .cons rx (.cons ry .nil), q =>
    rename_i v w
    obtain ⟨u1, u2, rfl, r1, r2⟩ := vals2 r
    have q : PostR X.K φ H (isiD x y h) Q fun _ _ => False := q
    cases ry with
    | ty n =>
      obtain ⟨t, e1, q⟩ := opt_post q
      obtain ⟨b, e2, q⟩ := opt_post q
      exact call_isi pins s σ H _ _ Q I r ⟨v, .ty n, _, _, b, rfl, .ty n, tyN_ok hr rx e1, kit_ty e2, post_val q hr (.bl b)⟩
    | @tup a xs cs st rs =>
      obtain ⟨t, e1, q⟩ := opt_post q
      obtain ⟨b, e2, q⟩ := opt_post q
      cases (show u2 = Value.ref a from r2)
      obtain ⟨P, Z, p, hx⟩ := kit_of I r1 (tyN_ok hr rx e1)
      obtain ⟨its, rv, ⟨o, h1, h2, n, h3⟩, _⟩ := I.tuple st
      obtain ⟨oc, od, dt, sl⟩ := o
      simp only at h2 h3
      subst h2 h3
      exact PySem.W.kia_tup Z I.kIn p (its := its) (by simpa using h1) (tysB_ok rs rv e2) hx fun tk => ⟨.bl b, H, I.tok tk, rfl, post_val q hr (.bl b)⟩
    | _ => exact False.elim q
/-- a type's name -/
theorem e_ty {z : Str} {t : String} (hg : Gl X z) (hm : X.mg z = none) (hv : bootBuiltins z = some (.type t)) (hn : z ≠ "__name__" := by decide) (hd : (z == ("__debug__" : Str)) = false := by decide) : PE X (.Name z pos) (T c X.K W (.con (.ty t))) :=
  e_con (pe_bltn (v := .ty t) hg hm hv rfl hn hd) fun _ _ => .ty t
end Fr
set_option Elab.async false
set_option linter.all false
set_option maxRecDepth 100000
set_option maxHeartbeats 4000000
namespace Fr
open PySem PySem.Spec PyProof.Rows L2
variable {K : PySem.W.Frag} {φ φ' φ1 φ2 : List Addr} {H H' H1 H2 : Hp} {h h' h1 : Hs} {d x y : D} {ds es : List D} {v u : V} {vs xs ys : List V} {p : Addr} {n m : Nat} {ρ ρ' : Rho} {σ σ' : L2.St} {Q : VK} {E : XW} {X : Cx}
variable {c : Cn} {W : WX} {ie ia ib ic it it1 : Tm} {ies jes cs cs1 : Tms} {a b e : Expr} {pos : Pos} {g g1 : G} {own own1 : List Nat} {ss tt : Sms} {st : Sm}
/-! ## comparisons as tests -/
def isB (r : R Res) : Prop := match r with
  | .ok (.val (.bl _)) _ => True
  | .ok _ _ => False
  | _ => True
def BoolR (f : D → D → Hs → R Res) : Prop := ∀ x y h, isB (f x y h)
theorem isB_gate {k : Bool} {r : R Res} (h : isB r) : isB (gate k r) := by
  unfold gate
  split
  · exact h
  · trivial
theorem isB_opt {α : Type} {o : Option α} {f : α → R Res} (hf : ∀ a, isB (f a)) : isB (optR o f) := by
  cases o with
  | none => trivial
  | some a => exact hf a
theorem eqR_b {f : Bool → Bool} : BoolR (eqR f) := fun x y h => by
  unfold eqR
  split <;> first | trivial | exact isB_opt fun _ => isB_opt fun _ => isB_gate trivial
theorem inR_b {f : Bool → Bool} : BoolR (inR f) := fun x y h => by
  unfold inR
  refine isB_opt fun _ => isB_opt fun q => ?_
  cases q <;> first | trivial | exact isB_gate trivial
theorem cmpI_b {f : Int → Int → Bool} : BoolR (int2 fun i j => some (.bl (f i j))) := fun x y h => by
  unfold int2
  split <;> trivial
theorem bool_post {r : R Res} {Q : Bool → Hp → Prop} (hb : isB r) (hc : Calm r) (q : PostB K φ H (bindD r fun z h => okB (truth h z) h) Q E) : PostR K φ H r (fun z H' => ∃ k, z = .bl k ∧ Q k H') fun _ _ => False := by
  match r, hb, q with
  | .ok (.val (.bl k)) h', _, q =>
    intro φ' H' v x hr rd
    cases rd
    exact ⟨k, rfl, q φ' H' x hr⟩
  | .ok (.val .non) _, hb, _ => exact hb.elim
  | .ok (.val (.int _)) _, hb, _ => exact hb.elim
  | .ok (.val (.str _)) _, hb, _ => exact hb.elim
  | .ok (.val (.ty _)) _, hb, _ => exact hb.elim
  | .ok (.val (.tup _)) _, hb, _ => exact hb.elim
  | .ok (.val (.lst _)) _, hb, _ => exact hb.elim
  | .ok (.val (.rol _)) _, hb, _ => exact hb.elim
  | .ok (.val (.ref _)) _, hb, _ => exact hb.elim
  | .ok (.new _) _, hb, _ => exact hb.elim
  | .exc k h', _, _ => exact absurd rfl (hc k h')
  | .bad, _, q => exact q
theorem bindD_assoc {α : Type} {r : R Res} {f : D → Hs → R Res} {k : D → Hs → R α} : bindD (bindD r f) k = bindD r fun d h => bindD (f d h) k := by
  cases r with
  | ok r h => cases r <;> rfl
  | exc c h => rfl
  | bad => rfl
theorem t_cmp {o : Cop} {op : CmpOp} (ho : CmpOk X (c.cmp o) op) (hB : BoolR (c.cmp o)) (ha : PE X a (T c X.K W ia)) (hb : PE X b (T c X.K W ib)) (hm : behindInMarks op b = false) : PT X (.Compare a [op] [b] pos) (Tt c X.K W (.cmp o ia ib)) :=
  (pt_cmpR ho.rule ha hb hm).imp fun σ H Q ⟨φ, ρ, h, hr, hs, q⟩ => by
    rw [evT_plain rfl] at q
    simp only [ev, bindD_assoc] at q
    refine ⟨φ, ρ, h, hr, hs, seqRB q fun x h1 φ1 H1 v q x1 hr1 rd => ?_⟩
    refine ⟨φ1, ρ, h1, hr1, x1.relS hs, seqRB q fun y h2 φ2 H2 u q x2 hr2 rd2 => ?_⟩
    exact ⟨φ2, h2, x, y, hr2, x2.rel rd, rd2, bool_post (hB x y h2) (ho.calm x y h2) q⟩
theorem chainR_b {z : D} {r : R Res} {k : D → Hs → R Bool} : bindD (chainR z h r) k = match z with | .bl true => bindD r k | .bl false => k (.bl false) h | _ => .bad := by
  unfold chainR
  split <;> first | rfl | (split <;> first | rfl | contradiction)
theorem t_chain {o o' : Cop} {op op' : CmpOp} {cc : Expr} (ho : CmpOk X (c.cmp o) op) (ho' : CmpOk X (c.cmp o') op') (hB' : BoolR (c.cmp o')) (ha : PE X a (T c X.K W ia)) (hb : PE X b (T c X.K W ib)) (hc : PE X cc (T c X.K W ic)) (hm : lastMarks [op, op'] [b, cc] = false := by with_unfolding_all rfl) :
    PT X (.Compare a [op, op'] [b, cc] pos) (Tt c X.K W (.chain o o' ia ib ic)) := (pt_chain ho.rule ho'.rule ha hb hc hm).imp fun σ H Q ⟨φ, ρ, h, hr, hs, q⟩ => by
  rw [evT_plain rfl] at q
  simp only [ev, bindD_assoc] at q
  refine ⟨φ, ρ, h, hr, hs, seqRB q fun x h1 φ1 H1 v q x1 hr1 rd => ?_⟩
  refine ⟨φ1, ρ, h1, hr1, x1.relS hs, seqRB q fun y h2 φ2 H2 u q x2 hr2 rd2 => ?_⟩
  refine ⟨φ2, h2, x, y, hr2, x2.rel rd, rd2, ?_⟩
  refine PostR.calm (E := fun x H' => W (.ref (c.cA x)) none σ H') (ho.calm x y h2) (seqRB q fun z h3 φ3 H3 w q x3 hr3 rd3 => ?_)
  rw [chainR_b] at q
  cases rd3 with
  | bl k =>
    refine ⟨k, rfl, ?_⟩
    cases k with
    | false =>
      rw [if_neg Bool.false_ne_true]
      exact ⟨false, rfl, q φ3 H3 (Ext.refl _ _) hr3⟩
    | true =>
      rw [if_pos rfl]
      simp only [bindD_assoc] at q
      refine ⟨φ3, ρ, h3, hr3, (x1.trans (x2.trans x3)).relS hs, seqRB q fun z h4 φ4 H4 w q x4 hr4 rd4 => ?_⟩
      exact ⟨φ4, h4, y, z, hr4, (x3.trans x4).rel rd2, rd4, bool_post (hB' y z h4) (ho'.calm y z h4) q⟩
  | _ => exact False.elim q
/-! ## name = [..] on one line -/
theorem s_setLc {i : Nat} {y : Str} {py : Pos} {o : Bool} {tg iter : Expr} {ifs : List Expr} {scope : Scope} {ow : List (Str × Nat)} {spos : Pos} (hc : X.calm = true) (hN : X.N.Nodup) (hy : X.N[i]? = some y) (hyl : X.env.scope.names.lookup y = some .local)
    (hsw : swapsWith (.ListComp e [⟨tg, iter, ifs, 0⟩] scope pos) (some (.Name y py)) spos.line X.env = pure true) (hi : PI X tg iter (Ti c X.K W it)) (ok : BlkOk X.N X.env.scope scope ow) (hsl : ∀ i ∈ g.slots, i ∈ ow.map (·.2))
    (hg : ∀ (s : Shared) (H : Hp) (C : Addr) (cl : List (Str × Addr)) (fp : List Addr), PG (X.blk s H scope (compEnvC scope cl C X.env) fp) tg (Tg X.K g)) (ht : ∀ (s : Shared) (H : Hp) (C : Addr) (cl : List (Str × Addr)) (fp : List Addr), PTs (X.blk s H scope (compEnvC scope cl C X.env) fp) ifs (Tcs c X.K W0 cs))
    (he : ∀ (s : Shared) (H : Hp) (C : Addr) (cl : List (Str × Addr)) (fp : List Addr), PE (X.blk s H scope (compEnvC scope cl C X.env) fp) e (T c X.K W0 ie)) (hf : ∀ x, foldedSetIterable iter X.env x = pure x := by intro _; rfl) :
    PS X (.Assign [.Name y py] (.ListComp e [⟨tg, iter, ifs, 0⟩] scope pos) spos) (Tx c X.K W (.asg o (.nm i) (.comp ie it g cs (ow.map (·.2))))) := (ps_setLc hc hN hy hyl hsw hi ok hg ht he hf).imp fun D σ H ⟨φ, ρ, h, hr, hs, q⟩ => by
  refine comp_ok hsl ⟨φ, ρ, h, hr, hs, ?_⟩
  simp only [ex] at q
  refine seqRS q hs fun d h1 φ1 H1 v q x1 hr1 rd => ?_
  simp only [asg, asgR] at q
  exact q φ1 H1 _ (Ext.refl _ _) hr1 ((x1.relS hs).set rd i)
theorem s_setLc2 {i : Nat} {y : Str} {py : Pos} {o : Bool} {tg iter tg1 iter1 : Expr} {ifs ifs1 : List Expr} {scope : Scope} {ow : List (Str × Nat)} {own1 : List Nat} {spos : Pos} (hc : X.calm = true) (hN : X.N.Nodup) (hy : X.N[i]? = some y) (hyl : X.env.scope.names.lookup y = some .local)
    (hsw : swapsWith (.ListComp e [⟨tg, iter, ifs, 0⟩, ⟨tg1, iter1, ifs1, 0⟩] scope pos) (some (.Name y py)) spos.line X.env = pure true) (hi : PI X tg iter (Ti c X.K W it)) (ok : BlkOk X.N X.env.scope scope ow) (hv : ∀ i ∈ own1, i ∈ ow.map (·.2)) (hsl : ∀ i ∈ g.slots, i ∈ ow.map (·.2)) (hsl1 : ∀ i ∈ g1.slots, i ∈ own1)
    (hg : ∀ (s : Shared) (H : Hp) (C : Addr) (cl : List (Str × Addr)) (fp : List Addr), PG (X.blk s H scope (compEnvC scope cl C X.env) fp) tg (Tg X.K g)) (ht : ∀ (s : Shared) (H : Hp) (C : Addr) (cl : List (Str × Addr)) (fp : List Addr), PTs (X.blk s H scope (compEnvC scope cl C X.env) fp) ifs (Tcs c X.K W0 cs))
    (hi1 : ∀ (s : Shared) (H : Hp) (C : Addr) (cl : List (Str × Addr)) (fp : List Addr), PI (X.blk s H scope (compEnvC scope cl C X.env) fp) tg1 iter1 (Ti c X.K W0 it1))
    (hg1 : ∀ (s : Shared) (H : Hp) (C : Addr) (cl : List (Str × Addr)) (fp : List Addr), PG (X.blk s H scope (compEnvC scope cl C X.env) fp) tg1 (Tg X.K g1)) (ht1 : ∀ (s : Shared) (H : Hp) (C : Addr) (cl : List (Str × Addr)) (fp : List Addr), PTs (X.blk s H scope (compEnvC scope cl C X.env) fp) ifs1 (Tcs c X.K W0 cs1))
    (he : ∀ (s : Shared) (H : Hp) (C : Addr) (cl : List (Str × Addr)) (fp : List Addr), PE (X.blk s H scope (compEnvC scope cl C X.env) fp) e (T c X.K W0 ie)) (hf : ∀ x, foldedSetIterable iter X.env x = pure x := by intro _; rfl) (hf1 : ∀ env x, foldedSetIterable iter1 env x = pure x := by intro _ _; rfl) :
    PS X (.Assign [.Name y py] (.ListComp e [⟨tg, iter, ifs, 0⟩, ⟨tg1, iter1, ifs1, 0⟩] scope pos) spos) (Tx c X.K W (.asg o (.nm i) (.comp2 ie it g cs it1 g1 cs1 (ow.map (·.2)) own1))) := (ps_setLc2 hc hN hy hyl hsw hi ok hv hg ht hi1 hg1 ht1 he hf hf1).imp fun D σ H ⟨φ, ρ, h, hr, hs, q⟩ => by
  refine comp2_ok hsl hsl1 ⟨φ, ρ, h, hr, hs, ?_⟩
  simp only [ex] at q
  refine seqRS q hs fun d h1 φ1 H1 v q x1 hr1 rd => ?_
  simp only [asg, asgR] at q
  exact q φ1 H1 _ (Ext.refl _ _) hr1 ((x1.relS hs).set rd i)
/-! ## a tuple of values to several names -/
def TsO (c : Cn) (K : PySem.W.Frag) (W : WX) (os : List Bool) (es : Tms) : TA := fun σ H Q => ∃ φ ρ h, HRel K φ H h ∧ RelS K φ H ρ σ ∧ PostL K φ H (evsO c ρ os es h) Q fun x H' => W (.ref (c.cA x)) none σ H'
theorem lo_nil : PA X [] (TsO c X.K W [] .nil) := pa_nil.imp fun σ H Q ⟨φ, ρ, h, hr, hs, q⟩ => by
  simp only [evsO] at q
  exact q φ H [] (Ext.refl _ _) hr .nil
theorem seqOL {r : R Res} {f : D → Hs → R (List D)} {Q : List V → Hp → Prop} {Q' : VK} {o : Bool} (q : PostL K φ H (bindO o r f) Q E)
    (k : ∀ d h1 φ1 H1 v, PostL K φ1 H1 (f d h1) Q E → Ext φ H φ1 H1 → HRel K φ1 H1 h1 → RelD K φ1 H1 d v → Q' v H1) : PostR K φ H r Q' E := by
  match r, q with
  | .ok (.val d) h1, q => exact fun φ1 H1 v x hr rd => k d h1 φ1 H1 v (PostL.ext q x) x hr rd
  | .ok (.new ds) h1, q =>
    intro φ1 H1 p xs x hr np rd
    cases o with
    | false => exact k (.lst ds) h1 φ1 _ _ (PostL.ext q (x.trans (Ext.new np))) (x.trans (Ext.new np)) (hr.new np) (rel_new hr np rd)
    | true =>
      refine k (.ref h1.length) (h1 ++ [ds]) (φ1 ++ [p]) _ _ (PostL.ext q (x.trans (Ext.push np))) (x.trans (Ext.push np)) (hr.push np rd) (.ref ?_)
      rw [← hr.len]
      simp
  | .exc k h1, q => exact fun φ1 H1 x hr => q φ1 H1 x hr
  | .bad, q => exact absurd q (fun z => z)
theorem lo_cons {es : List Expr} {o : Bool} {os : List Bool} (ha : PE X e (T c X.K W ie)) (hr : PA X es (TsO c X.K W os ies)) (hs : starEach (e :: es) X.env = (false, eval e X.env) :: starEach es X.env := by rfl) : PA X (e :: es) (TsO c X.K W (o :: os) (.cons ie ies)) :=
  (pa_cons ha hr hs).imp fun σ H Q ⟨φ, ρ, h, hr, hs, q⟩ => by
    simp only [evsO] at q
    refine ⟨φ, ρ, h, hr, hs, seqOL q fun x h1 φ1 H1 v q x1 hr1 rd => ?_⟩
    refine ⟨φ1, ρ, h1, hr1, x1.relS hs, seqLL q fun xs h2 φ2 H2 vs q x2 hr2 rds => ?_⟩
    exact q φ2 H2 (v :: vs) (Ext.refl _ _) hr2 (.cons (x2.rel rd) rds)
theorem seqLS {r : R (List D)} {f : List D → Hs → RS} {D : Ends} {Q' : List V → Hp → Prop} (q : PostS K c.cA φ H (toS ρ r f) D W) (hs : RelS K φ H ρ σ)
    (k : ∀ ds h1 φ1 H1 vs, PostS K c.cA φ1 H1 (f ds h1) D W → Ext φ H φ1 H1 → HRel K φ1 H1 h1 → RelDs K φ1 H1 ds vs → Q' vs H1) : PostL K φ H r Q' fun x H' => W (.ref (c.cA x)) none σ H' := by
  match r, q with
  | .ok d h1, q => exact fun φ1 H1 v x hr rd => k d h1 φ1 H1 v (PostS.ext q x) x hr rd
  | .exc k h1, q => exact fun φ1 H1 x hr => q φ1 H1 σ x hr (x.relS hs)
theorem s_asgs {es ts : List Expr} {k k2 : Nat} {is : List Nat} {os : List Bool} {tpos epos : Pos} (hc : X.calm = true) (ha : PA X es (TsO c X.K W os ies)) (hg : PGs X ts (Tgs X.K is)) (hn : (assignEach ts X.env).length = is.length := by rfl) (hst : (assignEach ts X.env).findIdx? (·.1) = none := by rfl)
    (hs : swapsWithSole [.Tuple ts k tpos] (.Tuple es k2 epos) pos.line X.env = pure false := by rfl) (hw : swappedStores [.Tuple ts k tpos] (.Tuple es k2 epos) X.env = pure none := by rfl) (h1 : (assignEach [.Tuple ts k tpos] X.env).map (·.2) = [assign (.Tuple ts k tpos) X.env] := by rfl) :
    PS X (.Assign [.Tuple ts k tpos] (.Tuple es k2 epos) pos) (Tx c X.K W (.asgs os is ies)) := (ps_asg (pe_tup ha) (g_tp hc hg hn hst) hs hw h1).imp fun D σ H ⟨φ, ρ, h, hr, hs, q⟩ => by
  simp only [ex] at q
  refine ⟨φ, ρ, h, hr, hs, seqLS q hs fun ds h1 φ1 H1 vs q x1 hr1 rds => ?_⟩
  unfold gateS at q
  split at q
  · rename_i hl
    have hl' := of_decide_eq_true hl
    cases e : setR is ds ρ with
    | none =>
      rw [e] at q
      exact False.elim q
    | some ρ1 =>
      rw [e] at q
      refine ⟨by rw [← rds.length]; exact hl', fun p np => ?_⟩
      have x2 : Ext φ1 H1 φ1 (upd H1 p (.tup vs)) := Ext.new np
      exact ⟨φ1, ρ, .tup ds, ρ1, (x1.trans x2).relS hs, .tup (.inl (.inl upd_same)) (x2.rels rds), e, fun σ' s' _ => q φ1 _ σ' x2 (hr1.new np) s'⟩
  · exact False.elim q
theorem s_par3 {i j l : Nat} {x y z : Str} {o1 o2 o3 : Bool} {px py pz pt : Pos} {kt k2 : Nat} {pt2 : Pos} {e3 : Expr} (hc : X.calm = true) (hN : X.N.Nodup) (hi : X.N[i]? = some x) (hj : X.N[j]? = some y) (hl : X.N[l]? = some z) (hij : i ≠ j) (hil : i ≠ l) (hjl : j ≠ l) (hx : X.env.scope.names.lookup x = some .local) (hy : X.env.scope.names.lookup y = some .local) (hz : X.env.scope.names.lookup z = some .local)
    (ha : PA X [a, b, e3] (TsO c X.K W [o1, o2, o3] ies)) (hw : swappedStores [.Tuple [.Name x px, .Name y py, .Name z pz] kt pt] (.Tuple [a, b, e3] k2 pt2) X.env = pure (some [x, y, z]))
    (hs : swapsWithSole [.Tuple [.Name x px, .Name y py, .Name z pz] kt pt] (.Tuple [a, b, e3] k2 pt2) pos.line X.env = pure false := by rfl) :
    PS X (.Assign [.Tuple [.Name x px, .Name y py, .Name z pz] kt pt] (.Tuple [a, b, e3] k2 pt2) pos) (Tx c X.K W (.asgs [o1, o2, o3] [i, j, l] ies)) := (ps_par3 hc hN hi hj hl hij hil hjl hx hy hz ha hw hs).imp fun D σ H ⟨φ, ρ, h, hr, hs, q⟩ => by
  simp only [ex] at q
  refine ⟨φ, ρ, h, hr, hs, seqLS q hs fun ds h1 φ1 H1 vs q x1 hr1 rds => ?_⟩
  unfold gateS at q
  split at q
  · cases rds with
    | nil => exact False.elim q
    | cons r1 rs =>
      cases rs with
      | nil => exact False.elim q
      | cons r2 rs =>
        cases rs with
        | nil => exact False.elim q
        | cons r3 rs =>
          cases rs with
          | nil => exact ⟨_, _, _, rfl, q φ1 H1 _ (Ext.refl _ _) hr1 ((((x1.relS hs).set r1 i).set r2 j).set r3 l)⟩
          | cons r4 rs => exact False.elim q
  · exact False.elim q
theorem s_par2 {i j : Nat} {x y : Str} {o1 o2 : Bool} {px py pt : Pos} {kt k2 : Nat} {pt2 : Pos} (hc : X.calm = true) (hN : X.N.Nodup) (hi : X.N[i]? = some x) (hj : X.N[j]? = some y) (hij : i ≠ j) (hx : X.env.scope.names.lookup x = some .local) (hy : X.env.scope.names.lookup y = some .local)
    (ha : PA X [a, b] (TsO c X.K W [o1, o2] ies)) (hw : swappedStores [.Tuple [.Name x px, .Name y py] kt pt] (.Tuple [a, b] k2 pt2) X.env = pure (some [x, y]))
    (hs : swapsWithSole [.Tuple [.Name x px, .Name y py] kt pt] (.Tuple [a, b] k2 pt2) pos.line X.env = pure false := by rfl) :
    PS X (.Assign [.Tuple [.Name x px, .Name y py] kt pt] (.Tuple [a, b] k2 pt2) pos) (Tx c X.K W (.asgs [o1, o2] [i, j] ies)) := (ps_par hc hN hi hj hij hx hy ha hw hs).imp fun D σ H ⟨φ, ρ, h, hr, hs, q⟩ => by
  simp only [ex] at q
  refine ⟨φ, ρ, h, hr, hs, seqLS q hs fun ds h1 φ1 H1 vs q x1 hr1 rds => ?_⟩
  unfold gateS at q
  split at q
  · cases rds with
    | nil => exact False.elim q
    | cons r1 rs =>
      cases rs with
      | nil => exact False.elim q
      | cons r2 rs =>
        cases rs with
        | nil => exact ⟨_, _, rfl, q φ1 H1 _ (Ext.refl _ _) hr1 (((x1.relS hs).set r1 i).set r2 j)⟩
        | cons r3 rs => exact False.elim q
  · exact False.elim q
end Fr
set_option Elab.async false
set_option linter.all false
set_option maxRecDepth 100000
set_option maxHeartbeats 4000000
namespace Fr
open PySem PySem.Spec PyProof.Rows L2
variable {K : PySem.W.Frag} {φ φ' φ1 φ2 : List Addr} {H H' H1 H2 : Hp} {h h' h1 : Hs} {d x y : D} {ds es : List D} {v u : V} {vs xs ys : List V} {p : Addr} {n m : Nat} {ρ ρ' : Rho} {σ σ' : L2.St} {Q : VK} {E : XW} {X : Cx}
variable {c : Cn} {W : WX} {ie ia ib ic it it1 : Tm} {ies jes cs cs1 : Tms} {a b e : Expr} {pos : Pos} {g g1 : G} {own own1 : List Nat} {ss tt : Sms} {st : Sm}
/-! ## what is never reached -/
abbrev badE : Tm := .rng1 (.con .non)
abbrev badS : Sm := .try_ .nil 0 none .nil
theorem e_bad : PE X e (T c X.K W badE) := ⟨fun _ _ _ _ _ _ ⟨_, _, _, _, _, q⟩ => by
  simp only [ev] at q
  exact q.elim⟩
theorem s_bad {s : Stmt} : PS X s (Tx c X.K W badS) := ⟨fun _ _ _ _ _ _ ⟨_, _, _, _, _, q⟩ => by
  simp only [ex] at q
  exact q.elim⟩
theorem e_not (ha : PE X a (T c X.K W ia)) : PE X (.UnaryOp .Not a pos) (T c X.K W (.not ia)) := (pe_notT ha).imp fun σ H Q ⟨φ, ρ, h, hr, hs, q⟩ => by
  simp only [ev] at q
  refine ⟨φ, ρ, h, hr, hs, seqRR q fun x h1 φ1 H1 v q x1 hr1 rd => ?_⟩
  cases e : truth h1 x with
  | none =>
    rw [e] at q
    exact False.elim q
  | some k =>
    rw [e] at q
    exact ⟨k, truth_ok hr1 rd e, q φ1 H1 _ (Ext.refl _ _) hr1 (.bl _)⟩
/-- a module's number -/
theorem e_gint {z : Str} {i : Int} (hg : Gl X z) (hm : ∃ t, X.mg z = some (.int i t)) (hd : (z == ("__debug__" : Str)) = false := by decide) : PE X (.Name z pos) (T c X.K W (.con (.int i))) := by
  obtain ⟨t, hm⟩ := hm
  exact e_con (pe_glob (v := .int i) hg hm ⟨t, rfl⟩ hd) fun _ _ => .int i
theorem takesB : Takes X W0 := fun u s' ⟨a, B, sI, pins, σ, H, cls, d, e, I, nb, up, sky, na, os, ag, w⟩ => w.elim
theorem eqD_b : BoolR eqD := eqR_b
theorem neD_b : BoolR neD := eqR_b
theorem inD_b : BoolR inD := inR_b
theorem notinD_b : BoolR notinD := inR_b
theorem ltD_b : BoolR ltD := cmpI_b
theorem leD_b : BoolR leD := cmpI_b
theorem gtD_b : BoolR gtD := cmpI_b
theorem geD_b : BoolR geD := cmpI_b
/-! ## the built-ins, numbered -/
def bc0 (cA : Nat → Addr) (fuel : Nat) : Cn where
  call := fun _ _ _ => .bad
  cA := cA
  blt := fun i => match i with
    | 0 => one lenD
    | 1 => one intD
    | 2 => one absD
    | 3 => one tupD
    | 4 => one listD
    | 5 => two minD
    | 6 => two maxD
    | 7 => one allD
    | 8 => one anyD
    | 9 => one sortedD
    | 10 => one showD
    | 11 => two isiD
    | 12 => one lsetD
    | 13 => two lrngD
    | _ => fun _ _ => .bad
  meth := fun i => match i with
    | 0 => appendD
    | 1 => extendD
    | 2 => popD
    | _ => fun _ _ _ => .bad
  mty := fun _ => isListD
  bin := fun o => match o with
    | .add => addD
    | .sub => subD
    | .mul => mulD
    | .fdiv => fdivD
    | .mod => modD
    | .pow => powD
  cmp := fun o => match o with
    | .lt => ltD
    | .le => leD
    | .gt => gtD
    | .ge => geD
    | .eq => eqD
    | .ne => neD
    | .isin => inD
    | .notin => notinD
    | _ => fun _ _ _ => .bad
  fuel := fuel
/-! ## a def, as the top has written it -/
structure Df (K : PySem.W.Frag) (mg : Str → Option Value) (x : Str) (st : Stmt) (ps : List Str) (fa : Addr) (fd : FuncData) : Prop where
  fn : Fun K x x st fa fd
  at_ : mg x = some (.ref fa)
  kp : PySem.W.keepIn K (.ref fa) = true
  bd : Binds K fd ps []
theorem Df.callee {x : Str} {st : Stmt} {ps : List Str} {fa : Addr} {fd : FuncData} {k f : Nat} (D : Df X.K X.mg x st ps fa fd) (G : GnOk X.prog X.w X.K X.mg X.base k fa fd ps (SpOf c X.K f)) (rm : Room k X.A) : Callee X c f x := ⟨k, fa, fd, ps, G, rm, D.at_, D.kp, D.bd⟩
/-! ## the row's end -/
theorem walk_g {l : PySem.W.OpenLaw} {n k : Nat} {q : Program} {loose : List Str} {XP : (Str → Option Value) → Heap → Prop} {YP : World → Heap → Prop} {d : DefRec} {K : Params → PySem.W.Frag} {sp : World → Sp} {x : Str}
    (hn : l.most = some n) (hn2 : n ≤ sizeLine) (hdf : d.params.defaults = []) (hr : Room k callerA)
    (hY : ∀ (w : World) (h : Heap), YP w h → (K w.params).In h)
    (F : ∀ (w : World) (mg : Str → Option Value) (fa : Addr) (h : Heap), (K w.params).In h → h.Ns mainGlobals mg → mg d.name = some (.ref fa) →
      ∃ fd : FuncData, (∀ (s : Shared) (u : Value), BindsTo s fd ⟨[u], []⟩ [(x, u)]) ∧
        ∀ base : Heap, (K w.params).In base → base.Ns mainGlobals mg → GnOk l.prog w (K w.params) mg base k fa fd [x] (sp w))
    (hsp : ∀ (w : World) (H : Hp) (a : Addr) (ns : List Int), ns.length ≤ n → RoL (K w.params) H a (ns.map V.int) → sp w [.ref a] H (fun v _ => v = .bl true) fun _ _ _ => False) :
    PySem.W.WalkO q loose XP YP l.row.toRowW d [] (fun f vs => PySem.call f vs) := by
  refine Att.attach_call hn hdf fun w s₀ s₁ mg mb fa o pm cd doc a vs ns G Y ho hd hcd hmg hobj hints hlen hg => ?_
  have KX := hY w _ Y
  obtain ⟨fd, hb, hF⟩ := F w mg fa _ KX G.T.g hmg
  exact law_end KX G.T.g G.T.b G.T.builtins G.T.nolimit hg hobj hints (Nat.le_trans hlen hn2) hr hF hb fun H hS => hsp w H a ns hlen hS
/-- the law, from what the interpreter tells of it -/
theorem law_pure {c : Cn} {f : Nat} {a : Addr} {ns : List Int} {h' : Hs} (hS : RoL K H a (ns.map V.int)) (q : c.call f [.rol (ns.map .int)] [] = .ok (.val (.bl true)) h') : SpOf c K f [.ref a] H (fun v _ => v = .bl true) fun _ _ _ => False :=
  ⟨[], [], [.rol (ns.map .int)], ⟨rfl, List.nodup_nil, fun n ds e => by simp at e⟩, .cons (.rol hS (rel_ints ns)) .nil, by
    rw [q]
    intro φ' H' v x hr rd
    cases rd
    rfl⟩
end Fr
set_option Elab.async false
set_option linter.all false
set_option maxRecDepth 100000
set_option maxHeartbeats 4000000
namespace Fr
open PySem PySem.Spec PyProof.Rows L2
/-! ## the walks over values, by recursion on them -/
theorem forI_succ {body : Rho → Hs → RS} {g : G} {s : Src} {k i : Nat} {ρ : Rho} {h : Hs} : forI body g s (k + 1) i ρ h = match srcAt s i h with
    | none => .bad
    | some none => .nx ρ h
    | some (some x) => match asg g x ρ with
      | none => .bad
      | some ρ1 => match body ρ1 h with
        | .nx ρ2 h2 => forI body g s k (i + 1) ρ2 h2
        | .ct ρ2 h2 => forI body g s k (i + 1) ρ2 h2
        | .bk ρ2 h2 => .nx ρ2 h2
        | r => r := rfl
theorem mapR_succ {f : D → Hs → R (Option D)} {n : Nat} {s : Src} {k i : Nat} {h : Hs} : mapR f n s (k + 1) i h = match srcAt s i h with
    | none => .bad
    | some none => match h[n]? with | some acc => .ok (.new acc) (h.take n) | none => .bad
    | some (some x) => match f x h with
      | .ok (some y) h1 => (match h1[n]? with
        | some acc => if acc.length < sizeLine ∧ y.und n = true then mapR f n s k (i + 1) (h1.set n (acc ++ [y])) else .bad
        | none => .bad)
      | .ok none h1 => mapR f n s k (i + 1) h1
      | _ => .bad := rfl
theorem innR_succ {f : D → Hs → R (Option D)} {n : Nat} {s : Src} {k i : Nat} {h : Hs} : innR f n s (k + 1) i h = match srcAt s i h with
    | none => .bad
    | some none => .ok () h
    | some (some x) => match f x h with
      | .ok (some y) h1 => (match h1[n]? with
        | some acc => if acc.length < sizeLine ∧ y.und n = true then innR f n s k (i + 1) (h1.set n (acc ++ [y])) else .bad
        | none => .bad)
      | .ok none h1 => innR f n s k (i + 1) h1
      | _ => .bad := rfl
theorem mapU_succ {f : D → Hs → R Unit} {n : Nat} {s : Src} {k i : Nat} {h : Hs} : mapU f n s (k + 1) i h = match srcAt s i h with
    | none => .bad
    | some none => match h[n]? with | some acc => .ok (.new acc) (h.take n) | none => .bad
    | some (some x) => match f x h with
      | .ok _ h1 => mapU f n s k (i + 1) h1
      | _ => .bad := rfl
theorem setL_succ {f : D → Hs → R D} {s : Src} {k i : Nat} {acc : List Int} {h : Hs} : setL f s (k + 1) i acc h = match srcAt s i h with
    | none => .bad
    | some none => .ok (.val (.int acc.length)) h
    | some (some x) => match f x h with
      | .ok (.int j) h1 => if acc.length + 1 < 64 then setL f s k (i + 1) (if j ∈ acc then acc else j :: acc) h1 else .bad
      | _ => .bad := rfl
theorem at_end (pre : List D) (h : Hs) : srcAt (.vals (pre ++ [])) pre.length h = some none := by simp [srcAt]
theorem at_mid (pre xs : List D) (x : D) (h : Hs) : srcAt (.vals (pre ++ x :: xs)) pre.length h = some (some x) := by simp [srcAt]
def forL (body : Rho → Hs → RS) (g : G) : List D → Rho → Hs → RS
  | [], ρ, h => .nx ρ h
  | x :: xs, ρ, h => match asg g x ρ with
    | none => .bad
    | some ρ1 => match body ρ1 h with
      | .nx ρ2 h2 => forL body g xs ρ2 h2
      | .ct ρ2 h2 => forL body g xs ρ2 h2
      | .bk ρ2 h2 => .nx ρ2 h2
      | r => r
theorem forI_aux (body : Rho → Hs → RS) (g : G) : ∀ (suf pre : List D) (ρ : Rho) (h : Hs), forI body g (.vals (pre ++ suf)) (suf.length + 1) pre.length ρ h = forL body g suf ρ h
  | [], pre, ρ, h => by
    rw [forI_succ, at_end]
    rfl
  | x :: xs, pre, ρ, h => by
    have ih := forI_aux body g xs (pre ++ [x])
    simp only [List.append_assoc, List.singleton_append, List.length_append, List.length_singleton] at ih
    rw [List.length_cons, forI_succ, at_mid]
    simp only [forL]
    cases asg g x ρ with
    | none => rfl
    | some ρ1 =>
      simp only
      cases body ρ1 h <;> first | rfl | exact ih _ _
theorem forI_vals {body : Rho → Hs → RS} {g : G} {ds : List D} {ρ : Rho} {h h1 : Hs} : forI body g (.vals ds) (srcLen (.vals ds) h1 + 1) 0 ρ h = forL body g ds ρ h := forI_aux body g ds [] ρ h
def mapL (f : D → Hs → R (Option D)) (n : Nat) : List D → Hs → R Res
  | [], h => match h[n]? with | some acc => .ok (.new acc) (h.take n) | none => .bad
  | x :: xs, h => match f x h with
    | .ok (some y) h1 => (match h1[n]? with
      | some acc => if acc.length < sizeLine ∧ y.und n = true then mapL f n xs (h1.set n (acc ++ [y])) else .bad
      | none => .bad)
    | .ok none h1 => mapL f n xs h1
    | _ => .bad
theorem mapR_aux (f : D → Hs → R (Option D)) (n : Nat) : ∀ (suf pre : List D) (h : Hs), mapR f n (.vals (pre ++ suf)) (suf.length + 1) pre.length h = mapL f n suf h
  | [], pre, h => by
    rw [mapR_succ, at_end]
    rfl
  | x :: xs, pre, h => by
    have ih := mapR_aux f n xs (pre ++ [x])
    simp only [List.append_assoc, List.singleton_append, List.length_append, List.length_singleton] at ih
    rw [List.length_cons, mapR_succ, at_mid]
    simp only [mapL]
    cases f x h with
    | ok o h1 =>
      cases o with
      | none => exact ih _
      | some y =>
        simp only
        cases h1[n]? with
        | none => rfl
        | some acc =>
          simp only
          rw [ih]
    | exc k h1 => rfl
    | bad => rfl
theorem mapS_vals {f : D → Hs → R (Option D)} {ds : List D} {h : Hs} : mapS f (.vals ds) h = mapL f h.length ds (h ++ [[]]) := mapR_aux f h.length ds [] (h ++ [[]])
def innL (f : D → Hs → R (Option D)) (n : Nat) : List D → Hs → R Unit
  | [], h => .ok () h
  | x :: xs, h => match f x h with
    | .ok (some y) h1 => (match h1[n]? with
      | some acc => if acc.length < sizeLine ∧ y.und n = true then innL f n xs (h1.set n (acc ++ [y])) else .bad
      | none => .bad)
    | .ok none h1 => innL f n xs h1
    | _ => .bad
theorem innR_aux (f : D → Hs → R (Option D)) (n : Nat) : ∀ (suf pre : List D) (h : Hs), innR f n (.vals (pre ++ suf)) (suf.length + 1) pre.length h = innL f n suf h
  | [], pre, h => by
    rw [innR_succ, at_end]
    rfl
  | x :: xs, pre, h => by
    have ih := innR_aux f n xs (pre ++ [x])
    simp only [List.append_assoc, List.singleton_append, List.length_append, List.length_singleton] at ih
    rw [List.length_cons, innR_succ, at_mid]
    simp only [innL]
    cases f x h with
    | ok o h1 =>
      cases o with
      | none => exact ih _
      | some y =>
        simp only
        cases h1[n]? with
        | none => rfl
        | some acc =>
          simp only
          rw [ih]
    | exc k h1 => rfl
    | bad => rfl
theorem innR_vals {f : D → Hs → R (Option D)} {n : Nat} {ds : List D} {h h1 : Hs} : innR f n (.vals ds) (srcLen (.vals ds) h1 + 1) 0 h = innL f n ds h := innR_aux f n ds [] h
def mapUL (f : D → Hs → R Unit) (n : Nat) : List D → Hs → R Res
  | [], h => match h[n]? with | some acc => .ok (.new acc) (h.take n) | none => .bad
  | x :: xs, h => match f x h with
    | .ok _ h1 => mapUL f n xs h1
    | _ => .bad
theorem mapU_aux (f : D → Hs → R Unit) (n : Nat) : ∀ (suf pre : List D) (h : Hs), mapU f n (.vals (pre ++ suf)) (suf.length + 1) pre.length h = mapUL f n suf h
  | [], pre, h => by
    rw [mapU_succ, at_end]
    rfl
  | x :: xs, pre, h => by
    have ih := mapU_aux f n xs (pre ++ [x])
    simp only [List.append_assoc, List.singleton_append, List.length_append, List.length_singleton] at ih
    rw [List.length_cons, mapU_succ, at_mid]
    simp only [mapUL]
    cases f x h <;> first | rfl | exact ih _
theorem map2_vals {f : Nat → D → Hs → R Unit} {ds : List D} {h : Hs} : map2 f (.vals ds) h = mapUL (f h.length) h.length ds (h ++ [[]]) := mapU_aux (f h.length) h.length ds [] (h ++ [[]])
def setLL (f : D → Hs → R D) : List D → List Int → Hs → R Res
  | [], acc, h => .ok (.val (.int acc.length)) h
  | x :: xs, acc, h => match f x h with
    | .ok (.int j) h1 => if acc.length + 1 < 64 then setLL f xs (if j ∈ acc then acc else j :: acc) h1 else .bad
    | _ => .bad
theorem setL_aux (f : D → Hs → R D) : ∀ (suf pre : List D) (acc : List Int) (h : Hs), setL f (.vals (pre ++ suf)) (suf.length + 1) pre.length acc h = setLL f suf acc h
  | [], pre, acc, h => by
    rw [setL_succ, at_end]
    rfl
  | x :: xs, pre, acc, h => by
    have ih := setL_aux f xs (pre ++ [x])
    simp only [List.append_assoc, List.singleton_append, List.length_append, List.length_singleton] at ih
    rw [List.length_cons, setL_succ, at_mid]
    simp only [setLL]
    cases f x h with
    | ok o h1 =>
      cases o <;> first | rfl | (simp only; rw [ih])
    | exc k h1 => rfl
    | bad => rfl
theorem setL_vals {f : D → Hs → R D} {ds : List D} {h h1 : Hs} : setL f (.vals ds) (srcLen (.vals ds) h1 + 1) 0 [] h = setLL f ds [] h := setL_aux f ds [] [] h
/-! ## elements that change nothing -/
theorem mapL_pure {f : D → Hs → R (Option D)} {h : Hs} (F : D → Option D) : ∀ (ds acc : List D), (∀ x ∈ ds, ∀ a, f x (h ++ [a]) = .ok (F x) (h ++ [a])) → (∀ x ∈ ds, ∀ y, F x = some y → y.und h.length = true) → acc.length + ds.length ≤ sizeLine →
    mapL f h.length ds (h ++ [acc]) = .ok (.new (acc ++ ds.filterMap F)) h
  | [], acc, _, _, _ => by simp [mapL]
  | x :: xs, acc, hf, hu, hl => by
    rw [List.length_cons] at hl
    unfold mapL
    rw [hf x List.mem_cons_self]
    have hf' : ∀ y ∈ xs, ∀ a, f y (h ++ [a]) = .ok (F y) (h ++ [a]) := fun y hy => hf y (List.mem_cons_of_mem _ hy)
    have hu' : ∀ z ∈ xs, ∀ y, F z = some y → y.und h.length = true := fun y hy => hu y (List.mem_cons_of_mem _ hy)
    cases e : F x with
    | none =>
      simp only
      rw [mapL_pure F xs acc hf' hu' (by omega), List.filterMap_cons, e]
    | some y =>
      have e1 : (h ++ [acc])[h.length]? = some acc := by simp
      simp only [e1]
      rw [if_pos ⟨by omega, hu x List.mem_cons_self y e⟩]
      have e2 : (h ++ [acc]).set h.length (acc ++ [y]) = h ++ [acc ++ [y]] := by simp
      rw [e2, mapL_pure F xs (acc ++ [y]) hf' hu' (by rw [List.length_append, List.length_singleton]; omega), List.filterMap_cons, e]
      simp
theorem mapS_pure {f : D → Hs → R (Option D)} {h : Hs} {ds : List D} (F : D → Option D) (hf : ∀ x ∈ ds, ∀ a, f x (h ++ [a]) = .ok (F x) (h ++ [a])) (hu : ∀ x ∈ ds, ∀ y, F x = some y → y.und h.length = true) (hl : ds.length ≤ sizeLine) :
    mapS f (.vals ds) h = .ok (.new (ds.filterMap F)) h := by
  rw [mapS_vals, mapL_pure F ds [] hf hu (by simpa using hl), List.nil_append]
theorem mapS_map {f : D → Hs → R (Option D)} {h : Hs} {ds : List D} (F : D → D) (hf : ∀ x ∈ ds, ∀ a, f x (h ++ [a]) = .ok (some (F x)) (h ++ [a])) (hu : ∀ x ∈ ds, (F x).und h.length = true) (hl : ds.length ≤ sizeLine) :
    mapS f (.vals ds) h = .ok (.new (ds.map F)) h := by
  rw [mapS_pure (fun x => some (F x)) hf (fun x hx y e => by cases e; exact hu x hx) hl]
  congr 2
  induction ds with
  | nil => rfl
  | cons x xs ih => simp
theorem innL_map {f : D → Hs → R (Option D)} {h : Hs} (F : D → D) : ∀ (ds acc : List D), (∀ x ∈ ds, ∀ a, f x (h ++ [a]) = .ok (some (F x)) (h ++ [a])) → (∀ x ∈ ds, (F x).und h.length = true) → acc.length + ds.length ≤ sizeLine →
    innL f h.length ds (h ++ [acc]) = .ok () (h ++ [acc ++ ds.map F])
  | [], acc, _, _, _ => by simp [innL]
  | x :: xs, acc, hf, hu, hl => by
    rw [List.length_cons] at hl
    unfold innL
    rw [hf x List.mem_cons_self]
    have e1 : (h ++ [acc])[h.length]? = some acc := by simp
    simp only [e1]
    rw [if_pos ⟨by omega, hu x List.mem_cons_self⟩]
    have e2 : (h ++ [acc]).set h.length (acc ++ [F x]) = h ++ [acc ++ [F x]] := by simp
    rw [e2, innL_map F xs (acc ++ [F x]) (fun y hy => hf y (List.mem_cons_of_mem _ hy)) (fun y hy => hu y (List.mem_cons_of_mem _ hy)) (by rw [List.length_append, List.length_singleton]; omega)]
    simp
theorem mapUL_flat {f : D → Hs → R Unit} {h : Hs} (F : D → List D) : ∀ (ds acc : List D), (∀ x ∈ ds, ∀ a, a.length + (F x).length ≤ sizeLine → f x (h ++ [a]) = .ok () (h ++ [a ++ F x])) → acc.length + (ds.flatMap F).length ≤ sizeLine →
    mapUL f h.length ds (h ++ [acc]) = .ok (.new (acc ++ ds.flatMap F)) h
  | [], acc, _, _ => by simp [mapUL]
  | x :: xs, acc, hf, hl => by
    rw [List.flatMap_cons, List.length_append] at hl
    unfold mapUL
    rw [hf x List.mem_cons_self acc (by omega)]
    simp only
    rw [mapUL_flat F xs (acc ++ F x) (fun y hy => hf y (List.mem_cons_of_mem _ hy)) (by rw [List.length_append]; omega), List.flatMap_cons, List.append_assoc]
theorem map2_flat {f : Nat → D → Hs → R Unit} {h : Hs} {ds : List D} (F : D → List D) (hf : ∀ x ∈ ds, ∀ a, a.length + (F x).length ≤ sizeLine → f h.length x (h ++ [a]) = .ok () (h ++ [a ++ F x])) (hl : (ds.flatMap F).length ≤ sizeLine) :
    map2 f (.vals ds) h = .ok (.new (ds.flatMap F)) h := by
  rw [map2_vals, mapUL_flat F ds [] hf (by simpa using hl), List.nil_append]
theorem setLL_pure {f : D → Hs → R D} {h : Hs} (F : D → Int) : ∀ (ds : List D) (acc : List Int), (∀ x ∈ ds, f x h = .ok (.int (F x)) h) → acc.Nodup → acc.length + ds.length < 64 →
    setLL f ds acc h = .ok (.val (.int (nub (acc ++ ds.map F)).length)) h
  | [], acc, _, nd, _ => by
    unfold setLL
    rw [List.map_nil, List.append_nil, nub_self nd]
  | x :: xs, acc, hf, nd, hl => by
    rw [List.length_cons] at hl
    unfold setLL
    rw [hf x List.mem_cons_self]
    simp only
    rw [if_pos (by omega)]
    have e := nub_len (l := acc ++ (x :: xs).map F) (m := nub ((if F x ∈ acc then acc else F x :: acc) ++ xs.map F)) nodup_nub (fun a => by
      rw [mem_nub]
      by_cases w : F x ∈ acc
      · simp only [if_pos w, List.mem_append, List.map_cons, List.mem_cons]
        exact ⟨fun z => z.elim .inl fun z => .inr (.inr z), fun z => z.elim .inl fun z => z.elim (fun z => .inl (z ▸ w)) .inr⟩
      · simp only [if_neg w, List.mem_append, List.map_cons, List.mem_cons]
        exact ⟨fun z => z.elim (fun z => z.elim (fun z => .inr (.inl z)) .inl) fun z => .inr (.inr z), fun z => z.elim (fun z => .inl (.inr z)) fun z => z.elim (fun z => .inl (.inl z)) .inr⟩)
    rw [setLL_pure F xs _ (fun y hy => hf y (List.mem_cons_of_mem _ hy)) (by
      by_cases w : F x ∈ acc
      · rw [if_pos w]
        exact nd
      · rw [if_neg w]
        exact List.nodup_cons.mpr ⟨w, nd⟩) (by
      by_cases w : F x ∈ acc
      · rw [if_pos w]
        omega
      · rw [if_neg w, List.length_cons]
        omega), ← e]
/-! ## what is shown -/
mutual
/-- nested lists and tuples of None, bools, and ints below 10^90 -/
def D.calm : D → Bool
  | .non => true
  | .bl _ => true
  | .int i => decide (i.natAbs < 10 ^ 90)
  | .tup ds => D.calms ds
  | .lst ds => D.calms ds
  | _ => false
def D.calms : List D → Bool
  | [] => true
  | d :: ds => d.calm && D.calms ds
end
mutual
/-- how long it is when shown, at most -/
def D.sz : D → Nat
  | .tup ds => D.szs ds + 3
  | .lst ds => D.szs ds + 3
  | .int _ => 91
  | _ => 5
def D.szs : List D → Nat
  | [] => 0
  | d :: ds => d.sz + 2 + D.szs ds
end
mutual
def D.dep : D → Nat
  | .tup ds => D.deps ds + 1
  | .lst ds => D.deps ds + 1
  | _ => 0
def D.deps : List D → Nat
  | [] => 0
  | d :: ds => max d.dep (D.deps ds)
end
mutual
def D.py : D → PyData
  | .bl b => .bool b
  | .int i => .int i
  | .str x => .str x
  | .tup ds => .tuple (D.pys ds)
  | .lst ds => .list (D.pys ds)
  | .rol ds => .list (D.pys ds)
  | _ => .none
def D.pys : List D → List PyData
  | [] => []
  | d :: ds => d.py :: D.pys ds
end
structure PyFit (p : PyData) (w dp : Nat) : Prop where
  ln : p.shown.length ≤ w
  dp : p.depth = dp
  sh : p.showable = true
  ly : p.canLay0 = true
mutual
theorem D.calm_py : ∀ {d : D}, d.calm = true → toP0 d = some d.py ∧ PyFit d.py d.sz d.dep
  | .non, _ => ⟨by simp [toP0, D.py], by simp only [D.py, PyData.shown, D.sz]; decide, by simp [D.py, PyData.depth, D.dep], by simp [D.py, PyData.showable], by simp [D.py, PyData.canLay0]⟩
  | .bl b, _ => ⟨by simp [toP0, D.py], by simp only [D.py, PyData.shown, D.sz]; cases b <;> decide, by simp [D.py, PyData.depth, D.dep], by simp [D.py, PyData.showable], by simp [D.py, PyData.canLay0]⟩
  | .int i, h => by
    have h' : i.natAbs < 10 ^ 90 := by
      unfold D.calm at h
      exact of_decide_eq_true h
    refine ⟨by simp [toP0, D.py], ?_, by simp [D.py, PyData.depth, D.dep], ?_, by simp [D.py, PyData.canLay0]⟩
    · simp only [D.py, PyData.shown, D.sz]
      rw [PySem.ofString_length]
      exact int_text_length_le10 (k := 90) (by decide) h'
    · simp only [D.py, PyData.showable, decide_eq_true_eq]
      by_cases z : i.natAbs = 0
      · rw [z]
        decide
      · rw [Nat.log2_lt z]
        have : (10 : Nat) ^ 90 < 2 ^ 1920 := by decide +kernel
        omega
  | .tup ds, h => by
    unfold D.calm at h
    obtain ⟨h1, h2, h3, h4, h6⟩ := D.calms_py h
    have z := tupleText_len_le (PyData.shownAll (D.pys ds))
    exact ⟨by simp [toP0, D.py, h1], by simp only [D.py, PyData.shown, D.sz]; omega, by simp [D.py, PyData.depth, D.dep, h3], by simp [D.py, PyData.showable, h4], by simp [D.py, PyData.canLay0, h6]⟩
  | .lst ds, h => by
    unfold D.calm at h
    obtain ⟨h1, h2, h3, h4, h6⟩ := D.calms_py h
    have z := listText_len_le (PyData.shownAll (D.pys ds))
    exact ⟨by simp [toP0, D.py, h1], by simp only [D.py, PyData.shown, D.sz]; omega, by simp [D.py, PyData.depth, D.dep, h3], by simp [D.py, PyData.showable, h4], by simp [D.py, PyData.canLay0, h6]⟩
theorem D.calms_py : ∀ {ds : List D}, D.calms ds = true → toPs ds = some (D.pys ds) ∧ ((PyData.shownAll (D.pys ds)).map (·.length)).sum + 2 * (PyData.shownAll (D.pys ds)).length ≤ D.szs ds ∧ PyData.depthAll (D.pys ds) = D.deps ds ∧ PyData.showableAll (D.pys ds) = true ∧ PyData.canLayAll0 (D.pys ds) = true
  | [], _ => ⟨by simp [toPs, D.pys], by simp [D.pys, PyData.shownAll, D.szs], by simp [D.pys, PyData.depthAll, D.deps], by simp [D.pys, PyData.showableAll], by simp [D.pys, PyData.canLayAll0]⟩
  | d :: ds, h => by
    unfold D.calms at h
    rw [Bool.and_eq_true] at h
    obtain ⟨a1, a2, a3, a4, a6⟩ := D.calm_py h.1
    obtain ⟨h1, h2, h3, h4, h6⟩ := D.calms_py h.2
    refine ⟨by simp [toPs, D.pys, a1, h1], ?_, by simp [D.pys, PyData.depthAll, D.deps, a3, h3], by simp [D.pys, PyData.showableAll, a4, h4], by simp [D.pys, PyData.canLayAll0, a6, h6]⟩
    simp only [D.pys, PyData.shownAll, List.map_cons, List.sum_cons, List.length_cons, D.szs]
    omega
end
/-- a value is shown -/
def D.shown (d : D) : Str := d.py.shown
theorem showP {p : PyData} {w dp : Nat} (f : PyFit p w dp) (hd : dp ≤ 64) (hw : w ≤ 16000000) {h : Hs} : gate (p.showable && decide (p.depth ≤ 64) && decide (p.shown.length ≤ sizeLine)) (okV (.str p.shown) h) = .ok (.val (.str p.shown)) h := by
  have e := f.ln
  have e2 : p.shown.length ≤ sizeLine := by
    show _ ≤ 2 ^ 24
    omega
  rw [f.sh, decide_eq_true (show p.depth ≤ 64 by rw [f.dp]; exact hd), decide_eq_true e2]
  rfl
theorem show_val {d : D} {h : Hs} (hc : d.calm = true) (hd : d.dep ≤ 64) (hw : d.sz ≤ 16000000) : showD d h = .ok (.val (.str d.shown)) h := by
  obtain ⟨e, f⟩ := D.calm_py hc
  have e' : toP h d = some d.py := by
    cases d <;> first | exact e | (unfold D.calm at hc; cases hc)
  unfold showD
  rw [e']
  exact showP f hd hw
theorem show_ref {n : Nat} {ds : List D} {h : Hs} (e : h[n]? = some ds) (hc : D.calms ds = true) (hd : D.deps ds ≤ 63) (hw : D.szs ds ≤ 15000000) : showD (.ref n) h = .ok (.val (.str (D.lst ds).shown)) h := by
  have hc' : (D.lst ds).calm = true := by unfold D.calm; exact hc
  obtain ⟨_, f⟩ := D.calm_py hc'
  have e' : toP h (.ref n) = some (D.lst ds).py := by
    have z := (D.calms_py hc).1
    simp [toP, e, z, D.py]
  unfold showD
  rw [e']
  exact showP f (by simp only [D.dep]; omega) (by simp only [D.sz]; omega)
end Fr
set_option Elab.async false
set_option linter.all false
set_option maxRecDepth 100000
set_option maxHeartbeats 4000000
namespace Fr
open PySem PySem.Spec PyProof.Rows L2
section
variable {α β : Type} {m n i j : Nat} {d x y : D} {ds : List D} {h h1 : Hs} {ρ : Rho} {k : Nat} {b : Bool}
/-! ## evaluation, step by step: what stands behind is not looked at -/
theorem bindD_cg {r r' : R Res} {f : D → Hs → R β} (e : r = r') : bindD r f = bindD r' f := by rw [e]
theorem bind_cg {r r' : R α} {f : α → Hs → R β} (e : r = r') : R.bind r f = R.bind r' f := by rw [e]
theorem bindO_cg {r r' : R Res} {f : D → Hs → R β} (e : r = r') : bindO b r f = bindO b r' f := by rw [e]
theorem toS_cg {r r' : R α} {f : α → Hs → RS} (e : r = r') : toS ρ r f = toS ρ r' f := by rw [e]
theorem seq_cg {r r' : RS} {f : Rho → Hs → RS} (e : r = r') : RS.seq r f = RS.seq r' f := by rw [e]
theorem iteS_cg {k k' : Bool} {a c : RS} (e : k = k') : iteS k a c = iteS k' a c := by rw [e]
theorem iteR_cg {k k' : Bool} {a c : R α} (e : k = k') : iteR k a c = iteR k' a c := by rw [e]
theorem optR_cg {o o' : Option α} {f : α → R β} (e : o = o') : optR o f = optR o' f := by rw [e]
theorem compE_cg {o o' : Option Rho} {f : Rho → R (Option D)} (e : o = o') : compE o f = compE o' f := by rw [e]
theorem compL_cg {o o' : Option Rho} {f : Rho → R D} (e : o = o') : compL o f = compL o' f := by rw [e]
theorem compU_cg {o o' : Option Rho} {f : Rho → R Unit} (e : o = o') : compU o f = compU o' f := by rw [e]
theorem keepR_cg {k k' : Bool} {r : R (Option D)} (e : k = k') : keepR k h r = keepR k' h r := by rw [e]
theorem keepU_cg {k k' : Bool} {r : R Unit} (e : k = k') : keepU k h r = keepU k' h r := by rw [e]
theorem gate_cg {k k' : Bool} {r : R Res} (e : k = k') : gate k r = gate k' r := by rw [e]
theorem gateS_cg {k k' : Bool} {r : RS} (e : k = k') : gateS k r = gateS k' r := by rw [e]
theorem andR_cg {o o' : Option Bool} {r : R Res} (e : o = o') : andR o x h r = andR o' x h r := by rw [e]
theorem orR_cg {o o' : Option Bool} {r : R Res} (e : o = o') : orR o x h r = orR o' x h r := by rw [e]
theorem chainR_cg {z z' : D} {r : R Res} (e : z = z') : chainR z h r = chainR z' h r := by rw [e]
theorem mapS_cg {f : D → Hs → R (Option D)} {s s' : Src} (e : s = s') : mapS f s h = mapS f s' h := by rw [e]
theorem map2_cg {f : Nat → D → Hs → R Unit} {s s' : Src} (e : s = s') : map2 f s h = map2 f s' h := by rw [e]
theorem innR_cg {f : D → Hs → R (Option D)} {s s' : Src} (e : s = s') : innR f n s k i h = innR f n s' k i h := by rw [e]
theorem setL_cg {f : D → Hs → R D} {s s' : Src} {acc : List Int} (e : s = s') : setL f s k i acc h = setL f s' k i acc h := by rw [e]
theorem forI_cg {f : Rho → Hs → RS} {g : G} {s s' : Src} (e : s = s') : forI f g s k i ρ h = forI f g s' k i ρ h := by rw [e]
theorem whlI_cg {t : Rho → Hs → R Bool} {f : Rho → Hs → RS} {k k' : Nat} (e : k = k') : whlI t f k ρ h = whlI t f k' ρ h := by rw [e]
theorem bindD_val {f : D → Hs → R β} : bindD (.ok (.val d) h) f = f d h := Eq.trans rfl rfl
theorem bindD_new {f : D → Hs → R β} : bindD (.ok (.new ds) h) f = f (.lst ds) h := Eq.trans rfl rfl
theorem bind_ok {a : α} {f : α → Hs → R β} : R.bind (.ok a h) f = f a h := Eq.trans rfl rfl
theorem bindO_val {f : D → Hs → R β} : bindO b (.ok (.val d) h) f = f d h := Eq.trans rfl rfl
theorem bindO_newT {f : D → Hs → R β} : bindO true (.ok (.new ds) h) f = f (.ref h.length) (h ++ [ds]) := Eq.trans rfl rfl
theorem bindO_newF {f : D → Hs → R β} : bindO false (.ok (.new ds) h) f = f (.lst ds) h := Eq.trans rfl rfl
theorem toS_ok {a : α} {f : α → Hs → RS} : toS ρ (.ok a h) f = f a h := Eq.trans rfl rfl
theorem seq_nx {f : Rho → Hs → RS} : RS.seq (.nx ρ h) f = f ρ h := Eq.trans rfl rfl
theorem seq_ret {r : Res} {f : Rho → Hs → RS} : RS.seq (.ret r h) f = .ret r h := Eq.trans rfl rfl
theorem seq_bk {f : Rho → Hs → RS} : RS.seq (.bk ρ h) f = .bk ρ h := Eq.trans rfl rfl
theorem seq_ct {f : Rho → Hs → RS} : RS.seq (.ct ρ h) f = .ct ρ h := Eq.trans rfl rfl
theorem iteS_t {a c : RS} : iteS true a c = a := Eq.trans rfl rfl
theorem iteS_f {a c : RS} : iteS false a c = c := Eq.trans rfl rfl
theorem iteR_t {a c : R α} : iteR true a c = a := Eq.trans rfl rfl
theorem iteR_f {a c : R α} : iteR false a c = c := Eq.trans rfl rfl
theorem optR_some {a : α} {f : α → R β} : optR (some a) f = f a := Eq.trans rfl rfl
theorem okD_some : okD (some d) h = .ok (.val d) h := Eq.trans rfl rfl
theorem okB_some : okB (some b) h = .ok b h := Eq.trans rfl rfl
theorem okS_some {s : Src} : okS (some s) h = .ok s h := Eq.trans rfl rfl
theorem andR_t {r : R Res} : andR (some true) x h r = r := Eq.trans rfl rfl
theorem andR_f {r : R Res} : andR (some false) x h r = .ok (.val x) h := Eq.trans rfl rfl
theorem orR_f {r : R Res} : orR (some false) x h r = r := Eq.trans rfl rfl
theorem orR_t {r : R Res} : orR (some true) x h r = .ok (.val x) h := Eq.trans rfl rfl
theorem chainR_t {r : R Res} : chainR (.bl true) h r = r := Eq.trans rfl rfl
theorem chainR_f {r : R Res} : chainR (.bl false) h r = .ok (.val (.bl false)) h := Eq.trans rfl rfl
theorem compE_some {f : Rho → R (Option D)} : compE (some ρ) f = f ρ := Eq.trans rfl rfl
theorem compL_some {f : Rho → R D} : compL (some ρ) f = f ρ := Eq.trans rfl rfl
theorem compU_some {f : Rho → R Unit} : compU (some ρ) f = f ρ := Eq.trans rfl rfl
theorem keepR_t {r : R (Option D)} : keepR true h r = r := Eq.trans rfl rfl
theorem keepR_f {r : R (Option D)} : keepR false h r = .ok none h := Eq.trans rfl rfl
theorem keepU_t {r : R Unit} : keepU true h r = r := Eq.trans rfl rfl
theorem keepU_f {r : R Unit} : keepU false h r = .ok () h := Eq.trans rfl rfl
theorem gate_t {r : R Res} : gate true r = r := Eq.trans rfl rfl
theorem gateS_t {r : RS} : gateS true r = r := Eq.trans rfl rfl
theorem asgR_some : asgR (some ρ) h = .nx ρ h := Eq.trans rfl rfl
theorem truth_bl : truth h (.bl b) = some b := Eq.trans rfl rfl
theorem truth_non : truth h .non = some false := Eq.trans rfl rfl
theorem truth_int {z : Int} : truth h (.int z) = some (z != 0) := Eq.trans rfl rfl
theorem truth_tup : truth h (.tup ds) = some (!ds.isEmpty) := Eq.trans rfl rfl
theorem truth_lst : truth h (.lst ds) = some (!ds.isEmpty) := Eq.trans rfl rfl
theorem truth_ref : truth h (.ref n) = (h[n]?).map fun ds => !ds.isEmpty := Eq.trans rfl rfl
theorem srcOf_tup : srcOf h (.tup ds) = some (.vals ds) := Eq.trans rfl rfl
theorem srcOf_lst : srcOf h (.lst ds) = some (.vals ds) := Eq.trans rfl rfl
theorem srcOf_rol : srcOf h (.rol ds) = some (.vals ds) := Eq.trans rfl rfl
theorem srcOf_ref : srcOf h (.ref n) = some (.cell n) := Eq.trans rfl rfl
theorem seqOf_tup : seqOf h (.tup ds) = some ds := Eq.trans rfl rfl
theorem seqOf_lst : seqOf h (.lst ds) = some ds := Eq.trans rfl rfl
theorem seqOf_rol : seqOf h (.rol ds) = some ds := Eq.trans rfl rfl
theorem seqOf_ref : seqOf h (.ref n) = h[n]? := Eq.trans rfl rfl
theorem negR_int {z : Int} : negR (.int z) h = .ok (.val (.int (-z))) h := Eq.trans rfl rfl
theorem ixR_some : ixR (some ds) y h = okD (atD ds y) h := Eq.trans rfl rfl
theorem atD_int {z : Int} : atD ds (.int z) = L2.atI ds z := Eq.trans rfl rfl
theorem addD_int {i j : Int} : addD (.int i) (.int j) h = .ok (.val (.int (i + j))) h := Eq.trans rfl rfl
theorem addD_tup {a c : List D} (hl : a.length + c.length ≤ sizeLine) : addD (.tup a) (.tup c) h = .ok (.val (.tup (a ++ c))) h := by
  simp only [addD, fits]
  rw [decide_eq_true hl]
  rfl
theorem addD_lst {a c : List D} (hl : a.length + c.length ≤ sizeLine) : addD (.lst a) (.lst c) h = .ok (.new (a ++ c)) h := by
  simp only [addD, fits, lstOf, optR]
  rw [decide_eq_true hl]
  rfl
theorem subD_int {i j : Int} : subD (.int i) (.int j) h = .ok (.val (.int (i - j))) h := Eq.trans rfl rfl
theorem mulD_intR {i j : Int} (hj : j.natAbs < 2 ^ 64) : mulD (.int i) (.int j) h = .ok (.val (.int (i * j))) h := by
  have e : mulFits i j = true := by
    unfold mulFits
    rw [decide_eq_true hj]
    simp
  simp [mulD, int2, e, okD]
theorem mulD_intL {i j : Int} (hi : i.natAbs < 2 ^ 64) : mulD (.int i) (.int j) h = .ok (.val (.int (i * j))) h := by
  have e : mulFits i j = true := by
    unfold mulFits
    rw [decide_eq_true hi]
    simp
  simp [mulD, int2, e, okD]
theorem fdivD_int {i j : Int} (h1 : 0 < j) (h2 : j.natAbs < 2 ^ 8000) : fdivD (.int i) (.int j) h = .ok (.val (.int (i / j))) h := by
  have e : j.natAbs.log2 < 9000 := by
    have := (Nat.log2_lt (n := j.natAbs) (k := 8000) (by omega)).mpr h2
    omega
  simp only [fdivD, int2]
  rw [decide_eq_true h1, decide_eq_true e]
  rfl
theorem modD_int {i j : Int} (h1 : 0 < j) : modD (.int i) (.int j) h = .ok (.val (.int (i % j))) h := by
  simp only [modD, int2]
  rw [if_pos h1]
  rfl
theorem ltD_int {i j : Int} : ltD (.int i) (.int j) h = .ok (.val (.bl (decide (i < j)))) h := Eq.trans rfl rfl
theorem leD_int {i j : Int} : leD (.int i) (.int j) h = .ok (.val (.bl (decide (i ≤ j)))) h := Eq.trans rfl rfl
theorem gtD_int {i j : Int} : gtD (.int i) (.int j) h = .ok (.val (.bl (decide (j < i)))) h := Eq.trans rfl rfl
theorem geD_int {i j : Int} : geD (.int i) (.int j) h = .ok (.val (.bl (decide (j ≤ i)))) h := Eq.trans rfl rfl
theorem eqD_int {i j : Int} : eqD (.int i) (.int j) h = .ok (.val (.bl (decide (i = j)))) h := Eq.trans rfl rfl
theorem neD_int {i j : Int} : neD (.int i) (.int j) h = .ok (.val (.bl (!decide (i = j)))) h := Eq.trans rfl rfl
theorem eqD_str {i j : Str} : eqD (.str i) (.str j) h = .ok (.val (.bl (decide (i = j)))) h := Eq.trans rfl rfl
theorem neD_str {i j : Str} : neD (.str i) (.str j) h = .ok (.val (.bl (!decide (i = j)))) h := Eq.trans rfl rfl
theorem lenD_tup : lenD (.tup ds) h = .ok (.val (.int ds.length)) h := Eq.trans rfl rfl
theorem lenD_lst : lenD (.lst ds) h = .ok (.val (.int ds.length)) h := Eq.trans rfl rfl
theorem lenD_rol : lenD (.rol ds) h = .ok (.val (.int ds.length)) h := Eq.trans rfl rfl
theorem lenD_ref (e : h[n]? = some ds) : lenD (.ref n) h = .ok (.val (.int ds.length)) h := by
  simp only [lenD, seqOf, e]
  rfl
theorem one_1 {f : D → Hs → R Res} : one f [x] h = f x h := Eq.trans rfl rfl
theorem two_2 {f : D → D → Hs → R Res} : two f [x, y] h = f x y h := Eq.trans rfl rfl
theorem tupR_ok (hl : ds.length ≤ sizeLine) : tupR ds h = .ok (.val (.tup ds)) h := if_pos hl
theorem lstR_ok (hl : ds.length ≤ sizeLine) : lstR ds h = .ok (.new ds) h := if_pos hl
theorem rng1R_int {z : Int} (e : inRng z = true) : rng1R (.int z) h = .ok (.vals (rngD 0 z.toNat)) h := if_pos e
theorem rng2R_int {z w : Int} (e : inRng z = true) (e2 : inRng w = true) : rng2R (.int z) (.int w) h = .ok (.vals (rngD z (w - z).toNat)) h := by
  simp only [rng2R, e, e2]
  rfl
theorem fin_non (r : RS) (hr : r = .nx ρ h) : fin m r = .ok (.val .non) (h.take m) := by rw [hr]; rfl
theorem fin_nx : fin m (.nx ρ h) = .ok (.val .non) (h.take m) := Eq.trans rfl rfl
theorem fin_int {z : Int} : fin m (.ret (.val (.int z)) h) = .ok (.val (.int z)) (h.take m) := Eq.trans rfl rfl
theorem fin_bl : fin m (.ret (.val (.bl b)) h) = .ok (.val (.bl b)) (h.take m) := Eq.trans rfl rfl
theorem fin_none : fin m (.ret (.val .non) h) = .ok (.val .non) (h.take m) := Eq.trans rfl rfl
theorem fin_str {z : Str} : fin m (.ret (.val (.str z)) h) = .ok (.val (.str z)) (h.take m) := Eq.trans rfl rfl
theorem fin_tup (e : D.unds m ds = true) : fin m (.ret (.val (.tup ds)) h) = .ok (.val (.tup ds)) (h.take m) := by
  have e' : D.und m (.tup ds) = true := by unfold D.und; exact e
  exact if_pos e'
theorem fin_new (e : D.unds m ds = true) : fin m (.ret (.new ds) h) = .ok (.new ds) (h.take m) := if_pos e
theorem fin_cell (e0 : m ≤ n) (e1 : h[n]? = some ds) (e : D.unds m ds = true) : fin m (.ret (.val (.ref n)) h) = .ok (.new ds) (h.take m) := by
  simp only [fin]
  rw [if_neg (by omega), e1]
  exact if_pos e
theorem fin_cg {r r' : RS} (e : r = r') : fin m r = fin m r' := by rw [e]
theorem set_end {acc : List D} : (h ++ [ds]).set h.length acc = h ++ [acc] := by simp
theorem at_last : (h ++ [ds])[h.length]? = some ds := by simp
theorem take_len : h.take h.length = h := List.take_length
theorem take_app {t : Hs} : (h ++ t).take h.length = h := by simp
end
mutual
/-- no store number in it -/
def D.flatv : D → Bool
  | .tup ds => D.flatvs ds
  | .lst ds => D.flatvs ds
  | .rol ds => D.flatvs ds
  | .ref _ => false
  | _ => true
def D.flatvs : List D → Bool
  | [] => true
  | d :: ds => d.flatv && D.flatvs ds
end
mutual
theorem D.flatv_und {m : Nat} : ∀ {d : D}, d.flatv = true → d.und m = true
  | .non, _ => rfl
  | .bl _, _ => rfl
  | .int _, _ => rfl
  | .str _, _ => rfl
  | .ty _, _ => rfl
  | .tup ds, e => by
    unfold D.flatv at e
    unfold D.und
    exact D.flatvs_unds e
  | .lst ds, e => by
    unfold D.flatv at e
    unfold D.und
    exact D.flatvs_unds e
  | .rol ds, e => by
    unfold D.flatv at e
    unfold D.und
    exact D.flatvs_unds e
  | .ref n, e => by
    unfold D.flatv at e
    cases e
theorem D.flatvs_unds {m : Nat} : ∀ {ds : List D}, D.flatvs ds = true → D.unds m ds = true
  | [], _ => rfl
  | d :: ds, e => by
    unfold D.flatvs at e
    rw [Bool.and_eq_true] at e
    unfold D.unds
    rw [D.flatv_und e.1, D.flatvs_unds e.2]
    rfl
end
theorem flatvs_all : ∀ {ds : List D}, (∀ d ∈ ds, d.flatv = true) → D.flatvs ds = true
  | [], _ => rfl
  | d :: ds, e => by
    unfold D.flatvs
    rw [e d List.mem_cons_self, flatvs_all fun x hx => e x (List.mem_cons_of_mem _ hx)]
    rfl
end Fr
set_option Elab.async false
set_option linter.all false
set_option maxRecDepth 100000
set_option maxHeartbeats 4000000
namespace Fr
open PySem PySem.Spec PyProof.Rows L2
section
variable {c : Cn} {ρ : Rho} {h : Hs} {i : Nat} {d : D} {a b e it it1 : Tm} {es lo hi cs cs1 : Tms} {o o' : Cop} {p : Bop} {g g1 : G} {own own1 : List Nat} {k : Bool} {s t : Sm} {ss A : Sms} {os : List Bool} {is : List Nat}
theorem v_slot : ev c ρ (.slot i) h = okD (getS ρ i) h := by simp only [ev]
theorem v_con : ev c ρ (.con d) h = .ok (.val d) h := by simp only [ev]
theorem v_bin : ev c ρ (.bin p a b) h = bindD (ev c ρ a h) fun x h1 => bindD (ev c ρ b h1) fun y h2 => c.bin p x y h2 := by simp only [ev]
theorem v_neg : ev c ρ (.neg a) h = bindD (ev c ρ a h) fun x h1 => negR x h1 := by simp only [ev]
theorem v_cmp : ev c ρ (.cmp o a b) h = bindD (ev c ρ a h) fun x h1 => bindD (ev c ρ b h1) fun y h2 => c.cmp o x y h2 := by simp only [ev]
theorem v_chain : ev c ρ (.chain o o' a b e) h = bindD (ev c ρ a h) fun x h1 => bindD (ev c ρ b h1) fun y h2 => bindD (c.cmp o x y h2) fun z h3 => chainR z h3 (bindD (ev c ρ e h3) fun u h4 => c.cmp o' y u h4) := by simp only [ev]
theorem v_and : ev c ρ (.and a b) h = bindD (ev c ρ a h) fun x h1 => andR (truth h1 x) x h1 (ev c ρ b h1) := by simp only [ev]
theorem v_or : ev c ρ (.or a b) h = bindD (ev c ρ a h) fun x h1 => orR (truth h1 x) x h1 (ev c ρ b h1) := by simp only [ev]
theorem v_not : ev c ρ (.not a) h = bindD (ev c ρ a h) fun x h1 => (okB (truth h1 x) h1).bind fun k h2 => .ok (.val (.bl (!k))) h2 := by simp only [ev]
theorem v_ife {t : Tm} : ev c ρ (.ife t a b) h = (evT c ρ t h).bind fun k h1 => iteR k (ev c ρ a h1) (ev c ρ b h1) := by simp only [ev]
theorem v_tup : ev c ρ (.tup es) h = (evs c ρ es h).bind fun ds h1 => tupR ds h1 := by simp only [ev]
theorem v_lst : ev c ρ (.lst es) h = (evs c ρ es h).bind fun ds h1 => lstR ds h1 := by simp only [ev]
theorem v_ix : ev c ρ (.ix a b) h = bindD (ev c ρ a h) fun x h1 => bindD (ev c ρ b h1) fun y h2 => ixR (seqOf h2 x) y h2 := by simp only [ev]
theorem v_sl : ev c ρ (.sl a lo hi) h = bindD (ev c ρ a h) fun x h1 => (evs c ρ lo h1).bind fun l h2 => optR (partD l) fun l' => (evs c ρ hi h2).bind fun u h3 => optR (partD u) fun u' => cutAt x l' u' h3 := by simp only [ev]
theorem v_call : ev c ρ (.call i es) h = (evs c ρ es h).bind fun ds h1 => c.call i ds h1 := by simp only [ev]
theorem v_blt : ev c ρ (.blt i es) h = (evs c ρ es h).bind fun ds h1 => c.blt i ds h1 := by simp only [ev]
theorem v_meth : ev c ρ (.meth i a es) h = bindD (ev c ρ a h) fun x h1 => iteR (c.mty i x) ((evs c ρ es h1).bind fun ds h2 => c.meth i x ds h2) .bad := by simp only [ev]
theorem v_comp : ev c ρ (.comp e it g cs own) h = (evI c ρ it h).bind fun s h1 => mapS (compF c ρ e g cs own) s h1 := ev_comp h
theorem v_comp2 : ev c ρ (.comp2 e it g cs it1 g1 cs1 own own1) h = (evI c ρ it h).bind fun s h1 => map2 (outF c ρ e g cs it1 g1 cs1 own own1) s h1 := ev_comp2 h
theorem v_lsc : ev c ρ (.lsc e it g own) h = (evI c ρ it h).bind fun s h1 => setL (lscF c ρ e g own) s (srcLen s h1 + 1) 0 [] h1 := by
  simp only [ev]
  rfl
theorem vs_nil : evs c ρ .nil h = .ok [] h := by simp only [evs]
theorem vs_cons : evs c ρ (.cons e es) h = bindD (ev c ρ e h) fun x h1 => (evs c ρ es h1).bind fun xs h2 => .ok (x :: xs) h2 := by simp only [evs]
theorem vt_and : evT c ρ (.and a b) h = (evT c ρ a h).bind fun k h1 => iteR k (evT c ρ b h1) (.ok false h1) := by simp only [evT]
theorem vt_or : evT c ρ (.or a b) h = (evT c ρ a h).bind fun k h1 => iteR k (.ok true h1) (evT c ρ b h1) := by simp only [evT]
theorem vt_not : evT c ρ (.not a) h = (evT c ρ a h).bind fun k h1 => .ok (!k) h1 := by simp only [evT]
theorem vt_val (hp : plainT e = true) : evT c ρ e h = bindD (ev c ρ e h) fun x h1 => okB (truth h1 x) h1 := evT_plain hp h
theorem vc_nil : evC c ρ .nil h = .ok true h := by simp only [evC]
theorem vc_cons : evC c ρ (.cons e es) h = evT c ρ e h := by simp only [evC]
theorem vi_rng1 : evI c ρ (.rng1 a) h = bindD (ev c ρ a h) fun x h1 => rng1R x h1 := by simp only [evI]
theorem vi_rng2 : evI c ρ (.rng2 a b) h = bindD (ev c ρ a h) fun x h1 => bindD (ev c ρ b h1) fun y h2 => rng2R x y h2 := by simp only [evI]
theorem vi_val (hp : plainI e = true) : evI c ρ e h = bindD (ev c ρ e h) fun x h1 => okS (srcOf h1 x) h1 := evI_seq hp h
theorem vo_nil : evsO c ρ [] .nil h = .ok [] h := by simp only [evsO]
theorem vo_cons : evsO c ρ (k :: os) (.cons e es) h = bindO k (ev c ρ e h) fun x h1 => (evsO c ρ os es h1).bind fun xs h2 => .ok (x :: xs) h2 := by simp only [evsO]
theorem x_asg : ex c (.asg k g e) ρ h = toS ρ (bindO k (ev c ρ e h) fun d h1 => .ok d h1) fun d h1 => asgR (asg g d ρ) h1 := by simp only [ex]
theorem x_asgs : ex c (.asgs os is es) ρ h = toS ρ (evsO c ρ os es h) fun ds h1 => gateS (decide (ds.length ≤ sizeLine)) (asgR (setR is ds ρ) h1) := by simp only [ex]
theorem x_setix {a i e : Tm} : ex c (.setix a i e) ρ h = toS ρ (bindD (ev c ρ e h) fun x h1 => bindD (ev c ρ a h1) fun y h2 => bindD (ev c ρ i h2) fun z h3 => .ok (y, z, x) h3) fun p h3 => setAt p.1 p.2.1 p.2.2 ρ h3 := by simp only [ex]
theorem x_expr : ex c (.expr e) ρ h = toS ρ (bindD (ev c ρ e h) fun _ h1 => .ok () h1) fun _ h1 => .nx ρ h1 := by simp only [ex]
theorem x_ret : ex c (.ret e) ρ h = toS ρ (ev c ρ e h) fun r h1 => .ret r h1 := by simp only [ex]
theorem x_retN : ex c .retN ρ h = .ret (.val .non) h := by simp only [ex]
theorem x_pass : ex c .pass ρ h = .nx ρ h := by simp only [ex]
theorem x_brk : ex c .brk ρ h = .bk ρ h := by simp only [ex]
theorem x_cnt : ex c .cnt ρ h = .ct ρ h := by simp only [ex]
theorem x_ifs : ex c (.ifs e ss A) ρ h = toS ρ (evT c ρ e h) fun k h1 => iteS k (exs c ss ρ h1) (exs c A ρ h1) := by simp only [ex]
theorem x_whl : ex c (.whl e ss) ρ h = whlI (fun ρ h => evT c ρ e h) (fun ρ h => exs c ss ρ h) c.fuel ρ h := by simp only [ex]
theorem x_for : ex c (.for_ g e ss) ρ h = toS ρ (evI c ρ e h) fun s h1 => forI (exs c ss) g s (srcLen s h1 + 1) 0 ρ h1 := by simp only [ex]
theorem xs_nil : exs c .nil ρ h = .nx ρ h := by simp only [exs]
theorem xs_cons : exs c (.cons s ss) ρ h = (ex c s ρ h).seq fun ρ1 h1 => exs c ss ρ1 h1 := by simp only [exs]
theorem asg_nm : asg (.nm i) d ρ = some (ρ.set i (some d)) := Eq.trans rfl rfl
theorem asg_tp {ds : List D} : asg (.tp is) (.tup ds) ρ = setR is ds ρ := Eq.trans rfl rfl
theorem compF_at {x : D} : compF c ρ e g cs own x h = compE (asg g x (wipeR ρ own)) fun ρ1 => (evC c ρ1 cs h).bind fun k h3 => keepR k h3 (bindD (ev c ρ1 e h3) fun y h4 => .ok (some y) h4) := Eq.trans rfl rfl
theorem lscF_at {x : D} : lscF c ρ e g own x h = compL (asg g x (wipeR ρ own)) fun ρ1 => bindD (ev c ρ1 e h) fun y h3 => .ok y h3 := Eq.trans rfl rfl
theorem outF_at {x : D} {n : Nat} : outF c ρ e g cs it1 g1 cs1 own own1 n x h = compU (asg g x (wipeR ρ own)) fun ρ1 => (evC c ρ1 cs h).bind fun k h3 => keepU k h3 ((evI c ρ1 it1 h3).bind fun s1 h4 => innR (innF c ρ1 e g1 cs1 own1) n s1 (srcLen s1 h4 + 1) 0 h4) := Eq.trans rfl rfl
theorem innF_at {x : D} : innF c ρ e g1 cs1 own1 x h = compE (asg g1 x (wipeR ρ own1)) fun ρ2 => (evC c ρ2 cs1 h).bind fun k h6 => keepR k h6 (bindD (ev c ρ2 e h6) fun y h7 => .ok (some y) h7) := Eq.trans rfl rfl
theorem vt_slot : evT c ρ (.slot i) h = bindD (ev c ρ (.slot i) h) fun x h1 => okB (truth h1 x) h1 := (vt_val rfl).trans rfl
theorem vi_slot : evI c ρ (.slot i) h = bindD (ev c ρ (.slot i) h) fun x h1 => okS (srcOf h1 x) h1 := vi_val rfl
theorem vt_con : evT c ρ (.con d) h = bindD (ev c ρ (.con d) h) fun x h1 => okB (truth h1 x) h1 := (vt_val rfl).trans rfl
theorem vi_con : evI c ρ (.con d) h = bindD (ev c ρ (.con d) h) fun x h1 => okS (srcOf h1 x) h1 := vi_val rfl
theorem vt_bin : evT c ρ (.bin p a b) h = bindD (ev c ρ (.bin p a b) h) fun x h1 => okB (truth h1 x) h1 := (vt_val rfl).trans rfl
theorem vi_bin : evI c ρ (.bin p a b) h = bindD (ev c ρ (.bin p a b) h) fun x h1 => okS (srcOf h1 x) h1 := vi_val rfl
theorem vt_neg : evT c ρ (.neg a) h = bindD (ev c ρ (.neg a) h) fun x h1 => okB (truth h1 x) h1 := (vt_val rfl).trans rfl
theorem vi_neg : evI c ρ (.neg a) h = bindD (ev c ρ (.neg a) h) fun x h1 => okS (srcOf h1 x) h1 := vi_val rfl
theorem vt_cmp : evT c ρ (.cmp o a b) h = bindD (ev c ρ (.cmp o a b) h) fun x h1 => okB (truth h1 x) h1 := (vt_val rfl).trans rfl
theorem vi_cmp : evI c ρ (.cmp o a b) h = bindD (ev c ρ (.cmp o a b) h) fun x h1 => okS (srcOf h1 x) h1 := vi_val rfl
theorem vt_chain : evT c ρ (.chain o o' a b e) h = bindD (ev c ρ (.chain o o' a b e) h) fun x h1 => okB (truth h1 x) h1 := (vt_val rfl).trans rfl
theorem vi_chain : evI c ρ (.chain o o' a b e) h = bindD (ev c ρ (.chain o o' a b e) h) fun x h1 => okS (srcOf h1 x) h1 := vi_val rfl
theorem vt_ife {t : Tm} : evT c ρ (.ife t a b) h = bindD (ev c ρ (.ife t a b) h) fun x h1 => okB (truth h1 x) h1 := (vt_val rfl).trans rfl
theorem vi_ife {t : Tm} : evI c ρ (.ife t a b) h = bindD (ev c ρ (.ife t a b) h) fun x h1 => okS (srcOf h1 x) h1 := vi_val rfl
theorem vt_tup : evT c ρ (.tup es) h = bindD (ev c ρ (.tup es) h) fun x h1 => okB (truth h1 x) h1 := (vt_val rfl).trans rfl
theorem vi_tup : evI c ρ (.tup es) h = bindD (ev c ρ (.tup es) h) fun x h1 => okS (srcOf h1 x) h1 := vi_val rfl
theorem vt_lst : evT c ρ (.lst es) h = bindD (ev c ρ (.lst es) h) fun x h1 => okB (truth h1 x) h1 := (vt_val rfl).trans rfl
theorem vi_lst : evI c ρ (.lst es) h = bindD (ev c ρ (.lst es) h) fun x h1 => okS (srcOf h1 x) h1 := vi_val rfl
theorem vt_ix : evT c ρ (.ix a b) h = bindD (ev c ρ (.ix a b) h) fun x h1 => okB (truth h1 x) h1 := (vt_val rfl).trans rfl
theorem vi_ix : evI c ρ (.ix a b) h = bindD (ev c ρ (.ix a b) h) fun x h1 => okS (srcOf h1 x) h1 := vi_val rfl
theorem vt_sl : evT c ρ (.sl a lo hi) h = bindD (ev c ρ (.sl a lo hi) h) fun x h1 => okB (truth h1 x) h1 := (vt_val rfl).trans rfl
theorem vi_sl : evI c ρ (.sl a lo hi) h = bindD (ev c ρ (.sl a lo hi) h) fun x h1 => okS (srcOf h1 x) h1 := vi_val rfl
theorem vt_call : evT c ρ (.call i es) h = bindD (ev c ρ (.call i es) h) fun x h1 => okB (truth h1 x) h1 := (vt_val rfl).trans rfl
theorem vi_call : evI c ρ (.call i es) h = bindD (ev c ρ (.call i es) h) fun x h1 => okS (srcOf h1 x) h1 := vi_val rfl
theorem vt_blt : evT c ρ (.blt i es) h = bindD (ev c ρ (.blt i es) h) fun x h1 => okB (truth h1 x) h1 := (vt_val rfl).trans rfl
theorem vi_blt : evI c ρ (.blt i es) h = bindD (ev c ρ (.blt i es) h) fun x h1 => okS (srcOf h1 x) h1 := vi_val rfl
theorem vt_meth : evT c ρ (.meth i a es) h = bindD (ev c ρ (.meth i a es) h) fun x h1 => okB (truth h1 x) h1 := (vt_val rfl).trans rfl
theorem vi_meth : evI c ρ (.meth i a es) h = bindD (ev c ρ (.meth i a es) h) fun x h1 => okS (srcOf h1 x) h1 := vi_val rfl
theorem vt_comp : evT c ρ (.comp e it g cs own) h = bindD (ev c ρ (.comp e it g cs own) h) fun x h1 => okB (truth h1 x) h1 := (vt_val rfl).trans rfl
theorem vi_comp : evI c ρ (.comp e it g cs own) h = bindD (ev c ρ (.comp e it g cs own) h) fun x h1 => okS (srcOf h1 x) h1 := vi_val rfl
theorem vi_and : evI c ρ (.and a b) h = bindD (ev c ρ (.and a b) h) fun x h1 => okS (srcOf h1 x) h1 := vi_val rfl
end
end Fr
set_option Elab.async false
set_option linter.all false
set_option maxRecDepth 100000
set_option maxHeartbeats 4000000
namespace Fr
open PySem PySem.Spec PyProof.Rows L2
/-! ## values of ints, and lists of them -/
theorem pys_ints : ∀ c : List Int, D.pys (c.map .int) = c.map PyData.int
  | [] => by simp [D.pys]
  | i :: c => by simp [D.pys, D.py, pys_ints c]
theorem calms_all {ds : List D} (e : ∀ d ∈ ds, d.calm = true) : D.calms ds = true := by
  induction ds with
  | nil => rfl
  | cons d ds ih =>
    unfold D.calms
    rw [e d List.mem_cons_self, ih fun x hx => e x (List.mem_cons_of_mem _ hx)]
    rfl
theorem deps_le {n : Nat} {ds : List D} (e : ∀ d ∈ ds, d.dep ≤ n) : D.deps ds ≤ n := by
  induction ds with
  | nil => exact Nat.zero_le _
  | cons d ds ih =>
    unfold D.deps
    have := e d List.mem_cons_self
    have := ih fun x hx => e x (List.mem_cons_of_mem _ hx)
    omega
theorem szs_le {n : Nat} {ds : List D} (e : ∀ d ∈ ds, d.sz ≤ n) : D.szs ds ≤ (n + 2) * ds.length := by
  induction ds with
  | nil => exact Nat.zero_le _
  | cons d ds ih =>
    unfold D.szs
    have h1 := e d List.mem_cons_self
    have h2 := ih fun x hx => e x (List.mem_cons_of_mem _ hx)
    rw [List.length_cons, Nat.mul_add, Nat.mul_one]
    omega
theorem eqv_ints : ∀ xs ys : List Int, PyData.eqvAll (xs.map .int) (ys.map .int) = decide (xs = ys)
  | [], [] => by simp [PyData.eqvAll]
  | [], y :: ys => by simp [PyData.eqvAll]
  | x :: xs, [] => by simp [PyData.eqvAll]
  | x :: xs, y :: ys => by
    simp only [List.map_cons, PyData.eqvAll, PyData.eqv, eqv_ints xs ys]
    by_cases z : x = y
    · subst z
      simp
    · simp [z]
mutual
theorem eqv_self : ∀ {d : D}, d.calm = true → PyData.eqv d.py d.py = true
  | .non, _ => by simp [D.py, PyData.eqv]
  | .bl b, _ => by simp [D.py, PyData.eqv]
  | .int i, _ => by simp [D.py, PyData.eqv]
  | .tup ds, h => by
    unfold D.calm at h
    simp only [D.py, PyData.eqv]
    exact eqvs_self h
  | .lst ds, h => by
    unfold D.calm at h
    simp only [D.py, PyData.eqv]
    exact eqvs_self h
theorem eqvs_self : ∀ {ds : List D}, D.calms ds = true → PyData.eqvAll (D.pys ds) (D.pys ds) = true
  | [], _ => by simp [D.pys, PyData.eqvAll]
  | d :: ds, h => by
    unfold D.calms at h
    rw [Bool.and_eq_true] at h
    simp only [D.pys, PyData.eqvAll, eqv_self h.1, eqvs_self h.2]
    rfl
end
theorem shp_calm {d : D} (hc : d.calm = true) (hd : d.dep ≤ 64) : shp d.py = true := by
  have f := (D.calm_py hc).2
  unfold shp SeqAt.shaped
  rw [f.ly, f.dp, decide_eq_true hd]
  rfl
theorem toP_calm {d : D} {h : Hs} (hc : d.calm = true) : toP h d = some d.py := by
  have e := (D.calm_py hc).1
  cases d <;> first | exact e | (unfold D.calm at hc; cases hc)
theorem toP_ref {n : Nat} {ds : List D} {h : Hs} (e : h[n]? = some ds) (hc : D.calms ds = true) : toP h (.ref n) = some (D.lst ds).py := by
  have z := (D.calms_py hc).1
  simp [toP, e, z, D.py]
def isAtom : D → Bool
  | .tup _ => false
  | .lst _ => false
  | .ref _ => false
  | .rol _ => false
  | _ => true
/-- == of two values of which one is a tuple or a list -/
theorem eqR_deep {f : Bool → Bool} {x y : D} {h : Hs} {p q : PyData} (hx : isAtom x = false) (e1 : toP h x = some p) (e2 : toP h y = some q) (s1 : shp p = true) (s2 : shp q = true) : eqR f x y h = .ok (.val (.bl (f (PyData.eqv p q)))) h := by
  have go : (optR (toP h x) fun p => optR (toP h y) fun q => gate (shp p && shp q) (okV (.bl (f (PyData.eqv p q))) h)) = .ok (.val (.bl (f (PyData.eqv p q)))) h := by
    rw [e1, e2]
    show gate (shp p && shp q) (okV _ h) = _
    rw [s1, s2]
    rfl
  cases x <;> first | exact go | (cases hx; done)
theorem eqD_self {d : D} {h : Hs} (ha : isAtom d = false) (hc : d.calm = true) (hd : d.dep ≤ 64) : eqD d d h = .ok (.val (.bl true)) h := by
  have e := eqR_deep (f := fun b => b) (h := h) ha (toP_calm hc) (toP_calm hc) (shp_calm hc hd) (shp_calm hc hd)
  rw [eqv_self hc] at e
  exact e
theorem neD_self {d : D} {h : Hs} (ha : isAtom d = false) (hc : d.calm = true) (hd : d.dep ≤ 64) : neD d d h = .ok (.val (.bl false)) h := by
  have e := eqR_deep (f := fun b => !b) (h := h) ha (toP_calm hc) (toP_calm hc) (shp_calm hc hd) (shp_calm hc hd)
  rw [eqv_self hc] at e
  exact e
theorem all_true {ds : List D} {h : Hs} (e : ∀ d ∈ ds, d = .bl true) : allD (.lst ds) h = .ok (.val (.bl true)) h := by
  have e1 : blsOf ds = some (List.replicate ds.length true) := by
    induction ds with
    | nil => rfl
    | cons d ds ih =>
      rw [e d List.mem_cons_self]
      simp only [blsOf, ih fun x hx => e x (List.mem_cons_of_mem _ hx)]
      rfl
  simp only [allD, listOf, optR, e1]
  have e2 : (List.replicate ds.length true).all id = true := by simp
  rw [e2]
  rfl
theorem intsOf_map : ∀ c : List Int, intsOf (c.map .int) = some c
  | [] => rfl
  | i :: c => by simp [intsOf, intsOf_map c]
theorem sortD_tup (c : List Int) (h : Hs) : sortedD (.tup (c.map .int)) h = .ok (.new ((sortI c).map .int)) h := by
  simp only [sortedD, seqOf, optR, intsOf_map]
theorem sortD_lst (c : List Int) (h : Hs) : sortedD (.lst (c.map .int)) h = .ok (.new ((sortI c).map .int)) h := by
  simp only [sortedD, seqOf, optR, intsOf_map]
theorem sortD_ref {n : Nat} {c : List Int} {h : Hs} (e : h[n]? = some (c.map .int)) : sortedD (.ref n) h = .ok (.new ((sortI c).map .int)) h := by
  simp only [sortedD, seqOf, e, optR, intsOf_map]
theorem calm_ints {c : List Int} (e : ∀ i ∈ c, i.natAbs < 10 ^ 90) : D.calms (c.map .int) = true := calms_all fun d hd => by
  obtain ⟨i, hi, rfl⟩ := List.mem_map.mp hd
  unfold D.calm
  exact decide_eq_true (e i hi)
theorem deps_ints (c : List Int) : D.deps (c.map .int) = 0 := Nat.le_zero.mp (deps_le fun d hd => by
  obtain ⟨i, hi, rfl⟩ := List.mem_map.mp hd
  exact Nat.le_refl _)
theorem tupsOf_map : ∀ p : List (List Int), tupsOf (p.map fun c => .tup (c.map .int)) = some p
  | [] => rfl
  | c :: p => by simp [tupsOf, intsOf_map, tupsOf_map p]
theorem lset_tups {p : List (List Int)} {h : Hs} (hl : p.length < 64) : lsetD (.tup (p.map fun c => .tup (c.map .int))) h = .ok (.val (.int (nub p).length)) h := by
  simp only [lsetD, tupsOf_map, optR]
  rw [decide_eq_true hl]
  rfl
theorem list_tup {ds : List D} {h : Hs} : listD (.tup ds) h = .ok (.new ds) h := by
  simp [listD, seqOf, optR]
end Fr
set_option Elab.async false
set_option linter.all false
set_option maxRecDepth 100000
set_option maxHeartbeats 4000000
namespace Fr
open PySem PySem.Spec PyProof.Rows L2
section
variable {h g : Hs} {n p k : Nat} {l m ds : List D} {y d : D} {cell cell' : List D} {t : Hs}
theorem append_at (e : h[n]? = some l) (hl : l.length < 2 ^ 24) (u : y.und n = true) : appendD (.ref n) [y] h = .ok (.val .non) (h.set n (l ++ [y])) := by
  have e2 : decide (l.length < sizeLine) = true := decide_eq_true hl
  simp only [appendD, cellR, e, optR, e2, u]
  rfl
theorem extend_at (e : h[n]? = some l) (hl : l.length + m.length ≤ 2 ^ 24) (u : D.unds n m = true) : extendD (.ref n) [.lst m] h = .ok (.val .non) (h.set n (l ++ m)) := by
  have e2 : fits l m = true := decide_eq_true hl
  simp only [extendD, cellR, e, optR, lstOf, e2, u]
  rfl
theorem seqIndex_nat {k n : Nat} (hk : k < n) : seqIndex? (k : Int) n = some k := (ixN_seq (by
  unfold ixN
  rw [if_pos (by omega), if_pos (by omega)]
  rfl)).1
theorem pop_at (e : h[n]? = some l) (hk : k < l.length) (hz : l.length < 2 ^ 60) (ey : l[k]? = some y) : popD (.ref n) [.int (k : Nat)] h = .ok (.val y) (h.set n (l.eraseIdx k)) := by
  have e2 : inRng (k : Int) = true := decide_eq_true (by omega)
  simp only [popD, cellR, e, optR, e2, seqIndex_nat hk, ey]
  rfl
theorem setAt_at {i : Int} {j : Nat} {ρ : Rho} (e : h[n]? = some l) (ej : ixN l.length i = some j) (u : d.und n = true) : setAt (.ref n) (.int i) d ρ h = .nx ρ (h.set n (l.set j d)) := by
  simp only [setAt, e, ej, u]
  rfl
theorem atI_ofNat (ds : List D) (k : Nat) : L2.atI ds (k : Int) = ds[k]? := by
  by_cases z : k < ds.length
  · rw [L2.atI_nat (List.getElem?_eq_getElem z), List.getElem?_eq_getElem z]
  · rw [List.getElem?_eq_none (by omega)]
    unfold L2.atI ixN
    rw [if_pos (by omega), if_neg (by omega)]
    rfl
theorem atI_0 (ds : List D) : L2.atI ds 0 = ds[0]? := atI_ofNat ds 0
theorem atI_1 (ds : List D) : L2.atI ds 1 = ds[1]? := atI_ofNat ds 1
theorem atI_2 (ds : List D) : L2.atI ds 2 = ds[2]? := atI_ofNat ds 2
theorem atI_3 (ds : List D) : L2.atI ds 3 = ds[3]? := atI_ofNat ds 3
theorem atI_4 (ds : List D) : L2.atI ds 4 = ds[4]? := atI_ofNat ds 4
theorem atI_5 (ds : List D) : L2.atI ds 5 = ds[5]? := atI_ofNat ds 5
theorem app_at (hp : p < g.length) : (g ++ t)[p]? = g[p]? := List.getElem?_append_left hp
theorem app_set (hp : p < g.length) : (g ++ t).set p cell = g.set p cell ++ t := List.set_append_left _ _ hp
theorem set_at (hp : p < g.length) : (g.set p cell)[p]? = some cell := List.getElem?_set_self hp
theorem set_self (e : g[p]? = some cell) : g.set p cell = g := by
  obtain ⟨h1, h2⟩ := List.getElem?_eq_some_iff.mp e
  rw [← h2]
  exact List.set_getElem_self h1
end
end Fr
set_option Elab.async false
set_option linter.all false
set_option maxRecDepth 100000
set_option maxHeartbeats 4000000
namespace K02
open PySem PySem.Spec PyProof.Rows L2 Fr
def topS (i : Nat) : Stmt := PySem.Challenge.pw_followrows_k02_flat_and_cost.main.body.getD i (.Pass ⟨0, 0, 0, 0⟩)
abbrev st_is_integer : Stmt := topS 5
abbrev N_is_integer : List Str := ["thing"]
abbrev P_is_integer : List Str := ["thing"]
theorem sc_is_integer : FnScope N_is_integer P_is_integer (defScope st_is_integer) := ⟨rfl, rfl, rfl, by decide +kernel, rfl, by decide +kernel, by decide +kernel⟩
def body_is_integer : Sms := (.cons (.ret (.and (.blt 11 (.cons (.slot 0) (.cons (.con (.ty "int")) .nil))) (.not (.blt 11 (.cons (.slot 0) (.cons (.con (.ty "bool")) .nil))))))
  .nil)
abbrev st_is_between : Stmt := topS 6
abbrev N_is_between : List Str := ["low", "high", "thing"]
abbrev P_is_between : List Str := ["low", "high", "thing"]
theorem sc_is_between : FnScope N_is_between P_is_between (defScope st_is_between) := ⟨rfl, rfl, rfl, by decide +kernel, rfl, by decide +kernel, by decide +kernel⟩
def body_is_between : Sms := (.cons (.ret (.and (.call 0 (.cons (.slot 2) .nil)) (.chain .le .le (.slot 0) (.slot 2) (.slot 1))))
  .nil)
abbrev st_check_from_one : Stmt := topS 7
abbrev N_check_from_one : List Str := ["thing"]
abbrev P_check_from_one : List Str := ["thing"]
theorem sc_check_from_one : FnScope N_check_from_one P_check_from_one (defScope st_check_from_one) := ⟨rfl, rfl, rfl, by decide +kernel, rfl, by decide +kernel, by decide +kernel⟩
def body_check_from_one : Sms := (.cons (.ifs (.or (.not (.call 0 (.cons (.slot 0) .nil))) (.cmp .lt (.slot 0) (.con (.int 1)))) (.cons badS
  .nil) .nil)
  .nil)
abbrev st_is_literal : Stmt := topS 13
abbrev N_is_literal : List Str := ["size", "thing"]
abbrev P_is_literal : List Str := ["size", "thing"]
theorem sc_is_literal : FnScope N_is_literal P_is_literal (defScope st_is_literal) := ⟨rfl, rfl, rfl, by decide +kernel, rfl, by decide +kernel, by decide +kernel⟩
def body_is_literal : Sms := (.cons (.ret (.and (.call 0 (.cons (.slot 1) .nil)) (.chain .le .le (.con (.int 1)) (.blt 2 (.cons (.slot 1) .nil)) (.slot 0))))
  .nil)
abbrev st_is_clause : Stmt := topS 14
abbrev N_is_clause : List Str := ["size", "thing", "has_each_sign_once", "literal"]
abbrev P_is_clause : List Str := ["size", "thing"]
theorem sc_is_clause : FnScope N_is_clause P_is_clause (defScope st_is_clause) := ⟨rfl, rfl, rfl, by decide +kernel, rfl, by decide +kernel, by decide +kernel⟩
def body_is_clause : Sms := (.cons (.ifs (.or (.not (.blt 11 (.cons (.slot 1) (.cons (.con (.ty "tuple")) .nil)))) (.not (.chain .le .le (.con (.int 1)) (.blt 0 (.cons (.slot 1) .nil)) (.con (.int 4))))) (.cons (.ret (.con (.bl false)))
  .nil) .nil)
  (.cons (.ifs (.not (.blt 7 (.cons (.comp (.call 3 (.cons (.slot 0) (.cons (.slot 3) .nil))) (.slot 1) (.nm 3) .nil [3]) .nil))) (.cons (.ret (.con (.bl false)))
  .nil) .nil)
  (.cons (.asg false (.nm 2) (.cmp .eq (.lsc (.blt 2 (.cons (.slot 3) .nil)) (.slot 1) (.nm 3) [3]) (.blt 0 (.cons (.slot 1) .nil))))
  (.cons (.ret (.and (.slot 2) (.cmp .eq (.blt 4 (.cons (.slot 1) .nil)) (.blt 9 (.cons (.slot 1) .nil)))))
  .nil))))
abbrev st_is_part : Stmt := topS 15
abbrev N_is_part : List Str := ["size", "thing", "clause"]
abbrev P_is_part : List Str := ["size", "thing"]
theorem sc_is_part : FnScope N_is_part P_is_part (defScope st_is_part) := ⟨rfl, rfl, rfl, by decide +kernel, rfl, by decide +kernel, by decide +kernel⟩
def body_is_part : Sms := (.cons (.ifs (.or (.not (.blt 11 (.cons (.slot 1) (.cons (.con (.ty "tuple")) .nil)))) (.cmp .gt (.blt 0 (.cons (.slot 1) .nil)) (.con (.int 16)))) (.cons (.ret (.con (.bl false)))
  .nil) .nil)
  (.cons (.ifs (.not (.blt 7 (.cons (.comp (.call 4 (.cons (.slot 0) (.cons (.slot 2) .nil))) (.slot 1) (.nm 2) .nil [2]) .nil))) (.cons (.ret (.con (.bl false)))
  .nil) .nil)
  (.cons (.ret (.cmp .eq (.blt 12 (.cons (.slot 1) .nil)) (.blt 0 (.cons (.slot 1) .nil))))
  .nil)))
abbrev st_is_writing : Stmt := topS 16
abbrev N_is_writing : List Str := ["thing", "inputs", "size", "first", "each", "nexts", "last", "part"]
abbrev P_is_writing : List Str := ["thing"]
theorem sc_is_writing : FnScope N_is_writing P_is_writing (defScope st_is_writing) := ⟨rfl, rfl, rfl, by decide +kernel, rfl, by decide +kernel, by decide +kernel⟩
def body_is_writing : Sms := (.cons (.ifs (.or (.not (.blt 11 (.cons (.slot 0) (.cons (.con (.ty "tuple")) .nil)))) (.cmp .ne (.blt 0 (.cons (.slot 0) .nil)) (.con (.int 6)))) (.cons (.ret (.con (.bl false)))
  .nil) .nil)
  (.cons (.asg false (.tp [1, 2, 3, 4, 5, 6]) (.slot 0))
  (.cons (.ifs (.or (.not (.call 1 (.cons (.con (.int 1)) (.cons (.con (.int 2)) (.cons (.slot 1) .nil))))) (.not (.call 1 (.cons (.slot 1) (.cons (.con (.int 4)) (.cons (.slot 2) .nil)))))) (.cons (.ret (.con (.bl false)))
  .nil) .nil)
  (.cons (.ret (.and (.call 5 (.cons (.bin .mul (.con (.int 2)) (.slot 2)) (.cons (.slot 5) .nil))) (.blt 7 (.cons (.comp (.call 5 (.cons (.slot 2) (.cons (.slot 7) .nil))) (.tup (.cons (.slot 3) (.cons (.slot 4) (.cons (.slot 6) .nil)))) (.nm 7) .nil [7]) .nil))))
  .nil))))
abbrev st_check_writing : Stmt := topS 17
abbrev N_check_writing : List Str := ["thing"]
abbrev P_check_writing : List Str := ["thing"]
theorem sc_check_writing : FnScope N_check_writing P_check_writing (defScope st_check_writing) := ⟨rfl, rfl, rfl, by decide +kernel, rfl, by decide +kernel, by decide +kernel⟩
def body_check_writing : Sms := (.cons (.ifs (.not (.call 6 (.cons (.slot 0) .nil))) (.cons badS
  .nil) .nil)
  .nil)
abbrev st_moved : Stmt := topS 18
abbrev N_moved : List Str := ["clause", "by", "literal"]
abbrev P_moved : List Str := ["clause", "by"]
theorem sc_moved : FnScope N_moved P_moved (defScope st_moved) := ⟨rfl, rfl, rfl, by decide +kernel, rfl, by decide +kernel, by decide +kernel⟩
def body_moved : Sms := (.cons (.ret (.blt 3 (.cons (.comp (.ife (.cmp .gt (.slot 2) (.con (.int 0))) (.bin .add (.slot 2) (.slot 1)) (.bin .sub (.slot 2) (.slot 1))) (.slot 0) (.nm 2) .nil [2]) .nil)))
  .nil)
abbrev st_spread : Stmt := topS 19
abbrev N_spread : List Str := ["part", "size", "many", "column", "clause"]
abbrev P_spread : List Str := ["part", "size", "many"]
theorem sc_spread : FnScope N_spread P_spread (defScope st_spread) := ⟨rfl, rfl, rfl, by decide +kernel, rfl, by decide +kernel, by decide +kernel⟩
def body_spread : Sms := (.cons (.ret (.comp2 (.call 8 (.cons (.slot 4) (.cons (.bin .mul (.slot 3) (.slot 1)) .nil))) (.rng1 (.slot 2)) (.nm 3) .nil (.slot 0) (.nm 4) .nil [3, 4] [4]))
  .nil)
abbrev st_flat : Stmt := topS 20
abbrev N_flat : List Str := ["writing", "many", "_", "size", "first", "each", "nexts", "last", "behind", "ending", "clause"]
abbrev P_flat : List Str := ["writing", "many"]
theorem sc_flat : FnScope N_flat P_flat (defScope st_flat) := ⟨rfl, rfl, rfl, by decide +kernel, rfl, by decide +kernel, by decide +kernel⟩
def body_flat : Sms := (.cons (.expr (.call 7 (.cons (.slot 0) .nil)))
  (.cons (.expr (.call 2 (.cons (.slot 1) .nil)))
  (.cons (.asg false (.tp [2, 3, 4, 5, 6, 7]) (.slot 0))
  (.cons (.asg false (.nm 8) (.bin .mul (.bin .sub (.slot 1) (.con (.int 1))) (.slot 3)))
  (.cons (.asg false (.nm 9) (.comp (.call 8 (.cons (.slot 10) (.cons (.slot 8) .nil))) (.slot 7) (.nm 10) .nil [10]))
  (.cons (.ret (.bin .add (.bin .add (.bin .add (.blt 4 (.cons (.slot 4) .nil)) (.call 9 (.cons (.slot 5) (.cons (.slot 3) (.cons (.slot 1) .nil))))) (.call 9 (.cons (.slot 6) (.cons (.slot 3) (.cons (.bin .sub (.slot 1) (.con (.int 1))) .nil))))) (.slot 9)))
  .nil))))))
abbrev st_cost : Stmt := topS 21
abbrev N_cost : List Str := ["writing", "many", "_", "size", "first", "each", "nexts", "last", "clauses"]
abbrev P_cost : List Str := ["writing", "many"]
theorem sc_cost : FnScope N_cost P_cost (defScope st_cost) := ⟨rfl, rfl, rfl, by decide +kernel, rfl, by decide +kernel, by decide +kernel⟩
def body_cost : Sms := (.cons (.expr (.call 7 (.cons (.slot 0) .nil)))
  (.cons (.expr (.call 2 (.cons (.slot 1) .nil)))
  (.cons (.asg false (.tp [2, 3, 4, 5, 6, 7]) (.slot 0))
  (.cons (.asg false (.nm 8) (.bin .add (.bin .add (.bin .add (.blt 0 (.cons (.slot 4) .nil)) (.bin .mul (.slot 1) (.blt 0 (.cons (.slot 5) .nil)))) (.bin .mul (.bin .sub (.slot 1) (.con (.int 1))) (.blt 0 (.cons (.slot 6) .nil)))) (.blt 0 (.cons (.slot 7) .nil))))
  (.cons (.ret (.tup (.cons (.bin .mul (.slot 1) (.slot 3)) (.cons (.slot 8) .nil))))
  .nil)))))
abbrev st__law_pen : Stmt := topS 23
abbrev N__law_pen : List Str := ["script"]
abbrev P__law_pen : List Str := ["script"]
theorem sc__law_pen : FnScope N__law_pen P__law_pen (defScope st__law_pen) := ⟨rfl, rfl, rfl, by decide +kernel, rfl, by decide +kernel, by decide +kernel⟩
def body__law_pen : Sms := (.cons (.ret (.lst (.cons (.blt 4 (.cons (.sl (.slot 0) .nil (.cons (.con (.int 60)) .nil)) .nil)) (.cons (.con (.int 0)) (.cons (.con (.int 0)) .nil)))))
  .nil)
abbrev st__law_next : Stmt := topS 24
abbrev N__law_next : List Str := ["pen", "index", "cell_here", "some", "more", "high"]
abbrev P__law_next : List Str := ["pen"]
theorem sc__law_next : FnScope N__law_next P__law_next (defScope st__law_next) := ⟨rfl, rfl, rfl, by decide +kernel, rfl, by decide +kernel, by decide +kernel⟩
def body__law_next : Sms := (.cons (.asg false (.nm 1) (.ix (.slot 0) (.con (.int 1))))
  (.cons (.setix (.slot 0) (.con (.int 1)) (.bin .add (.slot 1) (.con (.int 1))))
  (.cons (.asg false (.nm 2) (.bin .add (.bin .mul (.slot 1) (.con (.int 1051))) (.con (.int 53))))
  (.cons (.ifs (.cmp .ne (.ix (.slot 0) (.con (.int 0))) (.lst .nil)) (.cons (.asg false (.nm 2) (.ix (.ix (.slot 0) (.con (.int 0))) (.bin .mod (.blt 1 (.cons (.slot 1) .nil)) (.blt 0 (.cons (.ix (.slot 0) (.con (.int 0))) .nil)))))
  .nil) .nil)
  (.cons (.ifs (.and (.cmp .lt (.slot 1) (.blt 0 (.cons (.ix (.slot 0) (.con (.int 0))) .nil))) (.cmp .ge (.slot 2) (.bin .pow (.con (.int 10)) (.con (.int 18))))) (.cons (.ret (.slot 2))
  .nil) .nil)
  (.cons (.asg false (.nm 3) (.bin .mod (.blt 1 (.cons (.bin .add (.bin .add (.bin .mod (.blt 1 (.cons (.slot 2) .nil)) (.con (.int 2147483587))) (.bin .mul (.slot 1) (.con (.int 30103)))) (.con (.int 79))) .nil)) (.con (.int 2147483587))))
  (.cons (.asg false (.nm 4) (.bin .mod (.blt 1 (.cons (.bin .add (.bin .add (.bin .mul (.slot 3) (.slot 3)) (.bin .mul (.slot 1) (.con (.int 70039)))) (.con (.int 61))) .nil)) (.con (.int 2147483563))))
  (.cons (.asg false (.nm 5) (.bin .mod (.blt 1 (.cons (.bin .add (.bin .add (.bin .mul (.slot 4) (.slot 4)) (.slot 3)) (.bin .mul (.bin .mul (.slot 1) (.slot 1)) (.con (.int 37)))) .nil)) (.con (.int 2147483549))))
  (.cons (.ret (.bin .add (.bin .mul (.bin .add (.bin .mul (.slot 5) (.con (.int 2147483587))) (.slot 4)) (.con (.int 2147483563))) (.slot 3)))
  .nil)))))))))
abbrev st__law_draw : Stmt := topS 25
abbrev N__law_draw : List Str := ["pen", "under", "digit"]
abbrev P__law_draw : List Str := ["pen", "under"]
theorem sc__law_draw : FnScope N__law_draw P__law_draw (defScope st__law_draw) := ⟨rfl, rfl, rfl, by decide +kernel, rfl, by decide +kernel, by decide +kernel⟩
def body__law_draw : Sms := (.cons (.ifs (.cmp .lt (.ix (.slot 0) (.con (.int 2))) (.slot 1)) (.cons (.setix (.slot 0) (.con (.int 2)) (.call 13 (.cons (.slot 0) .nil)))
  .nil) .nil)
  (.cons (.asg false (.nm 2) (.bin .mod (.blt 1 (.cons (.ix (.slot 0) (.con (.int 2))) .nil)) (.slot 1)))
  (.cons (.setix (.slot 0) (.con (.int 2)) (.bin .fdiv (.ix (.slot 0) (.con (.int 2))) (.slot 1)))
  (.cons (.ret (.slot 2))
  .nil))))
abbrev st__law_clause : Stmt := topS 26
abbrev N__law_clause : List Str := ["pen", "signs", "rest", "found", "lap", "sign"]
abbrev P__law_clause : List Str := ["pen", "signs"]
theorem sc__law_clause : FnScope N__law_clause P__law_clause (defScope st__law_clause) := ⟨rfl, rfl, rfl, by decide +kernel, rfl, by decide +kernel, by decide +kernel⟩
def lb__law_clause_1 : Sms := (.cons (.asg false (.nm 5) (.meth 2 (.slot 2) (.cons (.call 14 (.cons (.slot 0) (.cons (.blt 0 (.cons (.slot 2) .nil)) .nil))) .nil)))
  (.cons (.expr (.meth 0 (.slot 3) (.cons (.ife (.cmp .eq (.call 14 (.cons (.slot 0) (.cons (.con (.int 2)) .nil))) (.con (.int 0))) (.slot 5) (.neg (.slot 5))) .nil)))
  .nil))
def body__law_clause : Sms := (.cons (.asgs [true, true] [2, 3] (.cons (.blt 13 (.cons (.con (.int 1)) (.cons (.bin .add (.slot 1) (.con (.int 1))) .nil))) (.cons (.lst .nil) .nil)))
  (.cons (.for_ (.nm 4) (.rng1 (.blt 5 (.cons (.ix (.lst (.cons (.con (.int 1)) (.cons (.con (.int 2)) (.cons (.con (.int 2)) (.cons (.con (.int 3)) (.cons (.con (.int 4)) (.cons (.con (.int 2)) .nil))))))) (.call 14 (.cons (.slot 0) (.cons (.con (.int 6)) .nil)))) (.cons (.slot 1) .nil)))) lb__law_clause_1)
  (.cons (.ret (.blt 3 (.cons (.blt 9 (.cons (.slot 3) .nil)) .nil)))
  .nil)))
abbrev st__law_part : Stmt := topS 27
abbrev N__law_part : List Str := ["pen", "signs", "most", "found", "lap", "clause"]
abbrev P__law_part : List Str := ["pen", "signs", "most"]
theorem sc__law_part : FnScope N__law_part P__law_part (defScope st__law_part) := ⟨rfl, rfl, rfl, by decide +kernel, rfl, by decide +kernel, by decide +kernel⟩
def lb__law_part_1 : Sms := (.cons (.asg false (.nm 5) (.call 15 (.cons (.slot 0) (.cons (.slot 1) .nil))))
  (.cons (.ifs (.cmp .notin (.slot 5) (.slot 3)) (.cons (.expr (.meth 0 (.slot 3) (.cons (.slot 5) .nil)))
  .nil) .nil)
  .nil))
def body__law_part : Sms := (.cons (.asg true (.nm 3) (.lst .nil))
  (.cons (.for_ (.nm 4) (.rng1 (.call 14 (.cons (.slot 0) (.cons (.bin .add (.slot 2) (.con (.int 1))) .nil)))) lb__law_part_1)
  (.cons (.ret (.blt 3 (.cons (.slot 3) .nil)))
  .nil)))
abbrev st__law_typed : Stmt := topS 28
abbrev N__law_typed : List Str := ["one", "two", "turns", "even", "most", "pair"]
abbrev P__law_typed : List Str := []
theorem sc__law_typed : FnScope N__law_typed P__law_typed (defScope st__law_typed) := ⟨rfl, rfl, rfl, by decide +kernel, rfl, by decide +kernel, by decide +kernel⟩
def body__law_typed : Sms := (.cons (.asg false (.nm 0) (.tup (.cons (.con (.int 1)) (.cons (.con (.int 2)) (.cons (.tup .nil) (.cons (.tup (.cons (.tup (.cons (.neg (.con (.int 1))) (.cons (.con (.int 2)) .nil))) .nil)) (.cons (.tup (.cons (.tup (.cons (.neg (.con (.int 2))) (.cons (.con (.int 4)) .nil))) (.cons (.tup (.cons (.neg (.con (.int 3))) (.cons (.neg (.con (.int 2))) .nil))) .nil))) (.cons (.tup .nil) .nil))))))))
  (.cons (.asg false (.nm 1) (.tup (.cons (.con (.int 1)) (.cons (.con (.int 3)) (.cons (.tup .nil) (.cons (.tup (.cons (.tup (.cons (.neg (.con (.int 1))) (.cons (.con (.int 2)) .nil))) .nil)) (.cons (.tup (.cons (.tup (.cons (.neg (.con (.int 2))) (.cons (.con (.int 5)) .nil))) (.cons (.tup (.cons (.neg (.con (.int 4))) (.cons (.neg (.con (.int 2))) (.cons (.con (.int 6)) .nil)))) (.cons (.tup (.cons (.neg (.con (.int 6))) (.cons (.neg (.con (.int 4))) (.cons (.neg (.con (.int 2))) .nil)))) .nil)))) (.cons (.tup .nil) .nil))))))))
  (.cons (.asg false (.nm 2) (.tup (.cons (.tup (.cons (.neg (.con (.int 4))) (.cons (.con (.int 2)) (.cons (.con (.int 3)) .nil)))) (.cons (.tup (.cons (.neg (.con (.int 4))) (.cons (.neg (.con (.int 3))) (.cons (.neg (.con (.int 2))) .nil)))) (.cons (.tup (.cons (.neg (.con (.int 3))) (.cons (.con (.int 2)) (.cons (.con (.int 4)) .nil)))) (.cons (.tup (.cons (.neg (.con (.int 2))) (.cons (.con (.int 3)) (.cons (.con (.int 4)) .nil)))) .nil))))))
  (.cons (.asg false (.nm 3) (.tup (.cons (.con (.int 1)) (.cons (.con (.int 2)) (.cons (.tup (.cons (.tup (.cons (.neg (.con (.int 2))) (.cons (.con (.int 1)) .nil))) (.cons (.tup (.cons (.neg (.con (.int 1))) (.cons (.con (.int 2)) .nil))) .nil))) (.cons (.tup .nil) (.cons (.slot 2) (.cons (.tup (.cons (.tup (.cons (.neg (.con (.int 2))) .nil)) .nil)) .nil))))))))
  (.cons (.asg false (.nm 4) (.tup (.cons (.con (.int 1)) (.cons (.con (.int 3)) (.cons (.tup .nil) (.cons (.tup (.cons (.tup (.cons (.neg (.con (.int 1))) (.cons (.con (.int 2)) .nil))) (.cons (.tup (.cons (.neg (.con (.int 3))) (.cons (.con (.int 2)) .nil))) .nil))) (.cons (.tup (.cons (.tup (.cons (.neg (.con (.int 2))) (.cons (.con (.int 5)) .nil))) (.cons (.tup (.cons (.neg (.con (.int 3))) (.cons (.con (.int 6)) .nil))) (.cons (.tup (.cons (.neg (.con (.int 4))) (.cons (.neg (.con (.int 2))) (.cons (.con (.int 6)) .nil)))) (.cons (.tup (.cons (.neg (.con (.int 4))) (.cons (.neg (.con (.int 3))) .nil))) .nil))))) (.cons (.tup .nil) .nil))))))))
  (.cons (.asg false (.nm 5) (.tup (.cons (.con (.int 2)) (.cons (.con (.int 2)) (.cons (.tup .nil) (.cons (.tup (.cons (.tup (.cons (.neg (.con (.int 2))) (.cons (.con (.int 1)) .nil))) .nil)) (.cons (.tup (.cons (.tup (.cons (.neg (.con (.int 3))) (.cons (.con (.int 1)) .nil))) (.cons (.tup (.cons (.neg (.con (.int 1))) (.cons (.con (.int 3)) .nil))) .nil))) (.cons (.tup (.cons (.tup (.cons (.con (.int 1)) (.cons (.con (.int 2)) .nil))) .nil)) .nil))))))))
  (.cons (.ret (.lst (.cons (.slot 0) (.cons (.slot 1) (.cons (.slot 3) (.cons (.slot 4) (.cons (.slot 5) .nil)))))))
  .nil)))))))
abbrev st__law_writing : Stmt := topS 29
abbrev N__law_writing : List Str := ["pen", "most", "many", "known", "ins", "wide", "head", "body", "some"]
abbrev P__law_writing : List Str := ["pen", "most", "many"]
theorem sc__law_writing : FnScope N__law_writing P__law_writing (defScope st__law_writing) := ⟨rfl, rfl, rfl, by decide +kernel, rfl, by decide +kernel, by decide +kernel⟩
def body__law_writing : Sms := (.cons (.asg false (.nm 3) (.comp (.slot 8) (.call 17 .nil) (.nm 8) (.cons (.cmp .le (.ix (.slot 8) (.con (.int 1))) (.slot 1)) .nil) [8]))
  (.cons (.ifs (.cmp .eq (.call 14 (.cons (.slot 0) (.cons (.con (.int 4)) .nil))) (.con (.int 0))) (.cons (.ret (.ix (.slot 3) (.call 14 (.cons (.slot 0) (.cons (.blt 0 (.cons (.slot 3) .nil)) .nil)))))
  .nil) .nil)
  (.cons (.asg false (.nm 4) (.blt 5 (.cons (.ix (.lst (.cons (.con (.int 1)) (.cons (.con (.int 1)) (.cons (.con (.int 2)) .nil)))) (.call 14 (.cons (.slot 0) (.cons (.con (.int 3)) .nil)))) (.cons (.slot 1) .nil))))
  (.cons (.asg false (.nm 5) (.blt 5 (.cons (.slot 1) (.cons (.bin .add (.slot 4) (.call 14 (.cons (.slot 0) (.cons (.con (.int 3)) .nil)))) .nil))))
  (.cons (.asgs [false, false] [6, 7] (.cons (.call 16 (.cons (.slot 0) (.cons (.slot 5) (.cons (.con (.int 4)) .nil)))) (.cons (.call 16 (.cons (.slot 0) (.cons (.slot 5) (.cons (.slot 2) .nil)))) .nil)))
  (.cons (.ret (.tup (.cons (.slot 4) (.cons (.slot 5) (.cons (.slot 6) (.cons (.slot 7) (.cons (.call 16 (.cons (.slot 0) (.cons (.bin .mul (.con (.int 2)) (.slot 5)) (.cons (.slot 2) .nil)))) (.cons (.call 16 (.cons (.slot 0) (.cons (.slot 5) (.cons (.con (.int 4)) .nil)))) .nil))))))))
  .nil))))))
abbrev st__law_moved : Stmt := topS 30
abbrev N__law_moved : List Str := ["clause", "by", "found", "literal"]
abbrev P__law_moved : List Str := ["clause", "by"]
theorem sc__law_moved : FnScope N__law_moved P__law_moved (defScope st__law_moved) := ⟨rfl, rfl, rfl, by decide +kernel, rfl, by decide +kernel, by decide +kernel⟩
def lb__law_moved_1 : Sms := (.cons (.expr (.meth 0 (.slot 2) (.cons (.ife (.cmp .gt (.slot 3) (.con (.int 0))) (.bin .add (.slot 3) (.slot 1)) (.bin .sub (.slot 3) (.slot 1))) .nil)))
  .nil)
def body__law_moved : Sms := (.cons (.asg true (.nm 2) (.lst .nil))
  (.cons (.for_ (.nm 3) (.slot 0) lb__law_moved_1)
  (.cons (.ret (.blt 3 (.cons (.slot 2) .nil)))
  .nil)))
abbrev st__law_flat : Stmt := topS 31
abbrev N__law_flat : List Str := ["made", "many", "wide", "found", "place", "less", "column", "clause"]
abbrev P__law_flat : List Str := ["made", "many"]
theorem sc__law_flat : FnScope N__law_flat P__law_flat (defScope st__law_flat) := ⟨rfl, rfl, rfl, by decide +kernel, rfl, by decide +kernel, by decide +kernel⟩
def lb__law_flat_2 : Sms := (.cons (.expr (.meth 1 (.slot 3) (.cons (.comp (.call 19 (.cons (.slot 7) (.cons (.bin .mul (.slot 2) (.slot 6)) .nil))) (.ix (.slot 0) (.slot 4)) (.nm 7) .nil [7]) .nil)))
  .nil)
def lb__law_flat_1 : Sms := (.cons (.for_ (.nm 6) (.rng1 (.bin .sub (.slot 1) (.slot 5))) lb__law_flat_2)
  .nil)
def body__law_flat : Sms := (.cons (.asgs [false, true] [2, 3] (.cons (.ix (.slot 0) (.con (.int 1))) (.cons (.comp (.slot 7) (.ix (.slot 0) (.con (.int 2))) (.nm 7) .nil [7]) .nil)))
  (.cons (.for_ (.tp [4, 5]) (.tup (.cons (.tup (.cons (.con (.int 3)) (.cons (.con (.int 0)) .nil))) (.cons (.tup (.cons (.con (.int 4)) (.cons (.con (.int 1)) .nil))) .nil))) lb__law_flat_1)
  (.cons (.ret (.bin .add (.slot 3) (.comp (.call 19 (.cons (.slot 7) (.cons (.bin .mul (.slot 2) (.bin .sub (.slot 1) (.con (.int 1)))) .nil))) (.ix (.slot 0) (.con (.int 5))) (.nm 7) .nil [7])))
  .nil)))
abbrev st__law_cost : Stmt := topS 32
abbrev N__law_cost : List Str := ["made", "many", "found"]
abbrev P__law_cost : List Str := ["made", "many"]
theorem sc__law_cost : FnScope N__law_cost P__law_cost (defScope st__law_cost) := ⟨rfl, rfl, rfl, by decide +kernel, rfl, by decide +kernel, by decide +kernel⟩
def body__law_cost : Sms := (.cons (.asg false (.nm 2) (.bin .add (.blt 0 (.cons (.ix (.slot 0) (.con (.int 2))) .nil)) (.blt 0 (.cons (.ix (.slot 0) (.con (.int 5))) .nil))))
  (.cons (.ret (.tup (.cons (.bin .mul (.slot 1) (.ix (.slot 0) (.con (.int 1)))) (.cons (.bin .add (.bin .add (.slot 2) (.bin .mul (.slot 1) (.blt 0 (.cons (.ix (.slot 0) (.con (.int 3))) .nil)))) (.bin .mul (.bin .sub (.slot 1) (.con (.int 1))) (.blt 0 (.cons (.ix (.slot 0) (.con (.int 4))) .nil)))) .nil))))
  .nil))
abbrev st_law : Stmt := topS 33
abbrev N_law : List Str := ["script", "pen", "lap", "made", "many", "was", "due", "told", "large", "count"]
abbrev P_law : List Str := ["script"]
theorem sc_law : FnScope N_law P_law (defScope st_law) := ⟨rfl, rfl, rfl, by decide +kernel, rfl, by decide +kernel, by decide +kernel⟩
def lb_law_2 : Sms := (.cons (.ifs (.cmp .ne (.blt 10 (.cons (.call 11 (.cons (.slot 3) (.cons (.slot 9) .nil))) .nil)) (.blt 10 (.cons (.call 21 (.cons (.slot 3) (.cons (.slot 9) .nil))) .nil))) (.cons (.ret (.con (.bl false)))
  .nil) .nil)
  .nil)
def lb_law_1 : Sms := (.cons (.asgs [false, false] [3, 4] (.cons (.call 18 (.cons (.slot 1) (.cons (.con (.int 4)) (.cons (.con (.int 6)) .nil)))) (.cons (.bin .add (.con (.int 1)) (.call 14 (.cons (.slot 1) (.cons (.con (.int 12)) .nil)))) .nil)))
  (.cons (.asgs [false, false] [5, 6] (.cons (.blt 10 (.cons (.slot 3) .nil)) (.cons (.call 20 (.cons (.slot 3) (.cons (.slot 4) .nil))) .nil)))
  (.cons (.asg true (.nm 7) (.call 10 (.cons (.slot 3) (.cons (.slot 4) .nil))))
  (.cons (.ifs (.or (.cmp .ne (.blt 10 (.cons (.slot 7) .nil)) (.blt 10 (.cons (.slot 6) .nil))) (.cmp .ne (.blt 10 (.cons (.call 11 (.cons (.slot 3) (.cons (.slot 4) .nil))) .nil)) (.blt 10 (.cons (.tup (.cons (.bin .mul (.slot 4) (.ix (.slot 3) (.con (.int 1)))) (.cons (.blt 0 (.cons (.slot 6) .nil)) .nil))) .nil)))) (.cons (.ret (.con (.bl false)))
  .nil) .nil)
  (.cons (.expr (.meth 0 (.slot 7) (.cons (.tup (.cons (.con (.int 1)) .nil)) .nil)))
  (.cons (.setix (.slot 7) (.con (.int 0)) (.con .non))
  (.cons (.ifs (.or (.cmp .ne (.blt 10 (.cons (.call 10 (.cons (.slot 3) (.cons (.slot 4) .nil))) .nil)) (.blt 10 (.cons (.slot 6) .nil))) (.cmp .ne (.blt 10 (.cons (.slot 3) .nil)) (.slot 5))) (.cons (.ret (.con (.bl false)))
  .nil) .nil)
  (.cons (.asg false (.nm 8) (.bin .add (.con (.int 1)) (.bin .fdiv (.bin .mul (.call 14 (.cons (.slot 1) (.cons (.bin .pow (.con (.int 10)) (.con (.int 38))) .nil))) (.con (.int 100))) (.bin .add (.con (.int 1)) (.call 14 (.cons (.slot 1) (.cons (.bin .pow (.con (.int 10)) (.con (.int 9))) .nil)))))))
  (.cons (.for_ (.nm 9) (.tup (.cons (.slot 8) (.cons (.bin .sub (.bin .pow (.con (.int 10)) (.con (.int 40))) (.con (.int 1))) (.cons (.bin .add (.bin .pow (.con (.int 10)) (.con (.int 20))) (.slot 4)) .nil)))) lb_law_2)
  .nil)))))))))
def body_law : Sms := (.cons (.asg true (.nm 1) (.call 12 (.cons (.slot 0) .nil)))
  (.cons (.for_ (.nm 2) (.rng1 (.con (.int 5))) lb_law_1)
  (.cons (.asg false (.nm 3) (.tup (.cons (.con (.int 1)) (.cons (.con (.int 2)) (.cons (.tup (.cons (.tup (.cons (.con (.int 2)) .nil)) (.cons (.tup (.cons (.neg (.con (.int 2))) (.cons (.con (.int 1)) .nil))) .nil))) (.cons (.tup .nil) (.cons (.tup .nil) (.cons (.tup (.cons (.tup (.cons (.con (.int 2)) .nil)) (.cons (.tup (.cons (.neg (.con (.int 1))) .nil)) .nil))) .nil))))))))
  (.cons (.ifs (.or (.cmp .ne (.call 10 (.cons (.slot 3) (.cons (.con (.int 2)) .nil))) (.lst (.cons (.tup (.cons (.con (.int 2)) .nil)) (.cons (.tup (.cons (.neg (.con (.int 2))) (.cons (.con (.int 1)) .nil))) (.cons (.tup (.cons (.con (.int 4)) .nil)) (.cons (.tup (.cons (.neg (.con (.int 3))) .nil)) .nil)))))) (.cmp .ne (.call 11 (.cons (.slot 3) (.cons (.bin .pow (.con (.int 10)) (.con (.int 60))) .nil))) (.tup (.cons (.bin .mul (.con (.int 2)) (.bin .pow (.con (.int 10)) (.con (.int 60)))) (.cons (.con (.int 4)) .nil))))) (.cons (.ret (.con (.bl false)))
  .nil) .nil)
  (.cons (.asg false (.nm 3) (.call 18 (.cons (.slot 1) (.cons (.con (.int 2)) (.cons (.con (.int 2)) .nil)))))
  (.cons (.ret (.and (.cmp .eq (.blt 10 (.cons (.call 10 (.cons (.slot 3) (.cons (.con (.int 300)) .nil))) .nil)) (.blt 10 (.cons (.call 20 (.cons (.slot 3) (.cons (.con (.int 300)) .nil))) .nil))) (.cmp .eq (.blt 0 (.cons (.call 10 (.cons (.slot 3) (.cons (.con (.int 300)) .nil))) .nil)) (.ix (.call 11 (.cons (.slot 3) (.cons (.con (.int 300)) .nil))) (.con (.int 1))))))
  .nil))))))
def fns : Nat → Option Fd := fun i => match i with
  | 0 => some ⟨1, 1, body_is_integer⟩
  | 1 => some ⟨3, 3, body_is_between⟩
  | 2 => some ⟨1, 1, body_check_from_one⟩
  | 3 => some ⟨2, 2, body_is_literal⟩
  | 4 => some ⟨2, 4, body_is_clause⟩
  | 5 => some ⟨2, 3, body_is_part⟩
  | 6 => some ⟨1, 8, body_is_writing⟩
  | 7 => some ⟨1, 1, body_check_writing⟩
  | 8 => some ⟨2, 3, body_moved⟩
  | 9 => some ⟨3, 5, body_spread⟩
  | 10 => some ⟨2, 11, body_flat⟩
  | 11 => some ⟨2, 9, body_cost⟩
  | 12 => some ⟨1, 1, body__law_pen⟩
  | 13 => some ⟨1, 6, body__law_next⟩
  | 14 => some ⟨2, 3, body__law_draw⟩
  | 15 => some ⟨2, 6, body__law_clause⟩
  | 16 => some ⟨3, 6, body__law_part⟩
  | 17 => some ⟨0, 6, body__law_typed⟩
  | 18 => some ⟨3, 9, body__law_writing⟩
  | 19 => some ⟨2, 4, body__law_moved⟩
  | 20 => some ⟨2, 8, body__law_flat⟩
  | 21 => some ⟨2, 3, body__law_cost⟩
  | 22 => some ⟨1, 10, body_law⟩
  | _ => none
structure Mg (mg : Str → Option Value) : Prop where
  n_bool : mg "bool" = none
  n_isinstance : mg "isinstance" = none
  n_int : mg "int" = none
  n_abs : mg "abs" = none
  n_list : mg "list" = none
  n_sorted : mg "sorted" = none
  n_len : mg "len" = none
  n_all : mg "all" = none
  n_tuple : mg "tuple" = none
  n_set : mg "set" = none
  n_range : mg "range" = none
  n_min : mg "min" = none
  n_repr : mg "repr" = none
  v_MOST_LITERALS : ∃ t, mg "MOST_LITERALS" = some (.int 4 t)
  v_MOST_CLAUSES : ∃ t, mg "MOST_CLAUSES" = some (.int 16 t)
  v_MOST_SIGNS : ∃ t, mg "MOST_SIGNS" = some (.int 4 t)
  v_MOST_INPUTS : ∃ t, mg "MOST_INPUTS" = some (.int 2 t)
section
variable {P : Program} {w : World} {K : PySem.W.Frag} {mg : Str → Option Value} {base : Heap} {fa : Addr} {cdv : Value} {A : Around} {l : List Env} {s : Shared} {H : Hp} {E : XK} {k : Nat} {bc : Nat → Addr} {fuel : Nat}
theorem d_is_integer (ft : Fit (cxOf (L2.CX P w) P w K mg base N_is_integer "is_integer" (defScope st_is_integer) fa cdv A l s H E)) (tk : Takes (cxOf (L2.CX P w) P w K mg base N_is_integer "is_integer" (defScope st_is_integer) fa cdv A l s H E) (fun cls d _ H => E cls d H)) (n_bool : mg "bool" = none) (n_isinstance : mg "isinstance" = none) (n_int : mg "int" = none) : PSs (cxOf (L2.CX P w) P w K mg base N_is_integer "is_integer" (defScope st_is_integer) fa cdv A l s H E) (defBody st_is_integer) (Txs (cnN (bc0 bc fuel) fns k) K (fun cls d _ H => E cls d H) body_is_integer) :=
  (s_cons (s_ret (e_and (e_blt (i := 11) isi_ok (by rfl) n_isinstance (by rfl) (l_cons (e_slot 0 (pv 0)) (l_cons (e_ty (by rfl) n_int (by rfl)) l_nil))) (e_one (e_not (e_blt (i := 11) isi_ok (by rfl) n_isinstance (by rfl) (l_cons (e_slot 0 (pv 0)) (l_cons (e_ty (by rfl) n_bool (by rfl)) l_nil)))))))
  s_nil)
theorem d_is_between (ft : Fit (cxOf (L2.CX P w) P w K mg base N_is_between "is_between" (defScope st_is_between) fa cdv A l s H E)) (tk : Takes (cxOf (L2.CX P w) P w K mg base N_is_between "is_between" (defScope st_is_between) fa cdv A l s H E) (fun cls d _ H => E cls d H)) (c_is_integer : Callee (cxOf (L2.CX P w) P w K mg base N_is_between "is_between" (defScope st_is_between) fa cdv A l s H E) (cnN (bc0 bc fuel) fns k) 0 "is_integer") : PSs (cxOf (L2.CX P w) P w K mg base N_is_between "is_between" (defScope st_is_between) fa cdv A l s H E) (defBody st_is_between) (Txs (cnN (bc0 bc fuel) fns k) K (fun cls d _ H => E cls d H) body_is_between) :=
  (s_cons (s_ret (e_and (e_call ⟨c_is_integer.ex⟩ ⟨ft.gd, ft.rm⟩ tk (by rfl) (l_cons (e_slot 2 (pv 2)) l_nil)) (e_one (e_chain (o := .le) (o' := .le) le_ok le_ok (e_slot 0 (pv 0)) (e_slot 2 (pv 2)) (e_slot 1 (pv 1))))))
  s_nil)
theorem d_check_from_one (ft : Fit (cxOf (L2.CX P w) P w K mg base N_check_from_one "check_from_one" (defScope st_check_from_one) fa cdv A l s H E)) (tk : Takes (cxOf (L2.CX P w) P w K mg base N_check_from_one "check_from_one" (defScope st_check_from_one) fa cdv A l s H E) (fun cls d _ H => E cls d H)) (c_is_integer : Callee (cxOf (L2.CX P w) P w K mg base N_check_from_one "check_from_one" (defScope st_check_from_one) fa cdv A l s H E) (cnN (bc0 bc fuel) fns k) 0 "is_integer") : PSs (cxOf (L2.CX P w) P w K mg base N_check_from_one "check_from_one" (defScope st_check_from_one) fa cdv A l s H E) (defBody st_check_from_one) (Txs (cnN (bc0 bc fuel) fns k) K (fun cls d _ H => E cls d H) body_check_from_one) :=
  (s_cons (s_ifs (w_or (t_not (t_val (e_call ⟨c_is_integer.ex⟩ ⟨ft.gd, ft.rm⟩ tk (by rfl) (l_cons (e_slot 0 (pv 0)) l_nil)))) (w_or1 (t_cmp (o := .lt) lt_ok ltD_b (e_slot 0 (pv 0)) e_int (nomark _)))).pt (s_cons s_bad
  s_nil) s_nil)
  s_nil)
theorem d_is_literal (ft : Fit (cxOf (L2.CX P w) P w K mg base N_is_literal "is_literal" (defScope st_is_literal) fa cdv A l s H E)) (tk : Takes (cxOf (L2.CX P w) P w K mg base N_is_literal "is_literal" (defScope st_is_literal) fa cdv A l s H E) (fun cls d _ H => E cls d H)) (n_abs : mg "abs" = none) (c_is_integer : Callee (cxOf (L2.CX P w) P w K mg base N_is_literal "is_literal" (defScope st_is_literal) fa cdv A l s H E) (cnN (bc0 bc fuel) fns k) 0 "is_integer") : PSs (cxOf (L2.CX P w) P w K mg base N_is_literal "is_literal" (defScope st_is_literal) fa cdv A l s H E) (defBody st_is_literal) (Txs (cnN (bc0 bc fuel) fns k) K (fun cls d _ H => E cls d H) body_is_literal) :=
  (s_cons (s_ret (e_and (e_call ⟨c_is_integer.ex⟩ ⟨ft.gd, ft.rm⟩ tk (by rfl) (l_cons (e_slot 1 (pv 1)) l_nil)) (e_one (e_chain (o := .le) (o' := .le) le_ok le_ok e_int (e_blt (i := 2) abs_ok (by rfl) n_abs (by rfl) (l_cons (e_slot 1 (pv 1)) l_nil)) (e_slot 0 (pv 0))))))
  s_nil)
theorem d_is_clause (ft : Fit (cxOf (L2.CX P w) P w K mg base N_is_clause "is_clause" (defScope st_is_clause) fa cdv A l s H E)) (tk : Takes (cxOf (L2.CX P w) P w K mg base N_is_clause "is_clause" (defScope st_is_clause) fa cdv A l s H E) (fun cls d _ H => E cls d H)) (n_list : mg "list" = none) (n_sorted : mg "sorted" = none) (n_abs : mg "abs" = none) (n_len : mg "len" = none) (n_all : mg "all" = none) (v_MOST_LITERALS : ∃ t, mg "MOST_LITERALS" = some (.int 4 t)) (n_tuple : mg "tuple" = none) (n_isinstance : mg "isinstance" = none) (c_is_literal : Callee (cxOf (L2.CX P w) P w K mg base N_is_clause "is_clause" (defScope st_is_clause) fa cdv A l s H E) (cnN (bc0 bc fuel) fns k) 3 "is_literal") : PSs (cxOf (L2.CX P w) P w K mg base N_is_clause "is_clause" (defScope st_is_clause) fa cdv A l s H E) (defBody st_is_clause) (Txs (cnN (bc0 bc fuel) fns k) K (fun cls d _ H => E cls d H) body_is_clause) :=
  (s_cons (s_ifs (w_or (t_not (t_val (e_blt (i := 11) isi_ok (by rfl) n_isinstance (by rfl) (l_cons (e_slot 1 (pv 1)) (l_cons (e_ty (by rfl) n_tuple (by rfl)) l_nil))))) (w_or1 (t_not (t_chain (o := .le) (o' := .le) le_ok le_ok leD_b e_int (e_blt (i := 0) len_ok (by rfl) n_len (by rfl) (l_cons (e_slot 1 (pv 1)) l_nil)) (e_gint (by rfl) v_MOST_LITERALS))))).pt (s_cons (s_ret e_bl)
  s_nil) s_nil)
  (s_cons (s_ifs (t_not (t_val (e_blt (i := 7) (all_ok rfl) (by rfl) n_all (by rfl) (l_cons (e_comp (ow := [("literal", 3)]) rfl sc_is_clause.nd (i_seq (e_slot 1 (pv 1))) (blkOk_by (own := [("literal", 3)]) (N := N_is_clause) (sc := defScope st_is_clause) (by decide +kernel)) (by decide) (fun _ _ _ _ _ => (g_nm (pg_name (i := 3) sc_is_clause.nd rfl (.inl rfl)))) (fun _ _ _ _ _ => c_nil) (fun _ _ _ _ _ => (e_call ⟨c_is_literal.ex⟩ ⟨ft.gd, ft.rm⟩ takesB (by rfl) (l_cons (e_slot 0 (pv 0)) (l_cons (e_slot 3 (pv 3)) l_nil))))) l_nil)))) (s_cons (s_ret e_bl)
  s_nil) s_nil)
  (s_cons (s_set (o := false) (i := 2) sc_is_clause.nd rfl (.inl rfl) (e_cmp (o := .eq) (eq_ok ⟨ft.gd, ft.rm⟩) (e_lsc (ow := [("literal", 3)]) rfl sc_is_clause.nd (by rfl) n_len (i_seq (e_slot 1 (pv 1))) (blkOk_by (own := [("literal", 3)]) (N := N_is_clause) (sc := defScope st_is_clause) (by decide +kernel)) (by decide) (fun _ _ _ _ _ => (g_nm (pg_name (i := 3) sc_is_clause.nd rfl (.inl rfl)))) (fun _ _ _ _ _ => (e_blt (i := 2) abs_ok (by rfl) n_abs (by rfl) (l_cons (e_slot 3 (pv 3)) l_nil)))) (e_blt (i := 0) len_ok (by rfl) n_len (by rfl) (l_cons (e_slot 1 (pv 1)) l_nil)) (nomark _)))
  (s_cons (s_ret (e_and (e_slot 2 (pv 2)) (e_one (e_cmp (o := .eq) (eq_ok ⟨ft.gd, ft.rm⟩) (e_bltT (i := 4) list_ok (by rfl) n_list (by rfl) (l_cons (e_slot 1 (pv 1)) l_nil)) (e_blt (i := 9) sorted_ok (by rfl) n_sorted (by rfl) (l_cons (e_slot 1 (pv 1)) l_nil)) (nomark _)))))
  s_nil))))
theorem d_is_part (ft : Fit (cxOf (L2.CX P w) P w K mg base N_is_part "is_part" (defScope st_is_part) fa cdv A l s H E)) (tk : Takes (cxOf (L2.CX P w) P w K mg base N_is_part "is_part" (defScope st_is_part) fa cdv A l s H E) (fun cls d _ H => E cls d H)) (n_len : mg "len" = none) (n_set : mg "set" = none) (n_all : mg "all" = none) (v_MOST_CLAUSES : ∃ t, mg "MOST_CLAUSES" = some (.int 16 t)) (n_tuple : mg "tuple" = none) (n_isinstance : mg "isinstance" = none) (c_is_clause : Callee (cxOf (L2.CX P w) P w K mg base N_is_part "is_part" (defScope st_is_part) fa cdv A l s H E) (cnN (bc0 bc fuel) fns k) 4 "is_clause") : PSs (cxOf (L2.CX P w) P w K mg base N_is_part "is_part" (defScope st_is_part) fa cdv A l s H E) (defBody st_is_part) (Txs (cnN (bc0 bc fuel) fns k) K (fun cls d _ H => E cls d H) body_is_part) :=
  (s_cons (s_ifs (w_or (t_not (t_val (e_blt (i := 11) isi_ok (by rfl) n_isinstance (by rfl) (l_cons (e_slot 1 (pv 1)) (l_cons (e_ty (by rfl) n_tuple (by rfl)) l_nil))))) (w_or1 (t_cmp (o := .gt) gt_ok gtD_b (e_blt (i := 0) len_ok (by rfl) n_len (by rfl) (l_cons (e_slot 1 (pv 1)) l_nil)) (e_gint (by rfl) v_MOST_CLAUSES) (nomark _)))).pt (s_cons (s_ret e_bl)
  s_nil) s_nil)
  (s_cons (s_ifs (t_not (t_val (e_blt (i := 7) (all_ok rfl) (by rfl) n_all (by rfl) (l_cons (e_comp (ow := [("clause", 2)]) rfl sc_is_part.nd (i_seq (e_slot 1 (pv 1))) (blkOk_by (own := [("clause", 2)]) (N := N_is_part) (sc := defScope st_is_part) (by decide +kernel)) (by decide) (fun _ _ _ _ _ => (g_nm (pg_name (i := 2) sc_is_part.nd rfl (.inl rfl)))) (fun _ _ _ _ _ => c_nil) (fun _ _ _ _ _ => (e_call ⟨c_is_clause.ex⟩ ⟨ft.gd, ft.rm⟩ takesB (by rfl) (l_cons (e_slot 0 (pv 0)) (l_cons (e_slot 2 (pv 2)) l_nil))))) l_nil)))) (s_cons (s_ret e_bl)
  s_nil) s_nil)
  (s_cons (s_ret (e_cmp (o := .eq) (eq_ok ⟨ft.gd, ft.rm⟩) (e_lset (i := 12) rfl rfl ⟨ft.gd, ft.rm⟩ (by rfl) n_len (by rfl) n_set (e_slot 1 (pv 1))) (e_blt (i := 0) len_ok (by rfl) n_len (by rfl) (l_cons (e_slot 1 (pv 1)) l_nil)) (nomark _)))
  s_nil)))
theorem d_is_writing (ft : Fit (cxOf (L2.CX P w) P w K mg base N_is_writing "is_writing" (defScope st_is_writing) fa cdv A l s H E)) (tk : Takes (cxOf (L2.CX P w) P w K mg base N_is_writing "is_writing" (defScope st_is_writing) fa cdv A l s H E) (fun cls d _ H => E cls d H)) (n_all : mg "all" = none) (v_MOST_SIGNS : ∃ t, mg "MOST_SIGNS" = some (.int 4 t)) (v_MOST_INPUTS : ∃ t, mg "MOST_INPUTS" = some (.int 2 t)) (n_len : mg "len" = none) (n_tuple : mg "tuple" = none) (n_isinstance : mg "isinstance" = none) (c_is_part : Callee (cxOf (L2.CX P w) P w K mg base N_is_writing "is_writing" (defScope st_is_writing) fa cdv A l s H E) (cnN (bc0 bc fuel) fns k) 5 "is_part") (c_is_between : Callee (cxOf (L2.CX P w) P w K mg base N_is_writing "is_writing" (defScope st_is_writing) fa cdv A l s H E) (cnN (bc0 bc fuel) fns k) 1 "is_between") : PSs (cxOf (L2.CX P w) P w K mg base N_is_writing "is_writing" (defScope st_is_writing) fa cdv A l s H E) (defBody st_is_writing) (Txs (cnN (bc0 bc fuel) fns k) K (fun cls d _ H => E cls d H) body_is_writing) :=
  (s_cons (s_ifs (w_or (t_not (t_val (e_blt (i := 11) isi_ok (by rfl) n_isinstance (by rfl) (l_cons (e_slot 0 (pv 0)) (l_cons (e_ty (by rfl) n_tuple (by rfl)) l_nil))))) (w_or1 (t_cmp (o := .ne) (ne_ok ⟨ft.gd, ft.rm⟩) neD_b (e_blt (i := 0) len_ok (by rfl) n_len (by rfl) (l_cons (e_slot 0 (pv 0)) l_nil)) e_int (nomark _)))).pt (s_cons (s_ret e_bl)
  s_nil) s_nil)
  (s_cons (s_asg (o := false) (e_slot 0 (pv 0)) (g_tp rfl (gs_cons (pg_name (i := 1) sc_is_writing.nd rfl (.inl rfl)) (gs_cons (pg_name (i := 2) sc_is_writing.nd rfl (.inr rfl)) (gs_cons (pg_name (i := 3) sc_is_writing.nd rfl (.inl rfl)) (gs_cons (pg_name (i := 4) sc_is_writing.nd rfl (.inl rfl)) (gs_cons (pg_name (i := 5) sc_is_writing.nd rfl (.inl rfl)) (gs_cons (pg_name (i := 6) sc_is_writing.nd rfl (.inl rfl)) gs_nil))))))))
  (s_cons (s_ifs (w_or (t_not (t_val (e_call ⟨c_is_between.ex⟩ ⟨ft.gd, ft.rm⟩ tk (by rfl) (l_cons e_int (l_cons (e_gint (by rfl) v_MOST_INPUTS) (l_cons (e_slot 1 (pv 1)) l_nil)))))) (w_or1 (t_not (t_val (e_call ⟨c_is_between.ex⟩ ⟨ft.gd, ft.rm⟩ tk (by rfl) (l_cons (e_slot 1 (pv 1)) (l_cons (e_gint (by rfl) v_MOST_SIGNS) (l_cons (e_slot 2 (pv 2)) l_nil)))))))).pt (s_cons (s_ret e_bl)
  s_nil) s_nil)
  (s_cons (s_ret (e_and (e_call ⟨c_is_part.ex⟩ ⟨ft.gd, ft.rm⟩ tk (by rfl) (l_cons (e_bin (o := .mul) mul_ok e_int (e_slot 2 (pv 2))) (l_cons (e_slot 5 (pv 5)) l_nil))) (e_one (e_blt (i := 7) (all_ok rfl) (by rfl) n_all (by rfl) (l_cons (e_comp (ow := [("part", 7)]) rfl sc_is_writing.nd (i_seq (e_tup (l_cons (e_slot 3 (pv 3)) (l_cons (e_slot 4 (pv 4)) (l_cons (e_slot 6 (pv 6)) l_nil))))) (blkOk_by (own := [("part", 7)]) (N := N_is_writing) (sc := defScope st_is_writing) (by decide +kernel)) (by decide) (fun _ _ _ _ _ => (g_nm (pg_name (i := 7) sc_is_writing.nd rfl (.inl rfl)))) (fun _ _ _ _ _ => c_nil) (fun _ _ _ _ _ => (e_call ⟨c_is_part.ex⟩ ⟨ft.gd, ft.rm⟩ takesB (by rfl) (l_cons (e_slot 2 (pv 2)) (l_cons (e_slot 7 (pv 7)) l_nil))))) l_nil)))))
  s_nil))))
theorem d_check_writing (ft : Fit (cxOf (L2.CX P w) P w K mg base N_check_writing "check_writing" (defScope st_check_writing) fa cdv A l s H E)) (tk : Takes (cxOf (L2.CX P w) P w K mg base N_check_writing "check_writing" (defScope st_check_writing) fa cdv A l s H E) (fun cls d _ H => E cls d H)) (c_is_writing : Callee (cxOf (L2.CX P w) P w K mg base N_check_writing "check_writing" (defScope st_check_writing) fa cdv A l s H E) (cnN (bc0 bc fuel) fns k) 6 "is_writing") : PSs (cxOf (L2.CX P w) P w K mg base N_check_writing "check_writing" (defScope st_check_writing) fa cdv A l s H E) (defBody st_check_writing) (Txs (cnN (bc0 bc fuel) fns k) K (fun cls d _ H => E cls d H) body_check_writing) :=
  (s_cons (s_ifs (t_not (t_val (e_call ⟨c_is_writing.ex⟩ ⟨ft.gd, ft.rm⟩ tk (by rfl) (l_cons (e_slot 0 (pv 0)) l_nil)))) (s_cons s_bad
  s_nil) s_nil)
  s_nil)
theorem d_moved (ft : Fit (cxOf (L2.CX P w) P w K mg base N_moved "moved" (defScope st_moved) fa cdv A l s H E)) (tk : Takes (cxOf (L2.CX P w) P w K mg base N_moved "moved" (defScope st_moved) fa cdv A l s H E) (fun cls d _ H => E cls d H)) (n_tuple : mg "tuple" = none) : PSs (cxOf (L2.CX P w) P w K mg base N_moved "moved" (defScope st_moved) fa cdv A l s H E) (defBody st_moved) (Txs (cnN (bc0 bc fuel) fns k) K (fun cls d _ H => E cls d H) body_moved) :=
  (s_cons (s_ret (e_bltT (i := 3) tuple_ok (by rfl) n_tuple (by rfl) (l_cons (e_comp (ow := [("literal", 2)]) rfl sc_moved.nd (i_seq (e_slot 0 (pv 0))) (blkOk_by (own := [("literal", 2)]) (N := N_moved) (sc := defScope st_moved) (by decide +kernel)) (by decide) (fun _ _ _ _ _ => (g_nm (pg_name (i := 2) sc_moved.nd rfl (.inl rfl)))) (fun _ _ _ _ _ => c_nil) (fun _ _ _ _ _ => (e_ife (t_cmp (o := .gt) gt_ok gtD_b (e_slot 2 (pv 2)) e_int (nomark _)) (e_bin (o := .add) add_ok (e_slot 2 (pv 2)) (e_slot 1 (pv 1))) (e_bin (o := .sub) sub_ok (e_slot 2 (pv 2)) (e_slot 1 (pv 1)))))) l_nil)))
  s_nil)
theorem d_spread (ft : Fit (cxOf (L2.CX P w) P w K mg base N_spread "spread" (defScope st_spread) fa cdv A l s H E)) (tk : Takes (cxOf (L2.CX P w) P w K mg base N_spread "spread" (defScope st_spread) fa cdv A l s H E) (fun cls d _ H => E cls d H)) (n_range : mg "range" = none) (c_moved : Callee (cxOf (L2.CX P w) P w K mg base N_spread "spread" (defScope st_spread) fa cdv A l s H E) (cnN (bc0 bc fuel) fns k) 8 "moved") : PSs (cxOf (L2.CX P w) P w K mg base N_spread "spread" (defScope st_spread) fa cdv A l s H E) (defBody st_spread) (Txs (cnN (bc0 bc fuel) fns k) K (fun cls d _ H => E cls d H) body_spread) :=
  (s_cons (s_ret (e_comp2 (ow := [("column", 3), ("clause", 4)]) rfl sc_spread.nd (i_rng1 (by rfl) n_range (e_slot 2 (pv 2))) (blkOk_by (own := [("column", 3), ("clause", 4)]) (N := N_spread) (sc := defScope st_spread) (by decide +kernel)) (own1 := [4]) (by decide) (by decide) (by decide) (fun _ _ _ _ _ => (g_nm (pg_name (i := 3) sc_spread.nd rfl (.inl rfl)))) (fun _ _ _ _ _ => c_nil) (fun _ _ _ _ _ => (i_seq (e_slot 0 (pv 0)))) (fun _ _ _ _ _ => (g_nm (pg_name (i := 4) sc_spread.nd rfl (.inl rfl)))) (fun _ _ _ _ _ => c_nil) (fun _ _ _ _ _ => (e_call ⟨c_moved.ex⟩ ⟨ft.gd, ft.rm⟩ takesB (by rfl) (l_cons (e_slot 4 (pv 4)) (l_cons (e_bin (o := .mul) mul_ok (e_slot 3 (pv 3)) (e_slot 1 (pv 1))) l_nil))))))
  s_nil)
theorem d_flat (ft : Fit (cxOf (L2.CX P w) P w K mg base N_flat "flat" (defScope st_flat) fa cdv A l s H E)) (tk : Takes (cxOf (L2.CX P w) P w K mg base N_flat "flat" (defScope st_flat) fa cdv A l s H E) (fun cls d _ H => E cls d H)) (n_list : mg "list" = none) (c_spread : Callee (cxOf (L2.CX P w) P w K mg base N_flat "flat" (defScope st_flat) fa cdv A l s H E) (cnN (bc0 bc fuel) fns k) 9 "spread") (c_moved : Callee (cxOf (L2.CX P w) P w K mg base N_flat "flat" (defScope st_flat) fa cdv A l s H E) (cnN (bc0 bc fuel) fns k) 8 "moved") (c_check_from_one : Callee (cxOf (L2.CX P w) P w K mg base N_flat "flat" (defScope st_flat) fa cdv A l s H E) (cnN (bc0 bc fuel) fns k) 2 "check_from_one") (c_check_writing : Callee (cxOf (L2.CX P w) P w K mg base N_flat "flat" (defScope st_flat) fa cdv A l s H E) (cnN (bc0 bc fuel) fns k) 7 "check_writing") : PSs (cxOf (L2.CX P w) P w K mg base N_flat "flat" (defScope st_flat) fa cdv A l s H E) (defBody st_flat) (Txs (cnN (bc0 bc fuel) fns k) K (fun cls d _ H => E cls d H) body_flat) :=
  (s_cons (s_expr (e_call ⟨c_check_writing.ex⟩ ⟨ft.gd, ft.rm⟩ tk (by rfl) (l_cons (e_slot 0 (pv 0)) l_nil)))
  (s_cons (s_expr (e_call ⟨c_check_from_one.ex⟩ ⟨ft.gd, ft.rm⟩ tk (by rfl) (l_cons (e_slot 1 (pv 1)) l_nil)))
  (s_cons (s_asg (o := false) (e_slot 0 (pv 0)) (g_tp rfl (gs_cons (pg_name (i := 2) sc_flat.nd rfl (.inl rfl)) (gs_cons (pg_name (i := 3) sc_flat.nd rfl (.inl rfl)) (gs_cons (pg_name (i := 4) sc_flat.nd rfl (.inl rfl)) (gs_cons (pg_name (i := 5) sc_flat.nd rfl (.inl rfl)) (gs_cons (pg_name (i := 6) sc_flat.nd rfl (.inl rfl)) (gs_cons (pg_name (i := 7) sc_flat.nd rfl (.inl rfl)) gs_nil))))))))
  (s_cons (s_set (o := false) (i := 8) sc_flat.nd rfl (.inr rfl) (e_bin (o := .mul) mul_ok (e_bin (o := .sub) sub_ok (e_slot 1 (pv 1)) e_int) (e_slot 3 (pv 3))))
  (s_cons (s_setLc (ow := [("clause", 10)]) (o := false) rfl sc_flat.nd (i := 9) rfl rfl (by rfl) (i_seq (e_slot 7 (pv 7))) (blkOk_by (own := [("clause", 10)]) (N := N_flat) (sc := defScope st_flat) (by decide +kernel)) (by decide) (fun _ _ _ _ _ => (g_nm (pg_name (i := 10) sc_flat.nd rfl (.inl rfl)))) (fun _ _ _ _ _ => c_nil) (fun _ _ _ _ _ => (e_call ⟨c_moved.ex⟩ ⟨ft.gd, ft.rm⟩ takesB (by rfl) (l_cons (e_slot 10 (pv 10)) (l_cons (e_slot 8 (pv 8)) l_nil)))))
  (s_cons (s_ret (e_bin (o := .add) add_ok (e_bin (o := .add) add_ok (e_bin (o := .add) add_ok (e_bltT (i := 4) list_ok (by rfl) n_list (by rfl) (l_cons (e_slot 4 (pv 4)) l_nil)) (e_call ⟨c_spread.ex⟩ ⟨ft.gd, ft.rm⟩ tk (by rfl) (l_cons (e_slot 5 (pv 5)) (l_cons (e_slot 3 (pv 3)) (l_cons (e_slot 1 (pv 1)) l_nil))))) (e_call ⟨c_spread.ex⟩ ⟨ft.gd, ft.rm⟩ tk (by rfl) (l_cons (e_slot 6 (pv 6)) (l_cons (e_slot 3 (pv 3)) (l_cons (e_bin (o := .sub) sub_ok (e_slot 1 (pv 1)) e_int) l_nil))))) (e_slot 9 (pv 9))))
  s_nil))))))
theorem d_cost (ft : Fit (cxOf (L2.CX P w) P w K mg base N_cost "cost" (defScope st_cost) fa cdv A l s H E)) (tk : Takes (cxOf (L2.CX P w) P w K mg base N_cost "cost" (defScope st_cost) fa cdv A l s H E) (fun cls d _ H => E cls d H)) (n_len : mg "len" = none) (c_check_from_one : Callee (cxOf (L2.CX P w) P w K mg base N_cost "cost" (defScope st_cost) fa cdv A l s H E) (cnN (bc0 bc fuel) fns k) 2 "check_from_one") (c_check_writing : Callee (cxOf (L2.CX P w) P w K mg base N_cost "cost" (defScope st_cost) fa cdv A l s H E) (cnN (bc0 bc fuel) fns k) 7 "check_writing") : PSs (cxOf (L2.CX P w) P w K mg base N_cost "cost" (defScope st_cost) fa cdv A l s H E) (defBody st_cost) (Txs (cnN (bc0 bc fuel) fns k) K (fun cls d _ H => E cls d H) body_cost) :=
  (s_cons (s_expr (e_call ⟨c_check_writing.ex⟩ ⟨ft.gd, ft.rm⟩ tk (by rfl) (l_cons (e_slot 0 (pv 0)) l_nil)))
  (s_cons (s_expr (e_call ⟨c_check_from_one.ex⟩ ⟨ft.gd, ft.rm⟩ tk (by rfl) (l_cons (e_slot 1 (pv 1)) l_nil)))
  (s_cons (s_asg (o := false) (e_slot 0 (pv 0)) (g_tp rfl (gs_cons (pg_name (i := 2) sc_cost.nd rfl (.inl rfl)) (gs_cons (pg_name (i := 3) sc_cost.nd rfl (.inl rfl)) (gs_cons (pg_name (i := 4) sc_cost.nd rfl (.inl rfl)) (gs_cons (pg_name (i := 5) sc_cost.nd rfl (.inl rfl)) (gs_cons (pg_name (i := 6) sc_cost.nd rfl (.inl rfl)) (gs_cons (pg_name (i := 7) sc_cost.nd rfl (.inl rfl)) gs_nil))))))))
  (s_cons (s_set (o := false) (i := 8) sc_cost.nd rfl (.inl rfl) (e_bin (o := .add) add_ok (e_bin (o := .add) add_ok (e_bin (o := .add) add_ok (e_blt (i := 0) len_ok (by rfl) n_len (by rfl) (l_cons (e_slot 4 (pv 4)) l_nil)) (e_bin (o := .mul) mul_ok (e_slot 1 (pv 1)) (e_blt (i := 0) len_ok (by rfl) n_len (by rfl) (l_cons (e_slot 5 (pv 5)) l_nil)))) (e_bin (o := .mul) mul_ok (e_bin (o := .sub) sub_ok (e_slot 1 (pv 1)) e_int) (e_blt (i := 0) len_ok (by rfl) n_len (by rfl) (l_cons (e_slot 6 (pv 6)) l_nil)))) (e_blt (i := 0) len_ok (by rfl) n_len (by rfl) (l_cons (e_slot 7 (pv 7)) l_nil))))
  (s_cons (s_ret (e_tup (l_cons (e_bin (o := .mul) mul_ok (e_slot 1 (pv 1)) (e_slot 3 (pv 3))) (l_cons (e_slot 8 (pv 8)) l_nil))))
  s_nil)))))
theorem d__law_pen (ft : Fit (cxOf (L2.CX P w) P w K mg base N__law_pen "_law_pen" (defScope st__law_pen) fa cdv A l s H E)) (tk : Takes (cxOf (L2.CX P w) P w K mg base N__law_pen "_law_pen" (defScope st__law_pen) fa cdv A l s H E) (fun cls d _ H => E cls d H)) (n_list : mg "list" = none) : PSs (cxOf (L2.CX P w) P w K mg base N__law_pen "_law_pen" (defScope st__law_pen) fa cdv A l s H E) (defBody st__law_pen) (Txs (cnN (bc0 bc fuel) fns k) K (fun cls d _ H => E cls d H) body__law_pen) :=
  (s_cons (s_ret (e_lst (l_cons (e_bltT (i := 4) list_ok (by rfl) n_list (by rfl) (l_cons (e_sl (e_slot 0 (pv 0)) o_none (o_some e_int)) l_nil)) (l_cons e_int (l_cons e_int l_nil)))))
  s_nil)
theorem d__law_next (ft : Fit (cxOf (L2.CX P w) P w K mg base N__law_next "_law_next" (defScope st__law_next) fa cdv A l s H E)) (tk : Takes (cxOf (L2.CX P w) P w K mg base N__law_next "_law_next" (defScope st__law_next) fa cdv A l s H E) (fun cls d _ H => E cls d H)) (n_int : mg "int" = none) (n_len : mg "len" = none) : PSs (cxOf (L2.CX P w) P w K mg base N__law_next "_law_next" (defScope st__law_next) fa cdv A l s H E) (defBody st__law_next) (Txs (cnN (bc0 bc fuel) fns k) K (fun cls d _ H => E cls d H) body__law_next) :=
  (s_cons (s_set (o := false) (i := 1) sc__law_next.nd rfl (.inl rfl) (e_ix (e_slot 0 (pv 0)) e_int))
  (s_cons (s_setix (e_bin (o := .add) add_ok (e_slot 1 (pv 1)) e_int) (e_slot 0 (pv 0)) e_int)
  (s_cons (s_set (o := false) (i := 2) sc__law_next.nd rfl (.inl rfl) (e_bin (o := .add) add_ok (e_bin (o := .mul) mul_ok (e_slot 1 (pv 1)) e_int) e_int))
  (s_cons (s_ifs (t_cmp (o := .ne) (ne_ok ⟨ft.gd, ft.rm⟩) neD_b (e_ix (e_slot 0 (pv 0)) e_int) (e_lst l_nil) (nomark _)) (s_cons (s_set (o := false) (i := 2) sc__law_next.nd rfl (.inl rfl) (e_ix (e_ix (e_slot 0 (pv 0)) e_int) (e_bin (o := .mod) mod_ok (e_bltT (i := 1) int_ok (by rfl) n_int (by rfl) (l_cons (e_slot 1 (pv 1)) l_nil)) (e_blt (i := 0) len_ok (by rfl) n_len (by rfl) (l_cons (e_ix (e_slot 0 (pv 0)) e_int) l_nil)))))
  s_nil) s_nil)
  (s_cons (s_ifs (w_and (t_cmp (o := .lt) lt_ok ltD_b (e_slot 1 (pv 1)) (e_blt (i := 0) len_ok (by rfl) n_len (by rfl) (l_cons (e_ix (e_slot 0 (pv 0)) e_int) l_nil)) (nomark _)) (w_and1 (t_cmp (o := .ge) ge_ok geD_b (e_slot 2 (pv 2)) (e_bin (o := .pow) pow_ok e_int e_int) (nomark _)))).pt (s_cons (s_ret (e_slot 2 (pv 2)))
  s_nil) s_nil)
  (s_cons (s_set (o := false) (i := 3) sc__law_next.nd rfl (.inl rfl) (e_bin (o := .mod) mod_ok (e_bltT (i := 1) int_ok (by rfl) n_int (by rfl) (l_cons (e_bin (o := .add) add_ok (e_bin (o := .add) add_ok (e_bin (o := .mod) mod_ok (e_bltT (i := 1) int_ok (by rfl) n_int (by rfl) (l_cons (e_slot 2 (pv 2)) l_nil)) e_int) (e_bin (o := .mul) mul_ok (e_slot 1 (pv 1)) e_int)) e_int) l_nil)) e_int))
  (s_cons (s_set (o := false) (i := 4) sc__law_next.nd rfl (.inl rfl) (e_bin (o := .mod) mod_ok (e_bltT (i := 1) int_ok (by rfl) n_int (by rfl) (l_cons (e_bin (o := .add) add_ok (e_bin (o := .add) add_ok (e_bin (o := .mul) mul_ok (e_slot 3 (pv 3)) (e_slot 3 (pv 3))) (e_bin (o := .mul) mul_ok (e_slot 1 (pv 1)) e_int)) e_int) l_nil)) e_int))
  (s_cons (s_set (o := false) (i := 5) sc__law_next.nd rfl (.inl rfl) (e_bin (o := .mod) mod_ok (e_bltT (i := 1) int_ok (by rfl) n_int (by rfl) (l_cons (e_bin (o := .add) add_ok (e_bin (o := .add) add_ok (e_bin (o := .mul) mul_ok (e_slot 4 (pv 4)) (e_slot 4 (pv 4))) (e_slot 3 (pv 3))) (e_bin (o := .mul) mul_ok (e_bin (o := .mul) mul_ok (e_slot 1 (pv 1)) (e_slot 1 (pv 1))) e_int)) l_nil)) e_int))
  (s_cons (s_ret (e_bin (o := .add) add_ok (e_bin (o := .mul) mul_ok (e_bin (o := .add) add_ok (e_bin (o := .mul) mul_ok (e_slot 5 (pv 5)) e_int) (e_slot 4 (pv 4))) e_int) (e_slot 3 (pv 3))))
  s_nil)))))))))
theorem d__law_draw (ft : Fit (cxOf (L2.CX P w) P w K mg base N__law_draw "_law_draw" (defScope st__law_draw) fa cdv A l s H E)) (tk : Takes (cxOf (L2.CX P w) P w K mg base N__law_draw "_law_draw" (defScope st__law_draw) fa cdv A l s H E) (fun cls d _ H => E cls d H)) (n_int : mg "int" = none) (c__law_next : Callee (cxOf (L2.CX P w) P w K mg base N__law_draw "_law_draw" (defScope st__law_draw) fa cdv A l s H E) (cnN (bc0 bc fuel) fns k) 13 "_law_next") : PSs (cxOf (L2.CX P w) P w K mg base N__law_draw "_law_draw" (defScope st__law_draw) fa cdv A l s H E) (defBody st__law_draw) (Txs (cnN (bc0 bc fuel) fns k) K (fun cls d _ H => E cls d H) body__law_draw) :=
  (s_cons (s_ifs (t_cmp (o := .lt) lt_ok ltD_b (e_ix (e_slot 0 (pv 0)) e_int) (e_slot 1 (pv 1)) (nomark _)) (s_cons (s_setix (e_call ⟨c__law_next.ex⟩ ⟨ft.gd, ft.rm⟩ tk (by rfl) (l_cons (e_slot 0 (pv 0)) l_nil)) (e_slot 0 (pv 0)) e_int)
  s_nil) s_nil)
  (s_cons (s_set (o := false) (i := 2) sc__law_draw.nd rfl (.inl rfl) (e_bin (o := .mod) mod_ok (e_bltT (i := 1) int_ok (by rfl) n_int (by rfl) (l_cons (e_ix (e_slot 0 (pv 0)) e_int) l_nil)) (e_slot 1 (pv 1))))
  (s_cons (s_setix (e_bin (o := .fdiv) fdiv_ok (e_ix (e_slot 0 (pv 0)) e_int) (e_slot 1 (pv 1))) (e_slot 0 (pv 0)) e_int)
  (s_cons (s_ret (e_slot 2 (pv 2)))
  s_nil))))
theorem d__law_clause (ft : Fit (cxOf (L2.CX P w) P w K mg base N__law_clause "_law_clause" (defScope st__law_clause) fa cdv A l s H E)) (tk : Takes (cxOf (L2.CX P w) P w K mg base N__law_clause "_law_clause" (defScope st__law_clause) fa cdv A l s H E) (fun cls d _ H => E cls d H)) (n_sorted : mg "sorted" = none) (n_tuple : mg "tuple" = none) (n_range : mg "range" = none) (n_min : mg "min" = none) (n_len : mg "len" = none) (n_list : mg "list" = none) (c__law_draw : Callee (cxOf (L2.CX P w) P w K mg base N__law_clause "_law_clause" (defScope st__law_clause) fa cdv A l s H E) (cnN (bc0 bc fuel) fns k) 14 "_law_draw") : PSs (cxOf (L2.CX P w) P w K mg base N__law_clause "_law_clause" (defScope st__law_clause) fa cdv A l s H E) (defBody st__law_clause) (Txs (cnN (bc0 bc fuel) fns k) K (fun cls d _ H => E cls d H) body__law_clause) :=
  (s_cons (s_par2 (i := 2) (j := 3) rfl sc__law_clause.nd rfl rfl (by decide) rfl rfl (lo_cons (o := true) (e_lrng2 (i := 13) rfl rfl (by rfl) n_list (by rfl) n_range e_int (e_bin (o := .add) add_ok (e_slot 1 (pv 1)) e_int)) (lo_cons (o := true) (e_lst l_nil) lo_nil)) (by rfl))
  (s_cons (s_for (passes_of rfl) rfl (i_rng1 (by rfl) n_range (e_blt (i := 5) (min_ok rfl) (by rfl) n_min (by rfl) (l_cons (e_ix (e_lst (l_cons e_int (l_cons e_int (l_cons e_int (l_cons e_int (l_cons e_int (l_cons e_int l_nil))))))) (e_call ⟨c__law_draw.ex⟩ ⟨ft.gd, ft.rm⟩ tk (by rfl) (l_cons (e_slot 0 (pv 0)) (l_cons e_int l_nil)))) (l_cons (e_slot 1 (pv 1)) l_nil)))) (g_nm (pg_name (i := 4) sc__law_clause.nd rfl (.inl rfl))) (s_cons (s_set (o := false) (i := 5) sc__law_clause.nd rfl (.inl rfl) (e_meth (i := 2) (pop_ok rfl rfl) PySem.F.plainAttrs_list PySem.F.slot_list_pop PySem.F.type_list_pop (e_slot 2 (pv 2)) (l_cons (e_call ⟨c__law_draw.ex⟩ ⟨ft.gd, ft.rm⟩ tk (by rfl) (l_cons (e_slot 0 (pv 0)) (l_cons (e_blt (i := 0) len_ok (by rfl) n_len (by rfl) (l_cons (e_slot 2 (pv 2)) l_nil)) l_nil))) l_nil)))
  (s_cons (s_expr (e_meth (i := 0) (append_ok rfl rfl) PySem.F.plainAttrs_list PySem.F.slot_list_append PySem.F.type_list_append (e_slot 3 (pv 3)) (l_cons (e_ife (t_cmp (o := .eq) (eq_ok ⟨ft.gd, ft.rm⟩) eqD_b (e_call ⟨c__law_draw.ex⟩ ⟨ft.gd, ft.rm⟩ tk (by rfl) (l_cons (e_slot 0 (pv 0)) (l_cons e_int l_nil))) e_int (nomark _)) (e_slot 5 (pv 5)) (e_neg (e_slot 5 (pv 5)))) l_nil)))
  s_nil)))
  (s_cons (s_ret (e_bltT (i := 3) tuple_ok (by rfl) n_tuple (by rfl) (l_cons (e_blt (i := 9) sorted_ok (by rfl) n_sorted (by rfl) (l_cons (e_slot 3 (pv 3)) l_nil)) l_nil)))
  s_nil)))
theorem d__law_part (ft : Fit (cxOf (L2.CX P w) P w K mg base N__law_part "_law_part" (defScope st__law_part) fa cdv A l s H E)) (tk : Takes (cxOf (L2.CX P w) P w K mg base N__law_part "_law_part" (defScope st__law_part) fa cdv A l s H E) (fun cls d _ H => E cls d H)) (n_tuple : mg "tuple" = none) (n_range : mg "range" = none) (c__law_draw : Callee (cxOf (L2.CX P w) P w K mg base N__law_part "_law_part" (defScope st__law_part) fa cdv A l s H E) (cnN (bc0 bc fuel) fns k) 14 "_law_draw") (c__law_clause : Callee (cxOf (L2.CX P w) P w K mg base N__law_part "_law_part" (defScope st__law_part) fa cdv A l s H E) (cnN (bc0 bc fuel) fns k) 15 "_law_clause") : PSs (cxOf (L2.CX P w) P w K mg base N__law_part "_law_part" (defScope st__law_part) fa cdv A l s H E) (defBody st__law_part) (Txs (cnN (bc0 bc fuel) fns k) K (fun cls d _ H => E cls d H) body__law_part) :=
  (s_cons (s_set (o := true) (i := 3) sc__law_part.nd rfl (.inl rfl) (e_lst l_nil))
  (s_cons (s_for (passes_of rfl) rfl (i_rng1 (by rfl) n_range (e_call ⟨c__law_draw.ex⟩ ⟨ft.gd, ft.rm⟩ tk (by rfl) (l_cons (e_slot 0 (pv 0)) (l_cons (e_bin (o := .add) add_ok (e_slot 2 (pv 2)) e_int) l_nil)))) (g_nm (pg_name (i := 4) sc__law_part.nd rfl (.inl rfl))) (s_cons (s_set (o := false) (i := 5) sc__law_part.nd rfl (.inl rfl) (e_call ⟨c__law_clause.ex⟩ ⟨ft.gd, ft.rm⟩ tk (by rfl) (l_cons (e_slot 0 (pv 0)) (l_cons (e_slot 1 (pv 1)) l_nil))))
  (s_cons (s_ifs (t_cmp (o := .notin) (notin_ok ⟨ft.gd, ft.rm⟩) notinD_b (e_slot 5 (pv 5)) (e_slot 3 (pv 3)) (by with_unfolding_all rfl)) (s_cons (s_expr (e_meth (i := 0) (append_ok rfl rfl) PySem.F.plainAttrs_list PySem.F.slot_list_append PySem.F.type_list_append (e_slot 3 (pv 3)) (l_cons (e_slot 5 (pv 5)) l_nil)))
  s_nil) s_nil)
  s_nil)))
  (s_cons (s_ret (e_bltT (i := 3) tuple_ok (by rfl) n_tuple (by rfl) (l_cons (e_slot 3 (pv 3)) l_nil)))
  s_nil)))
theorem d__law_typed (ft : Fit (cxOf (L2.CX P w) P w K mg base N__law_typed "_law_typed" (defScope st__law_typed) fa cdv A l s H E)) (tk : Takes (cxOf (L2.CX P w) P w K mg base N__law_typed "_law_typed" (defScope st__law_typed) fa cdv A l s H E) (fun cls d _ H => E cls d H)) : PSs (cxOf (L2.CX P w) P w K mg base N__law_typed "_law_typed" (defScope st__law_typed) fa cdv A l s H E) (defBody st__law_typed) (Txs (cnN (bc0 bc fuel) fns k) K (fun cls d _ H => E cls d H) body__law_typed) :=
  (s_cons (s_set (o := false) (i := 0) sc__law_typed.nd rfl (.inl rfl) (e_tup (l_cons e_int (l_cons e_int (l_cons (e_tup l_nil) (l_cons (e_tup (l_cons (e_tup (l_cons (e_neg e_int) (l_cons e_int l_nil))) l_nil)) (l_cons (e_tup (l_cons (e_tup (l_cons (e_neg e_int) (l_cons e_int l_nil))) (l_cons (e_tup (l_cons (e_neg e_int) (l_cons (e_neg e_int) l_nil))) l_nil))) (l_cons (e_tup l_nil) l_nil))))))))
  (s_cons (s_set (o := false) (i := 1) sc__law_typed.nd rfl (.inl rfl) (e_tup (l_cons e_int (l_cons e_int (l_cons (e_tup l_nil) (l_cons (e_tup (l_cons (e_tup (l_cons (e_neg e_int) (l_cons e_int l_nil))) l_nil)) (l_cons (e_tup (l_cons (e_tup (l_cons (e_neg e_int) (l_cons e_int l_nil))) (l_cons (e_tup (l_cons (e_neg e_int) (l_cons (e_neg e_int) (l_cons e_int l_nil)))) (l_cons (e_tup (l_cons (e_neg e_int) (l_cons (e_neg e_int) (l_cons (e_neg e_int) l_nil)))) l_nil)))) (l_cons (e_tup l_nil) l_nil))))))))
  (s_cons (s_set (o := false) (i := 2) sc__law_typed.nd rfl (.inl rfl) (e_tup (l_cons (e_tup (l_cons (e_neg e_int) (l_cons e_int (l_cons e_int l_nil)))) (l_cons (e_tup (l_cons (e_neg e_int) (l_cons (e_neg e_int) (l_cons (e_neg e_int) l_nil)))) (l_cons (e_tup (l_cons (e_neg e_int) (l_cons e_int (l_cons e_int l_nil)))) (l_cons (e_tup (l_cons (e_neg e_int) (l_cons e_int (l_cons e_int l_nil)))) l_nil))))))
  (s_cons (s_set (o := false) (i := 3) sc__law_typed.nd rfl (.inl rfl) (e_tup (l_cons e_int (l_cons e_int (l_cons (e_tup (l_cons (e_tup (l_cons (e_neg e_int) (l_cons e_int l_nil))) (l_cons (e_tup (l_cons (e_neg e_int) (l_cons e_int l_nil))) l_nil))) (l_cons (e_tup l_nil) (l_cons (e_slot 2 (pv 2)) (l_cons (e_tup (l_cons (e_tup (l_cons (e_neg e_int) l_nil)) l_nil)) l_nil))))))))
  (s_cons (s_set (o := false) (i := 4) sc__law_typed.nd rfl (.inl rfl) (e_tup (l_cons e_int (l_cons e_int (l_cons (e_tup l_nil) (l_cons (e_tup (l_cons (e_tup (l_cons (e_neg e_int) (l_cons e_int l_nil))) (l_cons (e_tup (l_cons (e_neg e_int) (l_cons e_int l_nil))) l_nil))) (l_cons (e_tup (l_cons (e_tup (l_cons (e_neg e_int) (l_cons e_int l_nil))) (l_cons (e_tup (l_cons (e_neg e_int) (l_cons e_int l_nil))) (l_cons (e_tup (l_cons (e_neg e_int) (l_cons (e_neg e_int) (l_cons e_int l_nil)))) (l_cons (e_tup (l_cons (e_neg e_int) (l_cons (e_neg e_int) l_nil))) l_nil))))) (l_cons (e_tup l_nil) l_nil))))))))
  (s_cons (s_set (o := false) (i := 5) sc__law_typed.nd rfl (.inl rfl) (e_tup (l_cons e_int (l_cons e_int (l_cons (e_tup l_nil) (l_cons (e_tup (l_cons (e_tup (l_cons (e_neg e_int) (l_cons e_int l_nil))) l_nil)) (l_cons (e_tup (l_cons (e_tup (l_cons (e_neg e_int) (l_cons e_int l_nil))) (l_cons (e_tup (l_cons (e_neg e_int) (l_cons e_int l_nil))) l_nil))) (l_cons (e_tup (l_cons (e_tup (l_cons e_int (l_cons e_int l_nil))) l_nil)) l_nil))))))))
  (s_cons (s_ret (e_lst (l_cons (e_slot 0 (pv 0)) (l_cons (e_slot 1 (pv 1)) (l_cons (e_slot 3 (pv 3)) (l_cons (e_slot 4 (pv 4)) (l_cons (e_slot 5 (pv 5)) l_nil)))))))
  s_nil)))))))
theorem d__law_writing (ft : Fit (cxOf (L2.CX P w) P w K mg base N__law_writing "_law_writing" (defScope st__law_writing) fa cdv A l s H E)) (tk : Takes (cxOf (L2.CX P w) P w K mg base N__law_writing "_law_writing" (defScope st__law_writing) fa cdv A l s H E) (fun cls d _ H => E cls d H)) (n_min : mg "min" = none) (n_len : mg "len" = none) (c__law_part : Callee (cxOf (L2.CX P w) P w K mg base N__law_writing "_law_writing" (defScope st__law_writing) fa cdv A l s H E) (cnN (bc0 bc fuel) fns k) 16 "_law_part") (c__law_draw : Callee (cxOf (L2.CX P w) P w K mg base N__law_writing "_law_writing" (defScope st__law_writing) fa cdv A l s H E) (cnN (bc0 bc fuel) fns k) 14 "_law_draw") (c__law_typed : Callee (cxOf (L2.CX P w) P w K mg base N__law_writing "_law_writing" (defScope st__law_writing) fa cdv A l s H E) (cnN (bc0 bc fuel) fns k) 17 "_law_typed") : PSs (cxOf (L2.CX P w) P w K mg base N__law_writing "_law_writing" (defScope st__law_writing) fa cdv A l s H E) (defBody st__law_writing) (Txs (cnN (bc0 bc fuel) fns k) K (fun cls d _ H => E cls d H) body__law_writing) :=
  (s_cons (s_setLc (ow := [("some", 8)]) (o := false) rfl sc__law_writing.nd (i := 3) rfl rfl (by rfl) (i_seq (e_call0 ⟨c__law_typed.ex⟩ ⟨ft.gd, ft.rm⟩ tk (by rfl))) (blkOk_by (own := [("some", 8)]) (N := N__law_writing) (sc := defScope st__law_writing) (by decide +kernel)) (by decide) (fun _ _ _ _ _ => (g_nm (pg_name (i := 8) sc__law_writing.nd rfl (.inl rfl)))) (fun _ _ _ _ _ => (c_one (t_cmp (o := .le) le_ok leD_b (e_ix (e_slot 8 (pv 8)) e_int) (e_slot 1 (pv 1)) (nomark _)))) (fun _ _ _ _ _ => (e_slot 8 (pv 8))))
  (s_cons (s_ifs (t_cmp (o := .eq) (eq_ok ⟨ft.gd, ft.rm⟩) eqD_b (e_call ⟨c__law_draw.ex⟩ ⟨ft.gd, ft.rm⟩ tk (by rfl) (l_cons (e_slot 0 (pv 0)) (l_cons e_int l_nil))) e_int (nomark _)) (s_cons (s_ret (e_ix (e_slot 3 (pv 3)) (e_call ⟨c__law_draw.ex⟩ ⟨ft.gd, ft.rm⟩ tk (by rfl) (l_cons (e_slot 0 (pv 0)) (l_cons (e_blt (i := 0) len_ok (by rfl) n_len (by rfl) (l_cons (e_slot 3 (pv 3)) l_nil)) l_nil)))))
  s_nil) s_nil)
  (s_cons (s_set (o := false) (i := 4) sc__law_writing.nd rfl (.inl rfl) (e_blt (i := 5) (min_ok rfl) (by rfl) n_min (by rfl) (l_cons (e_ix (e_lst (l_cons e_int (l_cons e_int (l_cons e_int l_nil)))) (e_call ⟨c__law_draw.ex⟩ ⟨ft.gd, ft.rm⟩ tk (by rfl) (l_cons (e_slot 0 (pv 0)) (l_cons e_int l_nil)))) (l_cons (e_slot 1 (pv 1)) l_nil))))
  (s_cons (s_set (o := false) (i := 5) sc__law_writing.nd rfl (.inl rfl) (e_blt (i := 5) (min_ok rfl) (by rfl) n_min (by rfl) (l_cons (e_slot 1 (pv 1)) (l_cons (e_bin (o := .add) add_ok (e_slot 4 (pv 4)) (e_call ⟨c__law_draw.ex⟩ ⟨ft.gd, ft.rm⟩ tk (by rfl) (l_cons (e_slot 0 (pv 0)) (l_cons e_int l_nil)))) l_nil))))
  (s_cons (s_par2 (i := 6) (j := 7) rfl sc__law_writing.nd rfl rfl (by decide) rfl rfl (lo_cons (o := false) (e_call ⟨c__law_part.ex⟩ ⟨ft.gd, ft.rm⟩ tk (by rfl) (l_cons (e_slot 0 (pv 0)) (l_cons (e_slot 5 (pv 5)) (l_cons e_int l_nil)))) (lo_cons (o := false) (e_call ⟨c__law_part.ex⟩ ⟨ft.gd, ft.rm⟩ tk (by rfl) (l_cons (e_slot 0 (pv 0)) (l_cons (e_slot 5 (pv 5)) (l_cons (e_slot 2 (pv 2)) l_nil)))) lo_nil)) (by rfl))
  (s_cons (s_ret (e_tup (l_cons (e_slot 4 (pv 4)) (l_cons (e_slot 5 (pv 5)) (l_cons (e_slot 6 (pv 6)) (l_cons (e_slot 7 (pv 7)) (l_cons (e_call ⟨c__law_part.ex⟩ ⟨ft.gd, ft.rm⟩ tk (by rfl) (l_cons (e_slot 0 (pv 0)) (l_cons (e_bin (o := .mul) mul_ok e_int (e_slot 5 (pv 5))) (l_cons (e_slot 2 (pv 2)) l_nil)))) (l_cons (e_call ⟨c__law_part.ex⟩ ⟨ft.gd, ft.rm⟩ tk (by rfl) (l_cons (e_slot 0 (pv 0)) (l_cons (e_slot 5 (pv 5)) (l_cons e_int l_nil)))) l_nil))))))))
  s_nil))))))
theorem d__law_moved (ft : Fit (cxOf (L2.CX P w) P w K mg base N__law_moved "_law_moved" (defScope st__law_moved) fa cdv A l s H E)) (tk : Takes (cxOf (L2.CX P w) P w K mg base N__law_moved "_law_moved" (defScope st__law_moved) fa cdv A l s H E) (fun cls d _ H => E cls d H)) (n_tuple : mg "tuple" = none) : PSs (cxOf (L2.CX P w) P w K mg base N__law_moved "_law_moved" (defScope st__law_moved) fa cdv A l s H E) (defBody st__law_moved) (Txs (cnN (bc0 bc fuel) fns k) K (fun cls d _ H => E cls d H) body__law_moved) :=
  (s_cons (s_set (o := true) (i := 2) sc__law_moved.nd rfl (.inl rfl) (e_lst l_nil))
  (s_cons (s_for (passes_of rfl) rfl (i_seq (e_slot 0 (pv 0))) (g_nm (pg_name (i := 3) sc__law_moved.nd rfl (.inl rfl))) (s_cons (s_expr (e_meth (i := 0) (append_ok rfl rfl) PySem.F.plainAttrs_list PySem.F.slot_list_append PySem.F.type_list_append (e_slot 2 (pv 2)) (l_cons (e_ife (t_cmp (o := .gt) gt_ok gtD_b (e_slot 3 (pv 3)) e_int (nomark _)) (e_bin (o := .add) add_ok (e_slot 3 (pv 3)) (e_slot 1 (pv 1))) (e_bin (o := .sub) sub_ok (e_slot 3 (pv 3)) (e_slot 1 (pv 1)))) l_nil)))
  s_nil))
  (s_cons (s_ret (e_bltT (i := 3) tuple_ok (by rfl) n_tuple (by rfl) (l_cons (e_slot 2 (pv 2)) l_nil)))
  s_nil)))
theorem d__law_flat (ft : Fit (cxOf (L2.CX P w) P w K mg base N__law_flat "_law_flat" (defScope st__law_flat) fa cdv A l s H E)) (tk : Takes (cxOf (L2.CX P w) P w K mg base N__law_flat "_law_flat" (defScope st__law_flat) fa cdv A l s H E) (fun cls d _ H => E cls d H)) (n_range : mg "range" = none) (c__law_moved : Callee (cxOf (L2.CX P w) P w K mg base N__law_flat "_law_flat" (defScope st__law_flat) fa cdv A l s H E) (cnN (bc0 bc fuel) fns k) 19 "_law_moved") : PSs (cxOf (L2.CX P w) P w K mg base N__law_flat "_law_flat" (defScope st__law_flat) fa cdv A l s H E) (defBody st__law_flat) (Txs (cnN (bc0 bc fuel) fns k) K (fun cls d _ H => E cls d H) body__law_flat) :=
  (s_cons (s_asgs rfl (lo_cons (o := false) (e_ix (e_slot 0 (pv 0)) e_int) (lo_cons (o := true) (e_comp (ow := [("clause", 7)]) rfl sc__law_flat.nd (i_seq (e_ix (e_slot 0 (pv 0)) e_int)) (blkOk_by (own := [("clause", 7)]) (N := N__law_flat) (sc := defScope st__law_flat) (by decide +kernel)) (by decide) (fun _ _ _ _ _ => (g_nm (pg_name (i := 7) sc__law_flat.nd rfl (.inl rfl)))) (fun _ _ _ _ _ => c_nil) (fun _ _ _ _ _ => (e_slot 7 (pv 7)))) lo_nil)) (gs_cons (pg_name (i := 2) sc__law_flat.nd rfl (.inr rfl)) (gs_cons (pg_name (i := 3) sc__law_flat.nd rfl (.inl rfl)) gs_nil)))
  (s_cons (s_for (passes_of rfl) rfl (i_seq (e_tup (l_cons (e_tup (l_cons e_int (l_cons e_int l_nil))) (l_cons (e_tup (l_cons e_int (l_cons e_int l_nil))) l_nil)))) (g_tp rfl (gs_cons (pg_name (i := 4) sc__law_flat.nd rfl (.inl rfl)) (gs_cons (pg_name (i := 5) sc__law_flat.nd rfl (.inl rfl)) gs_nil))) (s_cons (s_for (passes_of rfl) rfl (i_rng1 (by rfl) n_range (e_bin (o := .sub) sub_ok (e_slot 1 (pv 1)) (e_slot 5 (pv 5)))) (g_nm (pg_name (i := 6) sc__law_flat.nd rfl (.inr rfl))) (s_cons (s_expr (e_meth (i := 1) (extend_ok rfl rfl) PySem.F.plainAttrs_list PySem.F.slot_list_extend PySem.F.type_list_extend (e_slot 3 (pv 3)) (l_cons (e_comp (ow := [("clause", 7)]) rfl sc__law_flat.nd (i_seq (e_ix (e_slot 0 (pv 0)) (e_slot 4 (pv 4)))) (blkOk_by (own := [("clause", 7)]) (N := N__law_flat) (sc := defScope st__law_flat) (by decide +kernel)) (by decide) (fun _ _ _ _ _ => (g_nm (pg_name (i := 7) sc__law_flat.nd rfl (.inl rfl)))) (fun _ _ _ _ _ => c_nil) (fun _ _ _ _ _ => (e_call ⟨c__law_moved.ex⟩ ⟨ft.gd, ft.rm⟩ takesB (by rfl) (l_cons (e_slot 7 (pv 7)) (l_cons (e_bin (o := .mul) mul_ok (e_slot 2 (pv 2)) (e_slot 6 (pv 6))) l_nil))))) l_nil)))
  s_nil))
  s_nil))
  (s_cons (s_ret (e_bin (o := .add) add_ok (e_slot 3 (pv 3)) (e_comp (ow := [("clause", 7)]) rfl sc__law_flat.nd (i_seq (e_ix (e_slot 0 (pv 0)) e_int)) (blkOk_by (own := [("clause", 7)]) (N := N__law_flat) (sc := defScope st__law_flat) (by decide +kernel)) (by decide) (fun _ _ _ _ _ => (g_nm (pg_name (i := 7) sc__law_flat.nd rfl (.inl rfl)))) (fun _ _ _ _ _ => c_nil) (fun _ _ _ _ _ => (e_call ⟨c__law_moved.ex⟩ ⟨ft.gd, ft.rm⟩ takesB (by rfl) (l_cons (e_slot 7 (pv 7)) (l_cons (e_bin (o := .mul) mul_ok (e_slot 2 (pv 2)) (e_bin (o := .sub) sub_ok (e_slot 1 (pv 1)) e_int)) l_nil)))))))
  s_nil)))
theorem d__law_cost (ft : Fit (cxOf (L2.CX P w) P w K mg base N__law_cost "_law_cost" (defScope st__law_cost) fa cdv A l s H E)) (tk : Takes (cxOf (L2.CX P w) P w K mg base N__law_cost "_law_cost" (defScope st__law_cost) fa cdv A l s H E) (fun cls d _ H => E cls d H)) (n_len : mg "len" = none) : PSs (cxOf (L2.CX P w) P w K mg base N__law_cost "_law_cost" (defScope st__law_cost) fa cdv A l s H E) (defBody st__law_cost) (Txs (cnN (bc0 bc fuel) fns k) K (fun cls d _ H => E cls d H) body__law_cost) :=
  (s_cons (s_set (o := false) (i := 2) sc__law_cost.nd rfl (.inl rfl) (e_bin (o := .add) add_ok (e_blt (i := 0) len_ok (by rfl) n_len (by rfl) (l_cons (e_ix (e_slot 0 (pv 0)) e_int) l_nil)) (e_blt (i := 0) len_ok (by rfl) n_len (by rfl) (l_cons (e_ix (e_slot 0 (pv 0)) e_int) l_nil))))
  (s_cons (s_ret (e_tup (l_cons (e_bin (o := .mul) mul_ok (e_slot 1 (pv 1)) (e_ix (e_slot 0 (pv 0)) e_int)) (l_cons (e_bin (o := .add) add_ok (e_bin (o := .add) add_ok (e_slot 2 (pv 2)) (e_bin (o := .mul) mul_ok (e_slot 1 (pv 1)) (e_blt (i := 0) len_ok (by rfl) n_len (by rfl) (l_cons (e_ix (e_slot 0 (pv 0)) e_int) l_nil)))) (e_bin (o := .mul) mul_ok (e_bin (o := .sub) sub_ok (e_slot 1 (pv 1)) e_int) (e_blt (i := 0) len_ok (by rfl) n_len (by rfl) (l_cons (e_ix (e_slot 0 (pv 0)) e_int) l_nil)))) l_nil))))
  s_nil))
theorem d_law (ft : Fit (cxOf (L2.CX P w) P w K mg base N_law "law" (defScope st_law) fa cdv A l s H E)) (tk : Takes (cxOf (L2.CX P w) P w K mg base N_law "law" (defScope st_law) fa cdv A l s H E) (fun cls d _ H => E cls d H)) (n_len : mg "len" = none) (n_repr : mg "repr" = none) (n_range : mg "range" = none) (c_flat : Callee (cxOf (L2.CX P w) P w K mg base N_law "law" (defScope st_law) fa cdv A l s H E) (cnN (bc0 bc fuel) fns k) 10 "flat") (c_cost : Callee (cxOf (L2.CX P w) P w K mg base N_law "law" (defScope st_law) fa cdv A l s H E) (cnN (bc0 bc fuel) fns k) 11 "cost") (c__law_flat : Callee (cxOf (L2.CX P w) P w K mg base N_law "law" (defScope st_law) fa cdv A l s H E) (cnN (bc0 bc fuel) fns k) 20 "_law_flat") (c__law_writing : Callee (cxOf (L2.CX P w) P w K mg base N_law "law" (defScope st_law) fa cdv A l s H E) (cnN (bc0 bc fuel) fns k) 18 "_law_writing") (c__law_cost : Callee (cxOf (L2.CX P w) P w K mg base N_law "law" (defScope st_law) fa cdv A l s H E) (cnN (bc0 bc fuel) fns k) 21 "_law_cost") (c__law_draw : Callee (cxOf (L2.CX P w) P w K mg base N_law "law" (defScope st_law) fa cdv A l s H E) (cnN (bc0 bc fuel) fns k) 14 "_law_draw") (c__law_pen : Callee (cxOf (L2.CX P w) P w K mg base N_law "law" (defScope st_law) fa cdv A l s H E) (cnN (bc0 bc fuel) fns k) 12 "_law_pen") : PSs (cxOf (L2.CX P w) P w K mg base N_law "law" (defScope st_law) fa cdv A l s H E) (defBody st_law) (Txs (cnN (bc0 bc fuel) fns k) K (fun cls d _ H => E cls d H) body_law) :=
  (s_cons (s_set (o := true) (i := 1) sc_law.nd rfl (.inl rfl) (e_call ⟨c__law_pen.ex⟩ ⟨ft.gd, ft.rm⟩ tk (by rfl) (l_cons (e_slot 0 (pv 0)) l_nil)))
  (s_cons (s_for (passes_of rfl) rfl (i_rng1 (by rfl) n_range e_int) (g_nm (pg_name (i := 2) sc_law.nd rfl (.inl rfl))) (s_cons (s_par2 (i := 3) (j := 4) rfl sc_law.nd rfl rfl (by decide) rfl rfl (lo_cons (o := false) (e_call ⟨c__law_writing.ex⟩ ⟨ft.gd, ft.rm⟩ tk (by rfl) (l_cons (e_slot 1 (pv 1)) (l_cons e_int (l_cons e_int l_nil)))) (lo_cons (o := false) (e_bin (o := .add) add_ok e_int (e_call ⟨c__law_draw.ex⟩ ⟨ft.gd, ft.rm⟩ tk (by rfl) (l_cons (e_slot 1 (pv 1)) (l_cons e_int l_nil)))) lo_nil)) (by rfl))
  (s_cons (s_par2 (i := 5) (j := 6) rfl sc_law.nd rfl rfl (by decide) rfl rfl (lo_cons (o := false) (e_blt (i := 10) (show_ok ⟨ft.gd, ft.rm⟩) (by rfl) n_repr (by rfl) (l_cons (e_slot 3 (pv 3)) l_nil)) (lo_cons (o := false) (e_call ⟨c__law_flat.ex⟩ ⟨ft.gd, ft.rm⟩ tk (by rfl) (l_cons (e_slot 3 (pv 3)) (l_cons (e_slot 4 (pv 4)) l_nil))) lo_nil)) (by rfl))
  (s_cons (s_set (o := true) (i := 7) sc_law.nd rfl (.inl rfl) (e_call ⟨c_flat.ex⟩ ⟨ft.gd, ft.rm⟩ tk (by rfl) (l_cons (e_slot 3 (pv 3)) (l_cons (e_slot 4 (pv 4)) l_nil))))
  (s_cons (s_ifs (w_or (t_cmp (o := .ne) (ne_ok ⟨ft.gd, ft.rm⟩) neD_b (e_blt (i := 10) (show_ok ⟨ft.gd, ft.rm⟩) (by rfl) n_repr (by rfl) (l_cons (e_slot 7 (pv 7)) l_nil)) (e_blt (i := 10) (show_ok ⟨ft.gd, ft.rm⟩) (by rfl) n_repr (by rfl) (l_cons (e_slot 6 (pv 6)) l_nil)) (nomark _)) (w_or1 (t_cmp (o := .ne) (ne_ok ⟨ft.gd, ft.rm⟩) neD_b (e_blt (i := 10) (show_ok ⟨ft.gd, ft.rm⟩) (by rfl) n_repr (by rfl) (l_cons (e_call ⟨c_cost.ex⟩ ⟨ft.gd, ft.rm⟩ tk (by rfl) (l_cons (e_slot 3 (pv 3)) (l_cons (e_slot 4 (pv 4)) l_nil))) l_nil)) (e_blt (i := 10) (show_ok ⟨ft.gd, ft.rm⟩) (by rfl) n_repr (by rfl) (l_cons (e_tup (l_cons (e_bin (o := .mul) mul_ok (e_slot 4 (pv 4)) (e_ix (e_slot 3 (pv 3)) e_int)) (l_cons (e_blt (i := 0) len_ok (by rfl) n_len (by rfl) (l_cons (e_slot 6 (pv 6)) l_nil)) l_nil))) l_nil)) (nomark _)))).pt (s_cons (s_ret e_bl)
  s_nil) s_nil)
  (s_cons (s_expr (e_meth (i := 0) (append_ok rfl rfl) PySem.F.plainAttrs_list PySem.F.slot_list_append PySem.F.type_list_append (e_slot 7 (pv 7)) (l_cons (e_tup (l_cons e_int l_nil)) l_nil)))
  (s_cons (s_setix e_non (e_slot 7 (pv 7)) e_int)
  (s_cons (s_ifs (w_or (t_cmp (o := .ne) (ne_ok ⟨ft.gd, ft.rm⟩) neD_b (e_blt (i := 10) (show_ok ⟨ft.gd, ft.rm⟩) (by rfl) n_repr (by rfl) (l_cons (e_call ⟨c_flat.ex⟩ ⟨ft.gd, ft.rm⟩ tk (by rfl) (l_cons (e_slot 3 (pv 3)) (l_cons (e_slot 4 (pv 4)) l_nil))) l_nil)) (e_blt (i := 10) (show_ok ⟨ft.gd, ft.rm⟩) (by rfl) n_repr (by rfl) (l_cons (e_slot 6 (pv 6)) l_nil)) (nomark _)) (w_or1 (t_cmp (o := .ne) (ne_ok ⟨ft.gd, ft.rm⟩) neD_b (e_blt (i := 10) (show_ok ⟨ft.gd, ft.rm⟩) (by rfl) n_repr (by rfl) (l_cons (e_slot 3 (pv 3)) l_nil)) (e_slot 5 (pv 5)) (nomark _)))).pt (s_cons (s_ret e_bl)
  s_nil) s_nil)
  (s_cons (s_set (o := false) (i := 8) sc_law.nd rfl (.inl rfl) (e_bin (o := .add) add_ok e_int (e_bin (o := .fdiv) fdiv_ok (e_bin (o := .mul) mul_ok (e_call ⟨c__law_draw.ex⟩ ⟨ft.gd, ft.rm⟩ tk (by rfl) (l_cons (e_slot 1 (pv 1)) (l_cons (e_bin (o := .pow) pow_ok e_int e_int) l_nil))) e_int) (e_bin (o := .add) add_ok e_int (e_call ⟨c__law_draw.ex⟩ ⟨ft.gd, ft.rm⟩ tk (by rfl) (l_cons (e_slot 1 (pv 1)) (l_cons (e_bin (o := .pow) pow_ok e_int e_int) l_nil)))))))
  (s_cons (s_for (passes_of rfl) rfl (i_seq (e_tup (l_cons (e_slot 8 (pv 8)) (l_cons (e_bin (o := .sub) sub_ok (e_bin (o := .pow) pow_ok e_int e_int) e_int) (l_cons (e_bin (o := .add) add_ok (e_bin (o := .pow) pow_ok e_int e_int) (e_slot 4 (pv 4))) l_nil))))) (g_nm (pg_name (i := 9) sc_law.nd rfl (.inl rfl))) (s_cons (s_ifs (t_cmp (o := .ne) (ne_ok ⟨ft.gd, ft.rm⟩) neD_b (e_blt (i := 10) (show_ok ⟨ft.gd, ft.rm⟩) (by rfl) n_repr (by rfl) (l_cons (e_call ⟨c_cost.ex⟩ ⟨ft.gd, ft.rm⟩ tk (by rfl) (l_cons (e_slot 3 (pv 3)) (l_cons (e_slot 9 (pv 9)) l_nil))) l_nil)) (e_blt (i := 10) (show_ok ⟨ft.gd, ft.rm⟩) (by rfl) n_repr (by rfl) (l_cons (e_call ⟨c__law_cost.ex⟩ ⟨ft.gd, ft.rm⟩ tk (by rfl) (l_cons (e_slot 3 (pv 3)) (l_cons (e_slot 9 (pv 9)) l_nil))) l_nil)) (nomark _)) (s_cons (s_ret e_bl)
  s_nil) s_nil)
  s_nil))
  s_nil))))))))))
  (s_cons (s_set (o := false) (i := 3) sc_law.nd rfl (.inl rfl) (e_tup (l_cons e_int (l_cons e_int (l_cons (e_tup (l_cons (e_tup (l_cons e_int l_nil)) (l_cons (e_tup (l_cons (e_neg e_int) (l_cons e_int l_nil))) l_nil))) (l_cons (e_tup l_nil) (l_cons (e_tup l_nil) (l_cons (e_tup (l_cons (e_tup (l_cons e_int l_nil)) (l_cons (e_tup (l_cons (e_neg e_int) l_nil)) l_nil))) l_nil))))))))
  (s_cons (s_ifs (w_or (t_cmp (o := .ne) (ne_ok ⟨ft.gd, ft.rm⟩) neD_b (e_call ⟨c_flat.ex⟩ ⟨ft.gd, ft.rm⟩ tk (by rfl) (l_cons (e_slot 3 (pv 3)) (l_cons e_int l_nil))) (e_lst (l_cons (e_tup (l_cons e_int l_nil)) (l_cons (e_tup (l_cons (e_neg e_int) (l_cons e_int l_nil))) (l_cons (e_tup (l_cons e_int l_nil)) (l_cons (e_tup (l_cons (e_neg e_int) l_nil)) l_nil))))) (nomark _)) (w_or1 (t_cmp (o := .ne) (ne_ok ⟨ft.gd, ft.rm⟩) neD_b (e_call ⟨c_cost.ex⟩ ⟨ft.gd, ft.rm⟩ tk (by rfl) (l_cons (e_slot 3 (pv 3)) (l_cons (e_bin (o := .pow) pow_ok e_int e_int) l_nil))) (e_tup (l_cons (e_bin (o := .mul) mul_ok e_int (e_bin (o := .pow) pow_ok e_int e_int)) (l_cons e_int l_nil))) (nomark _)))).pt (s_cons (s_ret e_bl)
  s_nil) s_nil)
  (s_cons (s_set (o := false) (i := 3) sc_law.nd rfl (.inl rfl) (e_call ⟨c__law_writing.ex⟩ ⟨ft.gd, ft.rm⟩ tk (by rfl) (l_cons (e_slot 1 (pv 1)) (l_cons e_int (l_cons e_int l_nil)))))
  (s_cons (s_ret (e_and (e_cmp (o := .eq) (eq_ok ⟨ft.gd, ft.rm⟩) (e_blt (i := 10) (show_ok ⟨ft.gd, ft.rm⟩) (by rfl) n_repr (by rfl) (l_cons (e_call ⟨c_flat.ex⟩ ⟨ft.gd, ft.rm⟩ tk (by rfl) (l_cons (e_slot 3 (pv 3)) (l_cons e_int l_nil))) l_nil)) (e_blt (i := 10) (show_ok ⟨ft.gd, ft.rm⟩) (by rfl) n_repr (by rfl) (l_cons (e_call ⟨c__law_flat.ex⟩ ⟨ft.gd, ft.rm⟩ tk (by rfl) (l_cons (e_slot 3 (pv 3)) (l_cons e_int l_nil))) l_nil)) (nomark _)) (e_one (e_cmp (o := .eq) (eq_ok ⟨ft.gd, ft.rm⟩) (e_blt (i := 0) len_ok (by rfl) n_len (by rfl) (l_cons (e_call ⟨c_flat.ex⟩ ⟨ft.gd, ft.rm⟩ tk (by rfl) (l_cons (e_slot 3 (pv 3)) (l_cons e_int l_nil))) l_nil)) (e_ix (e_call ⟨c_cost.ex⟩ ⟨ft.gd, ft.rm⟩ tk (by rfl) (l_cons (e_slot 3 (pv 3)) (l_cons e_int l_nil))) e_int) (nomark _)))))
  s_nil))))))
end
structure Tb (P : Program) (w : World) (K : PySem.W.Frag) (mg : Str → Option Value) (base : Heap) (bc : Nat → Addr) (fuel k : Nat) (fa_is_integer fa_is_between fa_check_from_one fa_is_literal fa_is_clause fa_is_part fa_is_writing fa_check_writing fa_moved fa_spread fa_flat fa_cost fa__law_pen fa__law_next fa__law_draw fa__law_clause fa__law_part fa__law_typed fa__law_writing fa__law_moved fa__law_flat fa__law_cost fa_law : Addr) (fd_is_integer fd_is_between fd_check_from_one fd_is_literal fd_is_clause fd_is_part fd_is_writing fd_check_writing fd_moved fd_spread fd_flat fd_cost fd__law_pen fd__law_next fd__law_draw fd__law_clause fd__law_part fd__law_typed fd__law_writing fd__law_moved fd__law_flat fd__law_cost fd_law : FuncData) : Prop where
  g_is_integer : GnOk P w K mg base k fa_is_integer fd_is_integer P_is_integer (SpOf (cnN (bc0 bc fuel) fns k) K 0)
  g_is_between : GnOk P w K mg base k fa_is_between fd_is_between P_is_between (SpOf (cnN (bc0 bc fuel) fns k) K 1)
  g_check_from_one : GnOk P w K mg base k fa_check_from_one fd_check_from_one P_check_from_one (SpOf (cnN (bc0 bc fuel) fns k) K 2)
  g_is_literal : GnOk P w K mg base k fa_is_literal fd_is_literal P_is_literal (SpOf (cnN (bc0 bc fuel) fns k) K 3)
  g_is_clause : GnOk P w K mg base k fa_is_clause fd_is_clause P_is_clause (SpOf (cnN (bc0 bc fuel) fns k) K 4)
  g_is_part : GnOk P w K mg base k fa_is_part fd_is_part P_is_part (SpOf (cnN (bc0 bc fuel) fns k) K 5)
  g_is_writing : GnOk P w K mg base k fa_is_writing fd_is_writing P_is_writing (SpOf (cnN (bc0 bc fuel) fns k) K 6)
  g_check_writing : GnOk P w K mg base k fa_check_writing fd_check_writing P_check_writing (SpOf (cnN (bc0 bc fuel) fns k) K 7)
  g_moved : GnOk P w K mg base k fa_moved fd_moved P_moved (SpOf (cnN (bc0 bc fuel) fns k) K 8)
  g_spread : GnOk P w K mg base k fa_spread fd_spread P_spread (SpOf (cnN (bc0 bc fuel) fns k) K 9)
  g_flat : GnOk P w K mg base k fa_flat fd_flat P_flat (SpOf (cnN (bc0 bc fuel) fns k) K 10)
  g_cost : GnOk P w K mg base k fa_cost fd_cost P_cost (SpOf (cnN (bc0 bc fuel) fns k) K 11)
  g__law_pen : GnOk P w K mg base k fa__law_pen fd__law_pen P__law_pen (SpOf (cnN (bc0 bc fuel) fns k) K 12)
  g__law_next : GnOk P w K mg base k fa__law_next fd__law_next P__law_next (SpOf (cnN (bc0 bc fuel) fns k) K 13)
  g__law_draw : GnOk P w K mg base k fa__law_draw fd__law_draw P__law_draw (SpOf (cnN (bc0 bc fuel) fns k) K 14)
  g__law_clause : GnOk P w K mg base k fa__law_clause fd__law_clause P__law_clause (SpOf (cnN (bc0 bc fuel) fns k) K 15)
  g__law_part : GnOk P w K mg base k fa__law_part fd__law_part P__law_part (SpOf (cnN (bc0 bc fuel) fns k) K 16)
  g__law_typed : GnOk P w K mg base k fa__law_typed fd__law_typed P__law_typed (SpOf (cnN (bc0 bc fuel) fns k) K 17)
  g__law_writing : GnOk P w K mg base k fa__law_writing fd__law_writing P__law_writing (SpOf (cnN (bc0 bc fuel) fns k) K 18)
  g__law_moved : GnOk P w K mg base k fa__law_moved fd__law_moved P__law_moved (SpOf (cnN (bc0 bc fuel) fns k) K 19)
  g__law_flat : GnOk P w K mg base k fa__law_flat fd__law_flat P__law_flat (SpOf (cnN (bc0 bc fuel) fns k) K 20)
  g__law_cost : GnOk P w K mg base k fa__law_cost fd__law_cost P__law_cost (SpOf (cnN (bc0 bc fuel) fns k) K 21)
  g_law : GnOk P w K mg base k fa_law fd_law P_law (SpOf (cnN (bc0 bc fuel) fns k) K 22)
theorem tb {P : Program} {w : World} {K : PySem.W.Frag} {mg : Str → Option Value} {base : Heap} {bc : Nat → Addr} {fuel : Nat} {fa_is_integer fa_is_between fa_check_from_one fa_is_literal fa_is_clause fa_is_part fa_is_writing fa_check_writing fa_moved fa_spread fa_flat fa_cost fa__law_pen fa__law_next fa__law_draw fa__law_clause fa__law_part fa__law_typed fa__law_writing fa__law_moved fa__law_flat fa__law_cost fa_law : Addr} {fd_is_integer fd_is_between fd_check_from_one fd_is_literal fd_is_clause fd_is_part fd_is_writing fd_check_writing fd_moved fd_spread fd_flat fd_cost fd__law_pen fd__law_next fd__law_draw fd__law_clause fd__law_part fd__law_typed fd__law_writing fd__law_moved fd__law_flat fd__law_cost fd_law : FuncData} (M : Mg mg) (D_is_integer : Df K mg "is_integer" st_is_integer P_is_integer fa_is_integer fd_is_integer) (D_is_between : Df K mg "is_between" st_is_between P_is_between fa_is_between fd_is_between) (D_check_from_one : Df K mg "check_from_one" st_check_from_one P_check_from_one fa_check_from_one fd_check_from_one) (D_is_literal : Df K mg "is_literal" st_is_literal P_is_literal fa_is_literal fd_is_literal) (D_is_clause : Df K mg "is_clause" st_is_clause P_is_clause fa_is_clause fd_is_clause) (D_is_part : Df K mg "is_part" st_is_part P_is_part fa_is_part fd_is_part) (D_is_writing : Df K mg "is_writing" st_is_writing P_is_writing fa_is_writing fd_is_writing) (D_check_writing : Df K mg "check_writing" st_check_writing P_check_writing fa_check_writing fd_check_writing) (D_moved : Df K mg "moved" st_moved P_moved fa_moved fd_moved) (D_spread : Df K mg "spread" st_spread P_spread fa_spread fd_spread) (D_flat : Df K mg "flat" st_flat P_flat fa_flat fd_flat) (D_cost : Df K mg "cost" st_cost P_cost fa_cost fd_cost) (D__law_pen : Df K mg "_law_pen" st__law_pen P__law_pen fa__law_pen fd__law_pen) (D__law_next : Df K mg "_law_next" st__law_next P__law_next fa__law_next fd__law_next) (D__law_draw : Df K mg "_law_draw" st__law_draw P__law_draw fa__law_draw fd__law_draw) (D__law_clause : Df K mg "_law_clause" st__law_clause P__law_clause fa__law_clause fd__law_clause) (D__law_part : Df K mg "_law_part" st__law_part P__law_part fa__law_part fd__law_part) (D__law_typed : Df K mg "_law_typed" st__law_typed P__law_typed fa__law_typed fd__law_typed) (D__law_writing : Df K mg "_law_writing" st__law_writing P__law_writing fa__law_writing fd__law_writing) (D__law_moved : Df K mg "_law_moved" st__law_moved P__law_moved fa__law_moved fd__law_moved) (D__law_flat : Df K mg "_law_flat" st__law_flat P__law_flat fa__law_flat fd__law_flat) (D__law_cost : Df K mg "_law_cost" st__law_cost P__law_cost fa__law_cost fd__law_cost) (D_law : Df K mg "law" st_law P_law fa_law fd_law) : ∀ k, Tb P w K mg base bc fuel k fa_is_integer fa_is_between fa_check_from_one fa_is_literal fa_is_clause fa_is_part fa_is_writing fa_check_writing fa_moved fa_spread fa_flat fa_cost fa__law_pen fa__law_next fa__law_draw fa__law_clause fa__law_part fa__law_typed fa__law_writing fa__law_moved fa__law_flat fa__law_cost fa_law fd_is_integer fd_is_between fd_check_from_one fd_is_literal fd_is_clause fd_is_part fd_is_writing fd_check_writing fd_moved fd_spread fd_flat fd_cost fd__law_pen fd__law_next fd__law_draw fd__law_clause fd__law_part fd__law_typed fd__law_writing fd__law_moved fd__law_flat fd__law_cost fd_law
  | 0 => ⟨fn_zero, fn_zero, fn_zero, fn_zero, fn_zero, fn_zero, fn_zero, fn_zero, fn_zero, fn_zero, fn_zero, fn_zero, fn_zero, fn_zero, fn_zero, fn_zero, fn_zero, fn_zero, fn_zero, fn_zero, fn_zero, fn_zero, fn_zero⟩
  | k + 1 => by
    have T := tb (P := P) (w := w) (base := base) (bc := bc) (fuel := fuel) M D_is_integer D_is_between D_check_from_one D_is_literal D_is_clause D_is_part D_is_writing D_check_writing D_moved D_spread D_flat D_cost D__law_pen D__law_next D__law_draw D__law_clause D__law_part D__law_typed D__law_writing D__law_moved D__law_flat D__law_cost D_law k
    exact ⟨
      fn_ok D_is_integer.fn sc_is_integer rfl fun cdv A l s H E gd rm tk => d_is_integer ⟨gd, rm.mono (Nat.zero_le _)⟩ tk M.n_bool M.n_isinstance M.n_int,
      fn_ok D_is_between.fn sc_is_between rfl fun cdv A l s H E gd rm tk => d_is_between ⟨gd, rm.mono (Nat.zero_le _)⟩ tk (D_is_integer.callee T.g_is_integer rm),
      fn_ok D_check_from_one.fn sc_check_from_one rfl fun cdv A l s H E gd rm tk => d_check_from_one ⟨gd, rm.mono (Nat.zero_le _)⟩ tk (D_is_integer.callee T.g_is_integer rm),
      fn_ok D_is_literal.fn sc_is_literal rfl fun cdv A l s H E gd rm tk => d_is_literal ⟨gd, rm.mono (Nat.zero_le _)⟩ tk M.n_abs (D_is_integer.callee T.g_is_integer rm),
      fn_ok D_is_clause.fn sc_is_clause rfl fun cdv A l s H E gd rm tk => d_is_clause ⟨gd, rm.mono (Nat.zero_le _)⟩ tk M.n_list M.n_sorted M.n_abs M.n_len M.n_all M.v_MOST_LITERALS M.n_tuple M.n_isinstance (D_is_literal.callee T.g_is_literal rm),
      fn_ok D_is_part.fn sc_is_part rfl fun cdv A l s H E gd rm tk => d_is_part ⟨gd, rm.mono (Nat.zero_le _)⟩ tk M.n_len M.n_set M.n_all M.v_MOST_CLAUSES M.n_tuple M.n_isinstance (D_is_clause.callee T.g_is_clause rm),
      fn_ok D_is_writing.fn sc_is_writing rfl fun cdv A l s H E gd rm tk => d_is_writing ⟨gd, rm.mono (Nat.zero_le _)⟩ tk M.n_all M.v_MOST_SIGNS M.v_MOST_INPUTS M.n_len M.n_tuple M.n_isinstance (D_is_part.callee T.g_is_part rm) (D_is_between.callee T.g_is_between rm),
      fn_ok D_check_writing.fn sc_check_writing rfl fun cdv A l s H E gd rm tk => d_check_writing ⟨gd, rm.mono (Nat.zero_le _)⟩ tk (D_is_writing.callee T.g_is_writing rm),
      fn_ok D_moved.fn sc_moved rfl fun cdv A l s H E gd rm tk => d_moved ⟨gd, rm.mono (Nat.zero_le _)⟩ tk M.n_tuple,
      fn_ok D_spread.fn sc_spread rfl fun cdv A l s H E gd rm tk => d_spread ⟨gd, rm.mono (Nat.zero_le _)⟩ tk M.n_range (D_moved.callee T.g_moved rm),
      fn_ok D_flat.fn sc_flat rfl fun cdv A l s H E gd rm tk => d_flat ⟨gd, rm.mono (Nat.zero_le _)⟩ tk M.n_list (D_spread.callee T.g_spread rm) (D_moved.callee T.g_moved rm) (D_check_from_one.callee T.g_check_from_one rm) (D_check_writing.callee T.g_check_writing rm),
      fn_ok D_cost.fn sc_cost rfl fun cdv A l s H E gd rm tk => d_cost ⟨gd, rm.mono (Nat.zero_le _)⟩ tk M.n_len (D_check_from_one.callee T.g_check_from_one rm) (D_check_writing.callee T.g_check_writing rm),
      fn_ok D__law_pen.fn sc__law_pen rfl fun cdv A l s H E gd rm tk => d__law_pen ⟨gd, rm.mono (Nat.zero_le _)⟩ tk M.n_list,
      fn_ok D__law_next.fn sc__law_next rfl fun cdv A l s H E gd rm tk => d__law_next ⟨gd, rm.mono (Nat.zero_le _)⟩ tk M.n_int M.n_len,
      fn_ok D__law_draw.fn sc__law_draw rfl fun cdv A l s H E gd rm tk => d__law_draw ⟨gd, rm.mono (Nat.zero_le _)⟩ tk M.n_int (D__law_next.callee T.g__law_next rm),
      fn_ok D__law_clause.fn sc__law_clause rfl fun cdv A l s H E gd rm tk => d__law_clause ⟨gd, rm.mono (Nat.zero_le _)⟩ tk M.n_sorted M.n_tuple M.n_range M.n_min M.n_len M.n_list (D__law_draw.callee T.g__law_draw rm),
      fn_ok D__law_part.fn sc__law_part rfl fun cdv A l s H E gd rm tk => d__law_part ⟨gd, rm.mono (Nat.zero_le _)⟩ tk M.n_tuple M.n_range (D__law_draw.callee T.g__law_draw rm) (D__law_clause.callee T.g__law_clause rm),
      fn_ok D__law_typed.fn sc__law_typed rfl fun cdv A l s H E gd rm tk => d__law_typed ⟨gd, rm.mono (Nat.zero_le _)⟩ tk,
      fn_ok D__law_writing.fn sc__law_writing rfl fun cdv A l s H E gd rm tk => d__law_writing ⟨gd, rm.mono (Nat.zero_le _)⟩ tk M.n_min M.n_len (D__law_part.callee T.g__law_part rm) (D__law_draw.callee T.g__law_draw rm) (D__law_typed.callee T.g__law_typed rm),
      fn_ok D__law_moved.fn sc__law_moved rfl fun cdv A l s H E gd rm tk => d__law_moved ⟨gd, rm.mono (Nat.zero_le _)⟩ tk M.n_tuple,
      fn_ok D__law_flat.fn sc__law_flat rfl fun cdv A l s H E gd rm tk => d__law_flat ⟨gd, rm.mono (Nat.zero_le _)⟩ tk M.n_range (D__law_moved.callee T.g__law_moved rm),
      fn_ok D__law_cost.fn sc__law_cost rfl fun cdv A l s H E gd rm tk => d__law_cost ⟨gd, rm.mono (Nat.zero_le _)⟩ tk M.n_len,
      fn_ok D_law.fn sc_law rfl fun cdv A l s H E gd rm tk => d_law ⟨gd, rm.mono (Nat.zero_le _)⟩ tk M.n_len M.n_repr M.n_range (D_flat.callee T.g_flat rm) (D_cost.callee T.g_cost rm) (D__law_flat.callee T.g__law_flat rm) (D__law_writing.callee T.g__law_writing rm) (D__law_cost.callee T.g__law_cost rm) (D__law_draw.callee T.g__law_draw rm) (D__law_pen.callee T.g__law_pen rm)⟩
theorem all_mk {l : PySem.W.OpenLaw} {w : World} {K : PySem.W.Frag} {h : Heap} {mg : Str → Option Value} {fa f_is_integer f_is_between f_check_from_one f_is_literal f_is_clause f_is_part f_is_writing f_check_writing f_moved f_spread f_flat f_cost f__law_pen f__law_next f__law_draw f__law_clause f__law_part f__law_typed f__law_writing f__law_moved f__law_flat f__law_cost f_law : Addr} {bc : Nat → Addr} {fuel : Nat} (X : K.In h) (G : h.Ns mainGlobals mg) (hfa : mg "law" = some (.ref fa))
    {od_is_integer an_is_integer : Option Addr} {sl_is_integer : Array (Option Value)} {oc_is_integer kV_is_integer dc_is_integer pm_is_integer cd_is_integer ct_is_integer : Value}
    (a_is_integer : PySem.W.nsIn K mainGlobals "is_integer" = some (some (.ref f_is_integer))) (l_is_integer : K.lookup f_is_integer = some ⟨oc_is_integer, od_is_integer, .func (PySem.W.fnOf "is_integer" "is_integer" (defArgs st_is_integer) (defBody st_is_integer) (defScope st_is_integer) .none kV_is_integer dc_is_integer pm_is_integer an_is_integer cd_is_integer ct_is_integer), sl_is_integer⟩) (c_is_integer : PySem.W.codeIn K cd_is_integer "is_integer" = true) (k_is_integer : PySem.W.keepIn K (.ref f_is_integer) = true)
    {od_is_between an_is_between : Option Addr} {sl_is_between : Array (Option Value)} {oc_is_between kV_is_between dc_is_between pm_is_between cd_is_between ct_is_between : Value}
    (a_is_between : PySem.W.nsIn K mainGlobals "is_between" = some (some (.ref f_is_between))) (l_is_between : K.lookup f_is_between = some ⟨oc_is_between, od_is_between, .func (PySem.W.fnOf "is_between" "is_between" (defArgs st_is_between) (defBody st_is_between) (defScope st_is_between) .none kV_is_between dc_is_between pm_is_between an_is_between cd_is_between ct_is_between), sl_is_between⟩) (c_is_between : PySem.W.codeIn K cd_is_between "is_between" = true) (k_is_between : PySem.W.keepIn K (.ref f_is_between) = true)
    {od_check_from_one an_check_from_one : Option Addr} {sl_check_from_one : Array (Option Value)} {oc_check_from_one kV_check_from_one dc_check_from_one pm_check_from_one cd_check_from_one ct_check_from_one : Value}
    (a_check_from_one : PySem.W.nsIn K mainGlobals "check_from_one" = some (some (.ref f_check_from_one))) (l_check_from_one : K.lookup f_check_from_one = some ⟨oc_check_from_one, od_check_from_one, .func (PySem.W.fnOf "check_from_one" "check_from_one" (defArgs st_check_from_one) (defBody st_check_from_one) (defScope st_check_from_one) .none kV_check_from_one dc_check_from_one pm_check_from_one an_check_from_one cd_check_from_one ct_check_from_one), sl_check_from_one⟩) (c_check_from_one : PySem.W.codeIn K cd_check_from_one "check_from_one" = true) (k_check_from_one : PySem.W.keepIn K (.ref f_check_from_one) = true)
    {od_is_literal an_is_literal : Option Addr} {sl_is_literal : Array (Option Value)} {oc_is_literal kV_is_literal dc_is_literal pm_is_literal cd_is_literal ct_is_literal : Value}
    (a_is_literal : PySem.W.nsIn K mainGlobals "is_literal" = some (some (.ref f_is_literal))) (l_is_literal : K.lookup f_is_literal = some ⟨oc_is_literal, od_is_literal, .func (PySem.W.fnOf "is_literal" "is_literal" (defArgs st_is_literal) (defBody st_is_literal) (defScope st_is_literal) .none kV_is_literal dc_is_literal pm_is_literal an_is_literal cd_is_literal ct_is_literal), sl_is_literal⟩) (c_is_literal : PySem.W.codeIn K cd_is_literal "is_literal" = true) (k_is_literal : PySem.W.keepIn K (.ref f_is_literal) = true)
    {od_is_clause an_is_clause : Option Addr} {sl_is_clause : Array (Option Value)} {oc_is_clause kV_is_clause dc_is_clause pm_is_clause cd_is_clause ct_is_clause : Value}
    (a_is_clause : PySem.W.nsIn K mainGlobals "is_clause" = some (some (.ref f_is_clause))) (l_is_clause : K.lookup f_is_clause = some ⟨oc_is_clause, od_is_clause, .func (PySem.W.fnOf "is_clause" "is_clause" (defArgs st_is_clause) (defBody st_is_clause) (defScope st_is_clause) .none kV_is_clause dc_is_clause pm_is_clause an_is_clause cd_is_clause ct_is_clause), sl_is_clause⟩) (c_is_clause : PySem.W.codeIn K cd_is_clause "is_clause" = true) (k_is_clause : PySem.W.keepIn K (.ref f_is_clause) = true)
    {od_is_part an_is_part : Option Addr} {sl_is_part : Array (Option Value)} {oc_is_part kV_is_part dc_is_part pm_is_part cd_is_part ct_is_part : Value}
    (a_is_part : PySem.W.nsIn K mainGlobals "is_part" = some (some (.ref f_is_part))) (l_is_part : K.lookup f_is_part = some ⟨oc_is_part, od_is_part, .func (PySem.W.fnOf "is_part" "is_part" (defArgs st_is_part) (defBody st_is_part) (defScope st_is_part) .none kV_is_part dc_is_part pm_is_part an_is_part cd_is_part ct_is_part), sl_is_part⟩) (c_is_part : PySem.W.codeIn K cd_is_part "is_part" = true) (k_is_part : PySem.W.keepIn K (.ref f_is_part) = true)
    {od_is_writing an_is_writing : Option Addr} {sl_is_writing : Array (Option Value)} {oc_is_writing kV_is_writing dc_is_writing pm_is_writing cd_is_writing ct_is_writing : Value}
    (a_is_writing : PySem.W.nsIn K mainGlobals "is_writing" = some (some (.ref f_is_writing))) (l_is_writing : K.lookup f_is_writing = some ⟨oc_is_writing, od_is_writing, .func (PySem.W.fnOf "is_writing" "is_writing" (defArgs st_is_writing) (defBody st_is_writing) (defScope st_is_writing) .none kV_is_writing dc_is_writing pm_is_writing an_is_writing cd_is_writing ct_is_writing), sl_is_writing⟩) (c_is_writing : PySem.W.codeIn K cd_is_writing "is_writing" = true) (k_is_writing : PySem.W.keepIn K (.ref f_is_writing) = true)
    {od_check_writing an_check_writing : Option Addr} {sl_check_writing : Array (Option Value)} {oc_check_writing kV_check_writing dc_check_writing pm_check_writing cd_check_writing ct_check_writing : Value}
    (a_check_writing : PySem.W.nsIn K mainGlobals "check_writing" = some (some (.ref f_check_writing))) (l_check_writing : K.lookup f_check_writing = some ⟨oc_check_writing, od_check_writing, .func (PySem.W.fnOf "check_writing" "check_writing" (defArgs st_check_writing) (defBody st_check_writing) (defScope st_check_writing) .none kV_check_writing dc_check_writing pm_check_writing an_check_writing cd_check_writing ct_check_writing), sl_check_writing⟩) (c_check_writing : PySem.W.codeIn K cd_check_writing "check_writing" = true) (k_check_writing : PySem.W.keepIn K (.ref f_check_writing) = true)
    {od_moved an_moved : Option Addr} {sl_moved : Array (Option Value)} {oc_moved kV_moved dc_moved pm_moved cd_moved ct_moved : Value}
    (a_moved : PySem.W.nsIn K mainGlobals "moved" = some (some (.ref f_moved))) (l_moved : K.lookup f_moved = some ⟨oc_moved, od_moved, .func (PySem.W.fnOf "moved" "moved" (defArgs st_moved) (defBody st_moved) (defScope st_moved) .none kV_moved dc_moved pm_moved an_moved cd_moved ct_moved), sl_moved⟩) (c_moved : PySem.W.codeIn K cd_moved "moved" = true) (k_moved : PySem.W.keepIn K (.ref f_moved) = true)
    {od_spread an_spread : Option Addr} {sl_spread : Array (Option Value)} {oc_spread kV_spread dc_spread pm_spread cd_spread ct_spread : Value}
    (a_spread : PySem.W.nsIn K mainGlobals "spread" = some (some (.ref f_spread))) (l_spread : K.lookup f_spread = some ⟨oc_spread, od_spread, .func (PySem.W.fnOf "spread" "spread" (defArgs st_spread) (defBody st_spread) (defScope st_spread) .none kV_spread dc_spread pm_spread an_spread cd_spread ct_spread), sl_spread⟩) (c_spread : PySem.W.codeIn K cd_spread "spread" = true) (k_spread : PySem.W.keepIn K (.ref f_spread) = true)
    {od_flat an_flat : Option Addr} {sl_flat : Array (Option Value)} {oc_flat kV_flat dc_flat pm_flat cd_flat ct_flat : Value}
    (a_flat : PySem.W.nsIn K mainGlobals "flat" = some (some (.ref f_flat))) (l_flat : K.lookup f_flat = some ⟨oc_flat, od_flat, .func (PySem.W.fnOf "flat" "flat" (defArgs st_flat) (defBody st_flat) (defScope st_flat) .none kV_flat dc_flat pm_flat an_flat cd_flat ct_flat), sl_flat⟩) (c_flat : PySem.W.codeIn K cd_flat "flat" = true) (k_flat : PySem.W.keepIn K (.ref f_flat) = true)
    {od_cost an_cost : Option Addr} {sl_cost : Array (Option Value)} {oc_cost kV_cost dc_cost pm_cost cd_cost ct_cost : Value}
    (a_cost : PySem.W.nsIn K mainGlobals "cost" = some (some (.ref f_cost))) (l_cost : K.lookup f_cost = some ⟨oc_cost, od_cost, .func (PySem.W.fnOf "cost" "cost" (defArgs st_cost) (defBody st_cost) (defScope st_cost) .none kV_cost dc_cost pm_cost an_cost cd_cost ct_cost), sl_cost⟩) (c_cost : PySem.W.codeIn K cd_cost "cost" = true) (k_cost : PySem.W.keepIn K (.ref f_cost) = true)
    {od__law_pen an__law_pen : Option Addr} {sl__law_pen : Array (Option Value)} {oc__law_pen kV__law_pen dc__law_pen pm__law_pen cd__law_pen ct__law_pen : Value}
    (a__law_pen : PySem.W.nsIn K mainGlobals "_law_pen" = some (some (.ref f__law_pen))) (l__law_pen : K.lookup f__law_pen = some ⟨oc__law_pen, od__law_pen, .func (PySem.W.fnOf "_law_pen" "_law_pen" (defArgs st__law_pen) (defBody st__law_pen) (defScope st__law_pen) .none kV__law_pen dc__law_pen pm__law_pen an__law_pen cd__law_pen ct__law_pen), sl__law_pen⟩) (c__law_pen : PySem.W.codeIn K cd__law_pen "_law_pen" = true) (k__law_pen : PySem.W.keepIn K (.ref f__law_pen) = true)
    {od__law_next an__law_next : Option Addr} {sl__law_next : Array (Option Value)} {oc__law_next kV__law_next dc__law_next pm__law_next cd__law_next ct__law_next : Value}
    (a__law_next : PySem.W.nsIn K mainGlobals "_law_next" = some (some (.ref f__law_next))) (l__law_next : K.lookup f__law_next = some ⟨oc__law_next, od__law_next, .func (PySem.W.fnOf "_law_next" "_law_next" (defArgs st__law_next) (defBody st__law_next) (defScope st__law_next) .none kV__law_next dc__law_next pm__law_next an__law_next cd__law_next ct__law_next), sl__law_next⟩) (c__law_next : PySem.W.codeIn K cd__law_next "_law_next" = true) (k__law_next : PySem.W.keepIn K (.ref f__law_next) = true)
    {od__law_draw an__law_draw : Option Addr} {sl__law_draw : Array (Option Value)} {oc__law_draw kV__law_draw dc__law_draw pm__law_draw cd__law_draw ct__law_draw : Value}
    (a__law_draw : PySem.W.nsIn K mainGlobals "_law_draw" = some (some (.ref f__law_draw))) (l__law_draw : K.lookup f__law_draw = some ⟨oc__law_draw, od__law_draw, .func (PySem.W.fnOf "_law_draw" "_law_draw" (defArgs st__law_draw) (defBody st__law_draw) (defScope st__law_draw) .none kV__law_draw dc__law_draw pm__law_draw an__law_draw cd__law_draw ct__law_draw), sl__law_draw⟩) (c__law_draw : PySem.W.codeIn K cd__law_draw "_law_draw" = true) (k__law_draw : PySem.W.keepIn K (.ref f__law_draw) = true)
    {od__law_clause an__law_clause : Option Addr} {sl__law_clause : Array (Option Value)} {oc__law_clause kV__law_clause dc__law_clause pm__law_clause cd__law_clause ct__law_clause : Value}
    (a__law_clause : PySem.W.nsIn K mainGlobals "_law_clause" = some (some (.ref f__law_clause))) (l__law_clause : K.lookup f__law_clause = some ⟨oc__law_clause, od__law_clause, .func (PySem.W.fnOf "_law_clause" "_law_clause" (defArgs st__law_clause) (defBody st__law_clause) (defScope st__law_clause) .none kV__law_clause dc__law_clause pm__law_clause an__law_clause cd__law_clause ct__law_clause), sl__law_clause⟩) (c__law_clause : PySem.W.codeIn K cd__law_clause "_law_clause" = true) (k__law_clause : PySem.W.keepIn K (.ref f__law_clause) = true)
    {od__law_part an__law_part : Option Addr} {sl__law_part : Array (Option Value)} {oc__law_part kV__law_part dc__law_part pm__law_part cd__law_part ct__law_part : Value}
    (a__law_part : PySem.W.nsIn K mainGlobals "_law_part" = some (some (.ref f__law_part))) (l__law_part : K.lookup f__law_part = some ⟨oc__law_part, od__law_part, .func (PySem.W.fnOf "_law_part" "_law_part" (defArgs st__law_part) (defBody st__law_part) (defScope st__law_part) .none kV__law_part dc__law_part pm__law_part an__law_part cd__law_part ct__law_part), sl__law_part⟩) (c__law_part : PySem.W.codeIn K cd__law_part "_law_part" = true) (k__law_part : PySem.W.keepIn K (.ref f__law_part) = true)
    {od__law_typed an__law_typed : Option Addr} {sl__law_typed : Array (Option Value)} {oc__law_typed kV__law_typed dc__law_typed pm__law_typed cd__law_typed ct__law_typed : Value}
    (a__law_typed : PySem.W.nsIn K mainGlobals "_law_typed" = some (some (.ref f__law_typed))) (l__law_typed : K.lookup f__law_typed = some ⟨oc__law_typed, od__law_typed, .func (PySem.W.fnOf "_law_typed" "_law_typed" (defArgs st__law_typed) (defBody st__law_typed) (defScope st__law_typed) .none kV__law_typed dc__law_typed pm__law_typed an__law_typed cd__law_typed ct__law_typed), sl__law_typed⟩) (c__law_typed : PySem.W.codeIn K cd__law_typed "_law_typed" = true) (k__law_typed : PySem.W.keepIn K (.ref f__law_typed) = true)
    {od__law_writing an__law_writing : Option Addr} {sl__law_writing : Array (Option Value)} {oc__law_writing kV__law_writing dc__law_writing pm__law_writing cd__law_writing ct__law_writing : Value}
    (a__law_writing : PySem.W.nsIn K mainGlobals "_law_writing" = some (some (.ref f__law_writing))) (l__law_writing : K.lookup f__law_writing = some ⟨oc__law_writing, od__law_writing, .func (PySem.W.fnOf "_law_writing" "_law_writing" (defArgs st__law_writing) (defBody st__law_writing) (defScope st__law_writing) .none kV__law_writing dc__law_writing pm__law_writing an__law_writing cd__law_writing ct__law_writing), sl__law_writing⟩) (c__law_writing : PySem.W.codeIn K cd__law_writing "_law_writing" = true) (k__law_writing : PySem.W.keepIn K (.ref f__law_writing) = true)
    {od__law_moved an__law_moved : Option Addr} {sl__law_moved : Array (Option Value)} {oc__law_moved kV__law_moved dc__law_moved pm__law_moved cd__law_moved ct__law_moved : Value}
    (a__law_moved : PySem.W.nsIn K mainGlobals "_law_moved" = some (some (.ref f__law_moved))) (l__law_moved : K.lookup f__law_moved = some ⟨oc__law_moved, od__law_moved, .func (PySem.W.fnOf "_law_moved" "_law_moved" (defArgs st__law_moved) (defBody st__law_moved) (defScope st__law_moved) .none kV__law_moved dc__law_moved pm__law_moved an__law_moved cd__law_moved ct__law_moved), sl__law_moved⟩) (c__law_moved : PySem.W.codeIn K cd__law_moved "_law_moved" = true) (k__law_moved : PySem.W.keepIn K (.ref f__law_moved) = true)
    {od__law_flat an__law_flat : Option Addr} {sl__law_flat : Array (Option Value)} {oc__law_flat kV__law_flat dc__law_flat pm__law_flat cd__law_flat ct__law_flat : Value}
    (a__law_flat : PySem.W.nsIn K mainGlobals "_law_flat" = some (some (.ref f__law_flat))) (l__law_flat : K.lookup f__law_flat = some ⟨oc__law_flat, od__law_flat, .func (PySem.W.fnOf "_law_flat" "_law_flat" (defArgs st__law_flat) (defBody st__law_flat) (defScope st__law_flat) .none kV__law_flat dc__law_flat pm__law_flat an__law_flat cd__law_flat ct__law_flat), sl__law_flat⟩) (c__law_flat : PySem.W.codeIn K cd__law_flat "_law_flat" = true) (k__law_flat : PySem.W.keepIn K (.ref f__law_flat) = true)
    {od__law_cost an__law_cost : Option Addr} {sl__law_cost : Array (Option Value)} {oc__law_cost kV__law_cost dc__law_cost pm__law_cost cd__law_cost ct__law_cost : Value}
    (a__law_cost : PySem.W.nsIn K mainGlobals "_law_cost" = some (some (.ref f__law_cost))) (l__law_cost : K.lookup f__law_cost = some ⟨oc__law_cost, od__law_cost, .func (PySem.W.fnOf "_law_cost" "_law_cost" (defArgs st__law_cost) (defBody st__law_cost) (defScope st__law_cost) .none kV__law_cost dc__law_cost pm__law_cost an__law_cost cd__law_cost ct__law_cost), sl__law_cost⟩) (c__law_cost : PySem.W.codeIn K cd__law_cost "_law_cost" = true) (k__law_cost : PySem.W.keepIn K (.ref f__law_cost) = true)
    {od_law an_law : Option Addr} {sl_law : Array (Option Value)} {oc_law kV_law dc_law pm_law cd_law ct_law : Value}
    (a_law : PySem.W.nsIn K mainGlobals "law" = some (some (.ref f_law))) (l_law : K.lookup f_law = some ⟨oc_law, od_law, .func (PySem.W.fnOf "law" "law" (defArgs st_law) (defBody st_law) (defScope st_law) .none kV_law dc_law pm_law an_law cd_law ct_law), sl_law⟩) (c_law : PySem.W.codeIn K cd_law "law" = true) (k_law : PySem.W.keepIn K (.ref f_law) = true)
    (n_bool : PySem.W.nsIn K mainGlobals "bool" = some none)
    (n_isinstance : PySem.W.nsIn K mainGlobals "isinstance" = some none)
    (n_int : PySem.W.nsIn K mainGlobals "int" = some none)
    (n_abs : PySem.W.nsIn K mainGlobals "abs" = some none)
    (n_list : PySem.W.nsIn K mainGlobals "list" = some none)
    (n_sorted : PySem.W.nsIn K mainGlobals "sorted" = some none)
    (n_len : PySem.W.nsIn K mainGlobals "len" = some none)
    (n_all : PySem.W.nsIn K mainGlobals "all" = some none)
    (n_tuple : PySem.W.nsIn K mainGlobals "tuple" = some none)
    (n_set : PySem.W.nsIn K mainGlobals "set" = some none)
    (n_range : PySem.W.nsIn K mainGlobals "range" = some none)
    (n_min : PySem.W.nsIn K mainGlobals "min" = some none)
    (n_repr : PySem.W.nsIn K mainGlobals "repr" = some none)
    {t_MOST_LITERALS : Tok} (v_MOST_LITERALS : PySem.W.nsIn K mainGlobals "MOST_LITERALS" = some (some (.int 4 t_MOST_LITERALS)))
    {t_MOST_CLAUSES : Tok} (v_MOST_CLAUSES : PySem.W.nsIn K mainGlobals "MOST_CLAUSES" = some (some (.int 16 t_MOST_CLAUSES)))
    {t_MOST_SIGNS : Tok} (v_MOST_SIGNS : PySem.W.nsIn K mainGlobals "MOST_SIGNS" = some (some (.int 4 t_MOST_SIGNS)))
    {t_MOST_INPUTS : Tok} (v_MOST_INPUTS : PySem.W.nsIn K mainGlobals "MOST_INPUTS" = some (some (.int 2 t_MOST_INPUTS)))
    (k : Nat) : ∃ fd : FuncData, (∀ (s : Shared) (v : Value), BindsTo s fd ⟨[v], []⟩ [("script", v)]) ∧ ∀ base : Heap, K.In base → base.Ns mainGlobals mg → GnOk l.prog w K mg base k fa fd ["script"] (SpOf (cnN (bc0 bc fuel) fns k) K 22) := by
  have e := hfa.symm.trans (PySem.W.mg_of X G a_law)
  cases e
  have M : Mg mg := ⟨PySem.W.mg_none_of X G n_bool, PySem.W.mg_none_of X G n_isinstance, PySem.W.mg_none_of X G n_int, PySem.W.mg_none_of X G n_abs, PySem.W.mg_none_of X G n_list, PySem.W.mg_none_of X G n_sorted, PySem.W.mg_none_of X G n_len, PySem.W.mg_none_of X G n_all, PySem.W.mg_none_of X G n_tuple, PySem.W.mg_none_of X G n_set, PySem.W.mg_none_of X G n_range, PySem.W.mg_none_of X G n_min, PySem.W.mg_none_of X G n_repr, ⟨_, PySem.W.mg_of X G v_MOST_LITERALS⟩, ⟨_, PySem.W.mg_of X G v_MOST_CLAUSES⟩, ⟨_, PySem.W.mg_of X G v_MOST_SIGNS⟩, ⟨_, PySem.W.mg_of X G v_MOST_INPUTS⟩⟩
  have F_is_integer := fun_mk (st := st_is_integer) l_is_integer c_is_integer k_is_integer
  have D_is_integer : Df K mg "is_integer" st_is_integer P_is_integer _ _ := ⟨F_is_integer, PySem.W.mg_of X G a_is_integer, F_is_integer.kp, F_is_integer.binds (ps := P_is_integer) fun _ _ _ _ _ _ us hl => match us, hl with | [_], _ => rfl⟩
  have F_is_between := fun_mk (st := st_is_between) l_is_between c_is_between k_is_between
  have D_is_between : Df K mg "is_between" st_is_between P_is_between _ _ := ⟨F_is_between, PySem.W.mg_of X G a_is_between, F_is_between.kp, F_is_between.binds (ps := P_is_between) fun _ _ _ _ _ _ us hl => match us, hl with | [_, _, _], _ => rfl⟩
  have F_check_from_one := fun_mk (st := st_check_from_one) l_check_from_one c_check_from_one k_check_from_one
  have D_check_from_one : Df K mg "check_from_one" st_check_from_one P_check_from_one _ _ := ⟨F_check_from_one, PySem.W.mg_of X G a_check_from_one, F_check_from_one.kp, F_check_from_one.binds (ps := P_check_from_one) fun _ _ _ _ _ _ us hl => match us, hl with | [_], _ => rfl⟩
  have F_is_literal := fun_mk (st := st_is_literal) l_is_literal c_is_literal k_is_literal
  have D_is_literal : Df K mg "is_literal" st_is_literal P_is_literal _ _ := ⟨F_is_literal, PySem.W.mg_of X G a_is_literal, F_is_literal.kp, F_is_literal.binds (ps := P_is_literal) fun _ _ _ _ _ _ us hl => match us, hl with | [_, _], _ => rfl⟩
  have F_is_clause := fun_mk (st := st_is_clause) l_is_clause c_is_clause k_is_clause
  have D_is_clause : Df K mg "is_clause" st_is_clause P_is_clause _ _ := ⟨F_is_clause, PySem.W.mg_of X G a_is_clause, F_is_clause.kp, F_is_clause.binds (ps := P_is_clause) fun _ _ _ _ _ _ us hl => match us, hl with | [_, _], _ => rfl⟩
  have F_is_part := fun_mk (st := st_is_part) l_is_part c_is_part k_is_part
  have D_is_part : Df K mg "is_part" st_is_part P_is_part _ _ := ⟨F_is_part, PySem.W.mg_of X G a_is_part, F_is_part.kp, F_is_part.binds (ps := P_is_part) fun _ _ _ _ _ _ us hl => match us, hl with | [_, _], _ => rfl⟩
  have F_is_writing := fun_mk (st := st_is_writing) l_is_writing c_is_writing k_is_writing
  have D_is_writing : Df K mg "is_writing" st_is_writing P_is_writing _ _ := ⟨F_is_writing, PySem.W.mg_of X G a_is_writing, F_is_writing.kp, F_is_writing.binds (ps := P_is_writing) fun _ _ _ _ _ _ us hl => match us, hl with | [_], _ => rfl⟩
  have F_check_writing := fun_mk (st := st_check_writing) l_check_writing c_check_writing k_check_writing
  have D_check_writing : Df K mg "check_writing" st_check_writing P_check_writing _ _ := ⟨F_check_writing, PySem.W.mg_of X G a_check_writing, F_check_writing.kp, F_check_writing.binds (ps := P_check_writing) fun _ _ _ _ _ _ us hl => match us, hl with | [_], _ => rfl⟩
  have F_moved := fun_mk (st := st_moved) l_moved c_moved k_moved
  have D_moved : Df K mg "moved" st_moved P_moved _ _ := ⟨F_moved, PySem.W.mg_of X G a_moved, F_moved.kp, F_moved.binds (ps := P_moved) fun _ _ _ _ _ _ us hl => match us, hl with | [_, _], _ => rfl⟩
  have F_spread := fun_mk (st := st_spread) l_spread c_spread k_spread
  have D_spread : Df K mg "spread" st_spread P_spread _ _ := ⟨F_spread, PySem.W.mg_of X G a_spread, F_spread.kp, F_spread.binds (ps := P_spread) fun _ _ _ _ _ _ us hl => match us, hl with | [_, _, _], _ => rfl⟩
  have F_flat := fun_mk (st := st_flat) l_flat c_flat k_flat
  have D_flat : Df K mg "flat" st_flat P_flat _ _ := ⟨F_flat, PySem.W.mg_of X G a_flat, F_flat.kp, F_flat.binds (ps := P_flat) fun _ _ _ _ _ _ us hl => match us, hl with | [_, _], _ => rfl⟩
  have F_cost := fun_mk (st := st_cost) l_cost c_cost k_cost
  have D_cost : Df K mg "cost" st_cost P_cost _ _ := ⟨F_cost, PySem.W.mg_of X G a_cost, F_cost.kp, F_cost.binds (ps := P_cost) fun _ _ _ _ _ _ us hl => match us, hl with | [_, _], _ => rfl⟩
  have F__law_pen := fun_mk (st := st__law_pen) l__law_pen c__law_pen k__law_pen
  have D__law_pen : Df K mg "_law_pen" st__law_pen P__law_pen _ _ := ⟨F__law_pen, PySem.W.mg_of X G a__law_pen, F__law_pen.kp, F__law_pen.binds (ps := P__law_pen) fun _ _ _ _ _ _ us hl => match us, hl with | [_], _ => rfl⟩
  have F__law_next := fun_mk (st := st__law_next) l__law_next c__law_next k__law_next
  have D__law_next : Df K mg "_law_next" st__law_next P__law_next _ _ := ⟨F__law_next, PySem.W.mg_of X G a__law_next, F__law_next.kp, F__law_next.binds (ps := P__law_next) fun _ _ _ _ _ _ us hl => match us, hl with | [_], _ => rfl⟩
  have F__law_draw := fun_mk (st := st__law_draw) l__law_draw c__law_draw k__law_draw
  have D__law_draw : Df K mg "_law_draw" st__law_draw P__law_draw _ _ := ⟨F__law_draw, PySem.W.mg_of X G a__law_draw, F__law_draw.kp, F__law_draw.binds (ps := P__law_draw) fun _ _ _ _ _ _ us hl => match us, hl with | [_, _], _ => rfl⟩
  have F__law_clause := fun_mk (st := st__law_clause) l__law_clause c__law_clause k__law_clause
  have D__law_clause : Df K mg "_law_clause" st__law_clause P__law_clause _ _ := ⟨F__law_clause, PySem.W.mg_of X G a__law_clause, F__law_clause.kp, F__law_clause.binds (ps := P__law_clause) fun _ _ _ _ _ _ us hl => match us, hl with | [_, _], _ => rfl⟩
  have F__law_part := fun_mk (st := st__law_part) l__law_part c__law_part k__law_part
  have D__law_part : Df K mg "_law_part" st__law_part P__law_part _ _ := ⟨F__law_part, PySem.W.mg_of X G a__law_part, F__law_part.kp, F__law_part.binds (ps := P__law_part) fun _ _ _ _ _ _ us hl => match us, hl with | [_, _, _], _ => rfl⟩
  have F__law_typed := fun_mk (st := st__law_typed) l__law_typed c__law_typed k__law_typed
  have D__law_typed : Df K mg "_law_typed" st__law_typed P__law_typed _ _ := ⟨F__law_typed, PySem.W.mg_of X G a__law_typed, F__law_typed.kp, F__law_typed.binds (ps := P__law_typed) fun _ _ _ _ _ _ us hl => match us, hl with | [], _ => rfl⟩
  have F__law_writing := fun_mk (st := st__law_writing) l__law_writing c__law_writing k__law_writing
  have D__law_writing : Df K mg "_law_writing" st__law_writing P__law_writing _ _ := ⟨F__law_writing, PySem.W.mg_of X G a__law_writing, F__law_writing.kp, F__law_writing.binds (ps := P__law_writing) fun _ _ _ _ _ _ us hl => match us, hl with | [_, _, _], _ => rfl⟩
  have F__law_moved := fun_mk (st := st__law_moved) l__law_moved c__law_moved k__law_moved
  have D__law_moved : Df K mg "_law_moved" st__law_moved P__law_moved _ _ := ⟨F__law_moved, PySem.W.mg_of X G a__law_moved, F__law_moved.kp, F__law_moved.binds (ps := P__law_moved) fun _ _ _ _ _ _ us hl => match us, hl with | [_, _], _ => rfl⟩
  have F__law_flat := fun_mk (st := st__law_flat) l__law_flat c__law_flat k__law_flat
  have D__law_flat : Df K mg "_law_flat" st__law_flat P__law_flat _ _ := ⟨F__law_flat, PySem.W.mg_of X G a__law_flat, F__law_flat.kp, F__law_flat.binds (ps := P__law_flat) fun _ _ _ _ _ _ us hl => match us, hl with | [_, _], _ => rfl⟩
  have F__law_cost := fun_mk (st := st__law_cost) l__law_cost c__law_cost k__law_cost
  have D__law_cost : Df K mg "_law_cost" st__law_cost P__law_cost _ _ := ⟨F__law_cost, PySem.W.mg_of X G a__law_cost, F__law_cost.kp, F__law_cost.binds (ps := P__law_cost) fun _ _ _ _ _ _ us hl => match us, hl with | [_, _], _ => rfl⟩
  have F_law := fun_mk (st := st_law) l_law c_law k_law
  have D_law : Df K mg "law" st_law P_law _ _ := ⟨F_law, PySem.W.mg_of X G a_law, F_law.kp, F_law.binds (ps := P_law) fun _ _ _ _ _ _ us hl => match us, hl with | [_], _ => rfl⟩
  exact ⟨_, fun s v => .of_eq rfl, fun base _ _ => (tb M D_is_integer D_is_between D_check_from_one D_is_literal D_is_clause D_is_part D_is_writing D_check_writing D_moved D_spread D_flat D_cost D__law_pen D__law_next D__law_draw D__law_clause D__law_part D__law_typed D__law_writing D__law_moved D__law_flat D__law_cost D_law k).g_law⟩
end K02
set_option Elab.async false
set_option linter.all false
set_option maxRecDepth 100000
set_option maxHeartbeats 4000000
namespace K02
open PySem PySem.Spec PyProof.Rows L2 Fr
def B : Cn := bc0 (fun _ => 0) 0
def C (n : Nat) : Cn := cnN B fns n
def cl (n f : Nat) (ds : List D) (h : Hs) : R Res := callN B fns n f ds h
theorem cl_succ {n f : Nat} {ds : List D} {h : Hs} : cl (n + 1) f ds h = match fns f with | none => .bad | some F => if ds.length = F.np then fin h.length (exs (C n) F.body (initR F.ns ds) h) else .bad := rfl
section
variable {n : Nat}
theorem C_call : (C n).call = cl n := Eq.trans rfl rfl
theorem C_blt0 : (C n).blt 0 = one lenD := Eq.trans rfl rfl
theorem C_blt1 : (C n).blt 1 = one intD := Eq.trans rfl rfl
theorem C_blt2 : (C n).blt 2 = one absD := Eq.trans rfl rfl
theorem C_blt3 : (C n).blt 3 = one tupD := Eq.trans rfl rfl
theorem C_blt4 : (C n).blt 4 = one listD := Eq.trans rfl rfl
theorem C_blt5 : (C n).blt 5 = two minD := Eq.trans rfl rfl
theorem C_blt6 : (C n).blt 6 = two maxD := Eq.trans rfl rfl
theorem C_blt7 : (C n).blt 7 = one allD := Eq.trans rfl rfl
theorem C_blt8 : (C n).blt 8 = one anyD := Eq.trans rfl rfl
theorem C_blt9 : (C n).blt 9 = one sortedD := Eq.trans rfl rfl
theorem C_blt10 : (C n).blt 10 = one showD := Eq.trans rfl rfl
theorem C_blt11 : (C n).blt 11 = two isiD := Eq.trans rfl rfl
theorem C_blt12 : (C n).blt 12 = one lsetD := Eq.trans rfl rfl
theorem C_blt13 : (C n).blt 13 = two lrngD := Eq.trans rfl rfl
theorem C_m0 : (C n).meth 0 = appendD := Eq.trans rfl rfl
theorem C_m1 : (C n).meth 1 = extendD := Eq.trans rfl rfl
theorem C_m2 : (C n).meth 2 = popD := Eq.trans rfl rfl
theorem C_ty {i : Nat} : (C n).mty i = isListD := Eq.trans rfl rfl
theorem C_add : (C n).bin .add = addD := Eq.trans rfl rfl
theorem C_sub : (C n).bin .sub = subD := Eq.trans rfl rfl
theorem C_mul : (C n).bin .mul = mulD := Eq.trans rfl rfl
theorem C_fdiv : (C n).bin .fdiv = fdivD := Eq.trans rfl rfl
theorem C_mod : (C n).bin .mod = modD := Eq.trans rfl rfl
theorem C_pow : (C n).bin .pow = powD := Eq.trans rfl rfl
theorem C_lt : (C n).cmp .lt = ltD := Eq.trans rfl rfl
theorem C_le : (C n).cmp .le = leD := Eq.trans rfl rfl
theorem C_gt : (C n).cmp .gt = gtD := Eq.trans rfl rfl
theorem C_ge : (C n).cmp .ge = geD := Eq.trans rfl rfl
theorem C_eq : (C n).cmp .eq = eqD := Eq.trans rfl rfl
theorem C_ne : (C n).cmp .ne = neD := Eq.trans rfl rfl
theorem C_in : (C n).cmp .isin = inD := Eq.trans rfl rfl
theorem C_notin : (C n).cmp .notin = notinD := Eq.trans rfl rfl
end
theorem kt1 : kitB "int" "int" = some true := by decide +kernel
theorem kt2 : kitB "int" "bool" = some false := by decide +kernel
theorem kt3 : kitB "tuple" "tuple" = some true := by decide +kernel
theorem c_is_integer (n : Nat) (i : Int) (h : Hs) : cl (n + 1) 0 [.int i] h = .ok (.val (.bl true)) h := by
  rw [cl_succ]
  simp [fns, body_is_integer, isiD, tyN, kt1, kt2, -List.map_map, ↓Fr.v_slot, ↓Fr.v_con, ↓Fr.v_bin, ↓Fr.v_neg, ↓Fr.v_cmp, ↓Fr.v_chain, ↓Fr.v_and, ↓Fr.v_or, ↓Fr.v_not, ↓Fr.v_ife, ↓Fr.v_tup, ↓Fr.v_lst, ↓Fr.v_ix, ↓Fr.v_sl, ↓Fr.v_call, ↓Fr.v_blt, ↓Fr.v_meth, ↓Fr.v_comp, ↓Fr.v_comp2, ↓Fr.v_lsc, ↓Fr.vs_nil, ↓Fr.vs_cons, ↓Fr.vt_and, ↓Fr.vt_or, ↓Fr.vt_not, ↓Fr.vt_slot, ↓Fr.vt_con, ↓Fr.vt_bin, ↓Fr.vt_neg, ↓Fr.vt_cmp, ↓Fr.vt_chain, ↓Fr.vt_ife, ↓Fr.vt_tup, ↓Fr.vt_lst, ↓Fr.vt_ix, ↓Fr.vt_sl, ↓Fr.vt_call, ↓Fr.vt_blt, ↓Fr.vt_meth, ↓Fr.vt_comp, ↓Fr.vc_nil, ↓Fr.vc_cons, ↓Fr.vi_rng1, ↓Fr.vi_rng2, ↓Fr.vi_slot, ↓Fr.vi_con, ↓Fr.vi_bin, ↓Fr.vi_neg, ↓Fr.vi_cmp, ↓Fr.vi_chain, ↓Fr.vi_ife, ↓Fr.vi_tup, ↓Fr.vi_lst, ↓Fr.vi_ix, ↓Fr.vi_sl, ↓Fr.vi_call, ↓Fr.vi_blt, ↓Fr.vi_meth, ↓Fr.vi_comp, ↓Fr.vo_nil, ↓Fr.vo_cons, ↓Fr.x_asg, ↓Fr.x_asgs, ↓Fr.x_setix, ↓Fr.x_expr, ↓Fr.x_ret, ↓Fr.x_retN, ↓Fr.x_pass, ↓Fr.x_brk, ↓Fr.x_cnt, ↓Fr.x_ifs, ↓Fr.x_whl, ↓Fr.x_for, ↓Fr.xs_nil, ↓Fr.xs_cons, ↓Fr.bindD_val, ↓Fr.bindD_new, ↓Fr.bind_ok, ↓Fr.bindO_val, ↓Fr.bindO_newT, ↓Fr.bindO_newF, ↓Fr.toS_ok, ↓Fr.seq_nx, ↓Fr.seq_ret, ↓Fr.seq_bk, ↓Fr.seq_ct, ↓Fr.iteS_t, ↓Fr.iteS_f, ↓Fr.iteR_t, ↓Fr.iteR_f, ↓Fr.optR_some, ↓Fr.okD_some, ↓Fr.okB_some, ↓Fr.okS_some, ↓Fr.andR_t, ↓Fr.andR_f, ↓Fr.orR_t, ↓Fr.orR_f, ↓Fr.chainR_t, ↓Fr.chainR_f, ↓Fr.compE_some, ↓Fr.compL_some, ↓Fr.compU_some, ↓Fr.keepR_t, ↓Fr.keepR_f, ↓Fr.keepU_t, ↓Fr.keepU_f, ↓Fr.gate_t, ↓Fr.gateS_t, C_call, C_blt0, C_blt1, C_blt2, C_blt3, C_blt4, C_blt5, C_blt6, C_blt7, C_blt8, C_blt9, C_blt10, C_blt11, C_blt12, C_blt13, C_m0, C_m1, C_m2, C_ty, C_add, C_sub, C_mul, C_fdiv, C_mod, C_pow, C_lt, C_le, C_gt, C_ge, C_eq, C_ne, C_in, C_notin, Fr.asg_nm, Fr.asg_tp, Fr.setR, Fr.getS, Fr.initR, Fr.asgR_some, Fr.truth_bl, Fr.truth_non, Fr.truth_int, Fr.truth_tup, Fr.truth_lst, Fr.truth_ref, Fr.srcOf_tup, Fr.srcOf_lst, Fr.srcOf_rol, Fr.srcOf_ref, Fr.seqOf_tup, Fr.seqOf_lst, Fr.seqOf_rol, Fr.seqOf_ref, Fr.negR_int, Fr.ixR_some, Fr.atD_int, Fr.addD_int, Fr.subD_int, Fr.ltD_int, Fr.leD_int, Fr.gtD_int, Fr.geD_int, Fr.eqD_int, Fr.neD_int, Fr.eqD_str, Fr.neD_str, Fr.lenD_tup, Fr.lenD_lst, Fr.lenD_rol, Fr.one_1, Fr.two_2, Fr.fin_nx, Fr.fin_int, Fr.fin_bl, Fr.fin_none, Fr.fin_str, Fr.okV]
theorem c_is_between (n : Nat) (i j k : Int) (h : Hs) (h1 : i ≤ k) (h2 : k ≤ j) : cl (n + 2) 1 [.int i, .int j, .int k] h = .ok (.val (.bl true)) h := by
  rw [cl_succ]
  simp [fns, body_is_between, c_is_integer, h1, h2, -List.map_map, ↓Fr.v_slot, ↓Fr.v_con, ↓Fr.v_bin, ↓Fr.v_neg, ↓Fr.v_cmp, ↓Fr.v_chain, ↓Fr.v_and, ↓Fr.v_or, ↓Fr.v_not, ↓Fr.v_ife, ↓Fr.v_tup, ↓Fr.v_lst, ↓Fr.v_ix, ↓Fr.v_sl, ↓Fr.v_call, ↓Fr.v_blt, ↓Fr.v_meth, ↓Fr.v_comp, ↓Fr.v_comp2, ↓Fr.v_lsc, ↓Fr.vs_nil, ↓Fr.vs_cons, ↓Fr.vt_and, ↓Fr.vt_or, ↓Fr.vt_not, ↓Fr.vt_slot, ↓Fr.vt_con, ↓Fr.vt_bin, ↓Fr.vt_neg, ↓Fr.vt_cmp, ↓Fr.vt_chain, ↓Fr.vt_ife, ↓Fr.vt_tup, ↓Fr.vt_lst, ↓Fr.vt_ix, ↓Fr.vt_sl, ↓Fr.vt_call, ↓Fr.vt_blt, ↓Fr.vt_meth, ↓Fr.vt_comp, ↓Fr.vc_nil, ↓Fr.vc_cons, ↓Fr.vi_rng1, ↓Fr.vi_rng2, ↓Fr.vi_slot, ↓Fr.vi_con, ↓Fr.vi_bin, ↓Fr.vi_neg, ↓Fr.vi_cmp, ↓Fr.vi_chain, ↓Fr.vi_ife, ↓Fr.vi_tup, ↓Fr.vi_lst, ↓Fr.vi_ix, ↓Fr.vi_sl, ↓Fr.vi_call, ↓Fr.vi_blt, ↓Fr.vi_meth, ↓Fr.vi_comp, ↓Fr.vo_nil, ↓Fr.vo_cons, ↓Fr.x_asg, ↓Fr.x_asgs, ↓Fr.x_setix, ↓Fr.x_expr, ↓Fr.x_ret, ↓Fr.x_retN, ↓Fr.x_pass, ↓Fr.x_brk, ↓Fr.x_cnt, ↓Fr.x_ifs, ↓Fr.x_whl, ↓Fr.x_for, ↓Fr.xs_nil, ↓Fr.xs_cons, ↓Fr.bindD_val, ↓Fr.bindD_new, ↓Fr.bind_ok, ↓Fr.bindO_val, ↓Fr.bindO_newT, ↓Fr.bindO_newF, ↓Fr.toS_ok, ↓Fr.seq_nx, ↓Fr.seq_ret, ↓Fr.seq_bk, ↓Fr.seq_ct, ↓Fr.iteS_t, ↓Fr.iteS_f, ↓Fr.iteR_t, ↓Fr.iteR_f, ↓Fr.optR_some, ↓Fr.okD_some, ↓Fr.okB_some, ↓Fr.okS_some, ↓Fr.andR_t, ↓Fr.andR_f, ↓Fr.orR_t, ↓Fr.orR_f, ↓Fr.chainR_t, ↓Fr.chainR_f, ↓Fr.compE_some, ↓Fr.compL_some, ↓Fr.compU_some, ↓Fr.keepR_t, ↓Fr.keepR_f, ↓Fr.keepU_t, ↓Fr.keepU_f, ↓Fr.gate_t, ↓Fr.gateS_t, C_call, C_blt0, C_blt1, C_blt2, C_blt3, C_blt4, C_blt5, C_blt6, C_blt7, C_blt8, C_blt9, C_blt10, C_blt11, C_blt12, C_blt13, C_m0, C_m1, C_m2, C_ty, C_add, C_sub, C_mul, C_fdiv, C_mod, C_pow, C_lt, C_le, C_gt, C_ge, C_eq, C_ne, C_in, C_notin, Fr.asg_nm, Fr.asg_tp, Fr.setR, Fr.getS, Fr.initR, Fr.asgR_some, Fr.truth_bl, Fr.truth_non, Fr.truth_int, Fr.truth_tup, Fr.truth_lst, Fr.truth_ref, Fr.srcOf_tup, Fr.srcOf_lst, Fr.srcOf_rol, Fr.srcOf_ref, Fr.seqOf_tup, Fr.seqOf_lst, Fr.seqOf_rol, Fr.seqOf_ref, Fr.negR_int, Fr.ixR_some, Fr.atD_int, Fr.addD_int, Fr.subD_int, Fr.ltD_int, Fr.leD_int, Fr.gtD_int, Fr.geD_int, Fr.eqD_int, Fr.neD_int, Fr.eqD_str, Fr.neD_str, Fr.lenD_tup, Fr.lenD_lst, Fr.lenD_rol, Fr.one_1, Fr.two_2, Fr.fin_nx, Fr.fin_int, Fr.fin_bl, Fr.fin_none, Fr.fin_str, Fr.okV]
theorem c_check_from_one (n : Nat) (i : Int) (h : Hs) (hi : 1 ≤ i) : cl (n + 2) 2 [.int i] h = .ok (.val .non) h := by
  rw [cl_succ]
  simp [fns, body_check_from_one, c_is_integer, show ¬ i < 1 by omega, -List.map_map, ↓Fr.v_slot, ↓Fr.v_con, ↓Fr.v_bin, ↓Fr.v_neg, ↓Fr.v_cmp, ↓Fr.v_chain, ↓Fr.v_and, ↓Fr.v_or, ↓Fr.v_not, ↓Fr.v_ife, ↓Fr.v_tup, ↓Fr.v_lst, ↓Fr.v_ix, ↓Fr.v_sl, ↓Fr.v_call, ↓Fr.v_blt, ↓Fr.v_meth, ↓Fr.v_comp, ↓Fr.v_comp2, ↓Fr.v_lsc, ↓Fr.vs_nil, ↓Fr.vs_cons, ↓Fr.vt_and, ↓Fr.vt_or, ↓Fr.vt_not, ↓Fr.vt_slot, ↓Fr.vt_con, ↓Fr.vt_bin, ↓Fr.vt_neg, ↓Fr.vt_cmp, ↓Fr.vt_chain, ↓Fr.vt_ife, ↓Fr.vt_tup, ↓Fr.vt_lst, ↓Fr.vt_ix, ↓Fr.vt_sl, ↓Fr.vt_call, ↓Fr.vt_blt, ↓Fr.vt_meth, ↓Fr.vt_comp, ↓Fr.vc_nil, ↓Fr.vc_cons, ↓Fr.vi_rng1, ↓Fr.vi_rng2, ↓Fr.vi_slot, ↓Fr.vi_con, ↓Fr.vi_bin, ↓Fr.vi_neg, ↓Fr.vi_cmp, ↓Fr.vi_chain, ↓Fr.vi_ife, ↓Fr.vi_tup, ↓Fr.vi_lst, ↓Fr.vi_ix, ↓Fr.vi_sl, ↓Fr.vi_call, ↓Fr.vi_blt, ↓Fr.vi_meth, ↓Fr.vi_comp, ↓Fr.vo_nil, ↓Fr.vo_cons, ↓Fr.x_asg, ↓Fr.x_asgs, ↓Fr.x_setix, ↓Fr.x_expr, ↓Fr.x_ret, ↓Fr.x_retN, ↓Fr.x_pass, ↓Fr.x_brk, ↓Fr.x_cnt, ↓Fr.x_ifs, ↓Fr.x_whl, ↓Fr.x_for, ↓Fr.xs_nil, ↓Fr.xs_cons, ↓Fr.bindD_val, ↓Fr.bindD_new, ↓Fr.bind_ok, ↓Fr.bindO_val, ↓Fr.bindO_newT, ↓Fr.bindO_newF, ↓Fr.toS_ok, ↓Fr.seq_nx, ↓Fr.seq_ret, ↓Fr.seq_bk, ↓Fr.seq_ct, ↓Fr.iteS_t, ↓Fr.iteS_f, ↓Fr.iteR_t, ↓Fr.iteR_f, ↓Fr.optR_some, ↓Fr.okD_some, ↓Fr.okB_some, ↓Fr.okS_some, ↓Fr.andR_t, ↓Fr.andR_f, ↓Fr.orR_t, ↓Fr.orR_f, ↓Fr.chainR_t, ↓Fr.chainR_f, ↓Fr.compE_some, ↓Fr.compL_some, ↓Fr.compU_some, ↓Fr.keepR_t, ↓Fr.keepR_f, ↓Fr.keepU_t, ↓Fr.keepU_f, ↓Fr.gate_t, ↓Fr.gateS_t, C_call, C_blt0, C_blt1, C_blt2, C_blt3, C_blt4, C_blt5, C_blt6, C_blt7, C_blt8, C_blt9, C_blt10, C_blt11, C_blt12, C_blt13, C_m0, C_m1, C_m2, C_ty, C_add, C_sub, C_mul, C_fdiv, C_mod, C_pow, C_lt, C_le, C_gt, C_ge, C_eq, C_ne, C_in, C_notin, Fr.asg_nm, Fr.asg_tp, Fr.setR, Fr.getS, Fr.initR, Fr.asgR_some, Fr.truth_bl, Fr.truth_non, Fr.truth_int, Fr.truth_tup, Fr.truth_lst, Fr.truth_ref, Fr.srcOf_tup, Fr.srcOf_lst, Fr.srcOf_rol, Fr.srcOf_ref, Fr.seqOf_tup, Fr.seqOf_lst, Fr.seqOf_rol, Fr.seqOf_ref, Fr.negR_int, Fr.ixR_some, Fr.atD_int, Fr.addD_int, Fr.subD_int, Fr.ltD_int, Fr.leD_int, Fr.gtD_int, Fr.geD_int, Fr.eqD_int, Fr.neD_int, Fr.eqD_str, Fr.neD_str, Fr.lenD_tup, Fr.lenD_lst, Fr.lenD_rol, Fr.one_1, Fr.two_2, Fr.fin_nx, Fr.fin_int, Fr.fin_bl, Fr.fin_none, Fr.fin_str, Fr.okV]
def ab (i : Int) : Int := if i < 0 then -i else i
theorem abs_ab (i : Int) (h : Hs) : absD (.int i) h = .ok (.val (.int (ab i))) h := rfl
abbrev cD (c : List Int) : D := .tup (c.map .int)
abbrev pD (p : List (List Int)) : D := .tup (p.map cD)
structure vC (s : Int) (c : List Int) : Prop where
  l1 : 1 ≤ c.length
  l4 : c.length ≤ 4
  lit : ∀ l ∈ c, 1 ≤ ab l ∧ ab l ≤ s
  nd : (nub (c.map ab)).length = c.length
  so : sortI c = c
structure vP (s : Int) (p : List (List Int)) : Prop where
  l16 : p.length ≤ 16
  all : ∀ c ∈ p, vC s c
  nd : (nub p).length = p.length
theorem c_is_literal (n : Nat) (s i : Int) (h : Hs) (h1 : 1 ≤ ab i) (h2 : ab i ≤ s) : cl (n + 2) 3 [.int s, .int i] h = .ok (.val (.bl true)) h := by
  rw [cl_succ]
  simp [fns, body_is_literal, c_is_integer, abs_ab, h1, h2, -List.map_map, ↓Fr.v_slot, ↓Fr.v_con, ↓Fr.v_bin, ↓Fr.v_neg, ↓Fr.v_cmp, ↓Fr.v_chain, ↓Fr.v_and, ↓Fr.v_or, ↓Fr.v_not, ↓Fr.v_ife, ↓Fr.v_tup, ↓Fr.v_lst, ↓Fr.v_ix, ↓Fr.v_sl, ↓Fr.v_call, ↓Fr.v_blt, ↓Fr.v_meth, ↓Fr.v_comp, ↓Fr.v_comp2, ↓Fr.v_lsc, ↓Fr.vs_nil, ↓Fr.vs_cons, ↓Fr.vt_and, ↓Fr.vt_or, ↓Fr.vt_not, ↓Fr.vt_slot, ↓Fr.vt_con, ↓Fr.vt_bin, ↓Fr.vt_neg, ↓Fr.vt_cmp, ↓Fr.vt_chain, ↓Fr.vt_ife, ↓Fr.vt_tup, ↓Fr.vt_lst, ↓Fr.vt_ix, ↓Fr.vt_sl, ↓Fr.vt_call, ↓Fr.vt_blt, ↓Fr.vt_meth, ↓Fr.vt_comp, ↓Fr.vc_nil, ↓Fr.vc_cons, ↓Fr.vi_rng1, ↓Fr.vi_rng2, ↓Fr.vi_slot, ↓Fr.vi_con, ↓Fr.vi_bin, ↓Fr.vi_neg, ↓Fr.vi_cmp, ↓Fr.vi_chain, ↓Fr.vi_ife, ↓Fr.vi_tup, ↓Fr.vi_lst, ↓Fr.vi_ix, ↓Fr.vi_sl, ↓Fr.vi_call, ↓Fr.vi_blt, ↓Fr.vi_meth, ↓Fr.vi_comp, ↓Fr.vo_nil, ↓Fr.vo_cons, ↓Fr.x_asg, ↓Fr.x_asgs, ↓Fr.x_setix, ↓Fr.x_expr, ↓Fr.x_ret, ↓Fr.x_retN, ↓Fr.x_pass, ↓Fr.x_brk, ↓Fr.x_cnt, ↓Fr.x_ifs, ↓Fr.x_whl, ↓Fr.x_for, ↓Fr.xs_nil, ↓Fr.xs_cons, ↓Fr.bindD_val, ↓Fr.bindD_new, ↓Fr.bind_ok, ↓Fr.bindO_val, ↓Fr.bindO_newT, ↓Fr.bindO_newF, ↓Fr.toS_ok, ↓Fr.seq_nx, ↓Fr.seq_ret, ↓Fr.seq_bk, ↓Fr.seq_ct, ↓Fr.iteS_t, ↓Fr.iteS_f, ↓Fr.iteR_t, ↓Fr.iteR_f, ↓Fr.optR_some, ↓Fr.okD_some, ↓Fr.okB_some, ↓Fr.okS_some, ↓Fr.andR_t, ↓Fr.andR_f, ↓Fr.orR_t, ↓Fr.orR_f, ↓Fr.chainR_t, ↓Fr.chainR_f, ↓Fr.compE_some, ↓Fr.compL_some, ↓Fr.compU_some, ↓Fr.keepR_t, ↓Fr.keepR_f, ↓Fr.keepU_t, ↓Fr.keepU_f, ↓Fr.gate_t, ↓Fr.gateS_t, C_call, C_blt0, C_blt1, C_blt2, C_blt3, C_blt4, C_blt5, C_blt6, C_blt7, C_blt8, C_blt9, C_blt10, C_blt11, C_blt12, C_blt13, C_m0, C_m1, C_m2, C_ty, C_add, C_sub, C_mul, C_fdiv, C_mod, C_pow, C_lt, C_le, C_gt, C_ge, C_eq, C_ne, C_in, C_notin, Fr.asg_nm, Fr.asg_tp, Fr.setR, Fr.getS, Fr.initR, Fr.asgR_some, Fr.truth_bl, Fr.truth_non, Fr.truth_int, Fr.truth_tup, Fr.truth_lst, Fr.truth_ref, Fr.srcOf_tup, Fr.srcOf_lst, Fr.srcOf_rol, Fr.srcOf_ref, Fr.seqOf_tup, Fr.seqOf_lst, Fr.seqOf_rol, Fr.seqOf_ref, Fr.negR_int, Fr.ixR_some, Fr.atD_int, Fr.addD_int, Fr.subD_int, Fr.ltD_int, Fr.leD_int, Fr.gtD_int, Fr.geD_int, Fr.eqD_int, Fr.neD_int, Fr.eqD_str, Fr.neD_str, Fr.lenD_tup, Fr.lenD_lst, Fr.lenD_rol, Fr.one_1, Fr.two_2, Fr.fin_nx, Fr.fin_int, Fr.fin_bl, Fr.fin_none, Fr.fin_str, Fr.okV]
theorem nat_ab (i : Int) : i.natAbs = (ab i).toNat := by unfold ab; split <;> omega
theorem vC.small {s : Int} {c : List Int} (v : vC s c) (hs : s ≤ 1000) : ∀ i ∈ c, i.natAbs < 10 ^ 90 := fun i hi => by
  have := v.lit i hi
  have e := nat_ab i
  have : (1000 : Nat) < 10 ^ 90 := by decide +kernel
  omega
def dAb : D → Int
  | .int i => ab i
  | _ => 0
theorem c_is_clause (n : Nat) (s : Int) (c : List Int) (h : Hs) (v : vC s c) (hs : s ≤ 1000) : cl (n + 3) 4 [.int s, cD c] h = .ok (.val (.bl true)) h := by
  have l1 : (1 : Int) ≤ (c.length : Int) := by have := v.l1; omega
  have l4 : (c.length : Int) ≤ 4 := by have := v.l4; omega
  have lz : c.length ≤ 4 := v.l4
  rw [cl_succ]
  simp [fns, body_is_clause, isiD, tyN, kt3, l1, l4, -List.map_map, ↓Fr.v_slot, ↓Fr.v_con, ↓Fr.v_bin, ↓Fr.v_neg, ↓Fr.v_cmp, ↓Fr.v_chain, ↓Fr.v_and, ↓Fr.v_or, ↓Fr.v_not, ↓Fr.v_ife, ↓Fr.v_tup, ↓Fr.v_lst, ↓Fr.v_ix, ↓Fr.v_sl, ↓Fr.v_call, ↓Fr.v_blt, ↓Fr.v_meth, ↓Fr.v_comp, ↓Fr.v_comp2, ↓Fr.v_lsc, ↓Fr.vs_nil, ↓Fr.vs_cons, ↓Fr.vt_and, ↓Fr.vt_or, ↓Fr.vt_not, ↓Fr.vt_slot, ↓Fr.vt_con, ↓Fr.vt_bin, ↓Fr.vt_neg, ↓Fr.vt_cmp, ↓Fr.vt_chain, ↓Fr.vt_ife, ↓Fr.vt_tup, ↓Fr.vt_lst, ↓Fr.vt_ix, ↓Fr.vt_sl, ↓Fr.vt_call, ↓Fr.vt_blt, ↓Fr.vt_meth, ↓Fr.vt_comp, ↓Fr.vc_nil, ↓Fr.vc_cons, ↓Fr.vi_rng1, ↓Fr.vi_rng2, ↓Fr.vi_slot, ↓Fr.vi_con, ↓Fr.vi_bin, ↓Fr.vi_neg, ↓Fr.vi_cmp, ↓Fr.vi_chain, ↓Fr.vi_ife, ↓Fr.vi_tup, ↓Fr.vi_lst, ↓Fr.vi_ix, ↓Fr.vi_sl, ↓Fr.vi_call, ↓Fr.vi_blt, ↓Fr.vi_meth, ↓Fr.vi_comp, ↓Fr.vo_nil, ↓Fr.vo_cons, ↓Fr.x_asg, ↓Fr.x_asgs, ↓Fr.x_setix, ↓Fr.x_expr, ↓Fr.x_ret, ↓Fr.x_retN, ↓Fr.x_pass, ↓Fr.x_brk, ↓Fr.x_cnt, ↓Fr.x_ifs, ↓Fr.x_whl, ↓Fr.x_for, ↓Fr.xs_nil, ↓Fr.xs_cons, ↓Fr.bindD_val, ↓Fr.bindD_new, ↓Fr.bind_ok, ↓Fr.bindO_val, ↓Fr.bindO_newT, ↓Fr.bindO_newF, ↓Fr.toS_ok, ↓Fr.seq_nx, ↓Fr.seq_ret, ↓Fr.seq_bk, ↓Fr.seq_ct, ↓Fr.iteS_t, ↓Fr.iteS_f, ↓Fr.iteR_t, ↓Fr.iteR_f, ↓Fr.optR_some, ↓Fr.okD_some, ↓Fr.okB_some, ↓Fr.okS_some, ↓Fr.andR_t, ↓Fr.andR_f, ↓Fr.orR_t, ↓Fr.orR_f, ↓Fr.chainR_t, ↓Fr.chainR_f, ↓Fr.compE_some, ↓Fr.compL_some, ↓Fr.compU_some, ↓Fr.keepR_t, ↓Fr.keepR_f, ↓Fr.keepU_t, ↓Fr.keepU_f, ↓Fr.gate_t, ↓Fr.gateS_t, C_call, C_blt0, C_blt1, C_blt2, C_blt3, C_blt4, C_blt5, C_blt6, C_blt7, C_blt8, C_blt9, C_blt10, C_blt11, C_blt12, C_blt13, C_m0, C_m1, C_m2, C_ty, C_add, C_sub, C_mul, C_fdiv, C_mod, C_pow, C_lt, C_le, C_gt, C_ge, C_eq, C_ne, C_in, C_notin, Fr.asg_nm, Fr.asg_tp, Fr.setR, Fr.getS, Fr.initR, Fr.asgR_some, Fr.truth_bl, Fr.truth_non, Fr.truth_int, Fr.truth_tup, Fr.truth_lst, Fr.truth_ref, Fr.srcOf_tup, Fr.srcOf_lst, Fr.srcOf_rol, Fr.srcOf_ref, Fr.seqOf_tup, Fr.seqOf_lst, Fr.seqOf_rol, Fr.seqOf_ref, Fr.negR_int, Fr.ixR_some, Fr.atD_int, Fr.addD_int, Fr.subD_int, Fr.ltD_int, Fr.leD_int, Fr.gtD_int, Fr.geD_int, Fr.eqD_int, Fr.neD_int, Fr.eqD_str, Fr.neD_str, Fr.lenD_tup, Fr.lenD_lst, Fr.lenD_rol, Fr.one_1, Fr.two_2, Fr.fin_nx, Fr.fin_int, Fr.fin_bl, Fr.fin_none, Fr.fin_str, Fr.okV]
  rw [mapS_map (fun _ => .bl true)]
  · simp [all_true, list_tup, sortD_tup, v.so, -List.map_map, ↓Fr.v_slot, ↓Fr.v_con, ↓Fr.v_bin, ↓Fr.v_neg, ↓Fr.v_cmp, ↓Fr.v_chain, ↓Fr.v_and, ↓Fr.v_or, ↓Fr.v_not, ↓Fr.v_ife, ↓Fr.v_tup, ↓Fr.v_lst, ↓Fr.v_ix, ↓Fr.v_sl, ↓Fr.v_call, ↓Fr.v_blt, ↓Fr.v_meth, ↓Fr.v_comp, ↓Fr.v_comp2, ↓Fr.v_lsc, ↓Fr.vs_nil, ↓Fr.vs_cons, ↓Fr.vt_and, ↓Fr.vt_or, ↓Fr.vt_not, ↓Fr.vt_slot, ↓Fr.vt_con, ↓Fr.vt_bin, ↓Fr.vt_neg, ↓Fr.vt_cmp, ↓Fr.vt_chain, ↓Fr.vt_ife, ↓Fr.vt_tup, ↓Fr.vt_lst, ↓Fr.vt_ix, ↓Fr.vt_sl, ↓Fr.vt_call, ↓Fr.vt_blt, ↓Fr.vt_meth, ↓Fr.vt_comp, ↓Fr.vc_nil, ↓Fr.vc_cons, ↓Fr.vi_rng1, ↓Fr.vi_rng2, ↓Fr.vi_slot, ↓Fr.vi_con, ↓Fr.vi_bin, ↓Fr.vi_neg, ↓Fr.vi_cmp, ↓Fr.vi_chain, ↓Fr.vi_ife, ↓Fr.vi_tup, ↓Fr.vi_lst, ↓Fr.vi_ix, ↓Fr.vi_sl, ↓Fr.vi_call, ↓Fr.vi_blt, ↓Fr.vi_meth, ↓Fr.vi_comp, ↓Fr.vo_nil, ↓Fr.vo_cons, ↓Fr.x_asg, ↓Fr.x_asgs, ↓Fr.x_setix, ↓Fr.x_expr, ↓Fr.x_ret, ↓Fr.x_retN, ↓Fr.x_pass, ↓Fr.x_brk, ↓Fr.x_cnt, ↓Fr.x_ifs, ↓Fr.x_whl, ↓Fr.x_for, ↓Fr.xs_nil, ↓Fr.xs_cons, ↓Fr.bindD_val, ↓Fr.bindD_new, ↓Fr.bind_ok, ↓Fr.bindO_val, ↓Fr.bindO_newT, ↓Fr.bindO_newF, ↓Fr.toS_ok, ↓Fr.seq_nx, ↓Fr.seq_ret, ↓Fr.seq_bk, ↓Fr.seq_ct, ↓Fr.iteS_t, ↓Fr.iteS_f, ↓Fr.iteR_t, ↓Fr.iteR_f, ↓Fr.optR_some, ↓Fr.okD_some, ↓Fr.okB_some, ↓Fr.okS_some, ↓Fr.andR_t, ↓Fr.andR_f, ↓Fr.orR_t, ↓Fr.orR_f, ↓Fr.chainR_t, ↓Fr.chainR_f, ↓Fr.compE_some, ↓Fr.compL_some, ↓Fr.compU_some, ↓Fr.keepR_t, ↓Fr.keepR_f, ↓Fr.keepU_t, ↓Fr.keepU_f, ↓Fr.gate_t, ↓Fr.gateS_t, C_call, C_blt0, C_blt1, C_blt2, C_blt3, C_blt4, C_blt5, C_blt6, C_blt7, C_blt8, C_blt9, C_blt10, C_blt11, C_blt12, C_blt13, C_m0, C_m1, C_m2, C_ty, C_add, C_sub, C_mul, C_fdiv, C_mod, C_pow, C_lt, C_le, C_gt, C_ge, C_eq, C_ne, C_in, C_notin, Fr.asg_nm, Fr.asg_tp, Fr.setR, Fr.getS, Fr.initR, Fr.asgR_some, Fr.truth_bl, Fr.truth_non, Fr.truth_int, Fr.truth_tup, Fr.truth_lst, Fr.truth_ref, Fr.srcOf_tup, Fr.srcOf_lst, Fr.srcOf_rol, Fr.srcOf_ref, Fr.seqOf_tup, Fr.seqOf_lst, Fr.seqOf_rol, Fr.seqOf_ref, Fr.negR_int, Fr.ixR_some, Fr.atD_int, Fr.addD_int, Fr.subD_int, Fr.ltD_int, Fr.leD_int, Fr.gtD_int, Fr.geD_int, Fr.eqD_int, Fr.neD_int, Fr.eqD_str, Fr.neD_str, Fr.lenD_tup, Fr.lenD_lst, Fr.lenD_rol, Fr.one_1, Fr.two_2, Fr.fin_nx, Fr.fin_int, Fr.fin_bl, Fr.fin_none, Fr.fin_str, Fr.okV]
    rw [setL_vals, setLL_pure dAb]
    · have e1 : (nub (List.map dAb (List.map D.int c))).length = c.length := by
        rw [List.map_map]
        exact v.nd
      have e2 : eqD (.lst (List.map D.int c)) (.lst (List.map D.int c)) h = .ok (.val (.bl true)) h := eqD_self rfl (by unfold D.calm; exact calm_ints (v.small hs)) (by simp only [D.dep, deps_ints]; omega)
      simp [all_true, e1, list_tup, sortD_tup, v.so, e2, -List.map_map, ↓Fr.v_slot, ↓Fr.v_con, ↓Fr.v_bin, ↓Fr.v_neg, ↓Fr.v_cmp, ↓Fr.v_chain, ↓Fr.v_and, ↓Fr.v_or, ↓Fr.v_not, ↓Fr.v_ife, ↓Fr.v_tup, ↓Fr.v_lst, ↓Fr.v_ix, ↓Fr.v_sl, ↓Fr.v_call, ↓Fr.v_blt, ↓Fr.v_meth, ↓Fr.v_comp, ↓Fr.v_comp2, ↓Fr.v_lsc, ↓Fr.vs_nil, ↓Fr.vs_cons, ↓Fr.vt_and, ↓Fr.vt_or, ↓Fr.vt_not, ↓Fr.vt_slot, ↓Fr.vt_con, ↓Fr.vt_bin, ↓Fr.vt_neg, ↓Fr.vt_cmp, ↓Fr.vt_chain, ↓Fr.vt_ife, ↓Fr.vt_tup, ↓Fr.vt_lst, ↓Fr.vt_ix, ↓Fr.vt_sl, ↓Fr.vt_call, ↓Fr.vt_blt, ↓Fr.vt_meth, ↓Fr.vt_comp, ↓Fr.vc_nil, ↓Fr.vc_cons, ↓Fr.vi_rng1, ↓Fr.vi_rng2, ↓Fr.vi_slot, ↓Fr.vi_con, ↓Fr.vi_bin, ↓Fr.vi_neg, ↓Fr.vi_cmp, ↓Fr.vi_chain, ↓Fr.vi_ife, ↓Fr.vi_tup, ↓Fr.vi_lst, ↓Fr.vi_ix, ↓Fr.vi_sl, ↓Fr.vi_call, ↓Fr.vi_blt, ↓Fr.vi_meth, ↓Fr.vi_comp, ↓Fr.vo_nil, ↓Fr.vo_cons, ↓Fr.x_asg, ↓Fr.x_asgs, ↓Fr.x_setix, ↓Fr.x_expr, ↓Fr.x_ret, ↓Fr.x_retN, ↓Fr.x_pass, ↓Fr.x_brk, ↓Fr.x_cnt, ↓Fr.x_ifs, ↓Fr.x_whl, ↓Fr.x_for, ↓Fr.xs_nil, ↓Fr.xs_cons, ↓Fr.bindD_val, ↓Fr.bindD_new, ↓Fr.bind_ok, ↓Fr.bindO_val, ↓Fr.bindO_newT, ↓Fr.bindO_newF, ↓Fr.toS_ok, ↓Fr.seq_nx, ↓Fr.seq_ret, ↓Fr.seq_bk, ↓Fr.seq_ct, ↓Fr.iteS_t, ↓Fr.iteS_f, ↓Fr.iteR_t, ↓Fr.iteR_f, ↓Fr.optR_some, ↓Fr.okD_some, ↓Fr.okB_some, ↓Fr.okS_some, ↓Fr.andR_t, ↓Fr.andR_f, ↓Fr.orR_t, ↓Fr.orR_f, ↓Fr.chainR_t, ↓Fr.chainR_f, ↓Fr.compE_some, ↓Fr.compL_some, ↓Fr.compU_some, ↓Fr.keepR_t, ↓Fr.keepR_f, ↓Fr.keepU_t, ↓Fr.keepU_f, ↓Fr.gate_t, ↓Fr.gateS_t, C_call, C_blt0, C_blt1, C_blt2, C_blt3, C_blt4, C_blt5, C_blt6, C_blt7, C_blt8, C_blt9, C_blt10, C_blt11, C_blt12, C_blt13, C_m0, C_m1, C_m2, C_ty, C_add, C_sub, C_mul, C_fdiv, C_mod, C_pow, C_lt, C_le, C_gt, C_ge, C_eq, C_ne, C_in, C_notin, Fr.asg_nm, Fr.asg_tp, Fr.setR, Fr.getS, Fr.initR, Fr.asgR_some, Fr.truth_bl, Fr.truth_non, Fr.truth_int, Fr.truth_tup, Fr.truth_lst, Fr.truth_ref, Fr.srcOf_tup, Fr.srcOf_lst, Fr.srcOf_rol, Fr.srcOf_ref, Fr.seqOf_tup, Fr.seqOf_lst, Fr.seqOf_rol, Fr.seqOf_ref, Fr.negR_int, Fr.ixR_some, Fr.atD_int, Fr.addD_int, Fr.subD_int, Fr.ltD_int, Fr.leD_int, Fr.gtD_int, Fr.geD_int, Fr.eqD_int, Fr.neD_int, Fr.eqD_str, Fr.neD_str, Fr.lenD_tup, Fr.lenD_lst, Fr.lenD_rol, Fr.one_1, Fr.two_2, Fr.fin_nx, Fr.fin_int, Fr.fin_bl, Fr.fin_none, Fr.fin_str, Fr.okV]
    · intro x hx
      obtain ⟨i, hi, rfl⟩ := List.mem_map.mp hx
      simp [lscF_at, wipeR, abs_ab, dAb, -List.map_map, ↓Fr.v_slot, ↓Fr.v_con, ↓Fr.v_bin, ↓Fr.v_neg, ↓Fr.v_cmp, ↓Fr.v_chain, ↓Fr.v_and, ↓Fr.v_or, ↓Fr.v_not, ↓Fr.v_ife, ↓Fr.v_tup, ↓Fr.v_lst, ↓Fr.v_ix, ↓Fr.v_sl, ↓Fr.v_call, ↓Fr.v_blt, ↓Fr.v_meth, ↓Fr.v_comp, ↓Fr.v_comp2, ↓Fr.v_lsc, ↓Fr.vs_nil, ↓Fr.vs_cons, ↓Fr.vt_and, ↓Fr.vt_or, ↓Fr.vt_not, ↓Fr.vt_slot, ↓Fr.vt_con, ↓Fr.vt_bin, ↓Fr.vt_neg, ↓Fr.vt_cmp, ↓Fr.vt_chain, ↓Fr.vt_ife, ↓Fr.vt_tup, ↓Fr.vt_lst, ↓Fr.vt_ix, ↓Fr.vt_sl, ↓Fr.vt_call, ↓Fr.vt_blt, ↓Fr.vt_meth, ↓Fr.vt_comp, ↓Fr.vc_nil, ↓Fr.vc_cons, ↓Fr.vi_rng1, ↓Fr.vi_rng2, ↓Fr.vi_slot, ↓Fr.vi_con, ↓Fr.vi_bin, ↓Fr.vi_neg, ↓Fr.vi_cmp, ↓Fr.vi_chain, ↓Fr.vi_ife, ↓Fr.vi_tup, ↓Fr.vi_lst, ↓Fr.vi_ix, ↓Fr.vi_sl, ↓Fr.vi_call, ↓Fr.vi_blt, ↓Fr.vi_meth, ↓Fr.vi_comp, ↓Fr.vo_nil, ↓Fr.vo_cons, ↓Fr.x_asg, ↓Fr.x_asgs, ↓Fr.x_setix, ↓Fr.x_expr, ↓Fr.x_ret, ↓Fr.x_retN, ↓Fr.x_pass, ↓Fr.x_brk, ↓Fr.x_cnt, ↓Fr.x_ifs, ↓Fr.x_whl, ↓Fr.x_for, ↓Fr.xs_nil, ↓Fr.xs_cons, ↓Fr.bindD_val, ↓Fr.bindD_new, ↓Fr.bind_ok, ↓Fr.bindO_val, ↓Fr.bindO_newT, ↓Fr.bindO_newF, ↓Fr.toS_ok, ↓Fr.seq_nx, ↓Fr.seq_ret, ↓Fr.seq_bk, ↓Fr.seq_ct, ↓Fr.iteS_t, ↓Fr.iteS_f, ↓Fr.iteR_t, ↓Fr.iteR_f, ↓Fr.optR_some, ↓Fr.okD_some, ↓Fr.okB_some, ↓Fr.okS_some, ↓Fr.andR_t, ↓Fr.andR_f, ↓Fr.orR_t, ↓Fr.orR_f, ↓Fr.chainR_t, ↓Fr.chainR_f, ↓Fr.compE_some, ↓Fr.compL_some, ↓Fr.compU_some, ↓Fr.keepR_t, ↓Fr.keepR_f, ↓Fr.keepU_t, ↓Fr.keepU_f, ↓Fr.gate_t, ↓Fr.gateS_t, C_call, C_blt0, C_blt1, C_blt2, C_blt3, C_blt4, C_blt5, C_blt6, C_blt7, C_blt8, C_blt9, C_blt10, C_blt11, C_blt12, C_blt13, C_m0, C_m1, C_m2, C_ty, C_add, C_sub, C_mul, C_fdiv, C_mod, C_pow, C_lt, C_le, C_gt, C_ge, C_eq, C_ne, C_in, C_notin, Fr.asg_nm, Fr.asg_tp, Fr.setR, Fr.getS, Fr.initR, Fr.asgR_some, Fr.truth_bl, Fr.truth_non, Fr.truth_int, Fr.truth_tup, Fr.truth_lst, Fr.truth_ref, Fr.srcOf_tup, Fr.srcOf_lst, Fr.srcOf_rol, Fr.srcOf_ref, Fr.seqOf_tup, Fr.seqOf_lst, Fr.seqOf_rol, Fr.seqOf_ref, Fr.negR_int, Fr.ixR_some, Fr.atD_int, Fr.addD_int, Fr.subD_int, Fr.ltD_int, Fr.leD_int, Fr.gtD_int, Fr.geD_int, Fr.eqD_int, Fr.neD_int, Fr.eqD_str, Fr.neD_str, Fr.lenD_tup, Fr.lenD_lst, Fr.lenD_rol, Fr.one_1, Fr.two_2, Fr.fin_nx, Fr.fin_int, Fr.fin_bl, Fr.fin_none, Fr.fin_str, Fr.okV]
    · exact List.nodup_nil
    · simp
      omega
  · intro x hx a
    obtain ⟨i, hi, rfl⟩ := List.mem_map.mp hx
    have := v.lit i hi
    simp [compF_at, wipeR, c_is_literal, this.1, this.2, -List.map_map, ↓Fr.v_slot, ↓Fr.v_con, ↓Fr.v_bin, ↓Fr.v_neg, ↓Fr.v_cmp, ↓Fr.v_chain, ↓Fr.v_and, ↓Fr.v_or, ↓Fr.v_not, ↓Fr.v_ife, ↓Fr.v_tup, ↓Fr.v_lst, ↓Fr.v_ix, ↓Fr.v_sl, ↓Fr.v_call, ↓Fr.v_blt, ↓Fr.v_meth, ↓Fr.v_comp, ↓Fr.v_comp2, ↓Fr.v_lsc, ↓Fr.vs_nil, ↓Fr.vs_cons, ↓Fr.vt_and, ↓Fr.vt_or, ↓Fr.vt_not, ↓Fr.vt_slot, ↓Fr.vt_con, ↓Fr.vt_bin, ↓Fr.vt_neg, ↓Fr.vt_cmp, ↓Fr.vt_chain, ↓Fr.vt_ife, ↓Fr.vt_tup, ↓Fr.vt_lst, ↓Fr.vt_ix, ↓Fr.vt_sl, ↓Fr.vt_call, ↓Fr.vt_blt, ↓Fr.vt_meth, ↓Fr.vt_comp, ↓Fr.vc_nil, ↓Fr.vc_cons, ↓Fr.vi_rng1, ↓Fr.vi_rng2, ↓Fr.vi_slot, ↓Fr.vi_con, ↓Fr.vi_bin, ↓Fr.vi_neg, ↓Fr.vi_cmp, ↓Fr.vi_chain, ↓Fr.vi_ife, ↓Fr.vi_tup, ↓Fr.vi_lst, ↓Fr.vi_ix, ↓Fr.vi_sl, ↓Fr.vi_call, ↓Fr.vi_blt, ↓Fr.vi_meth, ↓Fr.vi_comp, ↓Fr.vo_nil, ↓Fr.vo_cons, ↓Fr.x_asg, ↓Fr.x_asgs, ↓Fr.x_setix, ↓Fr.x_expr, ↓Fr.x_ret, ↓Fr.x_retN, ↓Fr.x_pass, ↓Fr.x_brk, ↓Fr.x_cnt, ↓Fr.x_ifs, ↓Fr.x_whl, ↓Fr.x_for, ↓Fr.xs_nil, ↓Fr.xs_cons, ↓Fr.bindD_val, ↓Fr.bindD_new, ↓Fr.bind_ok, ↓Fr.bindO_val, ↓Fr.bindO_newT, ↓Fr.bindO_newF, ↓Fr.toS_ok, ↓Fr.seq_nx, ↓Fr.seq_ret, ↓Fr.seq_bk, ↓Fr.seq_ct, ↓Fr.iteS_t, ↓Fr.iteS_f, ↓Fr.iteR_t, ↓Fr.iteR_f, ↓Fr.optR_some, ↓Fr.okD_some, ↓Fr.okB_some, ↓Fr.okS_some, ↓Fr.andR_t, ↓Fr.andR_f, ↓Fr.orR_t, ↓Fr.orR_f, ↓Fr.chainR_t, ↓Fr.chainR_f, ↓Fr.compE_some, ↓Fr.compL_some, ↓Fr.compU_some, ↓Fr.keepR_t, ↓Fr.keepR_f, ↓Fr.keepU_t, ↓Fr.keepU_f, ↓Fr.gate_t, ↓Fr.gateS_t, C_call, C_blt0, C_blt1, C_blt2, C_blt3, C_blt4, C_blt5, C_blt6, C_blt7, C_blt8, C_blt9, C_blt10, C_blt11, C_blt12, C_blt13, C_m0, C_m1, C_m2, C_ty, C_add, C_sub, C_mul, C_fdiv, C_mod, C_pow, C_lt, C_le, C_gt, C_ge, C_eq, C_ne, C_in, C_notin, Fr.asg_nm, Fr.asg_tp, Fr.setR, Fr.getS, Fr.initR, Fr.asgR_some, Fr.truth_bl, Fr.truth_non, Fr.truth_int, Fr.truth_tup, Fr.truth_lst, Fr.truth_ref, Fr.srcOf_tup, Fr.srcOf_lst, Fr.srcOf_rol, Fr.srcOf_ref, Fr.seqOf_tup, Fr.seqOf_lst, Fr.seqOf_rol, Fr.seqOf_ref, Fr.negR_int, Fr.ixR_some, Fr.atD_int, Fr.addD_int, Fr.subD_int, Fr.ltD_int, Fr.leD_int, Fr.gtD_int, Fr.geD_int, Fr.eqD_int, Fr.neD_int, Fr.eqD_str, Fr.neD_str, Fr.lenD_tup, Fr.lenD_lst, Fr.lenD_rol, Fr.one_1, Fr.two_2, Fr.fin_nx, Fr.fin_int, Fr.fin_bl, Fr.fin_none, Fr.fin_str, Fr.okV]
  · intro x hx
    rfl
  · rw [List.length_map]
    show _ ≤ 2 ^ 24
    omega
theorem c_is_part (n : Nat) (s : Int) (p : List (List Int)) (h : Hs) (v : vP s p) (hs : s ≤ 1000) : cl (n + 4) 5 [.int s, pD p] h = .ok (.val (.bl true)) h := by
  have lz : p.length ≤ 16 := v.l16
  have l1 : ¬ (16 : Int) < (p.length : Int) := by omega
  have e0 : lsetD (pD p) h = .ok (.val (.int p.length)) h := by
    have z := lset_tups (p := p) (h := h) (by omega)
    rw [v.nd] at z
    exact z
  rw [cl_succ]
  simp [fns, body_is_part, isiD, tyN, kt3, l1, -List.map_map, ↓Fr.v_slot, ↓Fr.v_con, ↓Fr.v_bin, ↓Fr.v_neg, ↓Fr.v_cmp, ↓Fr.v_chain, ↓Fr.v_and, ↓Fr.v_or, ↓Fr.v_not, ↓Fr.v_ife, ↓Fr.v_tup, ↓Fr.v_lst, ↓Fr.v_ix, ↓Fr.v_sl, ↓Fr.v_call, ↓Fr.v_blt, ↓Fr.v_meth, ↓Fr.v_comp, ↓Fr.v_comp2, ↓Fr.v_lsc, ↓Fr.vs_nil, ↓Fr.vs_cons, ↓Fr.vt_and, ↓Fr.vt_or, ↓Fr.vt_not, ↓Fr.vt_slot, ↓Fr.vt_con, ↓Fr.vt_bin, ↓Fr.vt_neg, ↓Fr.vt_cmp, ↓Fr.vt_chain, ↓Fr.vt_ife, ↓Fr.vt_tup, ↓Fr.vt_lst, ↓Fr.vt_ix, ↓Fr.vt_sl, ↓Fr.vt_call, ↓Fr.vt_blt, ↓Fr.vt_meth, ↓Fr.vt_comp, ↓Fr.vc_nil, ↓Fr.vc_cons, ↓Fr.vi_rng1, ↓Fr.vi_rng2, ↓Fr.vi_slot, ↓Fr.vi_con, ↓Fr.vi_bin, ↓Fr.vi_neg, ↓Fr.vi_cmp, ↓Fr.vi_chain, ↓Fr.vi_ife, ↓Fr.vi_tup, ↓Fr.vi_lst, ↓Fr.vi_ix, ↓Fr.vi_sl, ↓Fr.vi_call, ↓Fr.vi_blt, ↓Fr.vi_meth, ↓Fr.vi_comp, ↓Fr.vo_nil, ↓Fr.vo_cons, ↓Fr.x_asg, ↓Fr.x_asgs, ↓Fr.x_setix, ↓Fr.x_expr, ↓Fr.x_ret, ↓Fr.x_retN, ↓Fr.x_pass, ↓Fr.x_brk, ↓Fr.x_cnt, ↓Fr.x_ifs, ↓Fr.x_whl, ↓Fr.x_for, ↓Fr.xs_nil, ↓Fr.xs_cons, ↓Fr.bindD_val, ↓Fr.bindD_new, ↓Fr.bind_ok, ↓Fr.bindO_val, ↓Fr.bindO_newT, ↓Fr.bindO_newF, ↓Fr.toS_ok, ↓Fr.seq_nx, ↓Fr.seq_ret, ↓Fr.seq_bk, ↓Fr.seq_ct, ↓Fr.iteS_t, ↓Fr.iteS_f, ↓Fr.iteR_t, ↓Fr.iteR_f, ↓Fr.optR_some, ↓Fr.okD_some, ↓Fr.okB_some, ↓Fr.okS_some, ↓Fr.andR_t, ↓Fr.andR_f, ↓Fr.orR_t, ↓Fr.orR_f, ↓Fr.chainR_t, ↓Fr.chainR_f, ↓Fr.compE_some, ↓Fr.compL_some, ↓Fr.compU_some, ↓Fr.keepR_t, ↓Fr.keepR_f, ↓Fr.keepU_t, ↓Fr.keepU_f, ↓Fr.gate_t, ↓Fr.gateS_t, C_call, C_blt0, C_blt1, C_blt2, C_blt3, C_blt4, C_blt5, C_blt6, C_blt7, C_blt8, C_blt9, C_blt10, C_blt11, C_blt12, C_blt13, C_m0, C_m1, C_m2, C_ty, C_add, C_sub, C_mul, C_fdiv, C_mod, C_pow, C_lt, C_le, C_gt, C_ge, C_eq, C_ne, C_in, C_notin, Fr.asg_nm, Fr.asg_tp, Fr.setR, Fr.getS, Fr.initR, Fr.asgR_some, Fr.truth_bl, Fr.truth_non, Fr.truth_int, Fr.truth_tup, Fr.truth_lst, Fr.truth_ref, Fr.srcOf_tup, Fr.srcOf_lst, Fr.srcOf_rol, Fr.srcOf_ref, Fr.seqOf_tup, Fr.seqOf_lst, Fr.seqOf_rol, Fr.seqOf_ref, Fr.negR_int, Fr.ixR_some, Fr.atD_int, Fr.addD_int, Fr.subD_int, Fr.ltD_int, Fr.leD_int, Fr.gtD_int, Fr.geD_int, Fr.eqD_int, Fr.neD_int, Fr.eqD_str, Fr.neD_str, Fr.lenD_tup, Fr.lenD_lst, Fr.lenD_rol, Fr.one_1, Fr.two_2, Fr.fin_nx, Fr.fin_int, Fr.fin_bl, Fr.fin_none, Fr.fin_str, Fr.okV]
  rw [mapS_map (fun _ => .bl true)]
  · simp [all_true, e0, -List.map_map, ↓Fr.v_slot, ↓Fr.v_con, ↓Fr.v_bin, ↓Fr.v_neg, ↓Fr.v_cmp, ↓Fr.v_chain, ↓Fr.v_and, ↓Fr.v_or, ↓Fr.v_not, ↓Fr.v_ife, ↓Fr.v_tup, ↓Fr.v_lst, ↓Fr.v_ix, ↓Fr.v_sl, ↓Fr.v_call, ↓Fr.v_blt, ↓Fr.v_meth, ↓Fr.v_comp, ↓Fr.v_comp2, ↓Fr.v_lsc, ↓Fr.vs_nil, ↓Fr.vs_cons, ↓Fr.vt_and, ↓Fr.vt_or, ↓Fr.vt_not, ↓Fr.vt_slot, ↓Fr.vt_con, ↓Fr.vt_bin, ↓Fr.vt_neg, ↓Fr.vt_cmp, ↓Fr.vt_chain, ↓Fr.vt_ife, ↓Fr.vt_tup, ↓Fr.vt_lst, ↓Fr.vt_ix, ↓Fr.vt_sl, ↓Fr.vt_call, ↓Fr.vt_blt, ↓Fr.vt_meth, ↓Fr.vt_comp, ↓Fr.vc_nil, ↓Fr.vc_cons, ↓Fr.vi_rng1, ↓Fr.vi_rng2, ↓Fr.vi_slot, ↓Fr.vi_con, ↓Fr.vi_bin, ↓Fr.vi_neg, ↓Fr.vi_cmp, ↓Fr.vi_chain, ↓Fr.vi_ife, ↓Fr.vi_tup, ↓Fr.vi_lst, ↓Fr.vi_ix, ↓Fr.vi_sl, ↓Fr.vi_call, ↓Fr.vi_blt, ↓Fr.vi_meth, ↓Fr.vi_comp, ↓Fr.vo_nil, ↓Fr.vo_cons, ↓Fr.x_asg, ↓Fr.x_asgs, ↓Fr.x_setix, ↓Fr.x_expr, ↓Fr.x_ret, ↓Fr.x_retN, ↓Fr.x_pass, ↓Fr.x_brk, ↓Fr.x_cnt, ↓Fr.x_ifs, ↓Fr.x_whl, ↓Fr.x_for, ↓Fr.xs_nil, ↓Fr.xs_cons, ↓Fr.bindD_val, ↓Fr.bindD_new, ↓Fr.bind_ok, ↓Fr.bindO_val, ↓Fr.bindO_newT, ↓Fr.bindO_newF, ↓Fr.toS_ok, ↓Fr.seq_nx, ↓Fr.seq_ret, ↓Fr.seq_bk, ↓Fr.seq_ct, ↓Fr.iteS_t, ↓Fr.iteS_f, ↓Fr.iteR_t, ↓Fr.iteR_f, ↓Fr.optR_some, ↓Fr.okD_some, ↓Fr.okB_some, ↓Fr.okS_some, ↓Fr.andR_t, ↓Fr.andR_f, ↓Fr.orR_t, ↓Fr.orR_f, ↓Fr.chainR_t, ↓Fr.chainR_f, ↓Fr.compE_some, ↓Fr.compL_some, ↓Fr.compU_some, ↓Fr.keepR_t, ↓Fr.keepR_f, ↓Fr.keepU_t, ↓Fr.keepU_f, ↓Fr.gate_t, ↓Fr.gateS_t, C_call, C_blt0, C_blt1, C_blt2, C_blt3, C_blt4, C_blt5, C_blt6, C_blt7, C_blt8, C_blt9, C_blt10, C_blt11, C_blt12, C_blt13, C_m0, C_m1, C_m2, C_ty, C_add, C_sub, C_mul, C_fdiv, C_mod, C_pow, C_lt, C_le, C_gt, C_ge, C_eq, C_ne, C_in, C_notin, Fr.asg_nm, Fr.asg_tp, Fr.setR, Fr.getS, Fr.initR, Fr.asgR_some, Fr.truth_bl, Fr.truth_non, Fr.truth_int, Fr.truth_tup, Fr.truth_lst, Fr.truth_ref, Fr.srcOf_tup, Fr.srcOf_lst, Fr.srcOf_rol, Fr.srcOf_ref, Fr.seqOf_tup, Fr.seqOf_lst, Fr.seqOf_rol, Fr.seqOf_ref, Fr.negR_int, Fr.ixR_some, Fr.atD_int, Fr.addD_int, Fr.subD_int, Fr.ltD_int, Fr.leD_int, Fr.gtD_int, Fr.geD_int, Fr.eqD_int, Fr.neD_int, Fr.eqD_str, Fr.neD_str, Fr.lenD_tup, Fr.lenD_lst, Fr.lenD_rol, Fr.one_1, Fr.two_2, Fr.fin_nx, Fr.fin_int, Fr.fin_bl, Fr.fin_none, Fr.fin_str, Fr.okV]
  · intro x hx a
    obtain ⟨c, hc, rfl⟩ := List.mem_map.mp hx
    simp [compF_at, wipeR, c_is_clause _ _ _ _ (v.all c hc) hs, -List.map_map, ↓Fr.v_slot, ↓Fr.v_con, ↓Fr.v_bin, ↓Fr.v_neg, ↓Fr.v_cmp, ↓Fr.v_chain, ↓Fr.v_and, ↓Fr.v_or, ↓Fr.v_not, ↓Fr.v_ife, ↓Fr.v_tup, ↓Fr.v_lst, ↓Fr.v_ix, ↓Fr.v_sl, ↓Fr.v_call, ↓Fr.v_blt, ↓Fr.v_meth, ↓Fr.v_comp, ↓Fr.v_comp2, ↓Fr.v_lsc, ↓Fr.vs_nil, ↓Fr.vs_cons, ↓Fr.vt_and, ↓Fr.vt_or, ↓Fr.vt_not, ↓Fr.vt_slot, ↓Fr.vt_con, ↓Fr.vt_bin, ↓Fr.vt_neg, ↓Fr.vt_cmp, ↓Fr.vt_chain, ↓Fr.vt_ife, ↓Fr.vt_tup, ↓Fr.vt_lst, ↓Fr.vt_ix, ↓Fr.vt_sl, ↓Fr.vt_call, ↓Fr.vt_blt, ↓Fr.vt_meth, ↓Fr.vt_comp, ↓Fr.vc_nil, ↓Fr.vc_cons, ↓Fr.vi_rng1, ↓Fr.vi_rng2, ↓Fr.vi_slot, ↓Fr.vi_con, ↓Fr.vi_bin, ↓Fr.vi_neg, ↓Fr.vi_cmp, ↓Fr.vi_chain, ↓Fr.vi_ife, ↓Fr.vi_tup, ↓Fr.vi_lst, ↓Fr.vi_ix, ↓Fr.vi_sl, ↓Fr.vi_call, ↓Fr.vi_blt, ↓Fr.vi_meth, ↓Fr.vi_comp, ↓Fr.vo_nil, ↓Fr.vo_cons, ↓Fr.x_asg, ↓Fr.x_asgs, ↓Fr.x_setix, ↓Fr.x_expr, ↓Fr.x_ret, ↓Fr.x_retN, ↓Fr.x_pass, ↓Fr.x_brk, ↓Fr.x_cnt, ↓Fr.x_ifs, ↓Fr.x_whl, ↓Fr.x_for, ↓Fr.xs_nil, ↓Fr.xs_cons, ↓Fr.bindD_val, ↓Fr.bindD_new, ↓Fr.bind_ok, ↓Fr.bindO_val, ↓Fr.bindO_newT, ↓Fr.bindO_newF, ↓Fr.toS_ok, ↓Fr.seq_nx, ↓Fr.seq_ret, ↓Fr.seq_bk, ↓Fr.seq_ct, ↓Fr.iteS_t, ↓Fr.iteS_f, ↓Fr.iteR_t, ↓Fr.iteR_f, ↓Fr.optR_some, ↓Fr.okD_some, ↓Fr.okB_some, ↓Fr.okS_some, ↓Fr.andR_t, ↓Fr.andR_f, ↓Fr.orR_t, ↓Fr.orR_f, ↓Fr.chainR_t, ↓Fr.chainR_f, ↓Fr.compE_some, ↓Fr.compL_some, ↓Fr.compU_some, ↓Fr.keepR_t, ↓Fr.keepR_f, ↓Fr.keepU_t, ↓Fr.keepU_f, ↓Fr.gate_t, ↓Fr.gateS_t, C_call, C_blt0, C_blt1, C_blt2, C_blt3, C_blt4, C_blt5, C_blt6, C_blt7, C_blt8, C_blt9, C_blt10, C_blt11, C_blt12, C_blt13, C_m0, C_m1, C_m2, C_ty, C_add, C_sub, C_mul, C_fdiv, C_mod, C_pow, C_lt, C_le, C_gt, C_ge, C_eq, C_ne, C_in, C_notin, Fr.asg_nm, Fr.asg_tp, Fr.setR, Fr.getS, Fr.initR, Fr.asgR_some, Fr.truth_bl, Fr.truth_non, Fr.truth_int, Fr.truth_tup, Fr.truth_lst, Fr.truth_ref, Fr.srcOf_tup, Fr.srcOf_lst, Fr.srcOf_rol, Fr.srcOf_ref, Fr.seqOf_tup, Fr.seqOf_lst, Fr.seqOf_rol, Fr.seqOf_ref, Fr.negR_int, Fr.ixR_some, Fr.atD_int, Fr.addD_int, Fr.subD_int, Fr.ltD_int, Fr.leD_int, Fr.gtD_int, Fr.geD_int, Fr.eqD_int, Fr.neD_int, Fr.eqD_str, Fr.neD_str, Fr.lenD_tup, Fr.lenD_lst, Fr.lenD_rol, Fr.one_1, Fr.two_2, Fr.fin_nx, Fr.fin_int, Fr.fin_bl, Fr.fin_none, Fr.fin_str, Fr.okV]
  · intro x hx
    rfl
  · rw [List.length_map]
    show _ ≤ 2 ^ 24
    omega
structure Wr where
  ins : Int
  wide : Int
  f : List (List Int)
  e : List (List Int)
  n : List (List Int)
  l : List (List Int)
abbrev wD (w : Wr) : D := .tup [.int w.ins, .int w.wide, pD w.f, pD w.e, pD w.n, pD w.l]
structure vW (w : Wr) : Prop where
  i1 : 1 ≤ w.ins
  i2 : w.ins ≤ 2
  w1 : w.ins ≤ w.wide
  w4 : w.wide ≤ 4
  f : vP w.wide w.f
  e : vP w.wide w.e
  n : vP (2 * w.wide) w.n
  l : vP w.wide w.l
theorem c_is_writing (n : Nat) (w : Wr) (h : Hs) (v : vW w) : cl (n + 5) 6 [wD w] h = .ok (.val (.bl true)) h := by
  have w4 := v.w4
  have e0 : mulD (.int 2) (.int w.wide) h = .ok (.val (.int (2 * w.wide))) h := mulD_intL (by decide)
  have e1 : tupR [pD w.f, pD w.e, pD w.l] h = .ok (.val (.tup [pD w.f, pD w.e, pD w.l])) h := tupR_ok (by show 3 ≤ 2 ^ 24; decide)
  have p1 := fun h => c_is_part n (2 * w.wide) w.n h v.n (by omega)
  have p2 := fun h => c_is_part n w.wide w.f h v.f (by omega)
  have p3 := fun h => c_is_part n w.wide w.e h v.e (by omega)
  have p4 := fun h => c_is_part n w.wide w.l h v.l (by omega)
  rw [cl_succ]
  simp [fns, body_is_writing, isiD, tyN, kt3, e0, e1, p1, c_is_between, v.i1, v.i2, v.w1, v.w4, -List.map_map, ↓Fr.v_slot, ↓Fr.v_con, ↓Fr.v_bin, ↓Fr.v_neg, ↓Fr.v_cmp, ↓Fr.v_chain, ↓Fr.v_and, ↓Fr.v_or, ↓Fr.v_not, ↓Fr.v_ife, ↓Fr.v_tup, ↓Fr.v_lst, ↓Fr.v_ix, ↓Fr.v_sl, ↓Fr.v_call, ↓Fr.v_blt, ↓Fr.v_meth, ↓Fr.v_comp, ↓Fr.v_comp2, ↓Fr.v_lsc, ↓Fr.vs_nil, ↓Fr.vs_cons, ↓Fr.vt_and, ↓Fr.vt_or, ↓Fr.vt_not, ↓Fr.vt_slot, ↓Fr.vt_con, ↓Fr.vt_bin, ↓Fr.vt_neg, ↓Fr.vt_cmp, ↓Fr.vt_chain, ↓Fr.vt_ife, ↓Fr.vt_tup, ↓Fr.vt_lst, ↓Fr.vt_ix, ↓Fr.vt_sl, ↓Fr.vt_call, ↓Fr.vt_blt, ↓Fr.vt_meth, ↓Fr.vt_comp, ↓Fr.vc_nil, ↓Fr.vc_cons, ↓Fr.vi_rng1, ↓Fr.vi_rng2, ↓Fr.vi_slot, ↓Fr.vi_con, ↓Fr.vi_bin, ↓Fr.vi_neg, ↓Fr.vi_cmp, ↓Fr.vi_chain, ↓Fr.vi_ife, ↓Fr.vi_tup, ↓Fr.vi_lst, ↓Fr.vi_ix, ↓Fr.vi_sl, ↓Fr.vi_call, ↓Fr.vi_blt, ↓Fr.vi_meth, ↓Fr.vi_comp, ↓Fr.vo_nil, ↓Fr.vo_cons, ↓Fr.x_asg, ↓Fr.x_asgs, ↓Fr.x_setix, ↓Fr.x_expr, ↓Fr.x_ret, ↓Fr.x_retN, ↓Fr.x_pass, ↓Fr.x_brk, ↓Fr.x_cnt, ↓Fr.x_ifs, ↓Fr.x_whl, ↓Fr.x_for, ↓Fr.xs_nil, ↓Fr.xs_cons, ↓Fr.bindD_val, ↓Fr.bindD_new, ↓Fr.bind_ok, ↓Fr.bindO_val, ↓Fr.bindO_newT, ↓Fr.bindO_newF, ↓Fr.toS_ok, ↓Fr.seq_nx, ↓Fr.seq_ret, ↓Fr.seq_bk, ↓Fr.seq_ct, ↓Fr.iteS_t, ↓Fr.iteS_f, ↓Fr.iteR_t, ↓Fr.iteR_f, ↓Fr.optR_some, ↓Fr.okD_some, ↓Fr.okB_some, ↓Fr.okS_some, ↓Fr.andR_t, ↓Fr.andR_f, ↓Fr.orR_t, ↓Fr.orR_f, ↓Fr.chainR_t, ↓Fr.chainR_f, ↓Fr.compE_some, ↓Fr.compL_some, ↓Fr.compU_some, ↓Fr.keepR_t, ↓Fr.keepR_f, ↓Fr.keepU_t, ↓Fr.keepU_f, ↓Fr.gate_t, ↓Fr.gateS_t, C_call, C_blt0, C_blt1, C_blt2, C_blt3, C_blt4, C_blt5, C_blt6, C_blt7, C_blt8, C_blt9, C_blt10, C_blt11, C_blt12, C_blt13, C_m0, C_m1, C_m2, C_ty, C_add, C_sub, C_mul, C_fdiv, C_mod, C_pow, C_lt, C_le, C_gt, C_ge, C_eq, C_ne, C_in, C_notin, Fr.asg_nm, Fr.asg_tp, Fr.setR, Fr.getS, Fr.initR, Fr.asgR_some, Fr.truth_bl, Fr.truth_non, Fr.truth_int, Fr.truth_tup, Fr.truth_lst, Fr.truth_ref, Fr.srcOf_tup, Fr.srcOf_lst, Fr.srcOf_rol, Fr.srcOf_ref, Fr.seqOf_tup, Fr.seqOf_lst, Fr.seqOf_rol, Fr.seqOf_ref, Fr.negR_int, Fr.ixR_some, Fr.atD_int, Fr.addD_int, Fr.subD_int, Fr.ltD_int, Fr.leD_int, Fr.gtD_int, Fr.geD_int, Fr.eqD_int, Fr.neD_int, Fr.eqD_str, Fr.neD_str, Fr.lenD_tup, Fr.lenD_lst, Fr.lenD_rol, Fr.one_1, Fr.two_2, Fr.fin_nx, Fr.fin_int, Fr.fin_bl, Fr.fin_none, Fr.fin_str, Fr.okV]
  rw [mapS_map (fun _ => .bl true)]
  · simp [all_true, -List.map_map, ↓Fr.v_slot, ↓Fr.v_con, ↓Fr.v_bin, ↓Fr.v_neg, ↓Fr.v_cmp, ↓Fr.v_chain, ↓Fr.v_and, ↓Fr.v_or, ↓Fr.v_not, ↓Fr.v_ife, ↓Fr.v_tup, ↓Fr.v_lst, ↓Fr.v_ix, ↓Fr.v_sl, ↓Fr.v_call, ↓Fr.v_blt, ↓Fr.v_meth, ↓Fr.v_comp, ↓Fr.v_comp2, ↓Fr.v_lsc, ↓Fr.vs_nil, ↓Fr.vs_cons, ↓Fr.vt_and, ↓Fr.vt_or, ↓Fr.vt_not, ↓Fr.vt_slot, ↓Fr.vt_con, ↓Fr.vt_bin, ↓Fr.vt_neg, ↓Fr.vt_cmp, ↓Fr.vt_chain, ↓Fr.vt_ife, ↓Fr.vt_tup, ↓Fr.vt_lst, ↓Fr.vt_ix, ↓Fr.vt_sl, ↓Fr.vt_call, ↓Fr.vt_blt, ↓Fr.vt_meth, ↓Fr.vt_comp, ↓Fr.vc_nil, ↓Fr.vc_cons, ↓Fr.vi_rng1, ↓Fr.vi_rng2, ↓Fr.vi_slot, ↓Fr.vi_con, ↓Fr.vi_bin, ↓Fr.vi_neg, ↓Fr.vi_cmp, ↓Fr.vi_chain, ↓Fr.vi_ife, ↓Fr.vi_tup, ↓Fr.vi_lst, ↓Fr.vi_ix, ↓Fr.vi_sl, ↓Fr.vi_call, ↓Fr.vi_blt, ↓Fr.vi_meth, ↓Fr.vi_comp, ↓Fr.vo_nil, ↓Fr.vo_cons, ↓Fr.x_asg, ↓Fr.x_asgs, ↓Fr.x_setix, ↓Fr.x_expr, ↓Fr.x_ret, ↓Fr.x_retN, ↓Fr.x_pass, ↓Fr.x_brk, ↓Fr.x_cnt, ↓Fr.x_ifs, ↓Fr.x_whl, ↓Fr.x_for, ↓Fr.xs_nil, ↓Fr.xs_cons, ↓Fr.bindD_val, ↓Fr.bindD_new, ↓Fr.bind_ok, ↓Fr.bindO_val, ↓Fr.bindO_newT, ↓Fr.bindO_newF, ↓Fr.toS_ok, ↓Fr.seq_nx, ↓Fr.seq_ret, ↓Fr.seq_bk, ↓Fr.seq_ct, ↓Fr.iteS_t, ↓Fr.iteS_f, ↓Fr.iteR_t, ↓Fr.iteR_f, ↓Fr.optR_some, ↓Fr.okD_some, ↓Fr.okB_some, ↓Fr.okS_some, ↓Fr.andR_t, ↓Fr.andR_f, ↓Fr.orR_t, ↓Fr.orR_f, ↓Fr.chainR_t, ↓Fr.chainR_f, ↓Fr.compE_some, ↓Fr.compL_some, ↓Fr.compU_some, ↓Fr.keepR_t, ↓Fr.keepR_f, ↓Fr.keepU_t, ↓Fr.keepU_f, ↓Fr.gate_t, ↓Fr.gateS_t, C_call, C_blt0, C_blt1, C_blt2, C_blt3, C_blt4, C_blt5, C_blt6, C_blt7, C_blt8, C_blt9, C_blt10, C_blt11, C_blt12, C_blt13, C_m0, C_m1, C_m2, C_ty, C_add, C_sub, C_mul, C_fdiv, C_mod, C_pow, C_lt, C_le, C_gt, C_ge, C_eq, C_ne, C_in, C_notin, Fr.asg_nm, Fr.asg_tp, Fr.setR, Fr.getS, Fr.initR, Fr.asgR_some, Fr.truth_bl, Fr.truth_non, Fr.truth_int, Fr.truth_tup, Fr.truth_lst, Fr.truth_ref, Fr.srcOf_tup, Fr.srcOf_lst, Fr.srcOf_rol, Fr.srcOf_ref, Fr.seqOf_tup, Fr.seqOf_lst, Fr.seqOf_rol, Fr.seqOf_ref, Fr.negR_int, Fr.ixR_some, Fr.atD_int, Fr.addD_int, Fr.subD_int, Fr.ltD_int, Fr.leD_int, Fr.gtD_int, Fr.geD_int, Fr.eqD_int, Fr.neD_int, Fr.eqD_str, Fr.neD_str, Fr.lenD_tup, Fr.lenD_lst, Fr.lenD_rol, Fr.one_1, Fr.two_2, Fr.fin_nx, Fr.fin_int, Fr.fin_bl, Fr.fin_none, Fr.fin_str, Fr.okV]
  · intro x hx a
    simp only [List.mem_cons, List.not_mem_nil, or_false] at hx
    rcases hx with rfl | rfl | rfl <;> simp [compF_at, wipeR, p2, p3, p4, -List.map_map, ↓Fr.v_slot, ↓Fr.v_con, ↓Fr.v_bin, ↓Fr.v_neg, ↓Fr.v_cmp, ↓Fr.v_chain, ↓Fr.v_and, ↓Fr.v_or, ↓Fr.v_not, ↓Fr.v_ife, ↓Fr.v_tup, ↓Fr.v_lst, ↓Fr.v_ix, ↓Fr.v_sl, ↓Fr.v_call, ↓Fr.v_blt, ↓Fr.v_meth, ↓Fr.v_comp, ↓Fr.v_comp2, ↓Fr.v_lsc, ↓Fr.vs_nil, ↓Fr.vs_cons, ↓Fr.vt_and, ↓Fr.vt_or, ↓Fr.vt_not, ↓Fr.vt_slot, ↓Fr.vt_con, ↓Fr.vt_bin, ↓Fr.vt_neg, ↓Fr.vt_cmp, ↓Fr.vt_chain, ↓Fr.vt_ife, ↓Fr.vt_tup, ↓Fr.vt_lst, ↓Fr.vt_ix, ↓Fr.vt_sl, ↓Fr.vt_call, ↓Fr.vt_blt, ↓Fr.vt_meth, ↓Fr.vt_comp, ↓Fr.vc_nil, ↓Fr.vc_cons, ↓Fr.vi_rng1, ↓Fr.vi_rng2, ↓Fr.vi_slot, ↓Fr.vi_con, ↓Fr.vi_bin, ↓Fr.vi_neg, ↓Fr.vi_cmp, ↓Fr.vi_chain, ↓Fr.vi_ife, ↓Fr.vi_tup, ↓Fr.vi_lst, ↓Fr.vi_ix, ↓Fr.vi_sl, ↓Fr.vi_call, ↓Fr.vi_blt, ↓Fr.vi_meth, ↓Fr.vi_comp, ↓Fr.vo_nil, ↓Fr.vo_cons, ↓Fr.x_asg, ↓Fr.x_asgs, ↓Fr.x_setix, ↓Fr.x_expr, ↓Fr.x_ret, ↓Fr.x_retN, ↓Fr.x_pass, ↓Fr.x_brk, ↓Fr.x_cnt, ↓Fr.x_ifs, ↓Fr.x_whl, ↓Fr.x_for, ↓Fr.xs_nil, ↓Fr.xs_cons, ↓Fr.bindD_val, ↓Fr.bindD_new, ↓Fr.bind_ok, ↓Fr.bindO_val, ↓Fr.bindO_newT, ↓Fr.bindO_newF, ↓Fr.toS_ok, ↓Fr.seq_nx, ↓Fr.seq_ret, ↓Fr.seq_bk, ↓Fr.seq_ct, ↓Fr.iteS_t, ↓Fr.iteS_f, ↓Fr.iteR_t, ↓Fr.iteR_f, ↓Fr.optR_some, ↓Fr.okD_some, ↓Fr.okB_some, ↓Fr.okS_some, ↓Fr.andR_t, ↓Fr.andR_f, ↓Fr.orR_t, ↓Fr.orR_f, ↓Fr.chainR_t, ↓Fr.chainR_f, ↓Fr.compE_some, ↓Fr.compL_some, ↓Fr.compU_some, ↓Fr.keepR_t, ↓Fr.keepR_f, ↓Fr.keepU_t, ↓Fr.keepU_f, ↓Fr.gate_t, ↓Fr.gateS_t, C_call, C_blt0, C_blt1, C_blt2, C_blt3, C_blt4, C_blt5, C_blt6, C_blt7, C_blt8, C_blt9, C_blt10, C_blt11, C_blt12, C_blt13, C_m0, C_m1, C_m2, C_ty, C_add, C_sub, C_mul, C_fdiv, C_mod, C_pow, C_lt, C_le, C_gt, C_ge, C_eq, C_ne, C_in, C_notin, Fr.asg_nm, Fr.asg_tp, Fr.setR, Fr.getS, Fr.initR, Fr.asgR_some, Fr.truth_bl, Fr.truth_non, Fr.truth_int, Fr.truth_tup, Fr.truth_lst, Fr.truth_ref, Fr.srcOf_tup, Fr.srcOf_lst, Fr.srcOf_rol, Fr.srcOf_ref, Fr.seqOf_tup, Fr.seqOf_lst, Fr.seqOf_rol, Fr.seqOf_ref, Fr.negR_int, Fr.ixR_some, Fr.atD_int, Fr.addD_int, Fr.subD_int, Fr.ltD_int, Fr.leD_int, Fr.gtD_int, Fr.geD_int, Fr.eqD_int, Fr.neD_int, Fr.eqD_str, Fr.neD_str, Fr.lenD_tup, Fr.lenD_lst, Fr.lenD_rol, Fr.one_1, Fr.two_2, Fr.fin_nx, Fr.fin_int, Fr.fin_bl, Fr.fin_none, Fr.fin_str, Fr.okV]
  · intro x hx
    rfl
  · show 3 ≤ 2 ^ 24
    decide
theorem c_check_writing (n : Nat) (w : Wr) (h : Hs) (v : vW w) : cl (n + 6) 7 [wD w] h = .ok (.val .non) h := by
  rw [cl_succ]
  simp [fns, body_check_writing, c_is_writing, v, -List.map_map, ↓Fr.v_slot, ↓Fr.v_con, ↓Fr.v_bin, ↓Fr.v_neg, ↓Fr.v_cmp, ↓Fr.v_chain, ↓Fr.v_and, ↓Fr.v_or, ↓Fr.v_not, ↓Fr.v_ife, ↓Fr.v_tup, ↓Fr.v_lst, ↓Fr.v_ix, ↓Fr.v_sl, ↓Fr.v_call, ↓Fr.v_blt, ↓Fr.v_meth, ↓Fr.v_comp, ↓Fr.v_comp2, ↓Fr.v_lsc, ↓Fr.vs_nil, ↓Fr.vs_cons, ↓Fr.vt_and, ↓Fr.vt_or, ↓Fr.vt_not, ↓Fr.vt_slot, ↓Fr.vt_con, ↓Fr.vt_bin, ↓Fr.vt_neg, ↓Fr.vt_cmp, ↓Fr.vt_chain, ↓Fr.vt_ife, ↓Fr.vt_tup, ↓Fr.vt_lst, ↓Fr.vt_ix, ↓Fr.vt_sl, ↓Fr.vt_call, ↓Fr.vt_blt, ↓Fr.vt_meth, ↓Fr.vt_comp, ↓Fr.vc_nil, ↓Fr.vc_cons, ↓Fr.vi_rng1, ↓Fr.vi_rng2, ↓Fr.vi_slot, ↓Fr.vi_con, ↓Fr.vi_bin, ↓Fr.vi_neg, ↓Fr.vi_cmp, ↓Fr.vi_chain, ↓Fr.vi_ife, ↓Fr.vi_tup, ↓Fr.vi_lst, ↓Fr.vi_ix, ↓Fr.vi_sl, ↓Fr.vi_call, ↓Fr.vi_blt, ↓Fr.vi_meth, ↓Fr.vi_comp, ↓Fr.vo_nil, ↓Fr.vo_cons, ↓Fr.x_asg, ↓Fr.x_asgs, ↓Fr.x_setix, ↓Fr.x_expr, ↓Fr.x_ret, ↓Fr.x_retN, ↓Fr.x_pass, ↓Fr.x_brk, ↓Fr.x_cnt, ↓Fr.x_ifs, ↓Fr.x_whl, ↓Fr.x_for, ↓Fr.xs_nil, ↓Fr.xs_cons, ↓Fr.bindD_val, ↓Fr.bindD_new, ↓Fr.bind_ok, ↓Fr.bindO_val, ↓Fr.bindO_newT, ↓Fr.bindO_newF, ↓Fr.toS_ok, ↓Fr.seq_nx, ↓Fr.seq_ret, ↓Fr.seq_bk, ↓Fr.seq_ct, ↓Fr.iteS_t, ↓Fr.iteS_f, ↓Fr.iteR_t, ↓Fr.iteR_f, ↓Fr.optR_some, ↓Fr.okD_some, ↓Fr.okB_some, ↓Fr.okS_some, ↓Fr.andR_t, ↓Fr.andR_f, ↓Fr.orR_t, ↓Fr.orR_f, ↓Fr.chainR_t, ↓Fr.chainR_f, ↓Fr.compE_some, ↓Fr.compL_some, ↓Fr.compU_some, ↓Fr.keepR_t, ↓Fr.keepR_f, ↓Fr.keepU_t, ↓Fr.keepU_f, ↓Fr.gate_t, ↓Fr.gateS_t, C_call, C_blt0, C_blt1, C_blt2, C_blt3, C_blt4, C_blt5, C_blt6, C_blt7, C_blt8, C_blt9, C_blt10, C_blt11, C_blt12, C_blt13, C_m0, C_m1, C_m2, C_ty, C_add, C_sub, C_mul, C_fdiv, C_mod, C_pow, C_lt, C_le, C_gt, C_ge, C_eq, C_ne, C_in, C_notin, Fr.asg_nm, Fr.asg_tp, Fr.setR, Fr.getS, Fr.initR, Fr.asgR_some, Fr.truth_bl, Fr.truth_non, Fr.truth_int, Fr.truth_tup, Fr.truth_lst, Fr.truth_ref, Fr.srcOf_tup, Fr.srcOf_lst, Fr.srcOf_rol, Fr.srcOf_ref, Fr.seqOf_tup, Fr.seqOf_lst, Fr.seqOf_rol, Fr.seqOf_ref, Fr.negR_int, Fr.ixR_some, Fr.atD_int, Fr.addD_int, Fr.subD_int, Fr.ltD_int, Fr.leD_int, Fr.gtD_int, Fr.geD_int, Fr.eqD_int, Fr.neD_int, Fr.eqD_str, Fr.neD_str, Fr.lenD_tup, Fr.lenD_lst, Fr.lenD_rol, Fr.one_1, Fr.two_2, Fr.fin_nx, Fr.fin_int, Fr.fin_bl, Fr.fin_none, Fr.fin_str, Fr.okV]
def mvl (b l : Int) : Int := if 0 < l then l + b else l - b
def dmv (b : Int) : D → D
  | .int l => .int (mvl b l)
  | d => d
theorem tup_lst {ds : List D} {h : Hs} : tupD (.lst ds) h = .ok (.val (.tup ds)) h := by
  simp [tupD, seqOf, optR, okV]
theorem flat_ints (c : List Int) : D.flatvs (c.map .int) = true := flatvs_all fun d hd => by
  obtain ⟨i, hi, rfl⟩ := List.mem_map.mp hd
  rfl
theorem und_c (m : Nat) (c : List Int) : D.unds m (c.map .int) = true := D.flatvs_unds (flat_ints c)
theorem und_p (m : Nat) (p : List (List Int)) : D.unds m (p.map cD) = true := D.flatvs_unds (flatvs_all fun d hd => by
  obtain ⟨c, hc, rfl⟩ := List.mem_map.mp hd
  unfold D.flatv
  exact flat_ints c)
theorem fin_cD {m : Nat} {c : List Int} {h : Hs} : fin m (.ret (.val (.tup (List.map D.int c))) h) = .ok (.val (.tup (List.map D.int c))) (h.take m) := fin_tup (und_c m c)
theorem c_moved (n : Nat) (c : List Int) (b : Int) (h : Hs) (hl : c.length ≤ 1000) : cl (n + 1) 8 [cD c, .int b] h = .ok (.val (cD (c.map (mvl b)))) h := by
  rw [cl_succ]
  simp [fns, body_moved, -List.map_map, ↓Fr.v_slot, ↓Fr.v_con, ↓Fr.v_bin, ↓Fr.v_neg, ↓Fr.v_cmp, ↓Fr.v_chain, ↓Fr.v_and, ↓Fr.v_or, ↓Fr.v_not, ↓Fr.v_ife, ↓Fr.v_tup, ↓Fr.v_lst, ↓Fr.v_ix, ↓Fr.v_sl, ↓Fr.v_call, ↓Fr.v_blt, ↓Fr.v_meth, ↓Fr.v_comp, ↓Fr.v_comp2, ↓Fr.v_lsc, ↓Fr.vs_nil, ↓Fr.vs_cons, ↓Fr.vt_and, ↓Fr.vt_or, ↓Fr.vt_not, ↓Fr.vt_slot, ↓Fr.vt_con, ↓Fr.vt_bin, ↓Fr.vt_neg, ↓Fr.vt_cmp, ↓Fr.vt_chain, ↓Fr.vt_ife, ↓Fr.vt_tup, ↓Fr.vt_lst, ↓Fr.vt_ix, ↓Fr.vt_sl, ↓Fr.vt_call, ↓Fr.vt_blt, ↓Fr.vt_meth, ↓Fr.vt_comp, ↓Fr.vc_nil, ↓Fr.vc_cons, ↓Fr.vi_rng1, ↓Fr.vi_rng2, ↓Fr.vi_slot, ↓Fr.vi_con, ↓Fr.vi_bin, ↓Fr.vi_neg, ↓Fr.vi_cmp, ↓Fr.vi_chain, ↓Fr.vi_ife, ↓Fr.vi_tup, ↓Fr.vi_lst, ↓Fr.vi_ix, ↓Fr.vi_sl, ↓Fr.vi_call, ↓Fr.vi_blt, ↓Fr.vi_meth, ↓Fr.vi_comp, ↓Fr.vo_nil, ↓Fr.vo_cons, ↓Fr.x_asg, ↓Fr.x_asgs, ↓Fr.x_setix, ↓Fr.x_expr, ↓Fr.x_ret, ↓Fr.x_retN, ↓Fr.x_pass, ↓Fr.x_brk, ↓Fr.x_cnt, ↓Fr.x_ifs, ↓Fr.x_whl, ↓Fr.x_for, ↓Fr.xs_nil, ↓Fr.xs_cons, ↓Fr.bindD_val, ↓Fr.bindD_new, ↓Fr.bind_ok, ↓Fr.bindO_val, ↓Fr.bindO_newT, ↓Fr.bindO_newF, ↓Fr.toS_ok, ↓Fr.seq_nx, ↓Fr.seq_ret, ↓Fr.seq_bk, ↓Fr.seq_ct, ↓Fr.iteS_t, ↓Fr.iteS_f, ↓Fr.iteR_t, ↓Fr.iteR_f, ↓Fr.optR_some, ↓Fr.okD_some, ↓Fr.okB_some, ↓Fr.okS_some, ↓Fr.andR_t, ↓Fr.andR_f, ↓Fr.orR_t, ↓Fr.orR_f, ↓Fr.chainR_t, ↓Fr.chainR_f, ↓Fr.compE_some, ↓Fr.compL_some, ↓Fr.compU_some, ↓Fr.keepR_t, ↓Fr.keepR_f, ↓Fr.keepU_t, ↓Fr.keepU_f, ↓Fr.gate_t, ↓Fr.gateS_t, C_call, C_blt0, C_blt1, C_blt2, C_blt3, C_blt4, C_blt5, C_blt6, C_blt7, C_blt8, C_blt9, C_blt10, C_blt11, C_blt12, C_blt13, C_m0, C_m1, C_m2, C_ty, C_add, C_sub, C_mul, C_fdiv, C_mod, C_pow, C_lt, C_le, C_gt, C_ge, C_eq, C_ne, C_in, C_notin, Fr.asg_nm, Fr.asg_tp, Fr.setR, Fr.getS, Fr.initR, Fr.asgR_some, Fr.truth_bl, Fr.truth_non, Fr.truth_int, Fr.truth_tup, Fr.truth_lst, Fr.truth_ref, Fr.srcOf_tup, Fr.srcOf_lst, Fr.srcOf_rol, Fr.srcOf_ref, Fr.seqOf_tup, Fr.seqOf_lst, Fr.seqOf_rol, Fr.seqOf_ref, Fr.negR_int, Fr.ixR_some, Fr.atD_int, Fr.addD_int, Fr.subD_int, Fr.ltD_int, Fr.leD_int, Fr.gtD_int, Fr.geD_int, Fr.eqD_int, Fr.neD_int, Fr.eqD_str, Fr.neD_str, Fr.lenD_tup, Fr.lenD_lst, Fr.lenD_rol, Fr.one_1, Fr.two_2, Fr.fin_nx, Fr.fin_int, Fr.fin_bl, Fr.fin_none, Fr.fin_str, Fr.okV]
  rw [mapS_map (dmv b)]
  · have e : List.map (dmv b) (List.map D.int c) = List.map D.int (c.map (mvl b)) := by simp [dmv, Function.comp_def]
    rw [e]
    simp [tup_lst, -List.map_map, ↓Fr.v_slot, ↓Fr.v_con, ↓Fr.v_bin, ↓Fr.v_neg, ↓Fr.v_cmp, ↓Fr.v_chain, ↓Fr.v_and, ↓Fr.v_or, ↓Fr.v_not, ↓Fr.v_ife, ↓Fr.v_tup, ↓Fr.v_lst, ↓Fr.v_ix, ↓Fr.v_sl, ↓Fr.v_call, ↓Fr.v_blt, ↓Fr.v_meth, ↓Fr.v_comp, ↓Fr.v_comp2, ↓Fr.v_lsc, ↓Fr.vs_nil, ↓Fr.vs_cons, ↓Fr.vt_and, ↓Fr.vt_or, ↓Fr.vt_not, ↓Fr.vt_slot, ↓Fr.vt_con, ↓Fr.vt_bin, ↓Fr.vt_neg, ↓Fr.vt_cmp, ↓Fr.vt_chain, ↓Fr.vt_ife, ↓Fr.vt_tup, ↓Fr.vt_lst, ↓Fr.vt_ix, ↓Fr.vt_sl, ↓Fr.vt_call, ↓Fr.vt_blt, ↓Fr.vt_meth, ↓Fr.vt_comp, ↓Fr.vc_nil, ↓Fr.vc_cons, ↓Fr.vi_rng1, ↓Fr.vi_rng2, ↓Fr.vi_slot, ↓Fr.vi_con, ↓Fr.vi_bin, ↓Fr.vi_neg, ↓Fr.vi_cmp, ↓Fr.vi_chain, ↓Fr.vi_ife, ↓Fr.vi_tup, ↓Fr.vi_lst, ↓Fr.vi_ix, ↓Fr.vi_sl, ↓Fr.vi_call, ↓Fr.vi_blt, ↓Fr.vi_meth, ↓Fr.vi_comp, ↓Fr.vo_nil, ↓Fr.vo_cons, ↓Fr.x_asg, ↓Fr.x_asgs, ↓Fr.x_setix, ↓Fr.x_expr, ↓Fr.x_ret, ↓Fr.x_retN, ↓Fr.x_pass, ↓Fr.x_brk, ↓Fr.x_cnt, ↓Fr.x_ifs, ↓Fr.x_whl, ↓Fr.x_for, ↓Fr.xs_nil, ↓Fr.xs_cons, ↓Fr.bindD_val, ↓Fr.bindD_new, ↓Fr.bind_ok, ↓Fr.bindO_val, ↓Fr.bindO_newT, ↓Fr.bindO_newF, ↓Fr.toS_ok, ↓Fr.seq_nx, ↓Fr.seq_ret, ↓Fr.seq_bk, ↓Fr.seq_ct, ↓Fr.iteS_t, ↓Fr.iteS_f, ↓Fr.iteR_t, ↓Fr.iteR_f, ↓Fr.optR_some, ↓Fr.okD_some, ↓Fr.okB_some, ↓Fr.okS_some, ↓Fr.andR_t, ↓Fr.andR_f, ↓Fr.orR_t, ↓Fr.orR_f, ↓Fr.chainR_t, ↓Fr.chainR_f, ↓Fr.compE_some, ↓Fr.compL_some, ↓Fr.compU_some, ↓Fr.keepR_t, ↓Fr.keepR_f, ↓Fr.keepU_t, ↓Fr.keepU_f, ↓Fr.gate_t, ↓Fr.gateS_t, C_call, C_blt0, C_blt1, C_blt2, C_blt3, C_blt4, C_blt5, C_blt6, C_blt7, C_blt8, C_blt9, C_blt10, C_blt11, C_blt12, C_blt13, C_m0, C_m1, C_m2, C_ty, C_add, C_sub, C_mul, C_fdiv, C_mod, C_pow, C_lt, C_le, C_gt, C_ge, C_eq, C_ne, C_in, C_notin, Fr.asg_nm, Fr.asg_tp, Fr.setR, Fr.getS, Fr.initR, Fr.asgR_some, Fr.truth_bl, Fr.truth_non, Fr.truth_int, Fr.truth_tup, Fr.truth_lst, Fr.truth_ref, Fr.srcOf_tup, Fr.srcOf_lst, Fr.srcOf_rol, Fr.srcOf_ref, Fr.seqOf_tup, Fr.seqOf_lst, Fr.seqOf_rol, Fr.seqOf_ref, Fr.negR_int, Fr.ixR_some, Fr.atD_int, Fr.addD_int, Fr.subD_int, Fr.ltD_int, Fr.leD_int, Fr.gtD_int, Fr.geD_int, Fr.eqD_int, Fr.neD_int, Fr.eqD_str, Fr.neD_str, Fr.lenD_tup, Fr.lenD_lst, Fr.lenD_rol, Fr.one_1, Fr.two_2, Fr.fin_nx, Fr.fin_int, Fr.fin_bl, Fr.fin_none, Fr.fin_str, Fr.okV]
    rw [fin_cD, List.take_length]
  · intro x hx a
    obtain ⟨i, hi, rfl⟩ := List.mem_map.mp hx
    by_cases z : 0 < i
    · simp [compF_at, wipeR, z, dmv, mvl, -List.map_map, ↓Fr.v_slot, ↓Fr.v_con, ↓Fr.v_bin, ↓Fr.v_neg, ↓Fr.v_cmp, ↓Fr.v_chain, ↓Fr.v_and, ↓Fr.v_or, ↓Fr.v_not, ↓Fr.v_ife, ↓Fr.v_tup, ↓Fr.v_lst, ↓Fr.v_ix, ↓Fr.v_sl, ↓Fr.v_call, ↓Fr.v_blt, ↓Fr.v_meth, ↓Fr.v_comp, ↓Fr.v_comp2, ↓Fr.v_lsc, ↓Fr.vs_nil, ↓Fr.vs_cons, ↓Fr.vt_and, ↓Fr.vt_or, ↓Fr.vt_not, ↓Fr.vt_slot, ↓Fr.vt_con, ↓Fr.vt_bin, ↓Fr.vt_neg, ↓Fr.vt_cmp, ↓Fr.vt_chain, ↓Fr.vt_ife, ↓Fr.vt_tup, ↓Fr.vt_lst, ↓Fr.vt_ix, ↓Fr.vt_sl, ↓Fr.vt_call, ↓Fr.vt_blt, ↓Fr.vt_meth, ↓Fr.vt_comp, ↓Fr.vc_nil, ↓Fr.vc_cons, ↓Fr.vi_rng1, ↓Fr.vi_rng2, ↓Fr.vi_slot, ↓Fr.vi_con, ↓Fr.vi_bin, ↓Fr.vi_neg, ↓Fr.vi_cmp, ↓Fr.vi_chain, ↓Fr.vi_ife, ↓Fr.vi_tup, ↓Fr.vi_lst, ↓Fr.vi_ix, ↓Fr.vi_sl, ↓Fr.vi_call, ↓Fr.vi_blt, ↓Fr.vi_meth, ↓Fr.vi_comp, ↓Fr.vo_nil, ↓Fr.vo_cons, ↓Fr.x_asg, ↓Fr.x_asgs, ↓Fr.x_setix, ↓Fr.x_expr, ↓Fr.x_ret, ↓Fr.x_retN, ↓Fr.x_pass, ↓Fr.x_brk, ↓Fr.x_cnt, ↓Fr.x_ifs, ↓Fr.x_whl, ↓Fr.x_for, ↓Fr.xs_nil, ↓Fr.xs_cons, ↓Fr.bindD_val, ↓Fr.bindD_new, ↓Fr.bind_ok, ↓Fr.bindO_val, ↓Fr.bindO_newT, ↓Fr.bindO_newF, ↓Fr.toS_ok, ↓Fr.seq_nx, ↓Fr.seq_ret, ↓Fr.seq_bk, ↓Fr.seq_ct, ↓Fr.iteS_t, ↓Fr.iteS_f, ↓Fr.iteR_t, ↓Fr.iteR_f, ↓Fr.optR_some, ↓Fr.okD_some, ↓Fr.okB_some, ↓Fr.okS_some, ↓Fr.andR_t, ↓Fr.andR_f, ↓Fr.orR_t, ↓Fr.orR_f, ↓Fr.chainR_t, ↓Fr.chainR_f, ↓Fr.compE_some, ↓Fr.compL_some, ↓Fr.compU_some, ↓Fr.keepR_t, ↓Fr.keepR_f, ↓Fr.keepU_t, ↓Fr.keepU_f, ↓Fr.gate_t, ↓Fr.gateS_t, C_call, C_blt0, C_blt1, C_blt2, C_blt3, C_blt4, C_blt5, C_blt6, C_blt7, C_blt8, C_blt9, C_blt10, C_blt11, C_blt12, C_blt13, C_m0, C_m1, C_m2, C_ty, C_add, C_sub, C_mul, C_fdiv, C_mod, C_pow, C_lt, C_le, C_gt, C_ge, C_eq, C_ne, C_in, C_notin, Fr.asg_nm, Fr.asg_tp, Fr.setR, Fr.getS, Fr.initR, Fr.asgR_some, Fr.truth_bl, Fr.truth_non, Fr.truth_int, Fr.truth_tup, Fr.truth_lst, Fr.truth_ref, Fr.srcOf_tup, Fr.srcOf_lst, Fr.srcOf_rol, Fr.srcOf_ref, Fr.seqOf_tup, Fr.seqOf_lst, Fr.seqOf_rol, Fr.seqOf_ref, Fr.negR_int, Fr.ixR_some, Fr.atD_int, Fr.addD_int, Fr.subD_int, Fr.ltD_int, Fr.leD_int, Fr.gtD_int, Fr.geD_int, Fr.eqD_int, Fr.neD_int, Fr.eqD_str, Fr.neD_str, Fr.lenD_tup, Fr.lenD_lst, Fr.lenD_rol, Fr.one_1, Fr.two_2, Fr.fin_nx, Fr.fin_int, Fr.fin_bl, Fr.fin_none, Fr.fin_str, Fr.okV]
    · simp [compF_at, wipeR, z, dmv, mvl, -List.map_map, ↓Fr.v_slot, ↓Fr.v_con, ↓Fr.v_bin, ↓Fr.v_neg, ↓Fr.v_cmp, ↓Fr.v_chain, ↓Fr.v_and, ↓Fr.v_or, ↓Fr.v_not, ↓Fr.v_ife, ↓Fr.v_tup, ↓Fr.v_lst, ↓Fr.v_ix, ↓Fr.v_sl, ↓Fr.v_call, ↓Fr.v_blt, ↓Fr.v_meth, ↓Fr.v_comp, ↓Fr.v_comp2, ↓Fr.v_lsc, ↓Fr.vs_nil, ↓Fr.vs_cons, ↓Fr.vt_and, ↓Fr.vt_or, ↓Fr.vt_not, ↓Fr.vt_slot, ↓Fr.vt_con, ↓Fr.vt_bin, ↓Fr.vt_neg, ↓Fr.vt_cmp, ↓Fr.vt_chain, ↓Fr.vt_ife, ↓Fr.vt_tup, ↓Fr.vt_lst, ↓Fr.vt_ix, ↓Fr.vt_sl, ↓Fr.vt_call, ↓Fr.vt_blt, ↓Fr.vt_meth, ↓Fr.vt_comp, ↓Fr.vc_nil, ↓Fr.vc_cons, ↓Fr.vi_rng1, ↓Fr.vi_rng2, ↓Fr.vi_slot, ↓Fr.vi_con, ↓Fr.vi_bin, ↓Fr.vi_neg, ↓Fr.vi_cmp, ↓Fr.vi_chain, ↓Fr.vi_ife, ↓Fr.vi_tup, ↓Fr.vi_lst, ↓Fr.vi_ix, ↓Fr.vi_sl, ↓Fr.vi_call, ↓Fr.vi_blt, ↓Fr.vi_meth, ↓Fr.vi_comp, ↓Fr.vo_nil, ↓Fr.vo_cons, ↓Fr.x_asg, ↓Fr.x_asgs, ↓Fr.x_setix, ↓Fr.x_expr, ↓Fr.x_ret, ↓Fr.x_retN, ↓Fr.x_pass, ↓Fr.x_brk, ↓Fr.x_cnt, ↓Fr.x_ifs, ↓Fr.x_whl, ↓Fr.x_for, ↓Fr.xs_nil, ↓Fr.xs_cons, ↓Fr.bindD_val, ↓Fr.bindD_new, ↓Fr.bind_ok, ↓Fr.bindO_val, ↓Fr.bindO_newT, ↓Fr.bindO_newF, ↓Fr.toS_ok, ↓Fr.seq_nx, ↓Fr.seq_ret, ↓Fr.seq_bk, ↓Fr.seq_ct, ↓Fr.iteS_t, ↓Fr.iteS_f, ↓Fr.iteR_t, ↓Fr.iteR_f, ↓Fr.optR_some, ↓Fr.okD_some, ↓Fr.okB_some, ↓Fr.okS_some, ↓Fr.andR_t, ↓Fr.andR_f, ↓Fr.orR_t, ↓Fr.orR_f, ↓Fr.chainR_t, ↓Fr.chainR_f, ↓Fr.compE_some, ↓Fr.compL_some, ↓Fr.compU_some, ↓Fr.keepR_t, ↓Fr.keepR_f, ↓Fr.keepU_t, ↓Fr.keepU_f, ↓Fr.gate_t, ↓Fr.gateS_t, C_call, C_blt0, C_blt1, C_blt2, C_blt3, C_blt4, C_blt5, C_blt6, C_blt7, C_blt8, C_blt9, C_blt10, C_blt11, C_blt12, C_blt13, C_m0, C_m1, C_m2, C_ty, C_add, C_sub, C_mul, C_fdiv, C_mod, C_pow, C_lt, C_le, C_gt, C_ge, C_eq, C_ne, C_in, C_notin, Fr.asg_nm, Fr.asg_tp, Fr.setR, Fr.getS, Fr.initR, Fr.asgR_some, Fr.truth_bl, Fr.truth_non, Fr.truth_int, Fr.truth_tup, Fr.truth_lst, Fr.truth_ref, Fr.srcOf_tup, Fr.srcOf_lst, Fr.srcOf_rol, Fr.srcOf_ref, Fr.seqOf_tup, Fr.seqOf_lst, Fr.seqOf_rol, Fr.seqOf_ref, Fr.negR_int, Fr.ixR_some, Fr.atD_int, Fr.addD_int, Fr.subD_int, Fr.ltD_int, Fr.leD_int, Fr.gtD_int, Fr.geD_int, Fr.eqD_int, Fr.neD_int, Fr.eqD_str, Fr.neD_str, Fr.lenD_tup, Fr.lenD_lst, Fr.lenD_rol, Fr.one_1, Fr.two_2, Fr.fin_nx, Fr.fin_int, Fr.fin_bl, Fr.fin_none, Fr.fin_str, Fr.okV]
  · intro x hx
    obtain ⟨i, hi, rfl⟩ := List.mem_map.mp hx
    rfl
  · rw [List.length_map]
    show _ ≤ 2 ^ 24
    omega
theorem rngD_range : ∀ (n : Nat) (lo : Int), rngD lo n = (List.range n).map fun i => .int (lo + (i : Nat))
  | 0, _ => rfl
  | n + 1, lo => by
    rw [List.range_succ_eq_map, List.map_cons, List.map_map]
    have e : ((fun i : Nat => D.int (lo + (i : Nat))) ∘ Nat.succ) = fun i : Nat => D.int (lo + 1 + (i : Nat)) := by
      funext i
      show D.int (lo + ((i + 1 : Nat) : Int)) = _
      congr 1
      omega
    rw [e, ← rngD_range n (lo + 1)]
    have : lo + ((0 : Nat) : Int) = lo := by simp
    rw [this]
    rfl
theorem rng0 (n : Nat) : rngD 0 n = (List.range n).map fun i => .int (i : Nat) := by
  rw [rngD_range]
  congr 1
  funext i
  congr 1
  omega
def spr (part : List (List Int)) (size : Int) (m : Nat) : List (List Int) := (List.range m).flatMap fun k => part.map fun c => c.map (mvl ((k : Nat) * size))
def cmv (b : Int) : D → D
  | .tup ds => .tup (ds.map (dmv b))
  | d => d
theorem cmv_c (b : Int) (c : List Int) : cmv b (cD c) = cD (c.map (mvl b)) := by
  simp [cmv, dmv, Function.comp_def]
def spF (part : List (List Int)) (size : Int) : D → List D
  | .int k => part.map fun c => cD (c.map (mvl (k * size)))
  | _ => []
theorem flatMap_const {α β : Type} (f : α → List β) (k : Nat) : ∀ l : List α, (∀ x ∈ l, (f x).length = k) → (l.flatMap f).length = l.length * k
  | [], _ => by simp
  | x :: l, h => by
    rw [List.flatMap_cons, List.length_append, h x List.mem_cons_self, flatMap_const f k l fun y hy => h y (List.mem_cons_of_mem _ hy), List.length_cons, Nat.add_mul, Nat.one_mul, Nat.add_comm]
theorem c_spread (n : Nat) (p : List (List Int)) (s : Int) (m : Nat) (h : Hs) (hp : p.length ≤ 16) (hc : ∀ c ∈ p, c.length ≤ 1000) (hs : s.natAbs < 2 ^ 64) (hm : m ≤ 1000) : cl (n + 2) 9 [pD p, .int s, .int m] h = .ok (.new ((spr p s m).map cD)) h := by
  have e1 : inRng (m : Int) = true := by unfold inRng; exact decide_eq_true (by omega)
  have er : rng1R (.int (m : Int)) h = .ok (.vals (rngD 0 (m : Int).toNat)) h := rng1R_int e1
  have e2 : (m : Int).toNat = m := by omega
  rw [cl_succ]
  simp [fns, body_spread, er, e2, -List.map_map, ↓Fr.v_slot, ↓Fr.v_con, ↓Fr.v_bin, ↓Fr.v_neg, ↓Fr.v_cmp, ↓Fr.v_chain, ↓Fr.v_and, ↓Fr.v_or, ↓Fr.v_not, ↓Fr.v_ife, ↓Fr.v_tup, ↓Fr.v_lst, ↓Fr.v_ix, ↓Fr.v_sl, ↓Fr.v_call, ↓Fr.v_blt, ↓Fr.v_meth, ↓Fr.v_comp, ↓Fr.v_comp2, ↓Fr.v_lsc, ↓Fr.vs_nil, ↓Fr.vs_cons, ↓Fr.vt_and, ↓Fr.vt_or, ↓Fr.vt_not, ↓Fr.vt_slot, ↓Fr.vt_con, ↓Fr.vt_bin, ↓Fr.vt_neg, ↓Fr.vt_cmp, ↓Fr.vt_chain, ↓Fr.vt_ife, ↓Fr.vt_tup, ↓Fr.vt_lst, ↓Fr.vt_ix, ↓Fr.vt_sl, ↓Fr.vt_call, ↓Fr.vt_blt, ↓Fr.vt_meth, ↓Fr.vt_comp, ↓Fr.vc_nil, ↓Fr.vc_cons, ↓Fr.vi_rng1, ↓Fr.vi_rng2, ↓Fr.vi_slot, ↓Fr.vi_con, ↓Fr.vi_bin, ↓Fr.vi_neg, ↓Fr.vi_cmp, ↓Fr.vi_chain, ↓Fr.vi_ife, ↓Fr.vi_tup, ↓Fr.vi_lst, ↓Fr.vi_ix, ↓Fr.vi_sl, ↓Fr.vi_call, ↓Fr.vi_blt, ↓Fr.vi_meth, ↓Fr.vi_comp, ↓Fr.vo_nil, ↓Fr.vo_cons, ↓Fr.x_asg, ↓Fr.x_asgs, ↓Fr.x_setix, ↓Fr.x_expr, ↓Fr.x_ret, ↓Fr.x_retN, ↓Fr.x_pass, ↓Fr.x_brk, ↓Fr.x_cnt, ↓Fr.x_ifs, ↓Fr.x_whl, ↓Fr.x_for, ↓Fr.xs_nil, ↓Fr.xs_cons, ↓Fr.bindD_val, ↓Fr.bindD_new, ↓Fr.bind_ok, ↓Fr.bindO_val, ↓Fr.bindO_newT, ↓Fr.bindO_newF, ↓Fr.toS_ok, ↓Fr.seq_nx, ↓Fr.seq_ret, ↓Fr.seq_bk, ↓Fr.seq_ct, ↓Fr.iteS_t, ↓Fr.iteS_f, ↓Fr.iteR_t, ↓Fr.iteR_f, ↓Fr.optR_some, ↓Fr.okD_some, ↓Fr.okB_some, ↓Fr.okS_some, ↓Fr.andR_t, ↓Fr.andR_f, ↓Fr.orR_t, ↓Fr.orR_f, ↓Fr.chainR_t, ↓Fr.chainR_f, ↓Fr.compE_some, ↓Fr.compL_some, ↓Fr.compU_some, ↓Fr.keepR_t, ↓Fr.keepR_f, ↓Fr.keepU_t, ↓Fr.keepU_f, ↓Fr.gate_t, ↓Fr.gateS_t, C_call, C_blt0, C_blt1, C_blt2, C_blt3, C_blt4, C_blt5, C_blt6, C_blt7, C_blt8, C_blt9, C_blt10, C_blt11, C_blt12, C_blt13, C_m0, C_m1, C_m2, C_ty, C_add, C_sub, C_mul, C_fdiv, C_mod, C_pow, C_lt, C_le, C_gt, C_ge, C_eq, C_ne, C_in, C_notin, Fr.asg_nm, Fr.asg_tp, Fr.setR, Fr.getS, Fr.initR, Fr.asgR_some, Fr.truth_bl, Fr.truth_non, Fr.truth_int, Fr.truth_tup, Fr.truth_lst, Fr.truth_ref, Fr.srcOf_tup, Fr.srcOf_lst, Fr.srcOf_rol, Fr.srcOf_ref, Fr.seqOf_tup, Fr.seqOf_lst, Fr.seqOf_rol, Fr.seqOf_ref, Fr.negR_int, Fr.ixR_some, Fr.atD_int, Fr.addD_int, Fr.subD_int, Fr.ltD_int, Fr.leD_int, Fr.gtD_int, Fr.geD_int, Fr.eqD_int, Fr.neD_int, Fr.eqD_str, Fr.neD_str, Fr.lenD_tup, Fr.lenD_lst, Fr.lenD_rol, Fr.one_1, Fr.two_2, Fr.fin_nx, Fr.fin_int, Fr.fin_bl, Fr.fin_none, Fr.fin_str, Fr.okV]
  rw [map2_flat (spF p s)]
  · have e : List.flatMap (spF p s) (rngD 0 m) = List.map cD (spr p s m) := by
      rw [rng0, List.flatMap_map]
      unfold spr
      rw [List.map_flatMap]
      refine congrArg (fun f => List.flatMap f (List.range m)) (funext fun k => ?_)
      show (p.map fun c => cD (c.map (mvl ((k : Nat) * s)))) = List.map cD (p.map fun c => c.map (mvl ((k : Nat) * s)))
      rw [List.map_map]
      rfl
    rw [e]
    simp [-List.map_map, ↓Fr.v_slot, ↓Fr.v_con, ↓Fr.v_bin, ↓Fr.v_neg, ↓Fr.v_cmp, ↓Fr.v_chain, ↓Fr.v_and, ↓Fr.v_or, ↓Fr.v_not, ↓Fr.v_ife, ↓Fr.v_tup, ↓Fr.v_lst, ↓Fr.v_ix, ↓Fr.v_sl, ↓Fr.v_call, ↓Fr.v_blt, ↓Fr.v_meth, ↓Fr.v_comp, ↓Fr.v_comp2, ↓Fr.v_lsc, ↓Fr.vs_nil, ↓Fr.vs_cons, ↓Fr.vt_and, ↓Fr.vt_or, ↓Fr.vt_not, ↓Fr.vt_slot, ↓Fr.vt_con, ↓Fr.vt_bin, ↓Fr.vt_neg, ↓Fr.vt_cmp, ↓Fr.vt_chain, ↓Fr.vt_ife, ↓Fr.vt_tup, ↓Fr.vt_lst, ↓Fr.vt_ix, ↓Fr.vt_sl, ↓Fr.vt_call, ↓Fr.vt_blt, ↓Fr.vt_meth, ↓Fr.vt_comp, ↓Fr.vc_nil, ↓Fr.vc_cons, ↓Fr.vi_rng1, ↓Fr.vi_rng2, ↓Fr.vi_slot, ↓Fr.vi_con, ↓Fr.vi_bin, ↓Fr.vi_neg, ↓Fr.vi_cmp, ↓Fr.vi_chain, ↓Fr.vi_ife, ↓Fr.vi_tup, ↓Fr.vi_lst, ↓Fr.vi_ix, ↓Fr.vi_sl, ↓Fr.vi_call, ↓Fr.vi_blt, ↓Fr.vi_meth, ↓Fr.vi_comp, ↓Fr.vo_nil, ↓Fr.vo_cons, ↓Fr.x_asg, ↓Fr.x_asgs, ↓Fr.x_setix, ↓Fr.x_expr, ↓Fr.x_ret, ↓Fr.x_retN, ↓Fr.x_pass, ↓Fr.x_brk, ↓Fr.x_cnt, ↓Fr.x_ifs, ↓Fr.x_whl, ↓Fr.x_for, ↓Fr.xs_nil, ↓Fr.xs_cons, ↓Fr.bindD_val, ↓Fr.bindD_new, ↓Fr.bind_ok, ↓Fr.bindO_val, ↓Fr.bindO_newT, ↓Fr.bindO_newF, ↓Fr.toS_ok, ↓Fr.seq_nx, ↓Fr.seq_ret, ↓Fr.seq_bk, ↓Fr.seq_ct, ↓Fr.iteS_t, ↓Fr.iteS_f, ↓Fr.iteR_t, ↓Fr.iteR_f, ↓Fr.optR_some, ↓Fr.okD_some, ↓Fr.okB_some, ↓Fr.okS_some, ↓Fr.andR_t, ↓Fr.andR_f, ↓Fr.orR_t, ↓Fr.orR_f, ↓Fr.chainR_t, ↓Fr.chainR_f, ↓Fr.compE_some, ↓Fr.compL_some, ↓Fr.compU_some, ↓Fr.keepR_t, ↓Fr.keepR_f, ↓Fr.keepU_t, ↓Fr.keepU_f, ↓Fr.gate_t, ↓Fr.gateS_t, C_call, C_blt0, C_blt1, C_blt2, C_blt3, C_blt4, C_blt5, C_blt6, C_blt7, C_blt8, C_blt9, C_blt10, C_blt11, C_blt12, C_blt13, C_m0, C_m1, C_m2, C_ty, C_add, C_sub, C_mul, C_fdiv, C_mod, C_pow, C_lt, C_le, C_gt, C_ge, C_eq, C_ne, C_in, C_notin, Fr.asg_nm, Fr.asg_tp, Fr.setR, Fr.getS, Fr.initR, Fr.asgR_some, Fr.truth_bl, Fr.truth_non, Fr.truth_int, Fr.truth_tup, Fr.truth_lst, Fr.truth_ref, Fr.srcOf_tup, Fr.srcOf_lst, Fr.srcOf_rol, Fr.srcOf_ref, Fr.seqOf_tup, Fr.seqOf_lst, Fr.seqOf_rol, Fr.seqOf_ref, Fr.negR_int, Fr.ixR_some, Fr.atD_int, Fr.addD_int, Fr.subD_int, Fr.ltD_int, Fr.leD_int, Fr.gtD_int, Fr.geD_int, Fr.eqD_int, Fr.neD_int, Fr.eqD_str, Fr.neD_str, Fr.lenD_tup, Fr.lenD_lst, Fr.lenD_rol, Fr.one_1, Fr.two_2, Fr.fin_nx, Fr.fin_int, Fr.fin_bl, Fr.fin_none, Fr.fin_str, Fr.okV]
    rw [fin_new (und_p _ _), List.take_length]
  · intro x hx a ha
    rw [rng0] at hx
    obtain ⟨k, hk, rfl⟩ := List.mem_map.mp hx
    have em : ∀ h, mulD (.int (k : Nat)) (.int s) h = .ok (.val (.int ((k : Nat) * s))) h := fun h => mulD_intR hs
    simp [outF_at, wipeR, -List.map_map, ↓Fr.v_slot, ↓Fr.v_con, ↓Fr.v_bin, ↓Fr.v_neg, ↓Fr.v_cmp, ↓Fr.v_chain, ↓Fr.v_and, ↓Fr.v_or, ↓Fr.v_not, ↓Fr.v_ife, ↓Fr.v_tup, ↓Fr.v_lst, ↓Fr.v_ix, ↓Fr.v_sl, ↓Fr.v_call, ↓Fr.v_blt, ↓Fr.v_meth, ↓Fr.v_comp, ↓Fr.v_comp2, ↓Fr.v_lsc, ↓Fr.vs_nil, ↓Fr.vs_cons, ↓Fr.vt_and, ↓Fr.vt_or, ↓Fr.vt_not, ↓Fr.vt_slot, ↓Fr.vt_con, ↓Fr.vt_bin, ↓Fr.vt_neg, ↓Fr.vt_cmp, ↓Fr.vt_chain, ↓Fr.vt_ife, ↓Fr.vt_tup, ↓Fr.vt_lst, ↓Fr.vt_ix, ↓Fr.vt_sl, ↓Fr.vt_call, ↓Fr.vt_blt, ↓Fr.vt_meth, ↓Fr.vt_comp, ↓Fr.vc_nil, ↓Fr.vc_cons, ↓Fr.vi_rng1, ↓Fr.vi_rng2, ↓Fr.vi_slot, ↓Fr.vi_con, ↓Fr.vi_bin, ↓Fr.vi_neg, ↓Fr.vi_cmp, ↓Fr.vi_chain, ↓Fr.vi_ife, ↓Fr.vi_tup, ↓Fr.vi_lst, ↓Fr.vi_ix, ↓Fr.vi_sl, ↓Fr.vi_call, ↓Fr.vi_blt, ↓Fr.vi_meth, ↓Fr.vi_comp, ↓Fr.vo_nil, ↓Fr.vo_cons, ↓Fr.x_asg, ↓Fr.x_asgs, ↓Fr.x_setix, ↓Fr.x_expr, ↓Fr.x_ret, ↓Fr.x_retN, ↓Fr.x_pass, ↓Fr.x_brk, ↓Fr.x_cnt, ↓Fr.x_ifs, ↓Fr.x_whl, ↓Fr.x_for, ↓Fr.xs_nil, ↓Fr.xs_cons, ↓Fr.bindD_val, ↓Fr.bindD_new, ↓Fr.bind_ok, ↓Fr.bindO_val, ↓Fr.bindO_newT, ↓Fr.bindO_newF, ↓Fr.toS_ok, ↓Fr.seq_nx, ↓Fr.seq_ret, ↓Fr.seq_bk, ↓Fr.seq_ct, ↓Fr.iteS_t, ↓Fr.iteS_f, ↓Fr.iteR_t, ↓Fr.iteR_f, ↓Fr.optR_some, ↓Fr.okD_some, ↓Fr.okB_some, ↓Fr.okS_some, ↓Fr.andR_t, ↓Fr.andR_f, ↓Fr.orR_t, ↓Fr.orR_f, ↓Fr.chainR_t, ↓Fr.chainR_f, ↓Fr.compE_some, ↓Fr.compL_some, ↓Fr.compU_some, ↓Fr.keepR_t, ↓Fr.keepR_f, ↓Fr.keepU_t, ↓Fr.keepU_f, ↓Fr.gate_t, ↓Fr.gateS_t, C_call, C_blt0, C_blt1, C_blt2, C_blt3, C_blt4, C_blt5, C_blt6, C_blt7, C_blt8, C_blt9, C_blt10, C_blt11, C_blt12, C_blt13, C_m0, C_m1, C_m2, C_ty, C_add, C_sub, C_mul, C_fdiv, C_mod, C_pow, C_lt, C_le, C_gt, C_ge, C_eq, C_ne, C_in, C_notin, Fr.asg_nm, Fr.asg_tp, Fr.setR, Fr.getS, Fr.initR, Fr.asgR_some, Fr.truth_bl, Fr.truth_non, Fr.truth_int, Fr.truth_tup, Fr.truth_lst, Fr.truth_ref, Fr.srcOf_tup, Fr.srcOf_lst, Fr.srcOf_rol, Fr.srcOf_ref, Fr.seqOf_tup, Fr.seqOf_lst, Fr.seqOf_rol, Fr.seqOf_ref, Fr.negR_int, Fr.ixR_some, Fr.atD_int, Fr.addD_int, Fr.subD_int, Fr.ltD_int, Fr.leD_int, Fr.gtD_int, Fr.geD_int, Fr.eqD_int, Fr.neD_int, Fr.eqD_str, Fr.neD_str, Fr.lenD_tup, Fr.lenD_lst, Fr.lenD_rol, Fr.one_1, Fr.two_2, Fr.fin_nx, Fr.fin_int, Fr.fin_bl, Fr.fin_none, Fr.fin_str, Fr.okV]
    rw [innR_vals, innL_map (cmv ((k : Nat) * s))]
    · have e : List.map (cmv ((k : Nat) * s)) (p.map cD) = spF p s (.int (k : Nat)) := by
        rw [List.map_map]
        exact List.map_congr_left fun c _ => cmv_c _ c
      rw [e]
    · intro y hy b
      obtain ⟨c, hc', rfl⟩ := List.mem_map.mp hy
      simp [innF_at, wipeR, em, c_moved _ _ _ _ (hc c hc'), cmv_c, -List.map_map, ↓Fr.v_slot, ↓Fr.v_con, ↓Fr.v_bin, ↓Fr.v_neg, ↓Fr.v_cmp, ↓Fr.v_chain, ↓Fr.v_and, ↓Fr.v_or, ↓Fr.v_not, ↓Fr.v_ife, ↓Fr.v_tup, ↓Fr.v_lst, ↓Fr.v_ix, ↓Fr.v_sl, ↓Fr.v_call, ↓Fr.v_blt, ↓Fr.v_meth, ↓Fr.v_comp, ↓Fr.v_comp2, ↓Fr.v_lsc, ↓Fr.vs_nil, ↓Fr.vs_cons, ↓Fr.vt_and, ↓Fr.vt_or, ↓Fr.vt_not, ↓Fr.vt_slot, ↓Fr.vt_con, ↓Fr.vt_bin, ↓Fr.vt_neg, ↓Fr.vt_cmp, ↓Fr.vt_chain, ↓Fr.vt_ife, ↓Fr.vt_tup, ↓Fr.vt_lst, ↓Fr.vt_ix, ↓Fr.vt_sl, ↓Fr.vt_call, ↓Fr.vt_blt, ↓Fr.vt_meth, ↓Fr.vt_comp, ↓Fr.vc_nil, ↓Fr.vc_cons, ↓Fr.vi_rng1, ↓Fr.vi_rng2, ↓Fr.vi_slot, ↓Fr.vi_con, ↓Fr.vi_bin, ↓Fr.vi_neg, ↓Fr.vi_cmp, ↓Fr.vi_chain, ↓Fr.vi_ife, ↓Fr.vi_tup, ↓Fr.vi_lst, ↓Fr.vi_ix, ↓Fr.vi_sl, ↓Fr.vi_call, ↓Fr.vi_blt, ↓Fr.vi_meth, ↓Fr.vi_comp, ↓Fr.vo_nil, ↓Fr.vo_cons, ↓Fr.x_asg, ↓Fr.x_asgs, ↓Fr.x_setix, ↓Fr.x_expr, ↓Fr.x_ret, ↓Fr.x_retN, ↓Fr.x_pass, ↓Fr.x_brk, ↓Fr.x_cnt, ↓Fr.x_ifs, ↓Fr.x_whl, ↓Fr.x_for, ↓Fr.xs_nil, ↓Fr.xs_cons, ↓Fr.bindD_val, ↓Fr.bindD_new, ↓Fr.bind_ok, ↓Fr.bindO_val, ↓Fr.bindO_newT, ↓Fr.bindO_newF, ↓Fr.toS_ok, ↓Fr.seq_nx, ↓Fr.seq_ret, ↓Fr.seq_bk, ↓Fr.seq_ct, ↓Fr.iteS_t, ↓Fr.iteS_f, ↓Fr.iteR_t, ↓Fr.iteR_f, ↓Fr.optR_some, ↓Fr.okD_some, ↓Fr.okB_some, ↓Fr.okS_some, ↓Fr.andR_t, ↓Fr.andR_f, ↓Fr.orR_t, ↓Fr.orR_f, ↓Fr.chainR_t, ↓Fr.chainR_f, ↓Fr.compE_some, ↓Fr.compL_some, ↓Fr.compU_some, ↓Fr.keepR_t, ↓Fr.keepR_f, ↓Fr.keepU_t, ↓Fr.keepU_f, ↓Fr.gate_t, ↓Fr.gateS_t, C_call, C_blt0, C_blt1, C_blt2, C_blt3, C_blt4, C_blt5, C_blt6, C_blt7, C_blt8, C_blt9, C_blt10, C_blt11, C_blt12, C_blt13, C_m0, C_m1, C_m2, C_ty, C_add, C_sub, C_mul, C_fdiv, C_mod, C_pow, C_lt, C_le, C_gt, C_ge, C_eq, C_ne, C_in, C_notin, Fr.asg_nm, Fr.asg_tp, Fr.setR, Fr.getS, Fr.initR, Fr.asgR_some, Fr.truth_bl, Fr.truth_non, Fr.truth_int, Fr.truth_tup, Fr.truth_lst, Fr.truth_ref, Fr.srcOf_tup, Fr.srcOf_lst, Fr.srcOf_rol, Fr.srcOf_ref, Fr.seqOf_tup, Fr.seqOf_lst, Fr.seqOf_rol, Fr.seqOf_ref, Fr.negR_int, Fr.ixR_some, Fr.atD_int, Fr.addD_int, Fr.subD_int, Fr.ltD_int, Fr.leD_int, Fr.gtD_int, Fr.geD_int, Fr.eqD_int, Fr.neD_int, Fr.eqD_str, Fr.neD_str, Fr.lenD_tup, Fr.lenD_lst, Fr.lenD_rol, Fr.one_1, Fr.two_2, Fr.fin_nx, Fr.fin_int, Fr.fin_bl, Fr.fin_none, Fr.fin_str, Fr.okV]
    · intro y hy
      obtain ⟨c, hc', rfl⟩ := List.mem_map.mp hy
      rw [cmv_c]
      unfold D.und
      exact und_c _ _
    · rw [List.length_map]
      simp only [spF, List.length_map] at ha
      exact ha
  · rw [flatMap_const (spF p s) p.length]
    · rw [rng0, List.length_map, List.length_range]
      show _ ≤ 2 ^ 24
      have : m * p.length ≤ 1000 * 16 := Nat.mul_le_mul hm hp
      omega
    · intro x hx
      rw [rng0] at hx
      obtain ⟨k, hk, rfl⟩ := List.mem_map.mp hx
      simp [spF]
theorem c_law_moved (n : Nat) (c : List Int) (b : Int) (h : Hs) (hl : c.length ≤ 1000) : cl (n + 1) 19 [cD c, .int b] h = .ok (.val (cD (c.map (mvl b)))) h := by
  rw [cl_succ]
  simp [fns, body__law_moved, -List.map_map, ↓Fr.v_slot, ↓Fr.v_con, ↓Fr.v_bin, ↓Fr.v_neg, ↓Fr.v_cmp, ↓Fr.v_chain, ↓Fr.v_and, ↓Fr.v_or, ↓Fr.v_not, ↓Fr.v_ife, ↓Fr.v_tup, ↓Fr.v_lst, ↓Fr.v_ix, ↓Fr.v_sl, ↓Fr.v_call, ↓Fr.v_blt, ↓Fr.v_meth, ↓Fr.v_comp, ↓Fr.v_comp2, ↓Fr.v_lsc, ↓Fr.vs_nil, ↓Fr.vs_cons, ↓Fr.vt_and, ↓Fr.vt_or, ↓Fr.vt_not, ↓Fr.vt_slot, ↓Fr.vt_con, ↓Fr.vt_bin, ↓Fr.vt_neg, ↓Fr.vt_cmp, ↓Fr.vt_chain, ↓Fr.vt_ife, ↓Fr.vt_tup, ↓Fr.vt_lst, ↓Fr.vt_ix, ↓Fr.vt_sl, ↓Fr.vt_call, ↓Fr.vt_blt, ↓Fr.vt_meth, ↓Fr.vt_comp, ↓Fr.vc_nil, ↓Fr.vc_cons, ↓Fr.vi_rng1, ↓Fr.vi_rng2, ↓Fr.vi_slot, ↓Fr.vi_con, ↓Fr.vi_bin, ↓Fr.vi_neg, ↓Fr.vi_cmp, ↓Fr.vi_chain, ↓Fr.vi_ife, ↓Fr.vi_tup, ↓Fr.vi_lst, ↓Fr.vi_ix, ↓Fr.vi_sl, ↓Fr.vi_call, ↓Fr.vi_blt, ↓Fr.vi_meth, ↓Fr.vi_comp, ↓Fr.vo_nil, ↓Fr.vo_cons, ↓Fr.x_asg, ↓Fr.x_asgs, ↓Fr.x_setix, ↓Fr.x_expr, ↓Fr.x_ret, ↓Fr.x_retN, ↓Fr.x_pass, ↓Fr.x_brk, ↓Fr.x_cnt, ↓Fr.x_ifs, ↓Fr.x_whl, ↓Fr.x_for, ↓Fr.xs_nil, ↓Fr.xs_cons, ↓Fr.bindD_val, ↓Fr.bindD_new, ↓Fr.bind_ok, ↓Fr.bindO_val, ↓Fr.bindO_newT, ↓Fr.bindO_newF, ↓Fr.toS_ok, ↓Fr.seq_nx, ↓Fr.seq_ret, ↓Fr.seq_bk, ↓Fr.seq_ct, ↓Fr.iteS_t, ↓Fr.iteS_f, ↓Fr.iteR_t, ↓Fr.iteR_f, ↓Fr.optR_some, ↓Fr.okD_some, ↓Fr.okB_some, ↓Fr.okS_some, ↓Fr.andR_t, ↓Fr.andR_f, ↓Fr.orR_t, ↓Fr.orR_f, ↓Fr.chainR_t, ↓Fr.chainR_f, ↓Fr.compE_some, ↓Fr.compL_some, ↓Fr.compU_some, ↓Fr.keepR_t, ↓Fr.keepR_f, ↓Fr.keepU_t, ↓Fr.keepU_f, ↓Fr.gate_t, ↓Fr.gateS_t, C_call, C_blt0, C_blt1, C_blt2, C_blt3, C_blt4, C_blt5, C_blt6, C_blt7, C_blt8, C_blt9, C_blt10, C_blt11, C_blt12, C_blt13, C_m0, C_m1, C_m2, C_ty, C_add, C_sub, C_mul, C_fdiv, C_mod, C_pow, C_lt, C_le, C_gt, C_ge, C_eq, C_ne, C_in, C_notin, Fr.asg_nm, Fr.asg_tp, Fr.setR, Fr.getS, Fr.initR, Fr.asgR_some, Fr.truth_bl, Fr.truth_non, Fr.truth_int, Fr.truth_tup, Fr.truth_lst, Fr.truth_ref, Fr.srcOf_tup, Fr.srcOf_lst, Fr.srcOf_rol, Fr.srcOf_ref, Fr.seqOf_tup, Fr.seqOf_lst, Fr.seqOf_rol, Fr.seqOf_ref, Fr.negR_int, Fr.ixR_some, Fr.atD_int, Fr.addD_int, Fr.subD_int, Fr.ltD_int, Fr.leD_int, Fr.gtD_int, Fr.geD_int, Fr.eqD_int, Fr.neD_int, Fr.eqD_str, Fr.neD_str, Fr.lenD_tup, Fr.lenD_lst, Fr.lenD_rol, Fr.one_1, Fr.two_2, Fr.fin_nx, Fr.fin_int, Fr.fin_bl, Fr.fin_none, Fr.fin_str, Fr.okV]
  rw [lstR_ok (by show 0 ≤ 2 ^ 24; decide)]
  simp [-List.map_map, ↓Fr.v_slot, ↓Fr.v_con, ↓Fr.v_bin, ↓Fr.v_neg, ↓Fr.v_cmp, ↓Fr.v_chain, ↓Fr.v_and, ↓Fr.v_or, ↓Fr.v_not, ↓Fr.v_ife, ↓Fr.v_tup, ↓Fr.v_lst, ↓Fr.v_ix, ↓Fr.v_sl, ↓Fr.v_call, ↓Fr.v_blt, ↓Fr.v_meth, ↓Fr.v_comp, ↓Fr.v_comp2, ↓Fr.v_lsc, ↓Fr.vs_nil, ↓Fr.vs_cons, ↓Fr.vt_and, ↓Fr.vt_or, ↓Fr.vt_not, ↓Fr.vt_slot, ↓Fr.vt_con, ↓Fr.vt_bin, ↓Fr.vt_neg, ↓Fr.vt_cmp, ↓Fr.vt_chain, ↓Fr.vt_ife, ↓Fr.vt_tup, ↓Fr.vt_lst, ↓Fr.vt_ix, ↓Fr.vt_sl, ↓Fr.vt_call, ↓Fr.vt_blt, ↓Fr.vt_meth, ↓Fr.vt_comp, ↓Fr.vc_nil, ↓Fr.vc_cons, ↓Fr.vi_rng1, ↓Fr.vi_rng2, ↓Fr.vi_slot, ↓Fr.vi_con, ↓Fr.vi_bin, ↓Fr.vi_neg, ↓Fr.vi_cmp, ↓Fr.vi_chain, ↓Fr.vi_ife, ↓Fr.vi_tup, ↓Fr.vi_lst, ↓Fr.vi_ix, ↓Fr.vi_sl, ↓Fr.vi_call, ↓Fr.vi_blt, ↓Fr.vi_meth, ↓Fr.vi_comp, ↓Fr.vo_nil, ↓Fr.vo_cons, ↓Fr.x_asg, ↓Fr.x_asgs, ↓Fr.x_setix, ↓Fr.x_expr, ↓Fr.x_ret, ↓Fr.x_retN, ↓Fr.x_pass, ↓Fr.x_brk, ↓Fr.x_cnt, ↓Fr.x_ifs, ↓Fr.x_whl, ↓Fr.x_for, ↓Fr.xs_nil, ↓Fr.xs_cons, ↓Fr.bindD_val, ↓Fr.bindD_new, ↓Fr.bind_ok, ↓Fr.bindO_val, ↓Fr.bindO_newT, ↓Fr.bindO_newF, ↓Fr.toS_ok, ↓Fr.seq_nx, ↓Fr.seq_ret, ↓Fr.seq_bk, ↓Fr.seq_ct, ↓Fr.iteS_t, ↓Fr.iteS_f, ↓Fr.iteR_t, ↓Fr.iteR_f, ↓Fr.optR_some, ↓Fr.okD_some, ↓Fr.okB_some, ↓Fr.okS_some, ↓Fr.andR_t, ↓Fr.andR_f, ↓Fr.orR_t, ↓Fr.orR_f, ↓Fr.chainR_t, ↓Fr.chainR_f, ↓Fr.compE_some, ↓Fr.compL_some, ↓Fr.compU_some, ↓Fr.keepR_t, ↓Fr.keepR_f, ↓Fr.keepU_t, ↓Fr.keepU_f, ↓Fr.gate_t, ↓Fr.gateS_t, C_call, C_blt0, C_blt1, C_blt2, C_blt3, C_blt4, C_blt5, C_blt6, C_blt7, C_blt8, C_blt9, C_blt10, C_blt11, C_blt12, C_blt13, C_m0, C_m1, C_m2, C_ty, C_add, C_sub, C_mul, C_fdiv, C_mod, C_pow, C_lt, C_le, C_gt, C_ge, C_eq, C_ne, C_in, C_notin, Fr.asg_nm, Fr.asg_tp, Fr.setR, Fr.getS, Fr.initR, Fr.asgR_some, Fr.truth_bl, Fr.truth_non, Fr.truth_int, Fr.truth_tup, Fr.truth_lst, Fr.truth_ref, Fr.srcOf_tup, Fr.srcOf_lst, Fr.srcOf_rol, Fr.srcOf_ref, Fr.seqOf_tup, Fr.seqOf_lst, Fr.seqOf_rol, Fr.seqOf_ref, Fr.negR_int, Fr.ixR_some, Fr.atD_int, Fr.addD_int, Fr.subD_int, Fr.ltD_int, Fr.leD_int, Fr.gtD_int, Fr.geD_int, Fr.eqD_int, Fr.neD_int, Fr.eqD_str, Fr.neD_str, Fr.lenD_tup, Fr.lenD_lst, Fr.lenD_rol, Fr.one_1, Fr.two_2, Fr.fin_nx, Fr.fin_int, Fr.fin_bl, Fr.fin_none, Fr.fin_str, Fr.okV]
  rw [forI_vals]
  have loop : ∀ (xs acc : List Int) (o : Option D), acc.length + xs.length ≤ 1000 → ∃ o', forL (exs (C n) lb__law_moved_1) (G.nm 3) (xs.map .int) [some (cD c), some (.int b), some (.ref h.length), o] (h ++ [acc.map D.int]) =
      .nx [some (cD c), some (.int b), some (.ref h.length), o'] (h ++ [(acc ++ xs.map (mvl b)).map D.int]) := by
    intro xs
    induction xs with
    | nil =>
      intro acc o hl
      exact ⟨o, by simp [forL]⟩
    | cons x xs ih =>
      intro acc o hl
      rw [List.length_cons] at hl
      obtain ⟨o', ih⟩ := ih (acc ++ [mvl b x]) (some (.int x)) (by simp; omega)
      refine ⟨o', ?_⟩
      have ap : ∀ z : Int, appendD (.ref h.length) [.int z] (h ++ [acc.map D.int]) = .ok (.val .non) (h ++ [(acc ++ [z]).map D.int]) := fun z => by
        rw [append_at (l := acc.map D.int) at_last (by rw [List.length_map]; omega) rfl, set_end]
        simp
      have e : exs (C n) lb__law_moved_1 [some (cD c), some (.int b), some (.ref h.length), some (.int x)] (h ++ [acc.map D.int]) = .nx [some (cD c), some (.int b), some (.ref h.length), some (.int x)] (h ++ [(acc ++ [mvl b x]).map D.int]) := by
        by_cases z : 0 < x
        · simp [lb__law_moved_1, isListD, ap, z, mvl, -List.map_map, ↓Fr.v_slot, ↓Fr.v_con, ↓Fr.v_bin, ↓Fr.v_neg, ↓Fr.v_cmp, ↓Fr.v_chain, ↓Fr.v_and, ↓Fr.v_or, ↓Fr.v_not, ↓Fr.v_ife, ↓Fr.v_tup, ↓Fr.v_lst, ↓Fr.v_ix, ↓Fr.v_sl, ↓Fr.v_call, ↓Fr.v_blt, ↓Fr.v_meth, ↓Fr.v_comp, ↓Fr.v_comp2, ↓Fr.v_lsc, ↓Fr.vs_nil, ↓Fr.vs_cons, ↓Fr.vt_and, ↓Fr.vt_or, ↓Fr.vt_not, ↓Fr.vt_slot, ↓Fr.vt_con, ↓Fr.vt_bin, ↓Fr.vt_neg, ↓Fr.vt_cmp, ↓Fr.vt_chain, ↓Fr.vt_ife, ↓Fr.vt_tup, ↓Fr.vt_lst, ↓Fr.vt_ix, ↓Fr.vt_sl, ↓Fr.vt_call, ↓Fr.vt_blt, ↓Fr.vt_meth, ↓Fr.vt_comp, ↓Fr.vc_nil, ↓Fr.vc_cons, ↓Fr.vi_rng1, ↓Fr.vi_rng2, ↓Fr.vi_slot, ↓Fr.vi_con, ↓Fr.vi_bin, ↓Fr.vi_neg, ↓Fr.vi_cmp, ↓Fr.vi_chain, ↓Fr.vi_ife, ↓Fr.vi_tup, ↓Fr.vi_lst, ↓Fr.vi_ix, ↓Fr.vi_sl, ↓Fr.vi_call, ↓Fr.vi_blt, ↓Fr.vi_meth, ↓Fr.vi_comp, ↓Fr.vo_nil, ↓Fr.vo_cons, ↓Fr.x_asg, ↓Fr.x_asgs, ↓Fr.x_setix, ↓Fr.x_expr, ↓Fr.x_ret, ↓Fr.x_retN, ↓Fr.x_pass, ↓Fr.x_brk, ↓Fr.x_cnt, ↓Fr.x_ifs, ↓Fr.x_whl, ↓Fr.x_for, ↓Fr.xs_nil, ↓Fr.xs_cons, ↓Fr.bindD_val, ↓Fr.bindD_new, ↓Fr.bind_ok, ↓Fr.bindO_val, ↓Fr.bindO_newT, ↓Fr.bindO_newF, ↓Fr.toS_ok, ↓Fr.seq_nx, ↓Fr.seq_ret, ↓Fr.seq_bk, ↓Fr.seq_ct, ↓Fr.iteS_t, ↓Fr.iteS_f, ↓Fr.iteR_t, ↓Fr.iteR_f, ↓Fr.optR_some, ↓Fr.okD_some, ↓Fr.okB_some, ↓Fr.okS_some, ↓Fr.andR_t, ↓Fr.andR_f, ↓Fr.orR_t, ↓Fr.orR_f, ↓Fr.chainR_t, ↓Fr.chainR_f, ↓Fr.compE_some, ↓Fr.compL_some, ↓Fr.compU_some, ↓Fr.keepR_t, ↓Fr.keepR_f, ↓Fr.keepU_t, ↓Fr.keepU_f, ↓Fr.gate_t, ↓Fr.gateS_t, C_call, C_blt0, C_blt1, C_blt2, C_blt3, C_blt4, C_blt5, C_blt6, C_blt7, C_blt8, C_blt9, C_blt10, C_blt11, C_blt12, C_blt13, C_m0, C_m1, C_m2, C_ty, C_add, C_sub, C_mul, C_fdiv, C_mod, C_pow, C_lt, C_le, C_gt, C_ge, C_eq, C_ne, C_in, C_notin, Fr.asg_nm, Fr.asg_tp, Fr.setR, Fr.getS, Fr.initR, Fr.asgR_some, Fr.truth_bl, Fr.truth_non, Fr.truth_int, Fr.truth_tup, Fr.truth_lst, Fr.truth_ref, Fr.srcOf_tup, Fr.srcOf_lst, Fr.srcOf_rol, Fr.srcOf_ref, Fr.seqOf_tup, Fr.seqOf_lst, Fr.seqOf_rol, Fr.seqOf_ref, Fr.negR_int, Fr.ixR_some, Fr.atD_int, Fr.addD_int, Fr.subD_int, Fr.ltD_int, Fr.leD_int, Fr.gtD_int, Fr.geD_int, Fr.eqD_int, Fr.neD_int, Fr.eqD_str, Fr.neD_str, Fr.lenD_tup, Fr.lenD_lst, Fr.lenD_rol, Fr.one_1, Fr.two_2, Fr.fin_nx, Fr.fin_int, Fr.fin_bl, Fr.fin_none, Fr.fin_str, Fr.okV]
        · simp [lb__law_moved_1, isListD, ap, z, mvl, -List.map_map, ↓Fr.v_slot, ↓Fr.v_con, ↓Fr.v_bin, ↓Fr.v_neg, ↓Fr.v_cmp, ↓Fr.v_chain, ↓Fr.v_and, ↓Fr.v_or, ↓Fr.v_not, ↓Fr.v_ife, ↓Fr.v_tup, ↓Fr.v_lst, ↓Fr.v_ix, ↓Fr.v_sl, ↓Fr.v_call, ↓Fr.v_blt, ↓Fr.v_meth, ↓Fr.v_comp, ↓Fr.v_comp2, ↓Fr.v_lsc, ↓Fr.vs_nil, ↓Fr.vs_cons, ↓Fr.vt_and, ↓Fr.vt_or, ↓Fr.vt_not, ↓Fr.vt_slot, ↓Fr.vt_con, ↓Fr.vt_bin, ↓Fr.vt_neg, ↓Fr.vt_cmp, ↓Fr.vt_chain, ↓Fr.vt_ife, ↓Fr.vt_tup, ↓Fr.vt_lst, ↓Fr.vt_ix, ↓Fr.vt_sl, ↓Fr.vt_call, ↓Fr.vt_blt, ↓Fr.vt_meth, ↓Fr.vt_comp, ↓Fr.vc_nil, ↓Fr.vc_cons, ↓Fr.vi_rng1, ↓Fr.vi_rng2, ↓Fr.vi_slot, ↓Fr.vi_con, ↓Fr.vi_bin, ↓Fr.vi_neg, ↓Fr.vi_cmp, ↓Fr.vi_chain, ↓Fr.vi_ife, ↓Fr.vi_tup, ↓Fr.vi_lst, ↓Fr.vi_ix, ↓Fr.vi_sl, ↓Fr.vi_call, ↓Fr.vi_blt, ↓Fr.vi_meth, ↓Fr.vi_comp, ↓Fr.vo_nil, ↓Fr.vo_cons, ↓Fr.x_asg, ↓Fr.x_asgs, ↓Fr.x_setix, ↓Fr.x_expr, ↓Fr.x_ret, ↓Fr.x_retN, ↓Fr.x_pass, ↓Fr.x_brk, ↓Fr.x_cnt, ↓Fr.x_ifs, ↓Fr.x_whl, ↓Fr.x_for, ↓Fr.xs_nil, ↓Fr.xs_cons, ↓Fr.bindD_val, ↓Fr.bindD_new, ↓Fr.bind_ok, ↓Fr.bindO_val, ↓Fr.bindO_newT, ↓Fr.bindO_newF, ↓Fr.toS_ok, ↓Fr.seq_nx, ↓Fr.seq_ret, ↓Fr.seq_bk, ↓Fr.seq_ct, ↓Fr.iteS_t, ↓Fr.iteS_f, ↓Fr.iteR_t, ↓Fr.iteR_f, ↓Fr.optR_some, ↓Fr.okD_some, ↓Fr.okB_some, ↓Fr.okS_some, ↓Fr.andR_t, ↓Fr.andR_f, ↓Fr.orR_t, ↓Fr.orR_f, ↓Fr.chainR_t, ↓Fr.chainR_f, ↓Fr.compE_some, ↓Fr.compL_some, ↓Fr.compU_some, ↓Fr.keepR_t, ↓Fr.keepR_f, ↓Fr.keepU_t, ↓Fr.keepU_f, ↓Fr.gate_t, ↓Fr.gateS_t, C_call, C_blt0, C_blt1, C_blt2, C_blt3, C_blt4, C_blt5, C_blt6, C_blt7, C_blt8, C_blt9, C_blt10, C_blt11, C_blt12, C_blt13, C_m0, C_m1, C_m2, C_ty, C_add, C_sub, C_mul, C_fdiv, C_mod, C_pow, C_lt, C_le, C_gt, C_ge, C_eq, C_ne, C_in, C_notin, Fr.asg_nm, Fr.asg_tp, Fr.setR, Fr.getS, Fr.initR, Fr.asgR_some, Fr.truth_bl, Fr.truth_non, Fr.truth_int, Fr.truth_tup, Fr.truth_lst, Fr.truth_ref, Fr.srcOf_tup, Fr.srcOf_lst, Fr.srcOf_rol, Fr.srcOf_ref, Fr.seqOf_tup, Fr.seqOf_lst, Fr.seqOf_rol, Fr.seqOf_ref, Fr.negR_int, Fr.ixR_some, Fr.atD_int, Fr.addD_int, Fr.subD_int, Fr.ltD_int, Fr.leD_int, Fr.gtD_int, Fr.geD_int, Fr.eqD_int, Fr.neD_int, Fr.eqD_str, Fr.neD_str, Fr.lenD_tup, Fr.lenD_lst, Fr.lenD_rol, Fr.one_1, Fr.two_2, Fr.fin_nx, Fr.fin_int, Fr.fin_bl, Fr.fin_none, Fr.fin_str, Fr.okV]
      rw [List.map_cons]
      simp only [forL, asg_nm, List.set_cons_succ, List.set_cons_zero, e]
      rw [ih]
      simp
  obtain ⟨o', loop⟩ := loop c [] none (by simpa using hl)
  rw [show ([] : List D) = ([] : List Int).map D.int from rfl, loop]
  have e2 : tupD (.ref h.length) (h ++ [(c.map (mvl b)).map D.int]) = .ok (.val (cD (c.map (mvl b)))) (h ++ [(c.map (mvl b)).map D.int]) := by
    simp only [tupD, seqOf, at_last]
    rfl
  rw [List.nil_append]
  simp [e2, -List.map_map, ↓Fr.v_slot, ↓Fr.v_con, ↓Fr.v_bin, ↓Fr.v_neg, ↓Fr.v_cmp, ↓Fr.v_chain, ↓Fr.v_and, ↓Fr.v_or, ↓Fr.v_not, ↓Fr.v_ife, ↓Fr.v_tup, ↓Fr.v_lst, ↓Fr.v_ix, ↓Fr.v_sl, ↓Fr.v_call, ↓Fr.v_blt, ↓Fr.v_meth, ↓Fr.v_comp, ↓Fr.v_comp2, ↓Fr.v_lsc, ↓Fr.vs_nil, ↓Fr.vs_cons, ↓Fr.vt_and, ↓Fr.vt_or, ↓Fr.vt_not, ↓Fr.vt_slot, ↓Fr.vt_con, ↓Fr.vt_bin, ↓Fr.vt_neg, ↓Fr.vt_cmp, ↓Fr.vt_chain, ↓Fr.vt_ife, ↓Fr.vt_tup, ↓Fr.vt_lst, ↓Fr.vt_ix, ↓Fr.vt_sl, ↓Fr.vt_call, ↓Fr.vt_blt, ↓Fr.vt_meth, ↓Fr.vt_comp, ↓Fr.vc_nil, ↓Fr.vc_cons, ↓Fr.vi_rng1, ↓Fr.vi_rng2, ↓Fr.vi_slot, ↓Fr.vi_con, ↓Fr.vi_bin, ↓Fr.vi_neg, ↓Fr.vi_cmp, ↓Fr.vi_chain, ↓Fr.vi_ife, ↓Fr.vi_tup, ↓Fr.vi_lst, ↓Fr.vi_ix, ↓Fr.vi_sl, ↓Fr.vi_call, ↓Fr.vi_blt, ↓Fr.vi_meth, ↓Fr.vi_comp, ↓Fr.vo_nil, ↓Fr.vo_cons, ↓Fr.x_asg, ↓Fr.x_asgs, ↓Fr.x_setix, ↓Fr.x_expr, ↓Fr.x_ret, ↓Fr.x_retN, ↓Fr.x_pass, ↓Fr.x_brk, ↓Fr.x_cnt, ↓Fr.x_ifs, ↓Fr.x_whl, ↓Fr.x_for, ↓Fr.xs_nil, ↓Fr.xs_cons, ↓Fr.bindD_val, ↓Fr.bindD_new, ↓Fr.bind_ok, ↓Fr.bindO_val, ↓Fr.bindO_newT, ↓Fr.bindO_newF, ↓Fr.toS_ok, ↓Fr.seq_nx, ↓Fr.seq_ret, ↓Fr.seq_bk, ↓Fr.seq_ct, ↓Fr.iteS_t, ↓Fr.iteS_f, ↓Fr.iteR_t, ↓Fr.iteR_f, ↓Fr.optR_some, ↓Fr.okD_some, ↓Fr.okB_some, ↓Fr.okS_some, ↓Fr.andR_t, ↓Fr.andR_f, ↓Fr.orR_t, ↓Fr.orR_f, ↓Fr.chainR_t, ↓Fr.chainR_f, ↓Fr.compE_some, ↓Fr.compL_some, ↓Fr.compU_some, ↓Fr.keepR_t, ↓Fr.keepR_f, ↓Fr.keepU_t, ↓Fr.keepU_f, ↓Fr.gate_t, ↓Fr.gateS_t, C_call, C_blt0, C_blt1, C_blt2, C_blt3, C_blt4, C_blt5, C_blt6, C_blt7, C_blt8, C_blt9, C_blt10, C_blt11, C_blt12, C_blt13, C_m0, C_m1, C_m2, C_ty, C_add, C_sub, C_mul, C_fdiv, C_mod, C_pow, C_lt, C_le, C_gt, C_ge, C_eq, C_ne, C_in, C_notin, Fr.asg_nm, Fr.asg_tp, Fr.setR, Fr.getS, Fr.initR, Fr.asgR_some, Fr.truth_bl, Fr.truth_non, Fr.truth_int, Fr.truth_tup, Fr.truth_lst, Fr.truth_ref, Fr.srcOf_tup, Fr.srcOf_lst, Fr.srcOf_rol, Fr.srcOf_ref, Fr.seqOf_tup, Fr.seqOf_lst, Fr.seqOf_rol, Fr.seqOf_ref, Fr.negR_int, Fr.ixR_some, Fr.atD_int, Fr.addD_int, Fr.subD_int, Fr.ltD_int, Fr.leD_int, Fr.gtD_int, Fr.geD_int, Fr.eqD_int, Fr.neD_int, Fr.eqD_str, Fr.neD_str, Fr.lenD_tup, Fr.lenD_lst, Fr.lenD_rol, Fr.one_1, Fr.two_2, Fr.fin_nx, Fr.fin_int, Fr.fin_bl, Fr.fin_none, Fr.fin_str, Fr.okV]
  rw [fin_cD, take_app]
def flt (w : Wr) (m : Nat) : List (List Int) := w.f ++ spr w.e w.wide m ++ spr w.n w.wide (m - 1) ++ w.l.map fun c => c.map (mvl (((m : Int) - 1) * w.wide))
theorem spr_len (p : List (List Int)) (s : Int) (m : Nat) : (spr p s m).length = m * p.length := by
  unfold spr
  rw [flatMap_const _ p.length _ (fun k _ => List.length_map _), List.length_range]
theorem c_flat (n : Nat) (w : Wr) (m : Nat) (h : Hs) (v : vW w) (h1 : 1 ≤ m) (h2 : m ≤ 1000) : cl (n + 7) 10 [wD w, .int m] h = .ok (.new ((flt w m).map cD)) h := by
  have w4 := v.w4
  have w1 := v.w1
  have i1 := v.i1
  have em : mulD (.int ((m : Int) - 1)) (.int w.wide) h = .ok (.val (.int (((m : Int) - 1) * w.wide))) h := mulD_intR (by omega)
  have e1 : (m : Int) - 1 = ((m - 1 : Nat) : Int) := by omega
  have lf := v.f.l16
  have le := v.e.l16
  have ln := v.n.l16
  have ll := v.l.l16
  have s1 : ∀ h, cl (n + 6) 9 [pD w.e, .int w.wide, .int m] h = .ok (.new ((spr w.e w.wide m).map cD)) h := fun h => c_spread (n + 4) _ _ _ h le (fun c hc => by have := (v.e.all c hc).l4; omega) (by omega) h2
  have s2 : ∀ h, cl (n + 6) 9 [pD w.n, .int w.wide, .int ((m : Int) - 1)] h = .ok (.new ((spr w.n w.wide (m - 1)).map cD)) h := fun h => by
    rw [e1]
    exact c_spread (n + 4) _ _ _ h ln (fun c hc => by have := (v.n.all c hc).l4; omega) (by omega) (by omega)
  have m1 : m * w.e.length ≤ 1000 * 16 := Nat.mul_le_mul h2 le
  have m2 : (m - 1) * w.n.length ≤ 1000 * 16 := Nat.mul_le_mul (by omega) ln
  have hm : (1 : Int) ≤ m := by omega
  rw [cl_succ]
  simp [fns, body_flat, c_check_writing, v, c_check_from_one, hm, em, -List.map_map, ↓Fr.v_slot, ↓Fr.v_con, ↓Fr.v_bin, ↓Fr.v_neg, ↓Fr.v_cmp, ↓Fr.v_chain, ↓Fr.v_and, ↓Fr.v_or, ↓Fr.v_not, ↓Fr.v_ife, ↓Fr.v_tup, ↓Fr.v_lst, ↓Fr.v_ix, ↓Fr.v_sl, ↓Fr.v_call, ↓Fr.v_blt, ↓Fr.v_meth, ↓Fr.v_comp, ↓Fr.v_comp2, ↓Fr.v_lsc, ↓Fr.vs_nil, ↓Fr.vs_cons, ↓Fr.vt_and, ↓Fr.vt_or, ↓Fr.vt_not, ↓Fr.vt_slot, ↓Fr.vt_con, ↓Fr.vt_bin, ↓Fr.vt_neg, ↓Fr.vt_cmp, ↓Fr.vt_chain, ↓Fr.vt_ife, ↓Fr.vt_tup, ↓Fr.vt_lst, ↓Fr.vt_ix, ↓Fr.vt_sl, ↓Fr.vt_call, ↓Fr.vt_blt, ↓Fr.vt_meth, ↓Fr.vt_comp, ↓Fr.vc_nil, ↓Fr.vc_cons, ↓Fr.vi_rng1, ↓Fr.vi_rng2, ↓Fr.vi_slot, ↓Fr.vi_con, ↓Fr.vi_bin, ↓Fr.vi_neg, ↓Fr.vi_cmp, ↓Fr.vi_chain, ↓Fr.vi_ife, ↓Fr.vi_tup, ↓Fr.vi_lst, ↓Fr.vi_ix, ↓Fr.vi_sl, ↓Fr.vi_call, ↓Fr.vi_blt, ↓Fr.vi_meth, ↓Fr.vi_comp, ↓Fr.vo_nil, ↓Fr.vo_cons, ↓Fr.x_asg, ↓Fr.x_asgs, ↓Fr.x_setix, ↓Fr.x_expr, ↓Fr.x_ret, ↓Fr.x_retN, ↓Fr.x_pass, ↓Fr.x_brk, ↓Fr.x_cnt, ↓Fr.x_ifs, ↓Fr.x_whl, ↓Fr.x_for, ↓Fr.xs_nil, ↓Fr.xs_cons, ↓Fr.bindD_val, ↓Fr.bindD_new, ↓Fr.bind_ok, ↓Fr.bindO_val, ↓Fr.bindO_newT, ↓Fr.bindO_newF, ↓Fr.toS_ok, ↓Fr.seq_nx, ↓Fr.seq_ret, ↓Fr.seq_bk, ↓Fr.seq_ct, ↓Fr.iteS_t, ↓Fr.iteS_f, ↓Fr.iteR_t, ↓Fr.iteR_f, ↓Fr.optR_some, ↓Fr.okD_some, ↓Fr.okB_some, ↓Fr.okS_some, ↓Fr.andR_t, ↓Fr.andR_f, ↓Fr.orR_t, ↓Fr.orR_f, ↓Fr.chainR_t, ↓Fr.chainR_f, ↓Fr.compE_some, ↓Fr.compL_some, ↓Fr.compU_some, ↓Fr.keepR_t, ↓Fr.keepR_f, ↓Fr.keepU_t, ↓Fr.keepU_f, ↓Fr.gate_t, ↓Fr.gateS_t, C_call, C_blt0, C_blt1, C_blt2, C_blt3, C_blt4, C_blt5, C_blt6, C_blt7, C_blt8, C_blt9, C_blt10, C_blt11, C_blt12, C_blt13, C_m0, C_m1, C_m2, C_ty, C_add, C_sub, C_mul, C_fdiv, C_mod, C_pow, C_lt, C_le, C_gt, C_ge, C_eq, C_ne, C_in, C_notin, Fr.asg_nm, Fr.asg_tp, Fr.setR, Fr.getS, Fr.initR, Fr.asgR_some, Fr.truth_bl, Fr.truth_non, Fr.truth_int, Fr.truth_tup, Fr.truth_lst, Fr.truth_ref, Fr.srcOf_tup, Fr.srcOf_lst, Fr.srcOf_rol, Fr.srcOf_ref, Fr.seqOf_tup, Fr.seqOf_lst, Fr.seqOf_rol, Fr.seqOf_ref, Fr.negR_int, Fr.ixR_some, Fr.atD_int, Fr.addD_int, Fr.subD_int, Fr.ltD_int, Fr.leD_int, Fr.gtD_int, Fr.geD_int, Fr.eqD_int, Fr.neD_int, Fr.eqD_str, Fr.neD_str, Fr.lenD_tup, Fr.lenD_lst, Fr.lenD_rol, Fr.one_1, Fr.two_2, Fr.fin_nx, Fr.fin_int, Fr.fin_bl, Fr.fin_none, Fr.fin_str, Fr.okV]
  rw [mapS_map (cmv (((m : Int) - 1) * w.wide))]
  · have e2 : List.map (cmv (((m : Int) - 1) * w.wide)) (List.map cD w.l) = (w.l.map fun c => c.map (mvl (((m : Int) - 1) * w.wide))).map cD := by
      rw [List.map_map, List.map_map]
      exact List.map_congr_left fun c _ => cmv_c _ c
    rw [e2]
    simp [list_tup, s1, s2, -List.map_map, ↓Fr.v_slot, ↓Fr.v_con, ↓Fr.v_bin, ↓Fr.v_neg, ↓Fr.v_cmp, ↓Fr.v_chain, ↓Fr.v_and, ↓Fr.v_or, ↓Fr.v_not, ↓Fr.v_ife, ↓Fr.v_tup, ↓Fr.v_lst, ↓Fr.v_ix, ↓Fr.v_sl, ↓Fr.v_call, ↓Fr.v_blt, ↓Fr.v_meth, ↓Fr.v_comp, ↓Fr.v_comp2, ↓Fr.v_lsc, ↓Fr.vs_nil, ↓Fr.vs_cons, ↓Fr.vt_and, ↓Fr.vt_or, ↓Fr.vt_not, ↓Fr.vt_slot, ↓Fr.vt_con, ↓Fr.vt_bin, ↓Fr.vt_neg, ↓Fr.vt_cmp, ↓Fr.vt_chain, ↓Fr.vt_ife, ↓Fr.vt_tup, ↓Fr.vt_lst, ↓Fr.vt_ix, ↓Fr.vt_sl, ↓Fr.vt_call, ↓Fr.vt_blt, ↓Fr.vt_meth, ↓Fr.vt_comp, ↓Fr.vc_nil, ↓Fr.vc_cons, ↓Fr.vi_rng1, ↓Fr.vi_rng2, ↓Fr.vi_slot, ↓Fr.vi_con, ↓Fr.vi_bin, ↓Fr.vi_neg, ↓Fr.vi_cmp, ↓Fr.vi_chain, ↓Fr.vi_ife, ↓Fr.vi_tup, ↓Fr.vi_lst, ↓Fr.vi_ix, ↓Fr.vi_sl, ↓Fr.vi_call, ↓Fr.vi_blt, ↓Fr.vi_meth, ↓Fr.vi_comp, ↓Fr.vo_nil, ↓Fr.vo_cons, ↓Fr.x_asg, ↓Fr.x_asgs, ↓Fr.x_setix, ↓Fr.x_expr, ↓Fr.x_ret, ↓Fr.x_retN, ↓Fr.x_pass, ↓Fr.x_brk, ↓Fr.x_cnt, ↓Fr.x_ifs, ↓Fr.x_whl, ↓Fr.x_for, ↓Fr.xs_nil, ↓Fr.xs_cons, ↓Fr.bindD_val, ↓Fr.bindD_new, ↓Fr.bind_ok, ↓Fr.bindO_val, ↓Fr.bindO_newT, ↓Fr.bindO_newF, ↓Fr.toS_ok, ↓Fr.seq_nx, ↓Fr.seq_ret, ↓Fr.seq_bk, ↓Fr.seq_ct, ↓Fr.iteS_t, ↓Fr.iteS_f, ↓Fr.iteR_t, ↓Fr.iteR_f, ↓Fr.optR_some, ↓Fr.okD_some, ↓Fr.okB_some, ↓Fr.okS_some, ↓Fr.andR_t, ↓Fr.andR_f, ↓Fr.orR_t, ↓Fr.orR_f, ↓Fr.chainR_t, ↓Fr.chainR_f, ↓Fr.compE_some, ↓Fr.compL_some, ↓Fr.compU_some, ↓Fr.keepR_t, ↓Fr.keepR_f, ↓Fr.keepU_t, ↓Fr.keepU_f, ↓Fr.gate_t, ↓Fr.gateS_t, C_call, C_blt0, C_blt1, C_blt2, C_blt3, C_blt4, C_blt5, C_blt6, C_blt7, C_blt8, C_blt9, C_blt10, C_blt11, C_blt12, C_blt13, C_m0, C_m1, C_m2, C_ty, C_add, C_sub, C_mul, C_fdiv, C_mod, C_pow, C_lt, C_le, C_gt, C_ge, C_eq, C_ne, C_in, C_notin, Fr.asg_nm, Fr.asg_tp, Fr.setR, Fr.getS, Fr.initR, Fr.asgR_some, Fr.truth_bl, Fr.truth_non, Fr.truth_int, Fr.truth_tup, Fr.truth_lst, Fr.truth_ref, Fr.srcOf_tup, Fr.srcOf_lst, Fr.srcOf_rol, Fr.srcOf_ref, Fr.seqOf_tup, Fr.seqOf_lst, Fr.seqOf_rol, Fr.seqOf_ref, Fr.negR_int, Fr.ixR_some, Fr.atD_int, Fr.addD_int, Fr.subD_int, Fr.ltD_int, Fr.leD_int, Fr.gtD_int, Fr.geD_int, Fr.eqD_int, Fr.neD_int, Fr.eqD_str, Fr.neD_str, Fr.lenD_tup, Fr.lenD_lst, Fr.lenD_rol, Fr.one_1, Fr.two_2, Fr.fin_nx, Fr.fin_int, Fr.fin_bl, Fr.fin_none, Fr.fin_str, Fr.okV]
    rw [addD_lst (by simp only [List.length_map, spr_len]; show _ ≤ 2 ^ 24; omega)]
    simp [-List.map_map, ↓Fr.v_slot, ↓Fr.v_con, ↓Fr.v_bin, ↓Fr.v_neg, ↓Fr.v_cmp, ↓Fr.v_chain, ↓Fr.v_and, ↓Fr.v_or, ↓Fr.v_not, ↓Fr.v_ife, ↓Fr.v_tup, ↓Fr.v_lst, ↓Fr.v_ix, ↓Fr.v_sl, ↓Fr.v_call, ↓Fr.v_blt, ↓Fr.v_meth, ↓Fr.v_comp, ↓Fr.v_comp2, ↓Fr.v_lsc, ↓Fr.vs_nil, ↓Fr.vs_cons, ↓Fr.vt_and, ↓Fr.vt_or, ↓Fr.vt_not, ↓Fr.vt_slot, ↓Fr.vt_con, ↓Fr.vt_bin, ↓Fr.vt_neg, ↓Fr.vt_cmp, ↓Fr.vt_chain, ↓Fr.vt_ife, ↓Fr.vt_tup, ↓Fr.vt_lst, ↓Fr.vt_ix, ↓Fr.vt_sl, ↓Fr.vt_call, ↓Fr.vt_blt, ↓Fr.vt_meth, ↓Fr.vt_comp, ↓Fr.vc_nil, ↓Fr.vc_cons, ↓Fr.vi_rng1, ↓Fr.vi_rng2, ↓Fr.vi_slot, ↓Fr.vi_con, ↓Fr.vi_bin, ↓Fr.vi_neg, ↓Fr.vi_cmp, ↓Fr.vi_chain, ↓Fr.vi_ife, ↓Fr.vi_tup, ↓Fr.vi_lst, ↓Fr.vi_ix, ↓Fr.vi_sl, ↓Fr.vi_call, ↓Fr.vi_blt, ↓Fr.vi_meth, ↓Fr.vi_comp, ↓Fr.vo_nil, ↓Fr.vo_cons, ↓Fr.x_asg, ↓Fr.x_asgs, ↓Fr.x_setix, ↓Fr.x_expr, ↓Fr.x_ret, ↓Fr.x_retN, ↓Fr.x_pass, ↓Fr.x_brk, ↓Fr.x_cnt, ↓Fr.x_ifs, ↓Fr.x_whl, ↓Fr.x_for, ↓Fr.xs_nil, ↓Fr.xs_cons, ↓Fr.bindD_val, ↓Fr.bindD_new, ↓Fr.bind_ok, ↓Fr.bindO_val, ↓Fr.bindO_newT, ↓Fr.bindO_newF, ↓Fr.toS_ok, ↓Fr.seq_nx, ↓Fr.seq_ret, ↓Fr.seq_bk, ↓Fr.seq_ct, ↓Fr.iteS_t, ↓Fr.iteS_f, ↓Fr.iteR_t, ↓Fr.iteR_f, ↓Fr.optR_some, ↓Fr.okD_some, ↓Fr.okB_some, ↓Fr.okS_some, ↓Fr.andR_t, ↓Fr.andR_f, ↓Fr.orR_t, ↓Fr.orR_f, ↓Fr.chainR_t, ↓Fr.chainR_f, ↓Fr.compE_some, ↓Fr.compL_some, ↓Fr.compU_some, ↓Fr.keepR_t, ↓Fr.keepR_f, ↓Fr.keepU_t, ↓Fr.keepU_f, ↓Fr.gate_t, ↓Fr.gateS_t, C_call, C_blt0, C_blt1, C_blt2, C_blt3, C_blt4, C_blt5, C_blt6, C_blt7, C_blt8, C_blt9, C_blt10, C_blt11, C_blt12, C_blt13, C_m0, C_m1, C_m2, C_ty, C_add, C_sub, C_mul, C_fdiv, C_mod, C_pow, C_lt, C_le, C_gt, C_ge, C_eq, C_ne, C_in, C_notin, Fr.asg_nm, Fr.asg_tp, Fr.setR, Fr.getS, Fr.initR, Fr.asgR_some, Fr.truth_bl, Fr.truth_non, Fr.truth_int, Fr.truth_tup, Fr.truth_lst, Fr.truth_ref, Fr.srcOf_tup, Fr.srcOf_lst, Fr.srcOf_rol, Fr.srcOf_ref, Fr.seqOf_tup, Fr.seqOf_lst, Fr.seqOf_rol, Fr.seqOf_ref, Fr.negR_int, Fr.ixR_some, Fr.atD_int, Fr.addD_int, Fr.subD_int, Fr.ltD_int, Fr.leD_int, Fr.gtD_int, Fr.geD_int, Fr.eqD_int, Fr.neD_int, Fr.eqD_str, Fr.neD_str, Fr.lenD_tup, Fr.lenD_lst, Fr.lenD_rol, Fr.one_1, Fr.two_2, Fr.fin_nx, Fr.fin_int, Fr.fin_bl, Fr.fin_none, Fr.fin_str, Fr.okV]
    rw [addD_lst (by simp only [List.length_append, List.length_map, spr_len]; show _ ≤ 2 ^ 24; omega)]
    simp [-List.map_map, ↓Fr.v_slot, ↓Fr.v_con, ↓Fr.v_bin, ↓Fr.v_neg, ↓Fr.v_cmp, ↓Fr.v_chain, ↓Fr.v_and, ↓Fr.v_or, ↓Fr.v_not, ↓Fr.v_ife, ↓Fr.v_tup, ↓Fr.v_lst, ↓Fr.v_ix, ↓Fr.v_sl, ↓Fr.v_call, ↓Fr.v_blt, ↓Fr.v_meth, ↓Fr.v_comp, ↓Fr.v_comp2, ↓Fr.v_lsc, ↓Fr.vs_nil, ↓Fr.vs_cons, ↓Fr.vt_and, ↓Fr.vt_or, ↓Fr.vt_not, ↓Fr.vt_slot, ↓Fr.vt_con, ↓Fr.vt_bin, ↓Fr.vt_neg, ↓Fr.vt_cmp, ↓Fr.vt_chain, ↓Fr.vt_ife, ↓Fr.vt_tup, ↓Fr.vt_lst, ↓Fr.vt_ix, ↓Fr.vt_sl, ↓Fr.vt_call, ↓Fr.vt_blt, ↓Fr.vt_meth, ↓Fr.vt_comp, ↓Fr.vc_nil, ↓Fr.vc_cons, ↓Fr.vi_rng1, ↓Fr.vi_rng2, ↓Fr.vi_slot, ↓Fr.vi_con, ↓Fr.vi_bin, ↓Fr.vi_neg, ↓Fr.vi_cmp, ↓Fr.vi_chain, ↓Fr.vi_ife, ↓Fr.vi_tup, ↓Fr.vi_lst, ↓Fr.vi_ix, ↓Fr.vi_sl, ↓Fr.vi_call, ↓Fr.vi_blt, ↓Fr.vi_meth, ↓Fr.vi_comp, ↓Fr.vo_nil, ↓Fr.vo_cons, ↓Fr.x_asg, ↓Fr.x_asgs, ↓Fr.x_setix, ↓Fr.x_expr, ↓Fr.x_ret, ↓Fr.x_retN, ↓Fr.x_pass, ↓Fr.x_brk, ↓Fr.x_cnt, ↓Fr.x_ifs, ↓Fr.x_whl, ↓Fr.x_for, ↓Fr.xs_nil, ↓Fr.xs_cons, ↓Fr.bindD_val, ↓Fr.bindD_new, ↓Fr.bind_ok, ↓Fr.bindO_val, ↓Fr.bindO_newT, ↓Fr.bindO_newF, ↓Fr.toS_ok, ↓Fr.seq_nx, ↓Fr.seq_ret, ↓Fr.seq_bk, ↓Fr.seq_ct, ↓Fr.iteS_t, ↓Fr.iteS_f, ↓Fr.iteR_t, ↓Fr.iteR_f, ↓Fr.optR_some, ↓Fr.okD_some, ↓Fr.okB_some, ↓Fr.okS_some, ↓Fr.andR_t, ↓Fr.andR_f, ↓Fr.orR_t, ↓Fr.orR_f, ↓Fr.chainR_t, ↓Fr.chainR_f, ↓Fr.compE_some, ↓Fr.compL_some, ↓Fr.compU_some, ↓Fr.keepR_t, ↓Fr.keepR_f, ↓Fr.keepU_t, ↓Fr.keepU_f, ↓Fr.gate_t, ↓Fr.gateS_t, C_call, C_blt0, C_blt1, C_blt2, C_blt3, C_blt4, C_blt5, C_blt6, C_blt7, C_blt8, C_blt9, C_blt10, C_blt11, C_blt12, C_blt13, C_m0, C_m1, C_m2, C_ty, C_add, C_sub, C_mul, C_fdiv, C_mod, C_pow, C_lt, C_le, C_gt, C_ge, C_eq, C_ne, C_in, C_notin, Fr.asg_nm, Fr.asg_tp, Fr.setR, Fr.getS, Fr.initR, Fr.asgR_some, Fr.truth_bl, Fr.truth_non, Fr.truth_int, Fr.truth_tup, Fr.truth_lst, Fr.truth_ref, Fr.srcOf_tup, Fr.srcOf_lst, Fr.srcOf_rol, Fr.srcOf_ref, Fr.seqOf_tup, Fr.seqOf_lst, Fr.seqOf_rol, Fr.seqOf_ref, Fr.negR_int, Fr.ixR_some, Fr.atD_int, Fr.addD_int, Fr.subD_int, Fr.ltD_int, Fr.leD_int, Fr.gtD_int, Fr.geD_int, Fr.eqD_int, Fr.neD_int, Fr.eqD_str, Fr.neD_str, Fr.lenD_tup, Fr.lenD_lst, Fr.lenD_rol, Fr.one_1, Fr.two_2, Fr.fin_nx, Fr.fin_int, Fr.fin_bl, Fr.fin_none, Fr.fin_str, Fr.okV]
    rw [addD_lst (by simp only [List.length_append, List.length_map, spr_len]; show _ ≤ 2 ^ 24; omega)]
    simp only [toS_ok, seq_ret]
    have e3 : List.map cD w.f ++ (List.map cD (spr w.e w.wide m) ++ (List.map cD (spr w.n w.wide (m - 1)) ++ (w.l.map fun c => c.map (mvl (((m : Int) - 1) * w.wide))).map cD)) = (flt w m).map cD := by
      unfold flt
      simp only [List.map_append, List.append_assoc]
    simp only [List.append_assoc]
    rw [e3, fin_new (und_p _ _), List.take_length]
  · intro x hx a
    obtain ⟨c, hc, rfl⟩ := List.mem_map.mp hx
    have := (v.l.all c hc).l4
    have c1 : c.length ≤ 1000 := by omega
    simp [compF_at, wipeR, c_moved, c1, cmv_c, -List.map_map, ↓Fr.v_slot, ↓Fr.v_con, ↓Fr.v_bin, ↓Fr.v_neg, ↓Fr.v_cmp, ↓Fr.v_chain, ↓Fr.v_and, ↓Fr.v_or, ↓Fr.v_not, ↓Fr.v_ife, ↓Fr.v_tup, ↓Fr.v_lst, ↓Fr.v_ix, ↓Fr.v_sl, ↓Fr.v_call, ↓Fr.v_blt, ↓Fr.v_meth, ↓Fr.v_comp, ↓Fr.v_comp2, ↓Fr.v_lsc, ↓Fr.vs_nil, ↓Fr.vs_cons, ↓Fr.vt_and, ↓Fr.vt_or, ↓Fr.vt_not, ↓Fr.vt_slot, ↓Fr.vt_con, ↓Fr.vt_bin, ↓Fr.vt_neg, ↓Fr.vt_cmp, ↓Fr.vt_chain, ↓Fr.vt_ife, ↓Fr.vt_tup, ↓Fr.vt_lst, ↓Fr.vt_ix, ↓Fr.vt_sl, ↓Fr.vt_call, ↓Fr.vt_blt, ↓Fr.vt_meth, ↓Fr.vt_comp, ↓Fr.vc_nil, ↓Fr.vc_cons, ↓Fr.vi_rng1, ↓Fr.vi_rng2, ↓Fr.vi_slot, ↓Fr.vi_con, ↓Fr.vi_bin, ↓Fr.vi_neg, ↓Fr.vi_cmp, ↓Fr.vi_chain, ↓Fr.vi_ife, ↓Fr.vi_tup, ↓Fr.vi_lst, ↓Fr.vi_ix, ↓Fr.vi_sl, ↓Fr.vi_call, ↓Fr.vi_blt, ↓Fr.vi_meth, ↓Fr.vi_comp, ↓Fr.vo_nil, ↓Fr.vo_cons, ↓Fr.x_asg, ↓Fr.x_asgs, ↓Fr.x_setix, ↓Fr.x_expr, ↓Fr.x_ret, ↓Fr.x_retN, ↓Fr.x_pass, ↓Fr.x_brk, ↓Fr.x_cnt, ↓Fr.x_ifs, ↓Fr.x_whl, ↓Fr.x_for, ↓Fr.xs_nil, ↓Fr.xs_cons, ↓Fr.bindD_val, ↓Fr.bindD_new, ↓Fr.bind_ok, ↓Fr.bindO_val, ↓Fr.bindO_newT, ↓Fr.bindO_newF, ↓Fr.toS_ok, ↓Fr.seq_nx, ↓Fr.seq_ret, ↓Fr.seq_bk, ↓Fr.seq_ct, ↓Fr.iteS_t, ↓Fr.iteS_f, ↓Fr.iteR_t, ↓Fr.iteR_f, ↓Fr.optR_some, ↓Fr.okD_some, ↓Fr.okB_some, ↓Fr.okS_some, ↓Fr.andR_t, ↓Fr.andR_f, ↓Fr.orR_t, ↓Fr.orR_f, ↓Fr.chainR_t, ↓Fr.chainR_f, ↓Fr.compE_some, ↓Fr.compL_some, ↓Fr.compU_some, ↓Fr.keepR_t, ↓Fr.keepR_f, ↓Fr.keepU_t, ↓Fr.keepU_f, ↓Fr.gate_t, ↓Fr.gateS_t, C_call, C_blt0, C_blt1, C_blt2, C_blt3, C_blt4, C_blt5, C_blt6, C_blt7, C_blt8, C_blt9, C_blt10, C_blt11, C_blt12, C_blt13, C_m0, C_m1, C_m2, C_ty, C_add, C_sub, C_mul, C_fdiv, C_mod, C_pow, C_lt, C_le, C_gt, C_ge, C_eq, C_ne, C_in, C_notin, Fr.asg_nm, Fr.asg_tp, Fr.setR, Fr.getS, Fr.initR, Fr.asgR_some, Fr.truth_bl, Fr.truth_non, Fr.truth_int, Fr.truth_tup, Fr.truth_lst, Fr.truth_ref, Fr.srcOf_tup, Fr.srcOf_lst, Fr.srcOf_rol, Fr.srcOf_ref, Fr.seqOf_tup, Fr.seqOf_lst, Fr.seqOf_rol, Fr.seqOf_ref, Fr.negR_int, Fr.ixR_some, Fr.atD_int, Fr.addD_int, Fr.subD_int, Fr.ltD_int, Fr.leD_int, Fr.gtD_int, Fr.geD_int, Fr.eqD_int, Fr.neD_int, Fr.eqD_str, Fr.neD_str, Fr.lenD_tup, Fr.lenD_lst, Fr.lenD_rol, Fr.one_1, Fr.two_2, Fr.fin_nx, Fr.fin_int, Fr.fin_bl, Fr.fin_none, Fr.fin_str, Fr.okV]
  · intro x hx
    obtain ⟨c, hc, rfl⟩ := List.mem_map.mp hx
    rw [cmv_c]
    unfold D.und
    exact und_c _ _
  · rw [List.length_map]
    show _ ≤ 2 ^ 24
    omega
def cst (w : Wr) (k : Int) : Int := w.f.length + k * w.e.length + (k - 1) * w.n.length + w.l.length
theorem c_cost (n : Nat) (w : Wr) (k : Int) (h : Hs) (v : vW w) (h1 : 1 ≤ k) : cl (n + 7) 11 [wD w, .int k] h = .ok (.val (.tup [.int (k * w.wide), .int (cst w k)])) h := by
  have w4 := v.w4
  have w1 := v.w1
  have i1 := v.i1
  have le := v.e.l16
  have ln := v.n.l16
  have e1 : mulD (.int k) (.int w.e.length) h = .ok (.val (.int (k * w.e.length))) h := mulD_intR (by omega)
  have e2 : mulD (.int (k - 1)) (.int w.n.length) h = .ok (.val (.int ((k - 1) * w.n.length))) h := mulD_intR (by omega)
  have e3 : mulD (.int k) (.int w.wide) h = .ok (.val (.int (k * w.wide))) h := mulD_intR (by omega)
  have e4 : ∀ a b : D, tupR [a, b] h = .ok (.val (.tup [a, b])) h := fun a b => tupR_ok (by show 2 ≤ 2 ^ 24; decide)
  rw [cl_succ]
  simp [fns, body_cost, c_check_writing, v, c_check_from_one, h1, e1, e2, e3, e4, -List.map_map, ↓Fr.v_slot, ↓Fr.v_con, ↓Fr.v_bin, ↓Fr.v_neg, ↓Fr.v_cmp, ↓Fr.v_chain, ↓Fr.v_and, ↓Fr.v_or, ↓Fr.v_not, ↓Fr.v_ife, ↓Fr.v_tup, ↓Fr.v_lst, ↓Fr.v_ix, ↓Fr.v_sl, ↓Fr.v_call, ↓Fr.v_blt, ↓Fr.v_meth, ↓Fr.v_comp, ↓Fr.v_comp2, ↓Fr.v_lsc, ↓Fr.vs_nil, ↓Fr.vs_cons, ↓Fr.vt_and, ↓Fr.vt_or, ↓Fr.vt_not, ↓Fr.vt_slot, ↓Fr.vt_con, ↓Fr.vt_bin, ↓Fr.vt_neg, ↓Fr.vt_cmp, ↓Fr.vt_chain, ↓Fr.vt_ife, ↓Fr.vt_tup, ↓Fr.vt_lst, ↓Fr.vt_ix, ↓Fr.vt_sl, ↓Fr.vt_call, ↓Fr.vt_blt, ↓Fr.vt_meth, ↓Fr.vt_comp, ↓Fr.vc_nil, ↓Fr.vc_cons, ↓Fr.vi_rng1, ↓Fr.vi_rng2, ↓Fr.vi_slot, ↓Fr.vi_con, ↓Fr.vi_bin, ↓Fr.vi_neg, ↓Fr.vi_cmp, ↓Fr.vi_chain, ↓Fr.vi_ife, ↓Fr.vi_tup, ↓Fr.vi_lst, ↓Fr.vi_ix, ↓Fr.vi_sl, ↓Fr.vi_call, ↓Fr.vi_blt, ↓Fr.vi_meth, ↓Fr.vi_comp, ↓Fr.vo_nil, ↓Fr.vo_cons, ↓Fr.x_asg, ↓Fr.x_asgs, ↓Fr.x_setix, ↓Fr.x_expr, ↓Fr.x_ret, ↓Fr.x_retN, ↓Fr.x_pass, ↓Fr.x_brk, ↓Fr.x_cnt, ↓Fr.x_ifs, ↓Fr.x_whl, ↓Fr.x_for, ↓Fr.xs_nil, ↓Fr.xs_cons, ↓Fr.bindD_val, ↓Fr.bindD_new, ↓Fr.bind_ok, ↓Fr.bindO_val, ↓Fr.bindO_newT, ↓Fr.bindO_newF, ↓Fr.toS_ok, ↓Fr.seq_nx, ↓Fr.seq_ret, ↓Fr.seq_bk, ↓Fr.seq_ct, ↓Fr.iteS_t, ↓Fr.iteS_f, ↓Fr.iteR_t, ↓Fr.iteR_f, ↓Fr.optR_some, ↓Fr.okD_some, ↓Fr.okB_some, ↓Fr.okS_some, ↓Fr.andR_t, ↓Fr.andR_f, ↓Fr.orR_t, ↓Fr.orR_f, ↓Fr.chainR_t, ↓Fr.chainR_f, ↓Fr.compE_some, ↓Fr.compL_some, ↓Fr.compU_some, ↓Fr.keepR_t, ↓Fr.keepR_f, ↓Fr.keepU_t, ↓Fr.keepU_f, ↓Fr.gate_t, ↓Fr.gateS_t, C_call, C_blt0, C_blt1, C_blt2, C_blt3, C_blt4, C_blt5, C_blt6, C_blt7, C_blt8, C_blt9, C_blt10, C_blt11, C_blt12, C_blt13, C_m0, C_m1, C_m2, C_ty, C_add, C_sub, C_mul, C_fdiv, C_mod, C_pow, C_lt, C_le, C_gt, C_ge, C_eq, C_ne, C_in, C_notin, Fr.asg_nm, Fr.asg_tp, Fr.setR, Fr.getS, Fr.initR, Fr.asgR_some, Fr.truth_bl, Fr.truth_non, Fr.truth_int, Fr.truth_tup, Fr.truth_lst, Fr.truth_ref, Fr.srcOf_tup, Fr.srcOf_lst, Fr.srcOf_rol, Fr.srcOf_ref, Fr.seqOf_tup, Fr.seqOf_lst, Fr.seqOf_rol, Fr.seqOf_ref, Fr.negR_int, Fr.ixR_some, Fr.atD_int, Fr.addD_int, Fr.subD_int, Fr.ltD_int, Fr.leD_int, Fr.gtD_int, Fr.geD_int, Fr.eqD_int, Fr.neD_int, Fr.eqD_str, Fr.neD_str, Fr.lenD_tup, Fr.lenD_lst, Fr.lenD_rol, Fr.one_1, Fr.two_2, Fr.fin_nx, Fr.fin_int, Fr.fin_bl, Fr.fin_none, Fr.fin_str, Fr.okV]
  rw [fin_tup rfl, List.take_length]
  rfl
theorem c_law_cost (n : Nat) (w : Wr) (k : Int) (h : Hs) (v : vW w) : cl (n + 1) 21 [wD w, .int k] h = .ok (.val (.tup [.int (k * w.wide), .int (cst w k)])) h := by
  have w4 := v.w4
  have w1 := v.w1
  have i1 := v.i1
  have le := v.e.l16
  have ln := v.n.l16
  have e1 : mulD (.int k) (.int w.e.length) h = .ok (.val (.int (k * w.e.length))) h := mulD_intR (by omega)
  have e2 : mulD (.int (k - 1)) (.int w.n.length) h = .ok (.val (.int ((k - 1) * w.n.length))) h := mulD_intR (by omega)
  have e3 : mulD (.int k) (.int w.wide) h = .ok (.val (.int (k * w.wide))) h := mulD_intR (by omega)
  have e4 : ∀ a b : D, tupR [a, b] h = .ok (.val (.tup [a, b])) h := fun a b => tupR_ok (by show 2 ≤ 2 ^ 24; decide)
  rw [cl_succ]
  simp [fns, body__law_cost, atI_1, atI_2, atI_3, atI_4, atI_5, e1, e2, e3, e4, -List.map_map, ↓Fr.v_slot, ↓Fr.v_con, ↓Fr.v_bin, ↓Fr.v_neg, ↓Fr.v_cmp, ↓Fr.v_chain, ↓Fr.v_and, ↓Fr.v_or, ↓Fr.v_not, ↓Fr.v_ife, ↓Fr.v_tup, ↓Fr.v_lst, ↓Fr.v_ix, ↓Fr.v_sl, ↓Fr.v_call, ↓Fr.v_blt, ↓Fr.v_meth, ↓Fr.v_comp, ↓Fr.v_comp2, ↓Fr.v_lsc, ↓Fr.vs_nil, ↓Fr.vs_cons, ↓Fr.vt_and, ↓Fr.vt_or, ↓Fr.vt_not, ↓Fr.vt_slot, ↓Fr.vt_con, ↓Fr.vt_bin, ↓Fr.vt_neg, ↓Fr.vt_cmp, ↓Fr.vt_chain, ↓Fr.vt_ife, ↓Fr.vt_tup, ↓Fr.vt_lst, ↓Fr.vt_ix, ↓Fr.vt_sl, ↓Fr.vt_call, ↓Fr.vt_blt, ↓Fr.vt_meth, ↓Fr.vt_comp, ↓Fr.vc_nil, ↓Fr.vc_cons, ↓Fr.vi_rng1, ↓Fr.vi_rng2, ↓Fr.vi_slot, ↓Fr.vi_con, ↓Fr.vi_bin, ↓Fr.vi_neg, ↓Fr.vi_cmp, ↓Fr.vi_chain, ↓Fr.vi_ife, ↓Fr.vi_tup, ↓Fr.vi_lst, ↓Fr.vi_ix, ↓Fr.vi_sl, ↓Fr.vi_call, ↓Fr.vi_blt, ↓Fr.vi_meth, ↓Fr.vi_comp, ↓Fr.vo_nil, ↓Fr.vo_cons, ↓Fr.x_asg, ↓Fr.x_asgs, ↓Fr.x_setix, ↓Fr.x_expr, ↓Fr.x_ret, ↓Fr.x_retN, ↓Fr.x_pass, ↓Fr.x_brk, ↓Fr.x_cnt, ↓Fr.x_ifs, ↓Fr.x_whl, ↓Fr.x_for, ↓Fr.xs_nil, ↓Fr.xs_cons, ↓Fr.bindD_val, ↓Fr.bindD_new, ↓Fr.bind_ok, ↓Fr.bindO_val, ↓Fr.bindO_newT, ↓Fr.bindO_newF, ↓Fr.toS_ok, ↓Fr.seq_nx, ↓Fr.seq_ret, ↓Fr.seq_bk, ↓Fr.seq_ct, ↓Fr.iteS_t, ↓Fr.iteS_f, ↓Fr.iteR_t, ↓Fr.iteR_f, ↓Fr.optR_some, ↓Fr.okD_some, ↓Fr.okB_some, ↓Fr.okS_some, ↓Fr.andR_t, ↓Fr.andR_f, ↓Fr.orR_t, ↓Fr.orR_f, ↓Fr.chainR_t, ↓Fr.chainR_f, ↓Fr.compE_some, ↓Fr.compL_some, ↓Fr.compU_some, ↓Fr.keepR_t, ↓Fr.keepR_f, ↓Fr.keepU_t, ↓Fr.keepU_f, ↓Fr.gate_t, ↓Fr.gateS_t, C_call, C_blt0, C_blt1, C_blt2, C_blt3, C_blt4, C_blt5, C_blt6, C_blt7, C_blt8, C_blt9, C_blt10, C_blt11, C_blt12, C_blt13, C_m0, C_m1, C_m2, C_ty, C_add, C_sub, C_mul, C_fdiv, C_mod, C_pow, C_lt, C_le, C_gt, C_ge, C_eq, C_ne, C_in, C_notin, Fr.asg_nm, Fr.asg_tp, Fr.setR, Fr.getS, Fr.initR, Fr.asgR_some, Fr.truth_bl, Fr.truth_non, Fr.truth_int, Fr.truth_tup, Fr.truth_lst, Fr.truth_ref, Fr.srcOf_tup, Fr.srcOf_lst, Fr.srcOf_rol, Fr.srcOf_ref, Fr.seqOf_tup, Fr.seqOf_lst, Fr.seqOf_rol, Fr.seqOf_ref, Fr.negR_int, Fr.ixR_some, Fr.atD_int, Fr.addD_int, Fr.subD_int, Fr.ltD_int, Fr.leD_int, Fr.gtD_int, Fr.geD_int, Fr.eqD_int, Fr.neD_int, Fr.eqD_str, Fr.neD_str, Fr.lenD_tup, Fr.lenD_lst, Fr.lenD_rol, Fr.one_1, Fr.two_2, Fr.fin_nx, Fr.fin_int, Fr.fin_bl, Fr.fin_none, Fr.fin_str, Fr.okV]
  rw [fin_tup rfl, List.take_length]
  have e5 : (w.f.length : Int) + w.l.length + k * w.e.length + (k - 1) * w.n.length = cst w k := by
    unfold cst
    omega
  rw [e5]
end K02
set_option Elab.async false
set_option linter.all false
set_option maxRecDepth 100000
set_option maxHeartbeats 4000000
namespace K02
open PySem PySem.Spec PyProof.Rows L2 Fr
theorem flat_in (n : Nat) (w : Wr) (m : Nat) (h : Hs) (pl : Int) (le : D) (p : List (List Int)) (hw : w.wide.natAbs < 2 ^ 64) (hat : L2.atI [.int w.ins, .int w.wide, pD w.f, pD w.e, pD w.n, pD w.l] pl = some (pD p)) (hp : p.length ≤ 16) (hc : ∀ c ∈ p, c.length ≤ 1000) :
    ∀ (ks : List Nat) (acc : List (List Int)) (o : Option D), acc.length + ks.length * 16 ≤ 2 ^ 20 → ∃ o', forL (exs (C (n + 1)) lb__law_flat_2) (G.nm 6) (ks.map fun k => .int (k : Nat)) [some (wD w), some (.int m), some (.int w.wide), some (.ref h.length), some (.int pl), some le, o, none] (h ++ [acc.map cD]) =
      .nx [some (wD w), some (.int m), some (.int w.wide), some (.ref h.length), some (.int pl), some le, o', none] (h ++ [(acc ++ ks.flatMap fun k => p.map fun c => c.map (mvl ((k : Nat) * w.wide))).map cD]) := by
  intro ks
  induction ks with
  | nil =>
    intro acc o hl
    exact ⟨o, by simp [forL]⟩
  | cons k ks ih =>
    intro acc o hl
    rw [List.length_cons] at hl
    obtain ⟨o', ih⟩ := ih (acc ++ p.map fun c => c.map (mvl ((k : Nat) * w.wide))) (some (.int (k : Nat))) (by rw [List.length_append, List.length_map]; omega)
    refine ⟨o', ?_⟩
    have em : ∀ h, mulD (.int w.wide) (.int (k : Nat)) h = .ok (.val (.int (w.wide * (k : Nat)))) h := fun h => mulD_intL hw
    have e2 : List.map (cmv (w.wide * (k : Nat))) (p.map cD) = (p.map fun c => c.map (mvl ((k : Nat) * w.wide))).map cD := by
      rw [List.map_map, List.map_map]
      refine List.map_congr_left fun c _ => ?_
      rw [Int.mul_comm]
      exact cmv_c _ c
    have ex2 : extendD (.ref h.length) [.lst ((p.map fun c => c.map (mvl ((k : Nat) * w.wide))).map cD)] (h ++ [acc.map cD]) = .ok (.val .non) (h ++ [(acc ++ p.map fun c => c.map (mvl ((k : Nat) * w.wide))).map cD]) := by
      rw [extend_at (l := acc.map cD) at_last (by simp only [List.length_map]; omega) (und_p _ _), set_end]
      simp only [List.map_append]
    have e : exs (C (n + 1)) lb__law_flat_2 [some (wD w), some (.int m), some (.int w.wide), some (.ref h.length), some (.int pl), some le, some (.int (k : Nat)), none] (h ++ [acc.map cD]) =
        .nx [some (wD w), some (.int m), some (.int w.wide), some (.ref h.length), some (.int pl), some le, some (.int (k : Nat)), none] (h ++ [(acc ++ p.map fun c => c.map (mvl ((k : Nat) * w.wide))).map cD]) := by
      simp [lb__law_flat_2, isListD, hat, -List.map_map, ↓Fr.v_slot, ↓Fr.v_con, ↓Fr.v_bin, ↓Fr.v_neg, ↓Fr.v_cmp, ↓Fr.v_chain, ↓Fr.v_and, ↓Fr.v_or, ↓Fr.v_not, ↓Fr.v_ife, ↓Fr.v_tup, ↓Fr.v_lst, ↓Fr.v_ix, ↓Fr.v_sl, ↓Fr.v_call, ↓Fr.v_blt, ↓Fr.v_meth, ↓Fr.v_comp, ↓Fr.v_comp2, ↓Fr.v_lsc, ↓Fr.vs_nil, ↓Fr.vs_cons, ↓Fr.vt_and, ↓Fr.vt_or, ↓Fr.vt_not, ↓Fr.vt_slot, ↓Fr.vt_con, ↓Fr.vt_bin, ↓Fr.vt_neg, ↓Fr.vt_cmp, ↓Fr.vt_chain, ↓Fr.vt_ife, ↓Fr.vt_tup, ↓Fr.vt_lst, ↓Fr.vt_ix, ↓Fr.vt_sl, ↓Fr.vt_call, ↓Fr.vt_blt, ↓Fr.vt_meth, ↓Fr.vt_comp, ↓Fr.vc_nil, ↓Fr.vc_cons, ↓Fr.vi_rng1, ↓Fr.vi_rng2, ↓Fr.vi_slot, ↓Fr.vi_con, ↓Fr.vi_bin, ↓Fr.vi_neg, ↓Fr.vi_cmp, ↓Fr.vi_chain, ↓Fr.vi_ife, ↓Fr.vi_tup, ↓Fr.vi_lst, ↓Fr.vi_ix, ↓Fr.vi_sl, ↓Fr.vi_call, ↓Fr.vi_blt, ↓Fr.vi_meth, ↓Fr.vi_comp, ↓Fr.vo_nil, ↓Fr.vo_cons, ↓Fr.x_asg, ↓Fr.x_asgs, ↓Fr.x_setix, ↓Fr.x_expr, ↓Fr.x_ret, ↓Fr.x_retN, ↓Fr.x_pass, ↓Fr.x_brk, ↓Fr.x_cnt, ↓Fr.x_ifs, ↓Fr.x_whl, ↓Fr.x_for, ↓Fr.xs_nil, ↓Fr.xs_cons, ↓Fr.bindD_val, ↓Fr.bindD_new, ↓Fr.bind_ok, ↓Fr.bindO_val, ↓Fr.bindO_newT, ↓Fr.bindO_newF, ↓Fr.toS_ok, ↓Fr.seq_nx, ↓Fr.seq_ret, ↓Fr.seq_bk, ↓Fr.seq_ct, ↓Fr.iteS_t, ↓Fr.iteS_f, ↓Fr.iteR_t, ↓Fr.iteR_f, ↓Fr.optR_some, ↓Fr.okD_some, ↓Fr.okB_some, ↓Fr.okS_some, ↓Fr.andR_t, ↓Fr.andR_f, ↓Fr.orR_t, ↓Fr.orR_f, ↓Fr.chainR_t, ↓Fr.chainR_f, ↓Fr.compE_some, ↓Fr.compL_some, ↓Fr.compU_some, ↓Fr.keepR_t, ↓Fr.keepR_f, ↓Fr.keepU_t, ↓Fr.keepU_f, ↓Fr.gate_t, ↓Fr.gateS_t, C_call, C_blt0, C_blt1, C_blt2, C_blt3, C_blt4, C_blt5, C_blt6, C_blt7, C_blt8, C_blt9, C_blt10, C_blt11, C_blt12, C_blt13, C_m0, C_m1, C_m2, C_ty, C_add, C_sub, C_mul, C_fdiv, C_mod, C_pow, C_lt, C_le, C_gt, C_ge, C_eq, C_ne, C_in, C_notin, Fr.asg_nm, Fr.asg_tp, Fr.setR, Fr.getS, Fr.initR, Fr.asgR_some, Fr.truth_bl, Fr.truth_non, Fr.truth_int, Fr.truth_tup, Fr.truth_lst, Fr.truth_ref, Fr.srcOf_tup, Fr.srcOf_lst, Fr.srcOf_rol, Fr.srcOf_ref, Fr.seqOf_tup, Fr.seqOf_lst, Fr.seqOf_rol, Fr.seqOf_ref, Fr.negR_int, Fr.ixR_some, Fr.atD_int, Fr.addD_int, Fr.subD_int, Fr.ltD_int, Fr.leD_int, Fr.gtD_int, Fr.geD_int, Fr.eqD_int, Fr.neD_int, Fr.eqD_str, Fr.neD_str, Fr.lenD_tup, Fr.lenD_lst, Fr.lenD_rol, Fr.one_1, Fr.two_2, Fr.fin_nx, Fr.fin_int, Fr.fin_bl, Fr.fin_none, Fr.fin_str, Fr.okV]
      rw [mapS_map (cmv (w.wide * (k : Nat)))]
      · rw [e2]
        simp [ex2, -List.map_map, ↓Fr.v_slot, ↓Fr.v_con, ↓Fr.v_bin, ↓Fr.v_neg, ↓Fr.v_cmp, ↓Fr.v_chain, ↓Fr.v_and, ↓Fr.v_or, ↓Fr.v_not, ↓Fr.v_ife, ↓Fr.v_tup, ↓Fr.v_lst, ↓Fr.v_ix, ↓Fr.v_sl, ↓Fr.v_call, ↓Fr.v_blt, ↓Fr.v_meth, ↓Fr.v_comp, ↓Fr.v_comp2, ↓Fr.v_lsc, ↓Fr.vs_nil, ↓Fr.vs_cons, ↓Fr.vt_and, ↓Fr.vt_or, ↓Fr.vt_not, ↓Fr.vt_slot, ↓Fr.vt_con, ↓Fr.vt_bin, ↓Fr.vt_neg, ↓Fr.vt_cmp, ↓Fr.vt_chain, ↓Fr.vt_ife, ↓Fr.vt_tup, ↓Fr.vt_lst, ↓Fr.vt_ix, ↓Fr.vt_sl, ↓Fr.vt_call, ↓Fr.vt_blt, ↓Fr.vt_meth, ↓Fr.vt_comp, ↓Fr.vc_nil, ↓Fr.vc_cons, ↓Fr.vi_rng1, ↓Fr.vi_rng2, ↓Fr.vi_slot, ↓Fr.vi_con, ↓Fr.vi_bin, ↓Fr.vi_neg, ↓Fr.vi_cmp, ↓Fr.vi_chain, ↓Fr.vi_ife, ↓Fr.vi_tup, ↓Fr.vi_lst, ↓Fr.vi_ix, ↓Fr.vi_sl, ↓Fr.vi_call, ↓Fr.vi_blt, ↓Fr.vi_meth, ↓Fr.vi_comp, ↓Fr.vo_nil, ↓Fr.vo_cons, ↓Fr.x_asg, ↓Fr.x_asgs, ↓Fr.x_setix, ↓Fr.x_expr, ↓Fr.x_ret, ↓Fr.x_retN, ↓Fr.x_pass, ↓Fr.x_brk, ↓Fr.x_cnt, ↓Fr.x_ifs, ↓Fr.x_whl, ↓Fr.x_for, ↓Fr.xs_nil, ↓Fr.xs_cons, ↓Fr.bindD_val, ↓Fr.bindD_new, ↓Fr.bind_ok, ↓Fr.bindO_val, ↓Fr.bindO_newT, ↓Fr.bindO_newF, ↓Fr.toS_ok, ↓Fr.seq_nx, ↓Fr.seq_ret, ↓Fr.seq_bk, ↓Fr.seq_ct, ↓Fr.iteS_t, ↓Fr.iteS_f, ↓Fr.iteR_t, ↓Fr.iteR_f, ↓Fr.optR_some, ↓Fr.okD_some, ↓Fr.okB_some, ↓Fr.okS_some, ↓Fr.andR_t, ↓Fr.andR_f, ↓Fr.orR_t, ↓Fr.orR_f, ↓Fr.chainR_t, ↓Fr.chainR_f, ↓Fr.compE_some, ↓Fr.compL_some, ↓Fr.compU_some, ↓Fr.keepR_t, ↓Fr.keepR_f, ↓Fr.keepU_t, ↓Fr.keepU_f, ↓Fr.gate_t, ↓Fr.gateS_t, C_call, C_blt0, C_blt1, C_blt2, C_blt3, C_blt4, C_blt5, C_blt6, C_blt7, C_blt8, C_blt9, C_blt10, C_blt11, C_blt12, C_blt13, C_m0, C_m1, C_m2, C_ty, C_add, C_sub, C_mul, C_fdiv, C_mod, C_pow, C_lt, C_le, C_gt, C_ge, C_eq, C_ne, C_in, C_notin, Fr.asg_nm, Fr.asg_tp, Fr.setR, Fr.getS, Fr.initR, Fr.asgR_some, Fr.truth_bl, Fr.truth_non, Fr.truth_int, Fr.truth_tup, Fr.truth_lst, Fr.truth_ref, Fr.srcOf_tup, Fr.srcOf_lst, Fr.srcOf_rol, Fr.srcOf_ref, Fr.seqOf_tup, Fr.seqOf_lst, Fr.seqOf_rol, Fr.seqOf_ref, Fr.negR_int, Fr.ixR_some, Fr.atD_int, Fr.addD_int, Fr.subD_int, Fr.ltD_int, Fr.leD_int, Fr.gtD_int, Fr.geD_int, Fr.eqD_int, Fr.neD_int, Fr.eqD_str, Fr.neD_str, Fr.lenD_tup, Fr.lenD_lst, Fr.lenD_rol, Fr.one_1, Fr.two_2, Fr.fin_nx, Fr.fin_int, Fr.fin_bl, Fr.fin_none, Fr.fin_str, Fr.okV]
      · intro x hx a
        obtain ⟨c, hc', rfl⟩ := List.mem_map.mp hx
        simp [compF_at, wipeR, em, c_law_moved, hc c hc', cmv_c, -List.map_map, ↓Fr.v_slot, ↓Fr.v_con, ↓Fr.v_bin, ↓Fr.v_neg, ↓Fr.v_cmp, ↓Fr.v_chain, ↓Fr.v_and, ↓Fr.v_or, ↓Fr.v_not, ↓Fr.v_ife, ↓Fr.v_tup, ↓Fr.v_lst, ↓Fr.v_ix, ↓Fr.v_sl, ↓Fr.v_call, ↓Fr.v_blt, ↓Fr.v_meth, ↓Fr.v_comp, ↓Fr.v_comp2, ↓Fr.v_lsc, ↓Fr.vs_nil, ↓Fr.vs_cons, ↓Fr.vt_and, ↓Fr.vt_or, ↓Fr.vt_not, ↓Fr.vt_slot, ↓Fr.vt_con, ↓Fr.vt_bin, ↓Fr.vt_neg, ↓Fr.vt_cmp, ↓Fr.vt_chain, ↓Fr.vt_ife, ↓Fr.vt_tup, ↓Fr.vt_lst, ↓Fr.vt_ix, ↓Fr.vt_sl, ↓Fr.vt_call, ↓Fr.vt_blt, ↓Fr.vt_meth, ↓Fr.vt_comp, ↓Fr.vc_nil, ↓Fr.vc_cons, ↓Fr.vi_rng1, ↓Fr.vi_rng2, ↓Fr.vi_slot, ↓Fr.vi_con, ↓Fr.vi_bin, ↓Fr.vi_neg, ↓Fr.vi_cmp, ↓Fr.vi_chain, ↓Fr.vi_ife, ↓Fr.vi_tup, ↓Fr.vi_lst, ↓Fr.vi_ix, ↓Fr.vi_sl, ↓Fr.vi_call, ↓Fr.vi_blt, ↓Fr.vi_meth, ↓Fr.vi_comp, ↓Fr.vo_nil, ↓Fr.vo_cons, ↓Fr.x_asg, ↓Fr.x_asgs, ↓Fr.x_setix, ↓Fr.x_expr, ↓Fr.x_ret, ↓Fr.x_retN, ↓Fr.x_pass, ↓Fr.x_brk, ↓Fr.x_cnt, ↓Fr.x_ifs, ↓Fr.x_whl, ↓Fr.x_for, ↓Fr.xs_nil, ↓Fr.xs_cons, ↓Fr.bindD_val, ↓Fr.bindD_new, ↓Fr.bind_ok, ↓Fr.bindO_val, ↓Fr.bindO_newT, ↓Fr.bindO_newF, ↓Fr.toS_ok, ↓Fr.seq_nx, ↓Fr.seq_ret, ↓Fr.seq_bk, ↓Fr.seq_ct, ↓Fr.iteS_t, ↓Fr.iteS_f, ↓Fr.iteR_t, ↓Fr.iteR_f, ↓Fr.optR_some, ↓Fr.okD_some, ↓Fr.okB_some, ↓Fr.okS_some, ↓Fr.andR_t, ↓Fr.andR_f, ↓Fr.orR_t, ↓Fr.orR_f, ↓Fr.chainR_t, ↓Fr.chainR_f, ↓Fr.compE_some, ↓Fr.compL_some, ↓Fr.compU_some, ↓Fr.keepR_t, ↓Fr.keepR_f, ↓Fr.keepU_t, ↓Fr.keepU_f, ↓Fr.gate_t, ↓Fr.gateS_t, C_call, C_blt0, C_blt1, C_blt2, C_blt3, C_blt4, C_blt5, C_blt6, C_blt7, C_blt8, C_blt9, C_blt10, C_blt11, C_blt12, C_blt13, C_m0, C_m1, C_m2, C_ty, C_add, C_sub, C_mul, C_fdiv, C_mod, C_pow, C_lt, C_le, C_gt, C_ge, C_eq, C_ne, C_in, C_notin, Fr.asg_nm, Fr.asg_tp, Fr.setR, Fr.getS, Fr.initR, Fr.asgR_some, Fr.truth_bl, Fr.truth_non, Fr.truth_int, Fr.truth_tup, Fr.truth_lst, Fr.truth_ref, Fr.srcOf_tup, Fr.srcOf_lst, Fr.srcOf_rol, Fr.srcOf_ref, Fr.seqOf_tup, Fr.seqOf_lst, Fr.seqOf_rol, Fr.seqOf_ref, Fr.negR_int, Fr.ixR_some, Fr.atD_int, Fr.addD_int, Fr.subD_int, Fr.ltD_int, Fr.leD_int, Fr.gtD_int, Fr.geD_int, Fr.eqD_int, Fr.neD_int, Fr.eqD_str, Fr.neD_str, Fr.lenD_tup, Fr.lenD_lst, Fr.lenD_rol, Fr.one_1, Fr.two_2, Fr.fin_nx, Fr.fin_int, Fr.fin_bl, Fr.fin_none, Fr.fin_str, Fr.okV]
      · intro x hx
        obtain ⟨c, hc', rfl⟩ := List.mem_map.mp hx
        rw [cmv_c]
        unfold D.und
        exact und_c _ _
      · rw [List.length_map]
        show _ ≤ 2 ^ 24
        omega
    rw [List.map_cons]
    simp only [forL, asg_nm, List.set_cons_succ, List.set_cons_zero, e]
    rw [ih]
    simp
theorem c_law_flat (n : Nat) (w : Wr) (m : Nat) (h : Hs) (v : vW w) (h1 : 1 ≤ m) (h2 : m ≤ 1000) : cl (n + 2) 20 [wD w, .int m] h = .ok (.new ((flt w m).map cD)) h := by
  have w4 := v.w4
  have w1 := v.w1
  have i1 := v.i1
  have lf := v.f.l16
  have le := v.e.l16
  have ln := v.n.l16
  have ll := v.l.l16
  have hw : w.wide.natAbs < 2 ^ 64 := by omega
  have c4 : ∀ {s p}, vP s p → ∀ c ∈ p, c.length ≤ 1000 := fun v c hc => by have := (v.all c hc).l4; omega
  have m1 : m * w.e.length ≤ 1000 * 16 := Nat.mul_le_mul h2 le
  have m2 : (m - 1) * w.n.length ≤ 1000 * 16 := Nat.mul_le_mul (by omega) ln
  have r1 : ∀ h, rng1R (.int (m : Int)) h = .ok (.vals ((List.range m).map fun k => .int (k : Nat))) h := fun h => by
    rw [rng1R_int (decide_eq_true (by omega)), rng0]
    simp
  have e1 : (m : Int) - 1 = ((m - 1 : Nat) : Int) := by omega
  have r2 : ∀ h, rng1R (.int ((m : Int) - 1)) h = .ok (.vals ((List.range (m - 1)).map fun k => .int (k : Nat))) h := fun h => by
    rw [e1, rng1R_int (decide_eq_true (by omega)), rng0]
    simp
  have t1 : ∀ (a b : D) (h : Hs), tupR [a, b] h = .ok (.val (.tup [a, b])) h := fun a b h => tupR_ok (by show 2 ≤ 2 ^ 24; decide)
  have em : ∀ h, mulD (.int w.wide) (.int ((m : Int) - 1)) h = .ok (.val (.int (w.wide * ((m : Int) - 1)))) h := fun h => mulD_intL hw
  have e2 : List.map (cmv (w.wide * ((m : Int) - 1))) (List.map cD w.l) = (w.l.map fun c => c.map (mvl (((m : Int) - 1) * w.wide))).map cD := by
    rw [List.map_map, List.map_map]
    refine List.map_congr_left fun c _ => ?_
    rw [Int.mul_comm]
    exact cmv_c _ c
  rw [cl_succ]
  simp [fns, body__law_flat, atI_1, atI_2, -List.map_map, ↓Fr.v_slot, ↓Fr.v_con, ↓Fr.v_bin, ↓Fr.v_neg, ↓Fr.v_cmp, ↓Fr.v_chain, ↓Fr.v_and, ↓Fr.v_or, ↓Fr.v_not, ↓Fr.v_ife, ↓Fr.v_tup, ↓Fr.v_lst, ↓Fr.v_ix, ↓Fr.v_sl, ↓Fr.v_call, ↓Fr.v_blt, ↓Fr.v_meth, ↓Fr.v_comp, ↓Fr.v_comp2, ↓Fr.v_lsc, ↓Fr.vs_nil, ↓Fr.vs_cons, ↓Fr.vt_and, ↓Fr.vt_or, ↓Fr.vt_not, ↓Fr.vt_slot, ↓Fr.vt_con, ↓Fr.vt_bin, ↓Fr.vt_neg, ↓Fr.vt_cmp, ↓Fr.vt_chain, ↓Fr.vt_ife, ↓Fr.vt_tup, ↓Fr.vt_lst, ↓Fr.vt_ix, ↓Fr.vt_sl, ↓Fr.vt_call, ↓Fr.vt_blt, ↓Fr.vt_meth, ↓Fr.vt_comp, ↓Fr.vc_nil, ↓Fr.vc_cons, ↓Fr.vi_rng1, ↓Fr.vi_rng2, ↓Fr.vi_slot, ↓Fr.vi_con, ↓Fr.vi_bin, ↓Fr.vi_neg, ↓Fr.vi_cmp, ↓Fr.vi_chain, ↓Fr.vi_ife, ↓Fr.vi_tup, ↓Fr.vi_lst, ↓Fr.vi_ix, ↓Fr.vi_sl, ↓Fr.vi_call, ↓Fr.vi_blt, ↓Fr.vi_meth, ↓Fr.vi_comp, ↓Fr.vo_nil, ↓Fr.vo_cons, ↓Fr.x_asg, ↓Fr.x_asgs, ↓Fr.x_setix, ↓Fr.x_expr, ↓Fr.x_ret, ↓Fr.x_retN, ↓Fr.x_pass, ↓Fr.x_brk, ↓Fr.x_cnt, ↓Fr.x_ifs, ↓Fr.x_whl, ↓Fr.x_for, ↓Fr.xs_nil, ↓Fr.xs_cons, ↓Fr.bindD_val, ↓Fr.bindD_new, ↓Fr.bind_ok, ↓Fr.bindO_val, ↓Fr.bindO_newT, ↓Fr.bindO_newF, ↓Fr.toS_ok, ↓Fr.seq_nx, ↓Fr.seq_ret, ↓Fr.seq_bk, ↓Fr.seq_ct, ↓Fr.iteS_t, ↓Fr.iteS_f, ↓Fr.iteR_t, ↓Fr.iteR_f, ↓Fr.optR_some, ↓Fr.okD_some, ↓Fr.okB_some, ↓Fr.okS_some, ↓Fr.andR_t, ↓Fr.andR_f, ↓Fr.orR_t, ↓Fr.orR_f, ↓Fr.chainR_t, ↓Fr.chainR_f, ↓Fr.compE_some, ↓Fr.compL_some, ↓Fr.compU_some, ↓Fr.keepR_t, ↓Fr.keepR_f, ↓Fr.keepU_t, ↓Fr.keepU_f, ↓Fr.gate_t, ↓Fr.gateS_t, C_call, C_blt0, C_blt1, C_blt2, C_blt3, C_blt4, C_blt5, C_blt6, C_blt7, C_blt8, C_blt9, C_blt10, C_blt11, C_blt12, C_blt13, C_m0, C_m1, C_m2, C_ty, C_add, C_sub, C_mul, C_fdiv, C_mod, C_pow, C_lt, C_le, C_gt, C_ge, C_eq, C_ne, C_in, C_notin, Fr.asg_nm, Fr.asg_tp, Fr.setR, Fr.getS, Fr.initR, Fr.asgR_some, Fr.truth_bl, Fr.truth_non, Fr.truth_int, Fr.truth_tup, Fr.truth_lst, Fr.truth_ref, Fr.srcOf_tup, Fr.srcOf_lst, Fr.srcOf_rol, Fr.srcOf_ref, Fr.seqOf_tup, Fr.seqOf_lst, Fr.seqOf_rol, Fr.seqOf_ref, Fr.negR_int, Fr.ixR_some, Fr.atD_int, Fr.addD_int, Fr.subD_int, Fr.ltD_int, Fr.leD_int, Fr.gtD_int, Fr.geD_int, Fr.eqD_int, Fr.neD_int, Fr.eqD_str, Fr.neD_str, Fr.lenD_tup, Fr.lenD_lst, Fr.lenD_rol, Fr.one_1, Fr.two_2, Fr.fin_nx, Fr.fin_int, Fr.fin_bl, Fr.fin_none, Fr.fin_str, Fr.okV]
  rw [mapS_map id]
  · have g1 : decide ([D.int w.wide, D.ref (List.length h)].length ≤ sizeLine) = true := decide_eq_true (by show 2 ≤ 2 ^ 24; decide)
    rw [List.map_id]
    simp [g1, t1, -List.map_map, ↓Fr.v_slot, ↓Fr.v_con, ↓Fr.v_bin, ↓Fr.v_neg, ↓Fr.v_cmp, ↓Fr.v_chain, ↓Fr.v_and, ↓Fr.v_or, ↓Fr.v_not, ↓Fr.v_ife, ↓Fr.v_tup, ↓Fr.v_lst, ↓Fr.v_ix, ↓Fr.v_sl, ↓Fr.v_call, ↓Fr.v_blt, ↓Fr.v_meth, ↓Fr.v_comp, ↓Fr.v_comp2, ↓Fr.v_lsc, ↓Fr.vs_nil, ↓Fr.vs_cons, ↓Fr.vt_and, ↓Fr.vt_or, ↓Fr.vt_not, ↓Fr.vt_slot, ↓Fr.vt_con, ↓Fr.vt_bin, ↓Fr.vt_neg, ↓Fr.vt_cmp, ↓Fr.vt_chain, ↓Fr.vt_ife, ↓Fr.vt_tup, ↓Fr.vt_lst, ↓Fr.vt_ix, ↓Fr.vt_sl, ↓Fr.vt_call, ↓Fr.vt_blt, ↓Fr.vt_meth, ↓Fr.vt_comp, ↓Fr.vc_nil, ↓Fr.vc_cons, ↓Fr.vi_rng1, ↓Fr.vi_rng2, ↓Fr.vi_slot, ↓Fr.vi_con, ↓Fr.vi_bin, ↓Fr.vi_neg, ↓Fr.vi_cmp, ↓Fr.vi_chain, ↓Fr.vi_ife, ↓Fr.vi_tup, ↓Fr.vi_lst, ↓Fr.vi_ix, ↓Fr.vi_sl, ↓Fr.vi_call, ↓Fr.vi_blt, ↓Fr.vi_meth, ↓Fr.vi_comp, ↓Fr.vo_nil, ↓Fr.vo_cons, ↓Fr.x_asg, ↓Fr.x_asgs, ↓Fr.x_setix, ↓Fr.x_expr, ↓Fr.x_ret, ↓Fr.x_retN, ↓Fr.x_pass, ↓Fr.x_brk, ↓Fr.x_cnt, ↓Fr.x_ifs, ↓Fr.x_whl, ↓Fr.x_for, ↓Fr.xs_nil, ↓Fr.xs_cons, ↓Fr.bindD_val, ↓Fr.bindD_new, ↓Fr.bind_ok, ↓Fr.bindO_val, ↓Fr.bindO_newT, ↓Fr.bindO_newF, ↓Fr.toS_ok, ↓Fr.seq_nx, ↓Fr.seq_ret, ↓Fr.seq_bk, ↓Fr.seq_ct, ↓Fr.iteS_t, ↓Fr.iteS_f, ↓Fr.iteR_t, ↓Fr.iteR_f, ↓Fr.optR_some, ↓Fr.okD_some, ↓Fr.okB_some, ↓Fr.okS_some, ↓Fr.andR_t, ↓Fr.andR_f, ↓Fr.orR_t, ↓Fr.orR_f, ↓Fr.chainR_t, ↓Fr.chainR_f, ↓Fr.compE_some, ↓Fr.compL_some, ↓Fr.compU_some, ↓Fr.keepR_t, ↓Fr.keepR_f, ↓Fr.keepU_t, ↓Fr.keepU_f, ↓Fr.gate_t, ↓Fr.gateS_t, C_call, C_blt0, C_blt1, C_blt2, C_blt3, C_blt4, C_blt5, C_blt6, C_blt7, C_blt8, C_blt9, C_blt10, C_blt11, C_blt12, C_blt13, C_m0, C_m1, C_m2, C_ty, C_add, C_sub, C_mul, C_fdiv, C_mod, C_pow, C_lt, C_le, C_gt, C_ge, C_eq, C_ne, C_in, C_notin, Fr.asg_nm, Fr.asg_tp, Fr.setR, Fr.getS, Fr.initR, Fr.asgR_some, Fr.truth_bl, Fr.truth_non, Fr.truth_int, Fr.truth_tup, Fr.truth_lst, Fr.truth_ref, Fr.srcOf_tup, Fr.srcOf_lst, Fr.srcOf_rol, Fr.srcOf_ref, Fr.seqOf_tup, Fr.seqOf_lst, Fr.seqOf_rol, Fr.seqOf_ref, Fr.negR_int, Fr.ixR_some, Fr.atD_int, Fr.addD_int, Fr.subD_int, Fr.ltD_int, Fr.leD_int, Fr.gtD_int, Fr.geD_int, Fr.eqD_int, Fr.neD_int, Fr.eqD_str, Fr.neD_str, Fr.lenD_tup, Fr.lenD_lst, Fr.lenD_rol, Fr.one_1, Fr.two_2, Fr.fin_nx, Fr.fin_int, Fr.fin_bl, Fr.fin_none, Fr.fin_str, Fr.okV]
    rw [show (decide (2 ≤ sizeLine)) = true from decide_eq_true (by show 2 ≤ 2 ^ 24; decide)]
    simp [t1, -List.map_map, ↓Fr.v_slot, ↓Fr.v_con, ↓Fr.v_bin, ↓Fr.v_neg, ↓Fr.v_cmp, ↓Fr.v_chain, ↓Fr.v_and, ↓Fr.v_or, ↓Fr.v_not, ↓Fr.v_ife, ↓Fr.v_tup, ↓Fr.v_lst, ↓Fr.v_ix, ↓Fr.v_sl, ↓Fr.v_call, ↓Fr.v_blt, ↓Fr.v_meth, ↓Fr.v_comp, ↓Fr.v_comp2, ↓Fr.v_lsc, ↓Fr.vs_nil, ↓Fr.vs_cons, ↓Fr.vt_and, ↓Fr.vt_or, ↓Fr.vt_not, ↓Fr.vt_slot, ↓Fr.vt_con, ↓Fr.vt_bin, ↓Fr.vt_neg, ↓Fr.vt_cmp, ↓Fr.vt_chain, ↓Fr.vt_ife, ↓Fr.vt_tup, ↓Fr.vt_lst, ↓Fr.vt_ix, ↓Fr.vt_sl, ↓Fr.vt_call, ↓Fr.vt_blt, ↓Fr.vt_meth, ↓Fr.vt_comp, ↓Fr.vc_nil, ↓Fr.vc_cons, ↓Fr.vi_rng1, ↓Fr.vi_rng2, ↓Fr.vi_slot, ↓Fr.vi_con, ↓Fr.vi_bin, ↓Fr.vi_neg, ↓Fr.vi_cmp, ↓Fr.vi_chain, ↓Fr.vi_ife, ↓Fr.vi_tup, ↓Fr.vi_lst, ↓Fr.vi_ix, ↓Fr.vi_sl, ↓Fr.vi_call, ↓Fr.vi_blt, ↓Fr.vi_meth, ↓Fr.vi_comp, ↓Fr.vo_nil, ↓Fr.vo_cons, ↓Fr.x_asg, ↓Fr.x_asgs, ↓Fr.x_setix, ↓Fr.x_expr, ↓Fr.x_ret, ↓Fr.x_retN, ↓Fr.x_pass, ↓Fr.x_brk, ↓Fr.x_cnt, ↓Fr.x_ifs, ↓Fr.x_whl, ↓Fr.x_for, ↓Fr.xs_nil, ↓Fr.xs_cons, ↓Fr.bindD_val, ↓Fr.bindD_new, ↓Fr.bind_ok, ↓Fr.bindO_val, ↓Fr.bindO_newT, ↓Fr.bindO_newF, ↓Fr.toS_ok, ↓Fr.seq_nx, ↓Fr.seq_ret, ↓Fr.seq_bk, ↓Fr.seq_ct, ↓Fr.iteS_t, ↓Fr.iteS_f, ↓Fr.iteR_t, ↓Fr.iteR_f, ↓Fr.optR_some, ↓Fr.okD_some, ↓Fr.okB_some, ↓Fr.okS_some, ↓Fr.andR_t, ↓Fr.andR_f, ↓Fr.orR_t, ↓Fr.orR_f, ↓Fr.chainR_t, ↓Fr.chainR_f, ↓Fr.compE_some, ↓Fr.compL_some, ↓Fr.compU_some, ↓Fr.keepR_t, ↓Fr.keepR_f, ↓Fr.keepU_t, ↓Fr.keepU_f, ↓Fr.gate_t, ↓Fr.gateS_t, C_call, C_blt0, C_blt1, C_blt2, C_blt3, C_blt4, C_blt5, C_blt6, C_blt7, C_blt8, C_blt9, C_blt10, C_blt11, C_blt12, C_blt13, C_m0, C_m1, C_m2, C_ty, C_add, C_sub, C_mul, C_fdiv, C_mod, C_pow, C_lt, C_le, C_gt, C_ge, C_eq, C_ne, C_in, C_notin, Fr.asg_nm, Fr.asg_tp, Fr.setR, Fr.getS, Fr.initR, Fr.asgR_some, Fr.truth_bl, Fr.truth_non, Fr.truth_int, Fr.truth_tup, Fr.truth_lst, Fr.truth_ref, Fr.srcOf_tup, Fr.srcOf_lst, Fr.srcOf_rol, Fr.srcOf_ref, Fr.seqOf_tup, Fr.seqOf_lst, Fr.seqOf_rol, Fr.seqOf_ref, Fr.negR_int, Fr.ixR_some, Fr.atD_int, Fr.addD_int, Fr.subD_int, Fr.ltD_int, Fr.leD_int, Fr.gtD_int, Fr.geD_int, Fr.eqD_int, Fr.neD_int, Fr.eqD_str, Fr.neD_str, Fr.lenD_tup, Fr.lenD_lst, Fr.lenD_rol, Fr.one_1, Fr.two_2, Fr.fin_nx, Fr.fin_int, Fr.fin_bl, Fr.fin_none, Fr.fin_str, Fr.okV]
    rw [forI_vals]
    obtain ⟨o1, i1⟩ := flat_in n w m h 3 (.int 0) w.e hw (by rw [atI_3]; rfl) le (c4 v.e) (List.range m) w.f none (by rw [List.length_range]; omega)
    obtain ⟨o2, i2⟩ := flat_in n w m h 4 (.int 1) w.n hw (by rw [atI_4]; rfl) ln (c4 v.n) (List.range (m - 1)) (w.f ++ spr w.e w.wide m) o1 (by rw [List.length_append, spr_len, List.length_range]; omega)
    have s1 : ∀ (o : Option D) (hh : Hs), exs (C (n + 1)) lb__law_flat_1 [some (wD w), some (.int m), some (.int w.wide), some (.ref h.length), some (.int 3), some (.int 0), o, none] hh = forL (exs (C (n + 1)) lb__law_flat_2) (G.nm 6) ((List.range m).map fun k => .int (k : Nat)) [some (wD w), some (.int m), some (.int w.wide), some (.ref h.length), some (.int 3), some (.int 0), o, none] hh := fun o hh => by
      simp [lb__law_flat_1, r1, -List.map_map, ↓Fr.v_slot, ↓Fr.v_con, ↓Fr.v_bin, ↓Fr.v_neg, ↓Fr.v_cmp, ↓Fr.v_chain, ↓Fr.v_and, ↓Fr.v_or, ↓Fr.v_not, ↓Fr.v_ife, ↓Fr.v_tup, ↓Fr.v_lst, ↓Fr.v_ix, ↓Fr.v_sl, ↓Fr.v_call, ↓Fr.v_blt, ↓Fr.v_meth, ↓Fr.v_comp, ↓Fr.v_comp2, ↓Fr.v_lsc, ↓Fr.vs_nil, ↓Fr.vs_cons, ↓Fr.vt_and, ↓Fr.vt_or, ↓Fr.vt_not, ↓Fr.vt_slot, ↓Fr.vt_con, ↓Fr.vt_bin, ↓Fr.vt_neg, ↓Fr.vt_cmp, ↓Fr.vt_chain, ↓Fr.vt_ife, ↓Fr.vt_tup, ↓Fr.vt_lst, ↓Fr.vt_ix, ↓Fr.vt_sl, ↓Fr.vt_call, ↓Fr.vt_blt, ↓Fr.vt_meth, ↓Fr.vt_comp, ↓Fr.vc_nil, ↓Fr.vc_cons, ↓Fr.vi_rng1, ↓Fr.vi_rng2, ↓Fr.vi_slot, ↓Fr.vi_con, ↓Fr.vi_bin, ↓Fr.vi_neg, ↓Fr.vi_cmp, ↓Fr.vi_chain, ↓Fr.vi_ife, ↓Fr.vi_tup, ↓Fr.vi_lst, ↓Fr.vi_ix, ↓Fr.vi_sl, ↓Fr.vi_call, ↓Fr.vi_blt, ↓Fr.vi_meth, ↓Fr.vi_comp, ↓Fr.vo_nil, ↓Fr.vo_cons, ↓Fr.x_asg, ↓Fr.x_asgs, ↓Fr.x_setix, ↓Fr.x_expr, ↓Fr.x_ret, ↓Fr.x_retN, ↓Fr.x_pass, ↓Fr.x_brk, ↓Fr.x_cnt, ↓Fr.x_ifs, ↓Fr.x_whl, ↓Fr.x_for, ↓Fr.xs_nil, ↓Fr.xs_cons, ↓Fr.bindD_val, ↓Fr.bindD_new, ↓Fr.bind_ok, ↓Fr.bindO_val, ↓Fr.bindO_newT, ↓Fr.bindO_newF, ↓Fr.toS_ok, ↓Fr.seq_nx, ↓Fr.seq_ret, ↓Fr.seq_bk, ↓Fr.seq_ct, ↓Fr.iteS_t, ↓Fr.iteS_f, ↓Fr.iteR_t, ↓Fr.iteR_f, ↓Fr.optR_some, ↓Fr.okD_some, ↓Fr.okB_some, ↓Fr.okS_some, ↓Fr.andR_t, ↓Fr.andR_f, ↓Fr.orR_t, ↓Fr.orR_f, ↓Fr.chainR_t, ↓Fr.chainR_f, ↓Fr.compE_some, ↓Fr.compL_some, ↓Fr.compU_some, ↓Fr.keepR_t, ↓Fr.keepR_f, ↓Fr.keepU_t, ↓Fr.keepU_f, ↓Fr.gate_t, ↓Fr.gateS_t, C_call, C_blt0, C_blt1, C_blt2, C_blt3, C_blt4, C_blt5, C_blt6, C_blt7, C_blt8, C_blt9, C_blt10, C_blt11, C_blt12, C_blt13, C_m0, C_m1, C_m2, C_ty, C_add, C_sub, C_mul, C_fdiv, C_mod, C_pow, C_lt, C_le, C_gt, C_ge, C_eq, C_ne, C_in, C_notin, Fr.asg_nm, Fr.asg_tp, Fr.setR, Fr.getS, Fr.initR, Fr.asgR_some, Fr.truth_bl, Fr.truth_non, Fr.truth_int, Fr.truth_tup, Fr.truth_lst, Fr.truth_ref, Fr.srcOf_tup, Fr.srcOf_lst, Fr.srcOf_rol, Fr.srcOf_ref, Fr.seqOf_tup, Fr.seqOf_lst, Fr.seqOf_rol, Fr.seqOf_ref, Fr.negR_int, Fr.ixR_some, Fr.atD_int, Fr.addD_int, Fr.subD_int, Fr.ltD_int, Fr.leD_int, Fr.gtD_int, Fr.geD_int, Fr.eqD_int, Fr.neD_int, Fr.eqD_str, Fr.neD_str, Fr.lenD_tup, Fr.lenD_lst, Fr.lenD_rol, Fr.one_1, Fr.two_2, Fr.fin_nx, Fr.fin_int, Fr.fin_bl, Fr.fin_none, Fr.fin_str, Fr.okV]
      rw [forI_vals]
      cases forL (exs (C (n + 1)) lb__law_flat_2) (G.nm 6) ((List.range m).map fun k => .int (k : Nat)) [some (wD w), some (.int m), some (.int w.wide), some (.ref h.length), some (.int 3), some (.int 0), o, none] hh <;> rfl
    have s2 : ∀ (o : Option D) (hh : Hs), exs (C (n + 1)) lb__law_flat_1 [some (wD w), some (.int m), some (.int w.wide), some (.ref h.length), some (.int 4), some (.int 1), o, none] hh = forL (exs (C (n + 1)) lb__law_flat_2) (G.nm 6) ((List.range (m - 1)).map fun k => .int (k : Nat)) [some (wD w), some (.int m), some (.int w.wide), some (.ref h.length), some (.int 4), some (.int 1), o, none] hh := fun o hh => by
      simp [lb__law_flat_1, r2, -List.map_map, ↓Fr.v_slot, ↓Fr.v_con, ↓Fr.v_bin, ↓Fr.v_neg, ↓Fr.v_cmp, ↓Fr.v_chain, ↓Fr.v_and, ↓Fr.v_or, ↓Fr.v_not, ↓Fr.v_ife, ↓Fr.v_tup, ↓Fr.v_lst, ↓Fr.v_ix, ↓Fr.v_sl, ↓Fr.v_call, ↓Fr.v_blt, ↓Fr.v_meth, ↓Fr.v_comp, ↓Fr.v_comp2, ↓Fr.v_lsc, ↓Fr.vs_nil, ↓Fr.vs_cons, ↓Fr.vt_and, ↓Fr.vt_or, ↓Fr.vt_not, ↓Fr.vt_slot, ↓Fr.vt_con, ↓Fr.vt_bin, ↓Fr.vt_neg, ↓Fr.vt_cmp, ↓Fr.vt_chain, ↓Fr.vt_ife, ↓Fr.vt_tup, ↓Fr.vt_lst, ↓Fr.vt_ix, ↓Fr.vt_sl, ↓Fr.vt_call, ↓Fr.vt_blt, ↓Fr.vt_meth, ↓Fr.vt_comp, ↓Fr.vc_nil, ↓Fr.vc_cons, ↓Fr.vi_rng1, ↓Fr.vi_rng2, ↓Fr.vi_slot, ↓Fr.vi_con, ↓Fr.vi_bin, ↓Fr.vi_neg, ↓Fr.vi_cmp, ↓Fr.vi_chain, ↓Fr.vi_ife, ↓Fr.vi_tup, ↓Fr.vi_lst, ↓Fr.vi_ix, ↓Fr.vi_sl, ↓Fr.vi_call, ↓Fr.vi_blt, ↓Fr.vi_meth, ↓Fr.vi_comp, ↓Fr.vo_nil, ↓Fr.vo_cons, ↓Fr.x_asg, ↓Fr.x_asgs, ↓Fr.x_setix, ↓Fr.x_expr, ↓Fr.x_ret, ↓Fr.x_retN, ↓Fr.x_pass, ↓Fr.x_brk, ↓Fr.x_cnt, ↓Fr.x_ifs, ↓Fr.x_whl, ↓Fr.x_for, ↓Fr.xs_nil, ↓Fr.xs_cons, ↓Fr.bindD_val, ↓Fr.bindD_new, ↓Fr.bind_ok, ↓Fr.bindO_val, ↓Fr.bindO_newT, ↓Fr.bindO_newF, ↓Fr.toS_ok, ↓Fr.seq_nx, ↓Fr.seq_ret, ↓Fr.seq_bk, ↓Fr.seq_ct, ↓Fr.iteS_t, ↓Fr.iteS_f, ↓Fr.iteR_t, ↓Fr.iteR_f, ↓Fr.optR_some, ↓Fr.okD_some, ↓Fr.okB_some, ↓Fr.okS_some, ↓Fr.andR_t, ↓Fr.andR_f, ↓Fr.orR_t, ↓Fr.orR_f, ↓Fr.chainR_t, ↓Fr.chainR_f, ↓Fr.compE_some, ↓Fr.compL_some, ↓Fr.compU_some, ↓Fr.keepR_t, ↓Fr.keepR_f, ↓Fr.keepU_t, ↓Fr.keepU_f, ↓Fr.gate_t, ↓Fr.gateS_t, C_call, C_blt0, C_blt1, C_blt2, C_blt3, C_blt4, C_blt5, C_blt6, C_blt7, C_blt8, C_blt9, C_blt10, C_blt11, C_blt12, C_blt13, C_m0, C_m1, C_m2, C_ty, C_add, C_sub, C_mul, C_fdiv, C_mod, C_pow, C_lt, C_le, C_gt, C_ge, C_eq, C_ne, C_in, C_notin, Fr.asg_nm, Fr.asg_tp, Fr.setR, Fr.getS, Fr.initR, Fr.asgR_some, Fr.truth_bl, Fr.truth_non, Fr.truth_int, Fr.truth_tup, Fr.truth_lst, Fr.truth_ref, Fr.srcOf_tup, Fr.srcOf_lst, Fr.srcOf_rol, Fr.srcOf_ref, Fr.seqOf_tup, Fr.seqOf_lst, Fr.seqOf_rol, Fr.seqOf_ref, Fr.negR_int, Fr.ixR_some, Fr.atD_int, Fr.addD_int, Fr.subD_int, Fr.ltD_int, Fr.leD_int, Fr.gtD_int, Fr.geD_int, Fr.eqD_int, Fr.neD_int, Fr.eqD_str, Fr.neD_str, Fr.lenD_tup, Fr.lenD_lst, Fr.lenD_rol, Fr.one_1, Fr.two_2, Fr.fin_nx, Fr.fin_int, Fr.fin_bl, Fr.fin_none, Fr.fin_str, Fr.okV]
      rw [forI_vals]
      cases forL (exs (C (n + 1)) lb__law_flat_2) (G.nm 6) ((List.range (m - 1)).map fun k => .int (k : Nat)) [some (wD w), some (.int m), some (.int w.wide), some (.ref h.length), some (.int 4), some (.int 1), o, none] hh <;> rfl
    have i1' : forL (exs (C (n + 1)) lb__law_flat_2) (G.nm 6) ((List.range m).map fun k => .int (k : Nat)) [some (wD w), some (.int m), some (.int w.wide), some (.ref h.length), some (.int 3), some (.int 0), none, none] (h ++ [w.f.map cD]) = .nx [some (wD w), some (.int m), some (.int w.wide), some (.ref h.length), some (.int 3), some (.int 0), o1, none] (h ++ [(w.f ++ spr w.e w.wide m).map cD]) := i1
    have i2' : forL (exs (C (n + 1)) lb__law_flat_2) (G.nm 6) ((List.range (m - 1)).map fun k => .int (k : Nat)) [some (wD w), some (.int m), some (.int w.wide), some (.ref h.length), some (.int 4), some (.int 1), o1, none] (h ++ [(w.f ++ spr w.e w.wide m).map cD]) = .nx [some (wD w), some (.int m), some (.int w.wide), some (.ref h.length), some (.int 4), some (.int 1), o2, none] (h ++ [(w.f ++ spr w.e w.wide m ++ spr w.n w.wide (m - 1)).map cD]) := i2
    simp only [forL, asg_tp, setR, List.set_cons_succ, List.set_cons_zero, s1, i1', s2, i2', seq_nx]
    obtain ⟨Z, eZ⟩ : ∃ Z, Z = w.f ++ spr w.e w.wide m ++ spr w.n w.wide (m - 1) := ⟨_, rfl⟩
    rw [← eZ]
    have lZ : Z.length ≤ 40000 := by
      rw [eZ]
      simp only [List.length_append, spr_len]
      omega
    have fZ : flt w m = Z ++ w.l.map fun c => c.map (mvl (((m : Int) - 1) * w.wide)) := by
      rw [eZ]
      rfl
    rw [fZ]
    simp [atI_5, -List.map_map, ↓Fr.v_slot, ↓Fr.v_con, ↓Fr.v_bin, ↓Fr.v_neg, ↓Fr.v_cmp, ↓Fr.v_chain, ↓Fr.v_and, ↓Fr.v_or, ↓Fr.v_not, ↓Fr.v_ife, ↓Fr.v_tup, ↓Fr.v_lst, ↓Fr.v_ix, ↓Fr.v_sl, ↓Fr.v_call, ↓Fr.v_blt, ↓Fr.v_meth, ↓Fr.v_comp, ↓Fr.v_comp2, ↓Fr.v_lsc, ↓Fr.vs_nil, ↓Fr.vs_cons, ↓Fr.vt_and, ↓Fr.vt_or, ↓Fr.vt_not, ↓Fr.vt_slot, ↓Fr.vt_con, ↓Fr.vt_bin, ↓Fr.vt_neg, ↓Fr.vt_cmp, ↓Fr.vt_chain, ↓Fr.vt_ife, ↓Fr.vt_tup, ↓Fr.vt_lst, ↓Fr.vt_ix, ↓Fr.vt_sl, ↓Fr.vt_call, ↓Fr.vt_blt, ↓Fr.vt_meth, ↓Fr.vt_comp, ↓Fr.vc_nil, ↓Fr.vc_cons, ↓Fr.vi_rng1, ↓Fr.vi_rng2, ↓Fr.vi_slot, ↓Fr.vi_con, ↓Fr.vi_bin, ↓Fr.vi_neg, ↓Fr.vi_cmp, ↓Fr.vi_chain, ↓Fr.vi_ife, ↓Fr.vi_tup, ↓Fr.vi_lst, ↓Fr.vi_ix, ↓Fr.vi_sl, ↓Fr.vi_call, ↓Fr.vi_blt, ↓Fr.vi_meth, ↓Fr.vi_comp, ↓Fr.vo_nil, ↓Fr.vo_cons, ↓Fr.x_asg, ↓Fr.x_asgs, ↓Fr.x_setix, ↓Fr.x_expr, ↓Fr.x_ret, ↓Fr.x_retN, ↓Fr.x_pass, ↓Fr.x_brk, ↓Fr.x_cnt, ↓Fr.x_ifs, ↓Fr.x_whl, ↓Fr.x_for, ↓Fr.xs_nil, ↓Fr.xs_cons, ↓Fr.bindD_val, ↓Fr.bindD_new, ↓Fr.bind_ok, ↓Fr.bindO_val, ↓Fr.bindO_newT, ↓Fr.bindO_newF, ↓Fr.toS_ok, ↓Fr.seq_nx, ↓Fr.seq_ret, ↓Fr.seq_bk, ↓Fr.seq_ct, ↓Fr.iteS_t, ↓Fr.iteS_f, ↓Fr.iteR_t, ↓Fr.iteR_f, ↓Fr.optR_some, ↓Fr.okD_some, ↓Fr.okB_some, ↓Fr.okS_some, ↓Fr.andR_t, ↓Fr.andR_f, ↓Fr.orR_t, ↓Fr.orR_f, ↓Fr.chainR_t, ↓Fr.chainR_f, ↓Fr.compE_some, ↓Fr.compL_some, ↓Fr.compU_some, ↓Fr.keepR_t, ↓Fr.keepR_f, ↓Fr.keepU_t, ↓Fr.keepU_f, ↓Fr.gate_t, ↓Fr.gateS_t, C_call, C_blt0, C_blt1, C_blt2, C_blt3, C_blt4, C_blt5, C_blt6, C_blt7, C_blt8, C_blt9, C_blt10, C_blt11, C_blt12, C_blt13, C_m0, C_m1, C_m2, C_ty, C_add, C_sub, C_mul, C_fdiv, C_mod, C_pow, C_lt, C_le, C_gt, C_ge, C_eq, C_ne, C_in, C_notin, Fr.asg_nm, Fr.asg_tp, Fr.setR, Fr.getS, Fr.initR, Fr.asgR_some, Fr.truth_bl, Fr.truth_non, Fr.truth_int, Fr.truth_tup, Fr.truth_lst, Fr.truth_ref, Fr.srcOf_tup, Fr.srcOf_lst, Fr.srcOf_rol, Fr.srcOf_ref, Fr.seqOf_tup, Fr.seqOf_lst, Fr.seqOf_rol, Fr.seqOf_ref, Fr.negR_int, Fr.ixR_some, Fr.atD_int, Fr.addD_int, Fr.subD_int, Fr.ltD_int, Fr.leD_int, Fr.gtD_int, Fr.geD_int, Fr.eqD_int, Fr.neD_int, Fr.eqD_str, Fr.neD_str, Fr.lenD_tup, Fr.lenD_lst, Fr.lenD_rol, Fr.one_1, Fr.two_2, Fr.fin_nx, Fr.fin_int, Fr.fin_bl, Fr.fin_none, Fr.fin_str, Fr.okV]
    rw [mapS_map (cmv (w.wide * ((m : Int) - 1)))]
    · rw [e2]
      have ad : addD (.ref h.length) (.lst ((w.l.map fun c => c.map (mvl (((m : Int) - 1) * w.wide))).map cD)) (h ++ [Z.map cD]) = .ok (.new ((Z ++ w.l.map fun c => c.map (mvl (((m : Int) - 1) * w.wide))).map cD)) (h ++ [Z.map cD]) := by
        have hf : fits (Z.map cD) ((w.l.map fun c => c.map (mvl (((m : Int) - 1) * w.wide))).map cD) = true := decide_eq_true (by simp only [List.length_map]; show _ ≤ 2 ^ 24; omega)
        simp only [addD, lstOf, at_last, optR, hf, List.map_append]
        rfl
      simp only [bindD_new, ad, toS_ok, seq_ret]
      rw [fin_new (und_p _ _), take_app, List.map_append]
    · intro x hx a
      obtain ⟨c, hc, rfl⟩ := List.mem_map.mp hx
      simp [compF_at, wipeR, em, c_law_moved, c4 v.l c hc, cmv_c, -List.map_map, ↓Fr.v_slot, ↓Fr.v_con, ↓Fr.v_bin, ↓Fr.v_neg, ↓Fr.v_cmp, ↓Fr.v_chain, ↓Fr.v_and, ↓Fr.v_or, ↓Fr.v_not, ↓Fr.v_ife, ↓Fr.v_tup, ↓Fr.v_lst, ↓Fr.v_ix, ↓Fr.v_sl, ↓Fr.v_call, ↓Fr.v_blt, ↓Fr.v_meth, ↓Fr.v_comp, ↓Fr.v_comp2, ↓Fr.v_lsc, ↓Fr.vs_nil, ↓Fr.vs_cons, ↓Fr.vt_and, ↓Fr.vt_or, ↓Fr.vt_not, ↓Fr.vt_slot, ↓Fr.vt_con, ↓Fr.vt_bin, ↓Fr.vt_neg, ↓Fr.vt_cmp, ↓Fr.vt_chain, ↓Fr.vt_ife, ↓Fr.vt_tup, ↓Fr.vt_lst, ↓Fr.vt_ix, ↓Fr.vt_sl, ↓Fr.vt_call, ↓Fr.vt_blt, ↓Fr.vt_meth, ↓Fr.vt_comp, ↓Fr.vc_nil, ↓Fr.vc_cons, ↓Fr.vi_rng1, ↓Fr.vi_rng2, ↓Fr.vi_slot, ↓Fr.vi_con, ↓Fr.vi_bin, ↓Fr.vi_neg, ↓Fr.vi_cmp, ↓Fr.vi_chain, ↓Fr.vi_ife, ↓Fr.vi_tup, ↓Fr.vi_lst, ↓Fr.vi_ix, ↓Fr.vi_sl, ↓Fr.vi_call, ↓Fr.vi_blt, ↓Fr.vi_meth, ↓Fr.vi_comp, ↓Fr.vo_nil, ↓Fr.vo_cons, ↓Fr.x_asg, ↓Fr.x_asgs, ↓Fr.x_setix, ↓Fr.x_expr, ↓Fr.x_ret, ↓Fr.x_retN, ↓Fr.x_pass, ↓Fr.x_brk, ↓Fr.x_cnt, ↓Fr.x_ifs, ↓Fr.x_whl, ↓Fr.x_for, ↓Fr.xs_nil, ↓Fr.xs_cons, ↓Fr.bindD_val, ↓Fr.bindD_new, ↓Fr.bind_ok, ↓Fr.bindO_val, ↓Fr.bindO_newT, ↓Fr.bindO_newF, ↓Fr.toS_ok, ↓Fr.seq_nx, ↓Fr.seq_ret, ↓Fr.seq_bk, ↓Fr.seq_ct, ↓Fr.iteS_t, ↓Fr.iteS_f, ↓Fr.iteR_t, ↓Fr.iteR_f, ↓Fr.optR_some, ↓Fr.okD_some, ↓Fr.okB_some, ↓Fr.okS_some, ↓Fr.andR_t, ↓Fr.andR_f, ↓Fr.orR_t, ↓Fr.orR_f, ↓Fr.chainR_t, ↓Fr.chainR_f, ↓Fr.compE_some, ↓Fr.compL_some, ↓Fr.compU_some, ↓Fr.keepR_t, ↓Fr.keepR_f, ↓Fr.keepU_t, ↓Fr.keepU_f, ↓Fr.gate_t, ↓Fr.gateS_t, C_call, C_blt0, C_blt1, C_blt2, C_blt3, C_blt4, C_blt5, C_blt6, C_blt7, C_blt8, C_blt9, C_blt10, C_blt11, C_blt12, C_blt13, C_m0, C_m1, C_m2, C_ty, C_add, C_sub, C_mul, C_fdiv, C_mod, C_pow, C_lt, C_le, C_gt, C_ge, C_eq, C_ne, C_in, C_notin, Fr.asg_nm, Fr.asg_tp, Fr.setR, Fr.getS, Fr.initR, Fr.asgR_some, Fr.truth_bl, Fr.truth_non, Fr.truth_int, Fr.truth_tup, Fr.truth_lst, Fr.truth_ref, Fr.srcOf_tup, Fr.srcOf_lst, Fr.srcOf_rol, Fr.srcOf_ref, Fr.seqOf_tup, Fr.seqOf_lst, Fr.seqOf_rol, Fr.seqOf_ref, Fr.negR_int, Fr.ixR_some, Fr.atD_int, Fr.addD_int, Fr.subD_int, Fr.ltD_int, Fr.leD_int, Fr.gtD_int, Fr.geD_int, Fr.eqD_int, Fr.neD_int, Fr.eqD_str, Fr.neD_str, Fr.lenD_tup, Fr.lenD_lst, Fr.lenD_rol, Fr.one_1, Fr.two_2, Fr.fin_nx, Fr.fin_int, Fr.fin_bl, Fr.fin_none, Fr.fin_str, Fr.okV]
    · intro x hx
      obtain ⟨c, hc', rfl⟩ := List.mem_map.mp hx
      rw [cmv_c]
      unfold D.und
      exact und_c _ _
    · rw [List.length_map]
      show _ ≤ 2 ^ 24
      omega
  · intro x hx a
    obtain ⟨c, hc, rfl⟩ := List.mem_map.mp hx
    simp [compF_at, wipeR, -List.map_map, ↓Fr.v_slot, ↓Fr.v_con, ↓Fr.v_bin, ↓Fr.v_neg, ↓Fr.v_cmp, ↓Fr.v_chain, ↓Fr.v_and, ↓Fr.v_or, ↓Fr.v_not, ↓Fr.v_ife, ↓Fr.v_tup, ↓Fr.v_lst, ↓Fr.v_ix, ↓Fr.v_sl, ↓Fr.v_call, ↓Fr.v_blt, ↓Fr.v_meth, ↓Fr.v_comp, ↓Fr.v_comp2, ↓Fr.v_lsc, ↓Fr.vs_nil, ↓Fr.vs_cons, ↓Fr.vt_and, ↓Fr.vt_or, ↓Fr.vt_not, ↓Fr.vt_slot, ↓Fr.vt_con, ↓Fr.vt_bin, ↓Fr.vt_neg, ↓Fr.vt_cmp, ↓Fr.vt_chain, ↓Fr.vt_ife, ↓Fr.vt_tup, ↓Fr.vt_lst, ↓Fr.vt_ix, ↓Fr.vt_sl, ↓Fr.vt_call, ↓Fr.vt_blt, ↓Fr.vt_meth, ↓Fr.vt_comp, ↓Fr.vc_nil, ↓Fr.vc_cons, ↓Fr.vi_rng1, ↓Fr.vi_rng2, ↓Fr.vi_slot, ↓Fr.vi_con, ↓Fr.vi_bin, ↓Fr.vi_neg, ↓Fr.vi_cmp, ↓Fr.vi_chain, ↓Fr.vi_ife, ↓Fr.vi_tup, ↓Fr.vi_lst, ↓Fr.vi_ix, ↓Fr.vi_sl, ↓Fr.vi_call, ↓Fr.vi_blt, ↓Fr.vi_meth, ↓Fr.vi_comp, ↓Fr.vo_nil, ↓Fr.vo_cons, ↓Fr.x_asg, ↓Fr.x_asgs, ↓Fr.x_setix, ↓Fr.x_expr, ↓Fr.x_ret, ↓Fr.x_retN, ↓Fr.x_pass, ↓Fr.x_brk, ↓Fr.x_cnt, ↓Fr.x_ifs, ↓Fr.x_whl, ↓Fr.x_for, ↓Fr.xs_nil, ↓Fr.xs_cons, ↓Fr.bindD_val, ↓Fr.bindD_new, ↓Fr.bind_ok, ↓Fr.bindO_val, ↓Fr.bindO_newT, ↓Fr.bindO_newF, ↓Fr.toS_ok, ↓Fr.seq_nx, ↓Fr.seq_ret, ↓Fr.seq_bk, ↓Fr.seq_ct, ↓Fr.iteS_t, ↓Fr.iteS_f, ↓Fr.iteR_t, ↓Fr.iteR_f, ↓Fr.optR_some, ↓Fr.okD_some, ↓Fr.okB_some, ↓Fr.okS_some, ↓Fr.andR_t, ↓Fr.andR_f, ↓Fr.orR_t, ↓Fr.orR_f, ↓Fr.chainR_t, ↓Fr.chainR_f, ↓Fr.compE_some, ↓Fr.compL_some, ↓Fr.compU_some, ↓Fr.keepR_t, ↓Fr.keepR_f, ↓Fr.keepU_t, ↓Fr.keepU_f, ↓Fr.gate_t, ↓Fr.gateS_t, C_call, C_blt0, C_blt1, C_blt2, C_blt3, C_blt4, C_blt5, C_blt6, C_blt7, C_blt8, C_blt9, C_blt10, C_blt11, C_blt12, C_blt13, C_m0, C_m1, C_m2, C_ty, C_add, C_sub, C_mul, C_fdiv, C_mod, C_pow, C_lt, C_le, C_gt, C_ge, C_eq, C_ne, C_in, C_notin, Fr.asg_nm, Fr.asg_tp, Fr.setR, Fr.getS, Fr.initR, Fr.asgR_some, Fr.truth_bl, Fr.truth_non, Fr.truth_int, Fr.truth_tup, Fr.truth_lst, Fr.truth_ref, Fr.srcOf_tup, Fr.srcOf_lst, Fr.srcOf_rol, Fr.srcOf_ref, Fr.seqOf_tup, Fr.seqOf_lst, Fr.seqOf_rol, Fr.seqOf_ref, Fr.negR_int, Fr.ixR_some, Fr.atD_int, Fr.addD_int, Fr.subD_int, Fr.ltD_int, Fr.leD_int, Fr.gtD_int, Fr.geD_int, Fr.eqD_int, Fr.neD_int, Fr.eqD_str, Fr.neD_str, Fr.lenD_tup, Fr.lenD_lst, Fr.lenD_rol, Fr.one_1, Fr.two_2, Fr.fin_nx, Fr.fin_int, Fr.fin_bl, Fr.fin_none, Fr.fin_str, Fr.okV]
  · intro x hx
    obtain ⟨c, hc, rfl⟩ := List.mem_map.mp hx
    show D.und _ (cD c) = true
    unfold D.und
    exact und_c _ _
  · rw [List.length_map]
    show _ ≤ 2 ^ 24
    omega
end K02
set_option Elab.async false
set_option linter.all false
set_option maxRecDepth 100000
set_option maxHeartbeats 4000000
namespace K02
open PySem PySem.Spec PyProof.Rows L2 Fr
theorem ne_nil (s : List Int) (h : Hs) : neD (.lst (s.map .int)) (.lst []) h = .ok (.val (.bl (!decide (s = [])))) h := by
  have tp : ∀ s : List Int, toPs (s.map .int) = some (s.map .int) := fun s => by
    induction s with
    | nil => rfl
    | cons x s ih => simp [toPs, toP0, ih]
  have e1 : ∀ s : List Int, toP h (.lst (s.map .int)) = some (.list (s.map .int)) := fun s => by simp [toP, toP0, tp]
  have dp : ∀ s : List Int, PyData.depthAll (s.map .int) = 0 := fun s => by
    induction s with
    | nil => rfl
    | cons x s ih => simp [PyData.depthAll, PyData.depth, ih]
  have ly : ∀ s : List Int, PyData.canLayAll0 (s.map .int) = true := fun s => by
    induction s with
    | nil => rfl
    | cons x s ih => simp [PyData.canLayAll0, PyData.canLay0, ih]
  have sh : ∀ s : List Int, shp (.list (s.map .int)) = true := fun s => by
    unfold shp SeqAt.shaped
    simp [PyData.canLay0, PyData.depth, dp, ly]
  have e := eqR_deep (f := fun b => !b) (h := h) (x := .lst (s.map .int)) (y := .lst (([] : List Int).map .int)) rfl (e1 s) (e1 []) (sh s) (sh [])
  have e3 : PyData.eqv (.list (s.map .int)) (.list (([] : List Int).map .int)) = decide (s = []) := by
    simp only [PyData.eqv]
    exact eqv_ints s []
  rw [e3] at e
  exact e
theorem mulD_mod {a k c : Int} {h : Hs} (h0 : 0 < k) (h1 : k < 2 ^ 64) : mulD (.int (a % k)) (.int c) h = .ok (.val (.int (a % k * c))) h := mulD_intL (by
  have := Int.emod_nonneg a (show k ≠ 0 by omega)
  have := Int.emod_lt_of_pos a h0
  omega)
theorem int_id {z : Int} {h : Hs} : intD (.int z) h = .ok (.val (.int z)) h := rfl
theorem pow18 {h : Hs} : powD (.int 10) (.int 18) h = .ok (.val (.int 1000000000000000000)) h := by simp [powD, int2, okD]
theorem c_next (n : Nat) (h : Hs) (p : Nat) (s : List Int) (i : Nat) (r : Int) (hg : h[p]? = some [.lst (s.map .int), .int i, .int r]) (hi : i ≤ 2 ^ 60) :
    ∃ v : Int, cl (n + 1) 13 [.ref p] h = .ok (.val (.int v)) (h.set p [.lst (s.map .int), .int ((i : Int) + 1), .int r]) := by
  have hp : p < h.length := (List.getElem?_eq_some_iff.mp hg).1
  have st : ∀ (z : Int) (ρ : Rho), setAt (.ref p) (.int 1) (.int z) ρ h = .nx ρ (h.set p [.lst (s.map .int), .int z, .int r]) := fun z ρ => setAt_at hg (j := 1) rfl rfl
  have ii : ∀ h, mulD (.int (i : Int)) (.int (i : Int)) h = .ok (.val (.int ((i : Int) * i))) h := fun h => mulD_intL (by omega)
  have tk : ∀ c : List D, (h.set p c).take h.length = h.set p c := fun c => by
    rw [← List.length_set (as := h) (i := p) (a := c), List.take_length]
  have lz : ∀ {ds : List D} {h : Hs}, lenD (.lst ds) h = .ok (.val (.int ds.length)) h := lenD_lst
  rw [cl_succ]
  by_cases z : s = []
  · subst z
    have ne0 : ∀ h, neD (.lst []) (.lst []) h = .ok (.val (.bl false)) h := fun h => ne_nil [] h
    have i0 : ¬ (i : Int) < 0 := by omega
    simp [fns, body__law_next, hg, atI_1, atI_0, st, set_at hp, ne0, i0, mulD_intR, mulD_mod, modD_int, ii, int_id, pow18, tk, lstR_ok, -List.map_map, ↓Fr.v_slot, ↓Fr.v_con, ↓Fr.v_bin, ↓Fr.v_neg, ↓Fr.v_cmp, ↓Fr.v_chain, ↓Fr.v_and, ↓Fr.v_or, ↓Fr.v_not, ↓Fr.v_ife, ↓Fr.v_tup, ↓Fr.v_lst, ↓Fr.v_ix, ↓Fr.v_sl, ↓Fr.v_call, ↓Fr.v_blt, ↓Fr.v_meth, ↓Fr.v_comp, ↓Fr.v_comp2, ↓Fr.v_lsc, ↓Fr.vs_nil, ↓Fr.vs_cons, ↓Fr.vt_and, ↓Fr.vt_or, ↓Fr.vt_not, ↓Fr.vt_slot, ↓Fr.vt_con, ↓Fr.vt_bin, ↓Fr.vt_neg, ↓Fr.vt_cmp, ↓Fr.vt_chain, ↓Fr.vt_ife, ↓Fr.vt_tup, ↓Fr.vt_lst, ↓Fr.vt_ix, ↓Fr.vt_sl, ↓Fr.vt_call, ↓Fr.vt_blt, ↓Fr.vt_meth, ↓Fr.vt_comp, ↓Fr.vc_nil, ↓Fr.vc_cons, ↓Fr.vi_rng1, ↓Fr.vi_rng2, ↓Fr.vi_slot, ↓Fr.vi_con, ↓Fr.vi_bin, ↓Fr.vi_neg, ↓Fr.vi_cmp, ↓Fr.vi_chain, ↓Fr.vi_ife, ↓Fr.vi_tup, ↓Fr.vi_lst, ↓Fr.vi_ix, ↓Fr.vi_sl, ↓Fr.vi_call, ↓Fr.vi_blt, ↓Fr.vi_meth, ↓Fr.vi_comp, ↓Fr.vo_nil, ↓Fr.vo_cons, ↓Fr.x_asg, ↓Fr.x_asgs, ↓Fr.x_setix, ↓Fr.x_expr, ↓Fr.x_ret, ↓Fr.x_retN, ↓Fr.x_pass, ↓Fr.x_brk, ↓Fr.x_cnt, ↓Fr.x_ifs, ↓Fr.x_whl, ↓Fr.x_for, ↓Fr.xs_nil, ↓Fr.xs_cons, ↓Fr.bindD_val, ↓Fr.bindD_new, ↓Fr.bind_ok, ↓Fr.bindO_val, ↓Fr.bindO_newT, ↓Fr.bindO_newF, ↓Fr.toS_ok, ↓Fr.seq_nx, ↓Fr.seq_ret, ↓Fr.seq_bk, ↓Fr.seq_ct, ↓Fr.iteS_t, ↓Fr.iteS_f, ↓Fr.iteR_t, ↓Fr.iteR_f, ↓Fr.optR_some, ↓Fr.okD_some, ↓Fr.okB_some, ↓Fr.okS_some, ↓Fr.andR_t, ↓Fr.andR_f, ↓Fr.orR_t, ↓Fr.orR_f, ↓Fr.chainR_t, ↓Fr.chainR_f, ↓Fr.compE_some, ↓Fr.compL_some, ↓Fr.compU_some, ↓Fr.keepR_t, ↓Fr.keepR_f, ↓Fr.keepU_t, ↓Fr.keepU_f, ↓Fr.gate_t, ↓Fr.gateS_t, C_call, C_blt0, C_blt1, C_blt2, C_blt3, C_blt4, C_blt5, C_blt6, C_blt7, C_blt8, C_blt9, C_blt10, C_blt11, C_blt12, C_blt13, C_m0, C_m1, C_m2, C_ty, C_add, C_sub, C_mul, C_fdiv, C_mod, C_pow, C_lt, C_le, C_gt, C_ge, C_eq, C_ne, C_in, C_notin, Fr.asg_nm, Fr.asg_tp, Fr.setR, Fr.getS, Fr.initR, Fr.asgR_some, Fr.truth_bl, Fr.truth_non, Fr.truth_int, Fr.truth_tup, Fr.truth_lst, Fr.truth_ref, Fr.srcOf_tup, Fr.srcOf_lst, Fr.srcOf_rol, Fr.srcOf_ref, Fr.seqOf_tup, Fr.seqOf_lst, Fr.seqOf_rol, Fr.seqOf_ref, Fr.negR_int, Fr.ixR_some, Fr.atD_int, Fr.addD_int, Fr.subD_int, Fr.ltD_int, Fr.leD_int, Fr.gtD_int, Fr.geD_int, Fr.eqD_int, Fr.neD_int, Fr.eqD_str, Fr.neD_str, Fr.lenD_tup, Fr.lenD_lst, Fr.lenD_rol, Fr.one_1, Fr.two_2, Fr.fin_nx, Fr.fin_int, Fr.fin_bl, Fr.fin_none, Fr.fin_str, Fr.okV]
  · have ln : (0 : Int) < s.length := by
      have := List.length_pos_iff.mpr z
      omega
    have q0 := Int.emod_nonneg (i : Int) (show (s.length : Int) ≠ 0 by omega)
    have q1 := Int.emod_lt_of_pos (i : Int) ln
    obtain ⟨j, ej, hj⟩ : ∃ j : Nat, (i : Int) % s.length = j ∧ j < s.length := ⟨((i : Int) % s.length).toNat, by omega, by omega⟩
    have at_ : L2.atI (List.map D.int s) (j : Int) = some (.int s[j]) := by
      rw [atI_ofNat, List.getElem?_map, List.getElem?_eq_getElem hj]
      rfl
    have nen : ∀ h, neD (.lst (List.map D.int s)) (.lst []) h = .ok (.val (.bl true)) h := fun h => by
      rw [ne_nil, decide_eq_false z]
      rfl
    have md : ∀ h, modD (.int (i : Int)) (.int s.length) h = .ok (.val (.int j)) h := fun h => by
      rw [modD_int ln, ej]
    by_cases y1 : (i : Int) < s.length
    · by_cases y2 : (1000000000000000000 : Int) ≤ s[j]
      · simp [fns, body__law_next, hg, atI_1, atI_0, st, set_at hp, nen, md, at_, y1, y2, mulD_intR, mulD_mod, modD_int, ii, int_id, pow18, tk, lstR_ok, -List.map_map, ↓Fr.v_slot, ↓Fr.v_con, ↓Fr.v_bin, ↓Fr.v_neg, ↓Fr.v_cmp, ↓Fr.v_chain, ↓Fr.v_and, ↓Fr.v_or, ↓Fr.v_not, ↓Fr.v_ife, ↓Fr.v_tup, ↓Fr.v_lst, ↓Fr.v_ix, ↓Fr.v_sl, ↓Fr.v_call, ↓Fr.v_blt, ↓Fr.v_meth, ↓Fr.v_comp, ↓Fr.v_comp2, ↓Fr.v_lsc, ↓Fr.vs_nil, ↓Fr.vs_cons, ↓Fr.vt_and, ↓Fr.vt_or, ↓Fr.vt_not, ↓Fr.vt_slot, ↓Fr.vt_con, ↓Fr.vt_bin, ↓Fr.vt_neg, ↓Fr.vt_cmp, ↓Fr.vt_chain, ↓Fr.vt_ife, ↓Fr.vt_tup, ↓Fr.vt_lst, ↓Fr.vt_ix, ↓Fr.vt_sl, ↓Fr.vt_call, ↓Fr.vt_blt, ↓Fr.vt_meth, ↓Fr.vt_comp, ↓Fr.vc_nil, ↓Fr.vc_cons, ↓Fr.vi_rng1, ↓Fr.vi_rng2, ↓Fr.vi_slot, ↓Fr.vi_con, ↓Fr.vi_bin, ↓Fr.vi_neg, ↓Fr.vi_cmp, ↓Fr.vi_chain, ↓Fr.vi_ife, ↓Fr.vi_tup, ↓Fr.vi_lst, ↓Fr.vi_ix, ↓Fr.vi_sl, ↓Fr.vi_call, ↓Fr.vi_blt, ↓Fr.vi_meth, ↓Fr.vi_comp, ↓Fr.vo_nil, ↓Fr.vo_cons, ↓Fr.x_asg, ↓Fr.x_asgs, ↓Fr.x_setix, ↓Fr.x_expr, ↓Fr.x_ret, ↓Fr.x_retN, ↓Fr.x_pass, ↓Fr.x_brk, ↓Fr.x_cnt, ↓Fr.x_ifs, ↓Fr.x_whl, ↓Fr.x_for, ↓Fr.xs_nil, ↓Fr.xs_cons, ↓Fr.bindD_val, ↓Fr.bindD_new, ↓Fr.bind_ok, ↓Fr.bindO_val, ↓Fr.bindO_newT, ↓Fr.bindO_newF, ↓Fr.toS_ok, ↓Fr.seq_nx, ↓Fr.seq_ret, ↓Fr.seq_bk, ↓Fr.seq_ct, ↓Fr.iteS_t, ↓Fr.iteS_f, ↓Fr.iteR_t, ↓Fr.iteR_f, ↓Fr.optR_some, ↓Fr.okD_some, ↓Fr.okB_some, ↓Fr.okS_some, ↓Fr.andR_t, ↓Fr.andR_f, ↓Fr.orR_t, ↓Fr.orR_f, ↓Fr.chainR_t, ↓Fr.chainR_f, ↓Fr.compE_some, ↓Fr.compL_some, ↓Fr.compU_some, ↓Fr.keepR_t, ↓Fr.keepR_f, ↓Fr.keepU_t, ↓Fr.keepU_f, ↓Fr.gate_t, ↓Fr.gateS_t, C_call, C_blt0, C_blt1, C_blt2, C_blt3, C_blt4, C_blt5, C_blt6, C_blt7, C_blt8, C_blt9, C_blt10, C_blt11, C_blt12, C_blt13, C_m0, C_m1, C_m2, C_ty, C_add, C_sub, C_mul, C_fdiv, C_mod, C_pow, C_lt, C_le, C_gt, C_ge, C_eq, C_ne, C_in, C_notin, Fr.asg_nm, Fr.asg_tp, Fr.setR, Fr.getS, Fr.initR, Fr.asgR_some, Fr.truth_bl, Fr.truth_non, Fr.truth_int, Fr.truth_tup, Fr.truth_lst, Fr.truth_ref, Fr.srcOf_tup, Fr.srcOf_lst, Fr.srcOf_rol, Fr.srcOf_ref, Fr.seqOf_tup, Fr.seqOf_lst, Fr.seqOf_rol, Fr.seqOf_ref, Fr.negR_int, Fr.ixR_some, Fr.atD_int, Fr.addD_int, Fr.subD_int, Fr.ltD_int, Fr.leD_int, Fr.gtD_int, Fr.geD_int, Fr.eqD_int, Fr.neD_int, Fr.eqD_str, Fr.neD_str, Fr.lenD_tup, Fr.lenD_lst, Fr.lenD_rol, Fr.one_1, Fr.two_2, Fr.fin_nx, Fr.fin_int, Fr.fin_bl, Fr.fin_none, Fr.fin_str, Fr.okV]
      · simp [fns, body__law_next, hg, atI_1, atI_0, st, set_at hp, nen, md, at_, y1, y2, mulD_intR, mulD_mod, modD_int, ii, int_id, pow18, tk, lstR_ok, -List.map_map, ↓Fr.v_slot, ↓Fr.v_con, ↓Fr.v_bin, ↓Fr.v_neg, ↓Fr.v_cmp, ↓Fr.v_chain, ↓Fr.v_and, ↓Fr.v_or, ↓Fr.v_not, ↓Fr.v_ife, ↓Fr.v_tup, ↓Fr.v_lst, ↓Fr.v_ix, ↓Fr.v_sl, ↓Fr.v_call, ↓Fr.v_blt, ↓Fr.v_meth, ↓Fr.v_comp, ↓Fr.v_comp2, ↓Fr.v_lsc, ↓Fr.vs_nil, ↓Fr.vs_cons, ↓Fr.vt_and, ↓Fr.vt_or, ↓Fr.vt_not, ↓Fr.vt_slot, ↓Fr.vt_con, ↓Fr.vt_bin, ↓Fr.vt_neg, ↓Fr.vt_cmp, ↓Fr.vt_chain, ↓Fr.vt_ife, ↓Fr.vt_tup, ↓Fr.vt_lst, ↓Fr.vt_ix, ↓Fr.vt_sl, ↓Fr.vt_call, ↓Fr.vt_blt, ↓Fr.vt_meth, ↓Fr.vt_comp, ↓Fr.vc_nil, ↓Fr.vc_cons, ↓Fr.vi_rng1, ↓Fr.vi_rng2, ↓Fr.vi_slot, ↓Fr.vi_con, ↓Fr.vi_bin, ↓Fr.vi_neg, ↓Fr.vi_cmp, ↓Fr.vi_chain, ↓Fr.vi_ife, ↓Fr.vi_tup, ↓Fr.vi_lst, ↓Fr.vi_ix, ↓Fr.vi_sl, ↓Fr.vi_call, ↓Fr.vi_blt, ↓Fr.vi_meth, ↓Fr.vi_comp, ↓Fr.vo_nil, ↓Fr.vo_cons, ↓Fr.x_asg, ↓Fr.x_asgs, ↓Fr.x_setix, ↓Fr.x_expr, ↓Fr.x_ret, ↓Fr.x_retN, ↓Fr.x_pass, ↓Fr.x_brk, ↓Fr.x_cnt, ↓Fr.x_ifs, ↓Fr.x_whl, ↓Fr.x_for, ↓Fr.xs_nil, ↓Fr.xs_cons, ↓Fr.bindD_val, ↓Fr.bindD_new, ↓Fr.bind_ok, ↓Fr.bindO_val, ↓Fr.bindO_newT, ↓Fr.bindO_newF, ↓Fr.toS_ok, ↓Fr.seq_nx, ↓Fr.seq_ret, ↓Fr.seq_bk, ↓Fr.seq_ct, ↓Fr.iteS_t, ↓Fr.iteS_f, ↓Fr.iteR_t, ↓Fr.iteR_f, ↓Fr.optR_some, ↓Fr.okD_some, ↓Fr.okB_some, ↓Fr.okS_some, ↓Fr.andR_t, ↓Fr.andR_f, ↓Fr.orR_t, ↓Fr.orR_f, ↓Fr.chainR_t, ↓Fr.chainR_f, ↓Fr.compE_some, ↓Fr.compL_some, ↓Fr.compU_some, ↓Fr.keepR_t, ↓Fr.keepR_f, ↓Fr.keepU_t, ↓Fr.keepU_f, ↓Fr.gate_t, ↓Fr.gateS_t, C_call, C_blt0, C_blt1, C_blt2, C_blt3, C_blt4, C_blt5, C_blt6, C_blt7, C_blt8, C_blt9, C_blt10, C_blt11, C_blt12, C_blt13, C_m0, C_m1, C_m2, C_ty, C_add, C_sub, C_mul, C_fdiv, C_mod, C_pow, C_lt, C_le, C_gt, C_ge, C_eq, C_ne, C_in, C_notin, Fr.asg_nm, Fr.asg_tp, Fr.setR, Fr.getS, Fr.initR, Fr.asgR_some, Fr.truth_bl, Fr.truth_non, Fr.truth_int, Fr.truth_tup, Fr.truth_lst, Fr.truth_ref, Fr.srcOf_tup, Fr.srcOf_lst, Fr.srcOf_rol, Fr.srcOf_ref, Fr.seqOf_tup, Fr.seqOf_lst, Fr.seqOf_rol, Fr.seqOf_ref, Fr.negR_int, Fr.ixR_some, Fr.atD_int, Fr.addD_int, Fr.subD_int, Fr.ltD_int, Fr.leD_int, Fr.gtD_int, Fr.geD_int, Fr.eqD_int, Fr.neD_int, Fr.eqD_str, Fr.neD_str, Fr.lenD_tup, Fr.lenD_lst, Fr.lenD_rol, Fr.one_1, Fr.two_2, Fr.fin_nx, Fr.fin_int, Fr.fin_bl, Fr.fin_none, Fr.fin_str, Fr.okV]
    · simp [fns, body__law_next, hg, atI_1, atI_0, st, set_at hp, nen, md, at_, y1, mulD_intR, mulD_mod, modD_int, ii, int_id, pow18, tk, lstR_ok, -List.map_map, ↓Fr.v_slot, ↓Fr.v_con, ↓Fr.v_bin, ↓Fr.v_neg, ↓Fr.v_cmp, ↓Fr.v_chain, ↓Fr.v_and, ↓Fr.v_or, ↓Fr.v_not, ↓Fr.v_ife, ↓Fr.v_tup, ↓Fr.v_lst, ↓Fr.v_ix, ↓Fr.v_sl, ↓Fr.v_call, ↓Fr.v_blt, ↓Fr.v_meth, ↓Fr.v_comp, ↓Fr.v_comp2, ↓Fr.v_lsc, ↓Fr.vs_nil, ↓Fr.vs_cons, ↓Fr.vt_and, ↓Fr.vt_or, ↓Fr.vt_not, ↓Fr.vt_slot, ↓Fr.vt_con, ↓Fr.vt_bin, ↓Fr.vt_neg, ↓Fr.vt_cmp, ↓Fr.vt_chain, ↓Fr.vt_ife, ↓Fr.vt_tup, ↓Fr.vt_lst, ↓Fr.vt_ix, ↓Fr.vt_sl, ↓Fr.vt_call, ↓Fr.vt_blt, ↓Fr.vt_meth, ↓Fr.vt_comp, ↓Fr.vc_nil, ↓Fr.vc_cons, ↓Fr.vi_rng1, ↓Fr.vi_rng2, ↓Fr.vi_slot, ↓Fr.vi_con, ↓Fr.vi_bin, ↓Fr.vi_neg, ↓Fr.vi_cmp, ↓Fr.vi_chain, ↓Fr.vi_ife, ↓Fr.vi_tup, ↓Fr.vi_lst, ↓Fr.vi_ix, ↓Fr.vi_sl, ↓Fr.vi_call, ↓Fr.vi_blt, ↓Fr.vi_meth, ↓Fr.vi_comp, ↓Fr.vo_nil, ↓Fr.vo_cons, ↓Fr.x_asg, ↓Fr.x_asgs, ↓Fr.x_setix, ↓Fr.x_expr, ↓Fr.x_ret, ↓Fr.x_retN, ↓Fr.x_pass, ↓Fr.x_brk, ↓Fr.x_cnt, ↓Fr.x_ifs, ↓Fr.x_whl, ↓Fr.x_for, ↓Fr.xs_nil, ↓Fr.xs_cons, ↓Fr.bindD_val, ↓Fr.bindD_new, ↓Fr.bind_ok, ↓Fr.bindO_val, ↓Fr.bindO_newT, ↓Fr.bindO_newF, ↓Fr.toS_ok, ↓Fr.seq_nx, ↓Fr.seq_ret, ↓Fr.seq_bk, ↓Fr.seq_ct, ↓Fr.iteS_t, ↓Fr.iteS_f, ↓Fr.iteR_t, ↓Fr.iteR_f, ↓Fr.optR_some, ↓Fr.okD_some, ↓Fr.okB_some, ↓Fr.okS_some, ↓Fr.andR_t, ↓Fr.andR_f, ↓Fr.orR_t, ↓Fr.orR_f, ↓Fr.chainR_t, ↓Fr.chainR_f, ↓Fr.compE_some, ↓Fr.compL_some, ↓Fr.compU_some, ↓Fr.keepR_t, ↓Fr.keepR_f, ↓Fr.keepU_t, ↓Fr.keepU_f, ↓Fr.gate_t, ↓Fr.gateS_t, C_call, C_blt0, C_blt1, C_blt2, C_blt3, C_blt4, C_blt5, C_blt6, C_blt7, C_blt8, C_blt9, C_blt10, C_blt11, C_blt12, C_blt13, C_m0, C_m1, C_m2, C_ty, C_add, C_sub, C_mul, C_fdiv, C_mod, C_pow, C_lt, C_le, C_gt, C_ge, C_eq, C_ne, C_in, C_notin, Fr.asg_nm, Fr.asg_tp, Fr.setR, Fr.getS, Fr.initR, Fr.asgR_some, Fr.truth_bl, Fr.truth_non, Fr.truth_int, Fr.truth_tup, Fr.truth_lst, Fr.truth_ref, Fr.srcOf_tup, Fr.srcOf_lst, Fr.srcOf_rol, Fr.srcOf_ref, Fr.seqOf_tup, Fr.seqOf_lst, Fr.seqOf_rol, Fr.seqOf_ref, Fr.negR_int, Fr.ixR_some, Fr.atD_int, Fr.addD_int, Fr.subD_int, Fr.ltD_int, Fr.leD_int, Fr.gtD_int, Fr.geD_int, Fr.eqD_int, Fr.neD_int, Fr.eqD_str, Fr.neD_str, Fr.lenD_tup, Fr.lenD_lst, Fr.lenD_rol, Fr.one_1, Fr.two_2, Fr.fin_nx, Fr.fin_int, Fr.fin_bl, Fr.fin_none, Fr.fin_str, Fr.okV]
def PenC (b : Nat) (cell : List D) : Prop := ∃ (s : List Int) (i : Nat) (r : Int), cell = [.lst (s.map .int), .int i, .int r] ∧ i ≤ b
theorem PenC.mono {b b' : Nat} {cell : List D} (q : PenC b cell) (hb : b ≤ b') : PenC b' cell := by
  obtain ⟨s, i, r, e, l⟩ := q
  exact ⟨s, i, r, e, by omega⟩
theorem c_draw (n : Nat) (h : Hs) (p : Nat) (u : Int) (b : Nat) (cell : List D) (hg : h[p]? = some cell) (pc : PenC b cell) (hb : b ≤ 2 ^ 60) (hu : 0 < u) (hu2 : u.natAbs < 2 ^ 8000) :
    ∃ (d : Nat) (cell' : List D), cl (n + 2) 14 [.ref p, .int u] h = .ok (.val (.int d)) (h.set p cell') ∧ (d : Int) < u ∧ PenC (b + 1) cell' := by
  obtain ⟨s, i, r, rfl, hi⟩ := pc
  have hp : p < h.length := (List.getElem?_eq_some_iff.mp hg).1
  have tk : ∀ c : List D, (h.set p c).take h.length = h.set p c := fun c => by
    rw [← List.length_set (as := h) (i := p) (a := c), List.take_length]
  have st : ∀ (a : List D) (x y : D) (z : Int) (ρ : Rho), setAt (.ref p) (.int 2) (.int z) ρ (h.set p [.lst (s.map .int), x, y]) = .nx ρ (h.set p [.lst (s.map .int), x, .int z]) := fun a x y z ρ => by
    rw [setAt_at (set_at hp) (j := 2) rfl rfl, List.set_set]
    rfl
  have st2 : ∀ (z : Int) (ρ : Rho), setAt (.ref p) (.int 2) (.int z) ρ h = .nx ρ (h.set p [.lst (s.map .int), .int i, .int z]) := fun z ρ => setAt_at hg (j := 2) rfl rfl
  have fd : ∀ (z : Int) h, fdivD (.int z) (.int u) h = .ok (.val (.int (z / u))) h := fun z h => fdivD_int hu hu2
  have md : ∀ (z : Int) h, modD (.int z) (.int u) h = .ok (.val (.int (z % u))) h := fun z h => modD_int hu
  have q0 := fun z : Int => Int.emod_nonneg z (show u ≠ 0 by omega)
  have q1 := fun z : Int => Int.emod_lt_of_pos z hu
  by_cases y : r < u
  · obtain ⟨v, ev⟩ := c_next n h p s i r hg (by omega)
    refine ⟨(v % u).toNat, [.lst (s.map .int), .int ((i + 1 : Nat) : Int), .int (v / u)], ?_, by have := q0 v; have := q1 v; omega, s, i + 1, _, rfl, by omega⟩
    have e : (((v % u).toNat : Nat) : Int) = v % u := by have := q0 v; omega
    have st3 : ∀ (x y : D) (z : Int) (ρ : Rho), setAt (.ref p) (.int 2) (.int z) ρ (h.set p [.lst (s.map .int), x, y]) = .nx ρ (h.set p [.lst (s.map .int), x, .int z]) := fun x y z ρ => st [] x y z ρ
    rw [e, cl_succ]
    simp [fns, body__law_draw, hg, atI_2, y, ev, st3, set_at hp, fd, md, int_id, tk, -List.map_map, ↓Fr.v_slot, ↓Fr.v_con, ↓Fr.v_bin, ↓Fr.v_neg, ↓Fr.v_cmp, ↓Fr.v_chain, ↓Fr.v_and, ↓Fr.v_or, ↓Fr.v_not, ↓Fr.v_ife, ↓Fr.v_tup, ↓Fr.v_lst, ↓Fr.v_ix, ↓Fr.v_sl, ↓Fr.v_call, ↓Fr.v_blt, ↓Fr.v_meth, ↓Fr.v_comp, ↓Fr.v_comp2, ↓Fr.v_lsc, ↓Fr.vs_nil, ↓Fr.vs_cons, ↓Fr.vt_and, ↓Fr.vt_or, ↓Fr.vt_not, ↓Fr.vt_slot, ↓Fr.vt_con, ↓Fr.vt_bin, ↓Fr.vt_neg, ↓Fr.vt_cmp, ↓Fr.vt_chain, ↓Fr.vt_ife, ↓Fr.vt_tup, ↓Fr.vt_lst, ↓Fr.vt_ix, ↓Fr.vt_sl, ↓Fr.vt_call, ↓Fr.vt_blt, ↓Fr.vt_meth, ↓Fr.vt_comp, ↓Fr.vc_nil, ↓Fr.vc_cons, ↓Fr.vi_rng1, ↓Fr.vi_rng2, ↓Fr.vi_slot, ↓Fr.vi_con, ↓Fr.vi_bin, ↓Fr.vi_neg, ↓Fr.vi_cmp, ↓Fr.vi_chain, ↓Fr.vi_ife, ↓Fr.vi_tup, ↓Fr.vi_lst, ↓Fr.vi_ix, ↓Fr.vi_sl, ↓Fr.vi_call, ↓Fr.vi_blt, ↓Fr.vi_meth, ↓Fr.vi_comp, ↓Fr.vo_nil, ↓Fr.vo_cons, ↓Fr.x_asg, ↓Fr.x_asgs, ↓Fr.x_setix, ↓Fr.x_expr, ↓Fr.x_ret, ↓Fr.x_retN, ↓Fr.x_pass, ↓Fr.x_brk, ↓Fr.x_cnt, ↓Fr.x_ifs, ↓Fr.x_whl, ↓Fr.x_for, ↓Fr.xs_nil, ↓Fr.xs_cons, ↓Fr.bindD_val, ↓Fr.bindD_new, ↓Fr.bind_ok, ↓Fr.bindO_val, ↓Fr.bindO_newT, ↓Fr.bindO_newF, ↓Fr.toS_ok, ↓Fr.seq_nx, ↓Fr.seq_ret, ↓Fr.seq_bk, ↓Fr.seq_ct, ↓Fr.iteS_t, ↓Fr.iteS_f, ↓Fr.iteR_t, ↓Fr.iteR_f, ↓Fr.optR_some, ↓Fr.okD_some, ↓Fr.okB_some, ↓Fr.okS_some, ↓Fr.andR_t, ↓Fr.andR_f, ↓Fr.orR_t, ↓Fr.orR_f, ↓Fr.chainR_t, ↓Fr.chainR_f, ↓Fr.compE_some, ↓Fr.compL_some, ↓Fr.compU_some, ↓Fr.keepR_t, ↓Fr.keepR_f, ↓Fr.keepU_t, ↓Fr.keepU_f, ↓Fr.gate_t, ↓Fr.gateS_t, C_call, C_blt0, C_blt1, C_blt2, C_blt3, C_blt4, C_blt5, C_blt6, C_blt7, C_blt8, C_blt9, C_blt10, C_blt11, C_blt12, C_blt13, C_m0, C_m1, C_m2, C_ty, C_add, C_sub, C_mul, C_fdiv, C_mod, C_pow, C_lt, C_le, C_gt, C_ge, C_eq, C_ne, C_in, C_notin, Fr.asg_nm, Fr.asg_tp, Fr.setR, Fr.getS, Fr.initR, Fr.asgR_some, Fr.truth_bl, Fr.truth_non, Fr.truth_int, Fr.truth_tup, Fr.truth_lst, Fr.truth_ref, Fr.srcOf_tup, Fr.srcOf_lst, Fr.srcOf_rol, Fr.srcOf_ref, Fr.seqOf_tup, Fr.seqOf_lst, Fr.seqOf_rol, Fr.seqOf_ref, Fr.negR_int, Fr.ixR_some, Fr.atD_int, Fr.addD_int, Fr.subD_int, Fr.ltD_int, Fr.leD_int, Fr.gtD_int, Fr.geD_int, Fr.eqD_int, Fr.neD_int, Fr.eqD_str, Fr.neD_str, Fr.lenD_tup, Fr.lenD_lst, Fr.lenD_rol, Fr.one_1, Fr.two_2, Fr.fin_nx, Fr.fin_int, Fr.fin_bl, Fr.fin_none, Fr.fin_str, Fr.okV]
  · refine ⟨(r % u).toNat, [.lst (s.map .int), .int i, .int (r / u)], ?_, by have := q0 r; have := q1 r; omega, s, i, _, rfl, by omega⟩
    have e : (((r % u).toNat : Nat) : Int) = r % u := by have := q0 r; omega
    rw [e, cl_succ]
    simp [fns, body__law_draw, hg, atI_2, y, st2, set_at hp, fd, md, int_id, tk, -List.map_map, ↓Fr.v_slot, ↓Fr.v_con, ↓Fr.v_bin, ↓Fr.v_neg, ↓Fr.v_cmp, ↓Fr.v_chain, ↓Fr.v_and, ↓Fr.v_or, ↓Fr.v_not, ↓Fr.v_ife, ↓Fr.v_tup, ↓Fr.v_lst, ↓Fr.v_ix, ↓Fr.v_sl, ↓Fr.v_call, ↓Fr.v_blt, ↓Fr.v_meth, ↓Fr.v_comp, ↓Fr.v_comp2, ↓Fr.v_lsc, ↓Fr.vs_nil, ↓Fr.vs_cons, ↓Fr.vt_and, ↓Fr.vt_or, ↓Fr.vt_not, ↓Fr.vt_slot, ↓Fr.vt_con, ↓Fr.vt_bin, ↓Fr.vt_neg, ↓Fr.vt_cmp, ↓Fr.vt_chain, ↓Fr.vt_ife, ↓Fr.vt_tup, ↓Fr.vt_lst, ↓Fr.vt_ix, ↓Fr.vt_sl, ↓Fr.vt_call, ↓Fr.vt_blt, ↓Fr.vt_meth, ↓Fr.vt_comp, ↓Fr.vc_nil, ↓Fr.vc_cons, ↓Fr.vi_rng1, ↓Fr.vi_rng2, ↓Fr.vi_slot, ↓Fr.vi_con, ↓Fr.vi_bin, ↓Fr.vi_neg, ↓Fr.vi_cmp, ↓Fr.vi_chain, ↓Fr.vi_ife, ↓Fr.vi_tup, ↓Fr.vi_lst, ↓Fr.vi_ix, ↓Fr.vi_sl, ↓Fr.vi_call, ↓Fr.vi_blt, ↓Fr.vi_meth, ↓Fr.vi_comp, ↓Fr.vo_nil, ↓Fr.vo_cons, ↓Fr.x_asg, ↓Fr.x_asgs, ↓Fr.x_setix, ↓Fr.x_expr, ↓Fr.x_ret, ↓Fr.x_retN, ↓Fr.x_pass, ↓Fr.x_brk, ↓Fr.x_cnt, ↓Fr.x_ifs, ↓Fr.x_whl, ↓Fr.x_for, ↓Fr.xs_nil, ↓Fr.xs_cons, ↓Fr.bindD_val, ↓Fr.bindD_new, ↓Fr.bind_ok, ↓Fr.bindO_val, ↓Fr.bindO_newT, ↓Fr.bindO_newF, ↓Fr.toS_ok, ↓Fr.seq_nx, ↓Fr.seq_ret, ↓Fr.seq_bk, ↓Fr.seq_ct, ↓Fr.iteS_t, ↓Fr.iteS_f, ↓Fr.iteR_t, ↓Fr.iteR_f, ↓Fr.optR_some, ↓Fr.okD_some, ↓Fr.okB_some, ↓Fr.okS_some, ↓Fr.andR_t, ↓Fr.andR_f, ↓Fr.orR_t, ↓Fr.orR_f, ↓Fr.chainR_t, ↓Fr.chainR_f, ↓Fr.compE_some, ↓Fr.compL_some, ↓Fr.compU_some, ↓Fr.keepR_t, ↓Fr.keepR_f, ↓Fr.keepU_t, ↓Fr.keepU_f, ↓Fr.gate_t, ↓Fr.gateS_t, C_call, C_blt0, C_blt1, C_blt2, C_blt3, C_blt4, C_blt5, C_blt6, C_blt7, C_blt8, C_blt9, C_blt10, C_blt11, C_blt12, C_blt13, C_m0, C_m1, C_m2, C_ty, C_add, C_sub, C_mul, C_fdiv, C_mod, C_pow, C_lt, C_le, C_gt, C_ge, C_eq, C_ne, C_in, C_notin, Fr.asg_nm, Fr.asg_tp, Fr.setR, Fr.getS, Fr.initR, Fr.asgR_some, Fr.truth_bl, Fr.truth_non, Fr.truth_int, Fr.truth_tup, Fr.truth_lst, Fr.truth_ref, Fr.srcOf_tup, Fr.srcOf_lst, Fr.srcOf_rol, Fr.srcOf_ref, Fr.seqOf_tup, Fr.seqOf_lst, Fr.seqOf_rol, Fr.seqOf_ref, Fr.negR_int, Fr.ixR_some, Fr.atD_int, Fr.addD_int, Fr.subD_int, Fr.ltD_int, Fr.leD_int, Fr.gtD_int, Fr.geD_int, Fr.eqD_int, Fr.neD_int, Fr.eqD_str, Fr.neD_str, Fr.lenD_tup, Fr.lenD_lst, Fr.lenD_rol, Fr.one_1, Fr.two_2, Fr.fin_nx, Fr.fin_int, Fr.fin_bl, Fr.fin_none, Fr.fin_str, Fr.okV]
theorem c_pen (n : Nat) (ns : List Int) (h : Hs) : cl (n + 1) 12 [.rol (ns.map .int)] h = .ok (.new [.lst ((ns.take 60).map .int), .int 0, .int 0]) h := by
  have cu : cutAt (.rol (ns.map .int)) none (some 60) h = .ok (.new ((ns.take 60).map .int)) h := by
    simp only [cutAt]
    have e : Fr.cutD (ns.map D.int) none (some 60) = (ns.take 60).map .int := by
      unfold Fr.cutD
      rw [show HT.sIx (ns.map D.int).length 0 none = 0 from HT.sIx_none _ _, show HT.sIx (ns.map D.int).length (ns.map D.int).length (some 60) = min 60 (ns.map D.int).length from HT.sIx_nat _ _ 60]
      rw [List.drop_zero, Nat.sub_zero, ← List.map_take, List.length_map]
      congr 1
      by_cases z : 60 ≤ ns.length
      · rw [Nat.min_eq_left z]
      · rw [Nat.min_eq_right (by omega), List.take_of_length_le (Nat.le_refl _), List.take_of_length_le (by omega)]
    rw [e]
  have p0 : partD [] = some none := rfl
  have p1 : partD [.int 60] = some (some 60) := rfl
  have l3 : ∀ a b c : D, lstR [a, b, c] h = .ok (.new [a, b, c]) h := fun a b c => lstR_ok (by show 3 ≤ 2 ^ 24; decide)
  have ll : ∀ ds : List D, listD (.lst ds) h = .ok (.new ds) h := fun ds => by simp [listD, seqOf, optR]
  rw [cl_succ]
  simp [fns, body__law_pen, p0, p1, cu, ll, l3, -List.map_map, ↓Fr.v_slot, ↓Fr.v_con, ↓Fr.v_bin, ↓Fr.v_neg, ↓Fr.v_cmp, ↓Fr.v_chain, ↓Fr.v_and, ↓Fr.v_or, ↓Fr.v_not, ↓Fr.v_ife, ↓Fr.v_tup, ↓Fr.v_lst, ↓Fr.v_ix, ↓Fr.v_sl, ↓Fr.v_call, ↓Fr.v_blt, ↓Fr.v_meth, ↓Fr.v_comp, ↓Fr.v_comp2, ↓Fr.v_lsc, ↓Fr.vs_nil, ↓Fr.vs_cons, ↓Fr.vt_and, ↓Fr.vt_or, ↓Fr.vt_not, ↓Fr.vt_slot, ↓Fr.vt_con, ↓Fr.vt_bin, ↓Fr.vt_neg, ↓Fr.vt_cmp, ↓Fr.vt_chain, ↓Fr.vt_ife, ↓Fr.vt_tup, ↓Fr.vt_lst, ↓Fr.vt_ix, ↓Fr.vt_sl, ↓Fr.vt_call, ↓Fr.vt_blt, ↓Fr.vt_meth, ↓Fr.vt_comp, ↓Fr.vc_nil, ↓Fr.vc_cons, ↓Fr.vi_rng1, ↓Fr.vi_rng2, ↓Fr.vi_slot, ↓Fr.vi_con, ↓Fr.vi_bin, ↓Fr.vi_neg, ↓Fr.vi_cmp, ↓Fr.vi_chain, ↓Fr.vi_ife, ↓Fr.vi_tup, ↓Fr.vi_lst, ↓Fr.vi_ix, ↓Fr.vi_sl, ↓Fr.vi_call, ↓Fr.vi_blt, ↓Fr.vi_meth, ↓Fr.vi_comp, ↓Fr.vo_nil, ↓Fr.vo_cons, ↓Fr.x_asg, ↓Fr.x_asgs, ↓Fr.x_setix, ↓Fr.x_expr, ↓Fr.x_ret, ↓Fr.x_retN, ↓Fr.x_pass, ↓Fr.x_brk, ↓Fr.x_cnt, ↓Fr.x_ifs, ↓Fr.x_whl, ↓Fr.x_for, ↓Fr.xs_nil, ↓Fr.xs_cons, ↓Fr.bindD_val, ↓Fr.bindD_new, ↓Fr.bind_ok, ↓Fr.bindO_val, ↓Fr.bindO_newT, ↓Fr.bindO_newF, ↓Fr.toS_ok, ↓Fr.seq_nx, ↓Fr.seq_ret, ↓Fr.seq_bk, ↓Fr.seq_ct, ↓Fr.iteS_t, ↓Fr.iteS_f, ↓Fr.iteR_t, ↓Fr.iteR_f, ↓Fr.optR_some, ↓Fr.okD_some, ↓Fr.okB_some, ↓Fr.okS_some, ↓Fr.andR_t, ↓Fr.andR_f, ↓Fr.orR_t, ↓Fr.orR_f, ↓Fr.chainR_t, ↓Fr.chainR_f, ↓Fr.compE_some, ↓Fr.compL_some, ↓Fr.compU_some, ↓Fr.keepR_t, ↓Fr.keepR_f, ↓Fr.keepU_t, ↓Fr.keepU_f, ↓Fr.gate_t, ↓Fr.gateS_t, C_call, C_blt0, C_blt1, C_blt2, C_blt3, C_blt4, C_blt5, C_blt6, C_blt7, C_blt8, C_blt9, C_blt10, C_blt11, C_blt12, C_blt13, C_m0, C_m1, C_m2, C_ty, C_add, C_sub, C_mul, C_fdiv, C_mod, C_pow, C_lt, C_le, C_gt, C_ge, C_eq, C_ne, C_in, C_notin, Fr.asg_nm, Fr.asg_tp, Fr.setR, Fr.getS, Fr.initR, Fr.asgR_some, Fr.truth_bl, Fr.truth_non, Fr.truth_int, Fr.truth_tup, Fr.truth_lst, Fr.truth_ref, Fr.srcOf_tup, Fr.srcOf_lst, Fr.srcOf_rol, Fr.srcOf_ref, Fr.seqOf_tup, Fr.seqOf_lst, Fr.seqOf_rol, Fr.seqOf_ref, Fr.negR_int, Fr.ixR_some, Fr.atD_int, Fr.addD_int, Fr.subD_int, Fr.ltD_int, Fr.leD_int, Fr.gtD_int, Fr.geD_int, Fr.eqD_int, Fr.neD_int, Fr.eqD_str, Fr.neD_str, Fr.lenD_tup, Fr.lenD_lst, Fr.lenD_rol, Fr.one_1, Fr.two_2, Fr.fin_nx, Fr.fin_int, Fr.fin_bl, Fr.fin_none, Fr.fin_str, Fr.okV]
  rw [fin_new, List.take_length]
  exact D.flatvs_unds (by
    simp only [D.flatvs, D.flatv]
    rw [← List.map_take, flat_ints]
    rfl)
end K02
set_option Elab.async false
set_option linter.all false
set_option maxRecDepth 100000
set_option maxHeartbeats 4000000
namespace K02
open PySem PySem.Spec PyProof.Rows L2 Fr
section
variable {g : Hs} {m : Nat} {a b x : List D}
theorem two_0 (hl : g.length = m) : (g ++ [a, b])[m]? = some a := by subst hl; simp
theorem two_1 (hl : g.length = m) : (g ++ [a, b])[m + 1]? = some b := by subst hl; simp
theorem two_s0 (hl : g.length = m) : (g ++ [a, b]).set m x = g ++ [x, b] := by subst hl; simp
theorem two_s1 (hl : g.length = m) : (g ++ [a, b]).set (m + 1) x = g ++ [a, x] := by subst hl; simp
end
theorem erase_map {α β : Type} (f : α → β) : ∀ (l : List α) (i : Nat), (l.map f).eraseIdx i = (l.eraseIdx i).map f
  | [], _ => by simp
  | x :: l, 0 => by simp
  | x :: l, i + 1 => by
    simp only [List.map_cons, List.eraseIdx_cons_succ]
    rw [erase_map f l i]
theorem erase_perm {α : Type} : ∀ (l : List α) (i : Nat) (hi : i < l.length), (l[i] :: l.eraseIdx i).Perm l
  | x :: l, 0, _ => by simp
  | x :: l, i + 1, hi => by
    simp only [List.getElem_cons_succ, List.eraseIdx_cons_succ]
    exact (List.Perm.swap _ _ _).trans ((erase_perm l i (by simpa using hi)).cons x)
def R0 (k : Nat) : List Int := (List.range k).map fun i : Nat => (1 : Int) + (i : Nat)
theorem clause_loop (n : Nat) (h : Hs) (p k : Nat) (hp : p < h.length) (hk : k ≤ 1000) : ∀ (ds : List D) (R F : List Int) (b : Nat) (cell : List D) (o4 o5 : Option D), ds.length ≤ R.length → (F.map ab ++ R).Perm (R0 k) → PenC b cell → b + 2 * ds.length ≤ 2 ^ 50 →
    ∃ (F' R' : List Int) (cell' : List D) (o4' o5' : Option D), forL (exs (C (n + 2)) lb__law_clause_1) (G.nm 4) ds [some (.ref p), some (.int k), some (.ref h.length), some (.ref (h.length + 1)), o4, o5] (h.set p cell ++ [R.map .int, F.map .int]) =
      .nx [some (.ref p), some (.int k), some (.ref h.length), some (.ref (h.length + 1)), o4', o5'] (h.set p cell' ++ [R'.map .int, F'.map .int]) ∧ F'.length = F.length + ds.length ∧ (F'.map ab ++ R').Perm (R0 k) ∧ PenC (b + 2 * ds.length) cell' := by
  intro ds
  induction ds with
  | nil =>
    intro R F b cell o4 o5 hl hR pc hb
    exact ⟨F, R, cell, o4, o5, rfl, rfl, hR, pc⟩
  | cons d0 ds ih =>
    intro R F b cell o4 o5 hl hR pc hb
    rw [List.length_cons] at hl hb
    have lR : R.length ≤ k := by
      have := hR.length_eq
      rw [List.length_append] at this
      have e : (R0 k).length = k := by simp [R0]
      omega
    have lF : F.length ≤ k := by
      have := hR.length_eq
      rw [List.length_append, List.length_map] at this
      have e : (R0 k).length = k := by simp [R0]
      omega
    have hs : ∀ c : List D, (h.set p c).length = h.length := fun c => List.length_set
    have hg : ∀ (c x y : List D), (h.set p c ++ [x, y])[p]? = some c := fun c x y => by
      rw [app_at (by rw [hs]; exact hp), set_at hp]
    have hsp : ∀ (c c' x y : List D), (h.set p c ++ [x, y]).set p c' = h.set p c' ++ [x, y] := fun c c' x y => by
      rw [app_set (by rw [hs]; exact hp), List.set_set]
    obtain ⟨d, c1, e1, hd, pc1⟩ := c_draw n (h.set p cell ++ [R.map .int, F.map .int]) p R.length b cell (hg _ _ _) pc (by omega) (by omega) (by
      have : (1000 : Nat) < 2 ^ 8000 := by decide +kernel
      omega)
    rw [hsp] at e1
    have hd' : d < R.length := by omega
    obtain ⟨d2, c2, e2, hd2, pc2⟩ := c_draw n (h.set p c1 ++ [(R.eraseIdx d).map .int, F.map .int]) p 2 (b + 1) c1 (hg _ _ _) pc1 (by omega) (by omega) (by
      have : (1000 : Nat) < 2 ^ 8000 := by decide +kernel
      omega)
    rw [hsp] at e2
    have le : lenD (.ref h.length) (h.set p cell ++ [R.map .int, F.map .int]) = .ok (.val (.int R.length)) (h.set p cell ++ [R.map .int, F.map .int]) := by
      rw [lenD_ref (two_0 (hs _)), List.length_map]
    have po : popD (.ref h.length) [.int d] (h.set p c1 ++ [R.map .int, F.map .int]) = .ok (.val (.int R[d])) (h.set p c1 ++ [(R.eraseIdx d).map .int, F.map .int]) := by
      rw [pop_at (y := .int R[d]) (two_0 (hs _)) (by rw [List.length_map]; exact hd') (by rw [List.length_map]; omega) (by rw [List.getElem?_map, List.getElem?_eq_getElem hd']; rfl), two_s0 (hs _), erase_map]
    have ap : ∀ z : Int, appendD (.ref (h.length + 1)) [.int z] (h.set p c2 ++ [(R.eraseIdx d).map .int, F.map .int]) = .ok (.val .non) (h.set p c2 ++ [(R.eraseIdx d).map .int, (F ++ [z]).map .int]) := fun z => by
      rw [append_at (two_1 (hs _)) (by rw [List.length_map]; omega) rfl, two_s1 (hs _), List.map_append]
      rfl
    obtain ⟨z, hz, e⟩ : ∃ z : Int, ab z = ab R[d] ∧ exs (C (n + 2)) lb__law_clause_1 [some (.ref p), some (.int k), some (.ref h.length), some (.ref (h.length + 1)), some d0, o5] (h.set p cell ++ [R.map .int, F.map .int]) =
        .nx [some (.ref p), some (.int k), some (.ref h.length), some (.ref (h.length + 1)), some d0, some (.int R[d])] (h.set p c2 ++ [(R.eraseIdx d).map .int, (F ++ [z]).map .int]) := by
      by_cases y : d2 = 0
      · subst y
        exact ⟨R[d], rfl, by simp [lb__law_clause_1, isListD, le, e1, po, e2, ap, -List.map_map, ↓Fr.v_slot, ↓Fr.v_con, ↓Fr.v_bin, ↓Fr.v_neg, ↓Fr.v_cmp, ↓Fr.v_chain, ↓Fr.v_and, ↓Fr.v_or, ↓Fr.v_not, ↓Fr.v_ife, ↓Fr.v_tup, ↓Fr.v_lst, ↓Fr.v_ix, ↓Fr.v_sl, ↓Fr.v_call, ↓Fr.v_blt, ↓Fr.v_meth, ↓Fr.v_comp, ↓Fr.v_comp2, ↓Fr.v_lsc, ↓Fr.vs_nil, ↓Fr.vs_cons, ↓Fr.vt_and, ↓Fr.vt_or, ↓Fr.vt_not, ↓Fr.vt_slot, ↓Fr.vt_con, ↓Fr.vt_bin, ↓Fr.vt_neg, ↓Fr.vt_cmp, ↓Fr.vt_chain, ↓Fr.vt_ife, ↓Fr.vt_tup, ↓Fr.vt_lst, ↓Fr.vt_ix, ↓Fr.vt_sl, ↓Fr.vt_call, ↓Fr.vt_blt, ↓Fr.vt_meth, ↓Fr.vt_comp, ↓Fr.vc_nil, ↓Fr.vc_cons, ↓Fr.vi_rng1, ↓Fr.vi_rng2, ↓Fr.vi_slot, ↓Fr.vi_con, ↓Fr.vi_bin, ↓Fr.vi_neg, ↓Fr.vi_cmp, ↓Fr.vi_chain, ↓Fr.vi_ife, ↓Fr.vi_tup, ↓Fr.vi_lst, ↓Fr.vi_ix, ↓Fr.vi_sl, ↓Fr.vi_call, ↓Fr.vi_blt, ↓Fr.vi_meth, ↓Fr.vi_comp, ↓Fr.vo_nil, ↓Fr.vo_cons, ↓Fr.x_asg, ↓Fr.x_asgs, ↓Fr.x_setix, ↓Fr.x_expr, ↓Fr.x_ret, ↓Fr.x_retN, ↓Fr.x_pass, ↓Fr.x_brk, ↓Fr.x_cnt, ↓Fr.x_ifs, ↓Fr.x_whl, ↓Fr.x_for, ↓Fr.xs_nil, ↓Fr.xs_cons, ↓Fr.bindD_val, ↓Fr.bindD_new, ↓Fr.bind_ok, ↓Fr.bindO_val, ↓Fr.bindO_newT, ↓Fr.bindO_newF, ↓Fr.toS_ok, ↓Fr.seq_nx, ↓Fr.seq_ret, ↓Fr.seq_bk, ↓Fr.seq_ct, ↓Fr.iteS_t, ↓Fr.iteS_f, ↓Fr.iteR_t, ↓Fr.iteR_f, ↓Fr.optR_some, ↓Fr.okD_some, ↓Fr.okB_some, ↓Fr.okS_some, ↓Fr.andR_t, ↓Fr.andR_f, ↓Fr.orR_t, ↓Fr.orR_f, ↓Fr.chainR_t, ↓Fr.chainR_f, ↓Fr.compE_some, ↓Fr.compL_some, ↓Fr.compU_some, ↓Fr.keepR_t, ↓Fr.keepR_f, ↓Fr.keepU_t, ↓Fr.keepU_f, ↓Fr.gate_t, ↓Fr.gateS_t, C_call, C_blt0, C_blt1, C_blt2, C_blt3, C_blt4, C_blt5, C_blt6, C_blt7, C_blt8, C_blt9, C_blt10, C_blt11, C_blt12, C_blt13, C_m0, C_m1, C_m2, C_ty, C_add, C_sub, C_mul, C_fdiv, C_mod, C_pow, C_lt, C_le, C_gt, C_ge, C_eq, C_ne, C_in, C_notin, Fr.asg_nm, Fr.asg_tp, Fr.setR, Fr.getS, Fr.initR, Fr.asgR_some, Fr.truth_bl, Fr.truth_non, Fr.truth_int, Fr.truth_tup, Fr.truth_lst, Fr.truth_ref, Fr.srcOf_tup, Fr.srcOf_lst, Fr.srcOf_rol, Fr.srcOf_ref, Fr.seqOf_tup, Fr.seqOf_lst, Fr.seqOf_rol, Fr.seqOf_ref, Fr.negR_int, Fr.ixR_some, Fr.atD_int, Fr.addD_int, Fr.subD_int, Fr.ltD_int, Fr.leD_int, Fr.gtD_int, Fr.geD_int, Fr.eqD_int, Fr.neD_int, Fr.eqD_str, Fr.neD_str, Fr.lenD_tup, Fr.lenD_lst, Fr.lenD_rol, Fr.one_1, Fr.two_2, Fr.fin_nx, Fr.fin_int, Fr.fin_bl, Fr.fin_none, Fr.fin_str, Fr.okV]⟩
      · have y' : ¬ (d2 : Int) = 0 := by omega
        exact ⟨-R[d], by unfold ab; split <;> split <;> omega, by simp [lb__law_clause_1, isListD, le, e1, po, e2, ap, y', y, -List.map_map, ↓Fr.v_slot, ↓Fr.v_con, ↓Fr.v_bin, ↓Fr.v_neg, ↓Fr.v_cmp, ↓Fr.v_chain, ↓Fr.v_and, ↓Fr.v_or, ↓Fr.v_not, ↓Fr.v_ife, ↓Fr.v_tup, ↓Fr.v_lst, ↓Fr.v_ix, ↓Fr.v_sl, ↓Fr.v_call, ↓Fr.v_blt, ↓Fr.v_meth, ↓Fr.v_comp, ↓Fr.v_comp2, ↓Fr.v_lsc, ↓Fr.vs_nil, ↓Fr.vs_cons, ↓Fr.vt_and, ↓Fr.vt_or, ↓Fr.vt_not, ↓Fr.vt_slot, ↓Fr.vt_con, ↓Fr.vt_bin, ↓Fr.vt_neg, ↓Fr.vt_cmp, ↓Fr.vt_chain, ↓Fr.vt_ife, ↓Fr.vt_tup, ↓Fr.vt_lst, ↓Fr.vt_ix, ↓Fr.vt_sl, ↓Fr.vt_call, ↓Fr.vt_blt, ↓Fr.vt_meth, ↓Fr.vt_comp, ↓Fr.vc_nil, ↓Fr.vc_cons, ↓Fr.vi_rng1, ↓Fr.vi_rng2, ↓Fr.vi_slot, ↓Fr.vi_con, ↓Fr.vi_bin, ↓Fr.vi_neg, ↓Fr.vi_cmp, ↓Fr.vi_chain, ↓Fr.vi_ife, ↓Fr.vi_tup, ↓Fr.vi_lst, ↓Fr.vi_ix, ↓Fr.vi_sl, ↓Fr.vi_call, ↓Fr.vi_blt, ↓Fr.vi_meth, ↓Fr.vi_comp, ↓Fr.vo_nil, ↓Fr.vo_cons, ↓Fr.x_asg, ↓Fr.x_asgs, ↓Fr.x_setix, ↓Fr.x_expr, ↓Fr.x_ret, ↓Fr.x_retN, ↓Fr.x_pass, ↓Fr.x_brk, ↓Fr.x_cnt, ↓Fr.x_ifs, ↓Fr.x_whl, ↓Fr.x_for, ↓Fr.xs_nil, ↓Fr.xs_cons, ↓Fr.bindD_val, ↓Fr.bindD_new, ↓Fr.bind_ok, ↓Fr.bindO_val, ↓Fr.bindO_newT, ↓Fr.bindO_newF, ↓Fr.toS_ok, ↓Fr.seq_nx, ↓Fr.seq_ret, ↓Fr.seq_bk, ↓Fr.seq_ct, ↓Fr.iteS_t, ↓Fr.iteS_f, ↓Fr.iteR_t, ↓Fr.iteR_f, ↓Fr.optR_some, ↓Fr.okD_some, ↓Fr.okB_some, ↓Fr.okS_some, ↓Fr.andR_t, ↓Fr.andR_f, ↓Fr.orR_t, ↓Fr.orR_f, ↓Fr.chainR_t, ↓Fr.chainR_f, ↓Fr.compE_some, ↓Fr.compL_some, ↓Fr.compU_some, ↓Fr.keepR_t, ↓Fr.keepR_f, ↓Fr.keepU_t, ↓Fr.keepU_f, ↓Fr.gate_t, ↓Fr.gateS_t, C_call, C_blt0, C_blt1, C_blt2, C_blt3, C_blt4, C_blt5, C_blt6, C_blt7, C_blt8, C_blt9, C_blt10, C_blt11, C_blt12, C_blt13, C_m0, C_m1, C_m2, C_ty, C_add, C_sub, C_mul, C_fdiv, C_mod, C_pow, C_lt, C_le, C_gt, C_ge, C_eq, C_ne, C_in, C_notin, Fr.asg_nm, Fr.asg_tp, Fr.setR, Fr.getS, Fr.initR, Fr.asgR_some, Fr.truth_bl, Fr.truth_non, Fr.truth_int, Fr.truth_tup, Fr.truth_lst, Fr.truth_ref, Fr.srcOf_tup, Fr.srcOf_lst, Fr.srcOf_rol, Fr.srcOf_ref, Fr.seqOf_tup, Fr.seqOf_lst, Fr.seqOf_rol, Fr.seqOf_ref, Fr.negR_int, Fr.ixR_some, Fr.atD_int, Fr.addD_int, Fr.subD_int, Fr.ltD_int, Fr.leD_int, Fr.gtD_int, Fr.geD_int, Fr.eqD_int, Fr.neD_int, Fr.eqD_str, Fr.neD_str, Fr.lenD_tup, Fr.lenD_lst, Fr.lenD_rol, Fr.one_1, Fr.two_2, Fr.fin_nx, Fr.fin_int, Fr.fin_bl, Fr.fin_none, Fr.fin_str, Fr.okV]⟩
    have pr : ((F ++ [z]).map ab ++ R.eraseIdx d).Perm (R0 k) := by
      have mem : R[d] ∈ R0 k := hR.mem_iff.mp (List.mem_append_right _ (List.getElem_mem hd'))
      have e3 : ab R[d] = R[d] := by
        obtain ⟨i, _, ei⟩ := List.mem_map.mp mem
        unfold ab
        rw [if_neg]
        omega
      refine List.Perm.trans ?_ hR
      rw [List.map_append, List.map_singleton, hz, e3, List.append_assoc]
      exact (erase_perm R d hd').append_left _
    obtain ⟨F', R', cell', o4', o5', eI, l1, l2, l3⟩ := ih (R.eraseIdx d) (F ++ [z]) (b + 1 + 1) c2 (some d0) (some (.int R[d])) (by rw [List.length_eraseIdx_of_lt hd']; omega) pr pc2 (by omega)
    refine ⟨F', R', cell', o4', o5', ?_, by rw [l1, List.length_append, List.length_singleton, List.length_cons]; omega, l2, l3.mono (by rw [List.length_cons]; omega)⟩
    simp only [forL, asg_nm, List.set_cons_succ, List.set_cons_zero, e]
    exact eI
theorem R0_nodup (k : Nat) : (R0 k).Nodup := by
  unfold R0
  refine List.Pairwise.map _ (fun a b (hab : a ≠ b) => ?_) List.nodup_range
  intro z
  exact hab (by omega)
theorem sortI_idem (l : List Int) : sortI (sortI l) = sortI l := sorted_eq (sortI_perm _) (sortI_up _) (sortI_up _)
theorem clause_ok {k : Nat} {F R : List Int} (h1 : 1 ≤ F.length) (h4 : F.length ≤ 4) (pr : (F.map ab ++ R).Perm (R0 k)) : vC k (sortI F) := by
  have pf := sortI_perm F
  have nd : (F.map ab ++ R).Nodup := pr.nodup_iff.mpr (R0_nodup k)
  have nd2 : ((sortI F).map ab).Nodup := (pf.map ab).nodup_iff.mpr (List.nodup_append.mp nd).1
  refine ⟨by rw [pf.length_eq]; exact h1, by rw [pf.length_eq]; exact h4, fun l hl => ?_, by rw [nub_self nd2, List.length_map], sortI_idem F⟩
  have m1 : ab l ∈ R0 k := pr.mem_iff.mp (List.mem_append_left _ (List.mem_map.mpr ⟨l, pf.mem_iff.mp hl, rfl⟩))
  obtain ⟨i, hi, e⟩ := List.mem_map.mp m1
  have := List.mem_range.mp hi
  omega
theorem seven (d : Nat) (hd : d < 6) : ∃ t : Nat, 1 ≤ t ∧ t ≤ 4 ∧ L2.atI [D.int 1, D.int 2, D.int 2, D.int 3, D.int 4, D.int 2] (d : Int) = some (.int t) := by
  have : d = 0 ∨ d = 1 ∨ d = 2 ∨ d = 3 ∨ d = 4 ∨ d = 5 := by omega
  rcases this with rfl | rfl | rfl | rfl | rfl | rfl
  · exact ⟨1, by omega, by omega, by rw [atI_ofNat]; rfl⟩
  · exact ⟨2, by omega, by omega, by rw [atI_ofNat]; rfl⟩
  · exact ⟨2, by omega, by omega, by rw [atI_ofNat]; rfl⟩
  · exact ⟨3, by omega, by omega, by rw [atI_ofNat]; rfl⟩
  · exact ⟨4, by omega, by omega, by rw [atI_ofNat]; rfl⟩
  · exact ⟨2, by omega, by omega, by rw [atI_ofNat]; rfl⟩
theorem c_clause (n : Nat) (h : Hs) (p k b : Nat) (cell : List D) (hg : h[p]? = some cell) (pc : PenC b cell) (hb : b ≤ 2 ^ 40) (k1 : 1 ≤ k) (k2 : k ≤ 1000) :
    ∃ (c : List Int) (cell' : List D), cl (n + 3) 15 [.ref p, .int k] h = .ok (.val (cD c)) (h.set p cell') ∧ vC k c ∧ PenC (b + 9) cell' := by
  have hp : p < h.length := (List.getElem?_eq_some_iff.mp hg).1
  have hs : ∀ c : List D, (h.set p c).length = h.length := fun c => List.length_set
  have hR : rngD 1 (((k : Int) + 1 - 1).toNat) = (R0 k).map .int := by
    rw [rngD_range, show ((k : Int) + 1 - 1).toNat = k by omega]
    unfold R0
    rw [List.map_map]
    rfl
  have lr : lrngD (.int 1) (.int ((k : Int) + 1)) h = .ok (.new ((R0 k).map .int)) h := by
    have e1 : (inRng 1 && inRng ((k : Int) + 1) && decide (((k : Int) + 1 - 1).toNat ≤ 2 ^ 24)) = true := by
      rw [show inRng 1 = true from decide_eq_true (by omega), show inRng ((k : Int) + 1) = true from decide_eq_true (by omega), decide_eq_true (by omega)]
      rfl
    simp only [lrngD, e1, hR]
    rfl
  have e0 : h ++ [(R0 k).map D.int] ++ [[]] = h.set p cell ++ [(R0 k).map D.int, ([] : List Int).map D.int] := by
    rw [set_self hg, List.append_assoc]
    rfl
  have hgs : (h ++ [(R0 k).map D.int, []])[p]? = some cell := by
    rw [app_at hp]
    exact hg
  obtain ⟨d, c1, e1, hd, pc1⟩ := c_draw n (h ++ [(R0 k).map D.int, []]) p 6 b cell hgs pc (by omega) (by omega) (by
    have : (1000 : Nat) < 2 ^ 8000 := by decide +kernel
    omega)
  have e1s : (h ++ [(R0 k).map D.int, []]).set p c1 = h.set p c1 ++ [(R0 k).map D.int, ([] : List Int).map D.int] := app_set hp
  rw [e1s] at e1
  obtain ⟨t, t1, t4, et⟩ := seven d (by omega)
  obtain ⟨q, eq, q1, q4, qk⟩ : ∃ q : Nat, (if (k : Int) < (t : Int) then (k : Int) else (t : Int)) = q ∧ 1 ≤ q ∧ q ≤ 4 ∧ q ≤ k := by
    by_cases y : (k : Int) < t
    · exact ⟨k, by rw [if_pos y], by omega, by omega, by omega⟩
    · exact ⟨t, by rw [if_neg y], by omega, by omega, by omega⟩
  have mn : ∀ h, minD (.int t) (.int k) h = .ok (.val (.int q)) h := fun h => by
    simp only [minD, int2, eq]
    rfl
  have rg : ∀ h, rng1R (.int (q : Nat)) h = .ok (.vals (rngD 0 q)) h := fun h => by
    rw [rng1R_int (decide_eq_true (by omega))]
    simp
  have lq : (rngD 0 q).length = q := by rw [rng0]; simp
  have l0 : (R0 k).length = k := by simp [R0]
  obtain ⟨F, R, c2, o4, o5, eI, lF, pr, pc2⟩ := clause_loop n h p k hp k2 (rngD 0 q) (R0 k) [] (b + 1) c1 none none (by omega) (by simp) pc1 (by omega)
  rw [lq] at lF pc2
  rw [List.length_nil, Nat.zero_add] at lF
  have l6 : ∀ h, lstR [D.int 1, D.int 2, D.int 2, D.int 3, D.int 4, D.int 2] h = .ok (.new [D.int 1, D.int 2, D.int 2, D.int 3, D.int 4, D.int 2]) h := fun h => lstR_ok (by show 6 ≤ 2 ^ 24; decide)
  have l00 : ∀ h, lstR [] h = .ok (.new []) h := fun h => lstR_ok (by show 0 ≤ 2 ^ 24; decide)
  have so : sortedD (.ref (h.length + 1)) (h.set p c2 ++ [R.map D.int, F.map D.int]) = .ok (.new ((sortI F).map D.int)) (h.set p c2 ++ [R.map D.int, F.map D.int]) := sortD_ref (two_1 (hs _))
  have g2 : decide (2 ≤ sizeLine) = true := decide_eq_true (by show 2 ≤ 2 ^ 24; decide)
  refine ⟨sortI F, c2, ?_, clause_ok (by omega) (by omega) pr, pc2.mono (by omega)⟩
  have tk : (h.set p c2 ++ [R.map D.int, F.map D.int]).take h.length = h.set p c2 := by
    rw [← hs c2]
    exact take_app
  rw [cl_succ]
  simp [fns, body__law_clause, lr, l00, g2, e1, l6, et, mn, rg, -List.map_map, ↓Fr.v_slot, ↓Fr.v_con, ↓Fr.v_bin, ↓Fr.v_neg, ↓Fr.v_cmp, ↓Fr.v_chain, ↓Fr.v_and, ↓Fr.v_or, ↓Fr.v_not, ↓Fr.v_ife, ↓Fr.v_tup, ↓Fr.v_lst, ↓Fr.v_ix, ↓Fr.v_sl, ↓Fr.v_call, ↓Fr.v_blt, ↓Fr.v_meth, ↓Fr.v_comp, ↓Fr.v_comp2, ↓Fr.v_lsc, ↓Fr.vs_nil, ↓Fr.vs_cons, ↓Fr.vt_and, ↓Fr.vt_or, ↓Fr.vt_not, ↓Fr.vt_slot, ↓Fr.vt_con, ↓Fr.vt_bin, ↓Fr.vt_neg, ↓Fr.vt_cmp, ↓Fr.vt_chain, ↓Fr.vt_ife, ↓Fr.vt_tup, ↓Fr.vt_lst, ↓Fr.vt_ix, ↓Fr.vt_sl, ↓Fr.vt_call, ↓Fr.vt_blt, ↓Fr.vt_meth, ↓Fr.vt_comp, ↓Fr.vc_nil, ↓Fr.vc_cons, ↓Fr.vi_rng1, ↓Fr.vi_rng2, ↓Fr.vi_slot, ↓Fr.vi_con, ↓Fr.vi_bin, ↓Fr.vi_neg, ↓Fr.vi_cmp, ↓Fr.vi_chain, ↓Fr.vi_ife, ↓Fr.vi_tup, ↓Fr.vi_lst, ↓Fr.vi_ix, ↓Fr.vi_sl, ↓Fr.vi_call, ↓Fr.vi_blt, ↓Fr.vi_meth, ↓Fr.vi_comp, ↓Fr.vo_nil, ↓Fr.vo_cons, ↓Fr.x_asg, ↓Fr.x_asgs, ↓Fr.x_setix, ↓Fr.x_expr, ↓Fr.x_ret, ↓Fr.x_retN, ↓Fr.x_pass, ↓Fr.x_brk, ↓Fr.x_cnt, ↓Fr.x_ifs, ↓Fr.x_whl, ↓Fr.x_for, ↓Fr.xs_nil, ↓Fr.xs_cons, ↓Fr.bindD_val, ↓Fr.bindD_new, ↓Fr.bind_ok, ↓Fr.bindO_val, ↓Fr.bindO_newT, ↓Fr.bindO_newF, ↓Fr.toS_ok, ↓Fr.seq_nx, ↓Fr.seq_ret, ↓Fr.seq_bk, ↓Fr.seq_ct, ↓Fr.iteS_t, ↓Fr.iteS_f, ↓Fr.iteR_t, ↓Fr.iteR_f, ↓Fr.optR_some, ↓Fr.okD_some, ↓Fr.okB_some, ↓Fr.okS_some, ↓Fr.andR_t, ↓Fr.andR_f, ↓Fr.orR_t, ↓Fr.orR_f, ↓Fr.chainR_t, ↓Fr.chainR_f, ↓Fr.compE_some, ↓Fr.compL_some, ↓Fr.compU_some, ↓Fr.keepR_t, ↓Fr.keepR_f, ↓Fr.keepU_t, ↓Fr.keepU_f, ↓Fr.gate_t, ↓Fr.gateS_t, C_call, C_blt0, C_blt1, C_blt2, C_blt3, C_blt4, C_blt5, C_blt6, C_blt7, C_blt8, C_blt9, C_blt10, C_blt11, C_blt12, C_blt13, C_m0, C_m1, C_m2, C_ty, C_add, C_sub, C_mul, C_fdiv, C_mod, C_pow, C_lt, C_le, C_gt, C_ge, C_eq, C_ne, C_in, C_notin, Fr.asg_nm, Fr.asg_tp, Fr.setR, Fr.getS, Fr.initR, Fr.asgR_some, Fr.truth_bl, Fr.truth_non, Fr.truth_int, Fr.truth_tup, Fr.truth_lst, Fr.truth_ref, Fr.srcOf_tup, Fr.srcOf_lst, Fr.srcOf_rol, Fr.srcOf_ref, Fr.seqOf_tup, Fr.seqOf_lst, Fr.seqOf_rol, Fr.seqOf_ref, Fr.negR_int, Fr.ixR_some, Fr.atD_int, Fr.addD_int, Fr.subD_int, Fr.ltD_int, Fr.leD_int, Fr.gtD_int, Fr.geD_int, Fr.eqD_int, Fr.neD_int, Fr.eqD_str, Fr.neD_str, Fr.lenD_tup, Fr.lenD_lst, Fr.lenD_rol, Fr.one_1, Fr.two_2, Fr.fin_nx, Fr.fin_int, Fr.fin_bl, Fr.fin_none, Fr.fin_str, Fr.okV]
  rw [List.map_nil] at eI
  rw [forI_vals, eI]
  simp [so, tup_lst, -List.map_map, ↓Fr.v_slot, ↓Fr.v_con, ↓Fr.v_bin, ↓Fr.v_neg, ↓Fr.v_cmp, ↓Fr.v_chain, ↓Fr.v_and, ↓Fr.v_or, ↓Fr.v_not, ↓Fr.v_ife, ↓Fr.v_tup, ↓Fr.v_lst, ↓Fr.v_ix, ↓Fr.v_sl, ↓Fr.v_call, ↓Fr.v_blt, ↓Fr.v_meth, ↓Fr.v_comp, ↓Fr.v_comp2, ↓Fr.v_lsc, ↓Fr.vs_nil, ↓Fr.vs_cons, ↓Fr.vt_and, ↓Fr.vt_or, ↓Fr.vt_not, ↓Fr.vt_slot, ↓Fr.vt_con, ↓Fr.vt_bin, ↓Fr.vt_neg, ↓Fr.vt_cmp, ↓Fr.vt_chain, ↓Fr.vt_ife, ↓Fr.vt_tup, ↓Fr.vt_lst, ↓Fr.vt_ix, ↓Fr.vt_sl, ↓Fr.vt_call, ↓Fr.vt_blt, ↓Fr.vt_meth, ↓Fr.vt_comp, ↓Fr.vc_nil, ↓Fr.vc_cons, ↓Fr.vi_rng1, ↓Fr.vi_rng2, ↓Fr.vi_slot, ↓Fr.vi_con, ↓Fr.vi_bin, ↓Fr.vi_neg, ↓Fr.vi_cmp, ↓Fr.vi_chain, ↓Fr.vi_ife, ↓Fr.vi_tup, ↓Fr.vi_lst, ↓Fr.vi_ix, ↓Fr.vi_sl, ↓Fr.vi_call, ↓Fr.vi_blt, ↓Fr.vi_meth, ↓Fr.vi_comp, ↓Fr.vo_nil, ↓Fr.vo_cons, ↓Fr.x_asg, ↓Fr.x_asgs, ↓Fr.x_setix, ↓Fr.x_expr, ↓Fr.x_ret, ↓Fr.x_retN, ↓Fr.x_pass, ↓Fr.x_brk, ↓Fr.x_cnt, ↓Fr.x_ifs, ↓Fr.x_whl, ↓Fr.x_for, ↓Fr.xs_nil, ↓Fr.xs_cons, ↓Fr.bindD_val, ↓Fr.bindD_new, ↓Fr.bind_ok, ↓Fr.bindO_val, ↓Fr.bindO_newT, ↓Fr.bindO_newF, ↓Fr.toS_ok, ↓Fr.seq_nx, ↓Fr.seq_ret, ↓Fr.seq_bk, ↓Fr.seq_ct, ↓Fr.iteS_t, ↓Fr.iteS_f, ↓Fr.iteR_t, ↓Fr.iteR_f, ↓Fr.optR_some, ↓Fr.okD_some, ↓Fr.okB_some, ↓Fr.okS_some, ↓Fr.andR_t, ↓Fr.andR_f, ↓Fr.orR_t, ↓Fr.orR_f, ↓Fr.chainR_t, ↓Fr.chainR_f, ↓Fr.compE_some, ↓Fr.compL_some, ↓Fr.compU_some, ↓Fr.keepR_t, ↓Fr.keepR_f, ↓Fr.keepU_t, ↓Fr.keepU_f, ↓Fr.gate_t, ↓Fr.gateS_t, C_call, C_blt0, C_blt1, C_blt2, C_blt3, C_blt4, C_blt5, C_blt6, C_blt7, C_blt8, C_blt9, C_blt10, C_blt11, C_blt12, C_blt13, C_m0, C_m1, C_m2, C_ty, C_add, C_sub, C_mul, C_fdiv, C_mod, C_pow, C_lt, C_le, C_gt, C_ge, C_eq, C_ne, C_in, C_notin, Fr.asg_nm, Fr.asg_tp, Fr.setR, Fr.getS, Fr.initR, Fr.asgR_some, Fr.truth_bl, Fr.truth_non, Fr.truth_int, Fr.truth_tup, Fr.truth_lst, Fr.truth_ref, Fr.srcOf_tup, Fr.srcOf_lst, Fr.srcOf_rol, Fr.srcOf_ref, Fr.seqOf_tup, Fr.seqOf_lst, Fr.seqOf_rol, Fr.seqOf_ref, Fr.negR_int, Fr.ixR_some, Fr.atD_int, Fr.addD_int, Fr.subD_int, Fr.ltD_int, Fr.leD_int, Fr.gtD_int, Fr.geD_int, Fr.eqD_int, Fr.neD_int, Fr.eqD_str, Fr.neD_str, Fr.lenD_tup, Fr.lenD_lst, Fr.lenD_rol, Fr.one_1, Fr.two_2, Fr.fin_nx, Fr.fin_int, Fr.fin_bl, Fr.fin_none, Fr.fin_str, Fr.okV]
  rw [fin_cD, tk]
theorem in_found (c : List Int) (f : List (List Int)) (h : Hs) (m : Nat) (e : h[m]? = some (f.map cD)) (hc : ∀ i ∈ c, i.natAbs < 10 ^ 90) (hf : ∀ c ∈ f, ∀ i ∈ c, i.natAbs < 10 ^ 90) : notinD (cD c) (.ref m) h = .ok (.val (.bl (!decide (c ∈ f)))) h := by
  have c1 : (cD c).calm = true := by
    unfold D.calm
    exact calm_ints hc
  have c2 : D.calms (f.map cD) = true := calms_all fun d hd => by
    obtain ⟨c, hc', rfl⟩ := List.mem_map.mp hd
    unfold D.calm
    exact calm_ints (hf c hc')
  have c3 : (D.lst (f.map cD)).calm = true := by
    unfold D.calm
    exact c2
  have d1 : ∀ c : List Int, (cD c).dep = 1 := fun c => by simp [D.dep, deps_ints]
  have d2 : (D.lst (f.map cD)).dep ≤ 64 := by
    have : D.deps (f.map cD) ≤ 1 := deps_le fun d hd => by
      obtain ⟨c, _, rfl⟩ := List.mem_map.mp hd
      rw [d1]
      omega
    simp only [D.dep]
    omega
  have e1 := toP_calm (h := h) c1
  have e2 := toP_ref (h := h) e c2
  have s1 := shp_calm c1 (by rw [d1]; omega)
  have s2 := shp_calm c3 d2
  have any : ∀ f : List (List Int), inAny (cD c).py (D.pys (f.map cD)) = decide (c ∈ f) := fun f => by
    induction f with
    | nil => simp [inAny, D.pys]
    | cons x f ih =>
      unfold inAny at ih ⊢
      simp only [List.map_cons, D.pys, List.any_cons, ih]
      have e3 : PyData.eqv (cD x).py (cD c).py = decide (x = c) := by
        simp only [D.py, PyData.eqv, pys_ints]
        exact eqv_ints x c
      rw [e3]
      by_cases z : x = c
      · subst z
        simp
      · simp [z, Ne.symm z]
  have py2 : (D.lst (f.map cD)).py = .list (D.pys (f.map cD)) := by simp only [D.py]
  rw [py2] at e2 s2
  show Fr.inR (fun b => !b) _ _ _ = _
  unfold Fr.inR
  rw [e1, e2]
  show gate (shp _ && shp _) (okV _ h) = _
  rw [s1, s2, any]
  rfl
theorem part_loop (n : Nat) (h : Hs) (p k : Nat) (most : D) (hp : p < h.length) (k1 : 1 ≤ k) (hk : k ≤ 1000) : ∀ (ds : List D) (F : List (List Int)) (b : Nat) (cell : List D) (o4 o5 : Option D), F.length + ds.length ≤ 1000 → F.Nodup → (∀ c ∈ F, vC k c) → PenC b cell → b + 9 * ds.length ≤ 2 ^ 40 →
    ∃ (F' : List (List Int)) (cell' : List D) (o4' o5' : Option D), forL (exs (C (n + 3)) lb__law_part_1) (G.nm 4) ds [some (.ref p), some (.int k), some most, some (.ref h.length), o4, o5] (h.set p cell ++ [F.map cD]) =
      .nx [some (.ref p), some (.int k), some most, some (.ref h.length), o4', o5'] (h.set p cell' ++ [F'.map cD]) ∧ F'.length ≤ F.length + ds.length ∧ F'.Nodup ∧ (∀ c ∈ F', vC k c) ∧ PenC (b + 9 * ds.length) cell' := by
  intro ds
  induction ds with
  | nil =>
    intro F b cell o4 o5 hl nd hF pc hb
    exact ⟨F, cell, o4, o5, rfl, Nat.le_refl _, nd, hF, pc⟩
  | cons d0 ds ih =>
    intro F b cell o4 o5 hl nd hF pc hb
    rw [List.length_cons] at hl hb
    have hs : ∀ c : List D, (h.set p c).length = h.length := fun c => List.length_set
    have hg : ∀ (c x : List D), (h.set p c ++ [x])[p]? = some c := fun c x => by
      rw [app_at (by rw [hs]; exact hp), set_at hp]
    have hsp : ∀ (c c' x : List D), (h.set p c ++ [x]).set p c' = h.set p c' ++ [x] := fun c c' x => by
      rw [app_set (by rw [hs]; exact hp), List.set_set]
    have hl1 : ∀ c x : List D, (h.set p c ++ [x])[h.length]? = some x := fun c x => by
      rw [← hs c]
      exact at_last
    have hl2 : ∀ c x y : List D, (h.set p c ++ [x]).set h.length y = h.set p c ++ [y] := fun c x y => by
      rw [← hs c]
      exact set_end
    obtain ⟨c, c1, e1, vc, pc1⟩ := c_clause n (h.set p cell ++ [F.map cD]) p k b cell (hg _ _) pc (by omega) k1 hk
    rw [hsp] at e1
    have ni := in_found c F (h.set p c1 ++ [F.map cD]) h.length (hl1 _ _) (vc.small (by omega)) (fun x hx => (hF x hx).small (by omega))
    obtain ⟨F1, nd1, hF1, l1, e⟩ : ∃ F1 : List (List Int), F1.Nodup ∧ (∀ c ∈ F1, vC k c) ∧ F1.length ≤ F.length + 1 ∧ exs (C (n + 3)) lb__law_part_1 [some (.ref p), some (.int k), some most, some (.ref h.length), some d0, o5] (h.set p cell ++ [F.map cD]) =
        .nx [some (.ref p), some (.int k), some most, some (.ref h.length), some d0, some (cD c)] (h.set p c1 ++ [F1.map cD]) := by
      by_cases y : c ∈ F
      · exact ⟨F, nd, hF, by omega, by simp [lb__law_part_1, e1, ni, y, -List.map_map, ↓Fr.v_slot, ↓Fr.v_con, ↓Fr.v_bin, ↓Fr.v_neg, ↓Fr.v_cmp, ↓Fr.v_chain, ↓Fr.v_and, ↓Fr.v_or, ↓Fr.v_not, ↓Fr.v_ife, ↓Fr.v_tup, ↓Fr.v_lst, ↓Fr.v_ix, ↓Fr.v_sl, ↓Fr.v_call, ↓Fr.v_blt, ↓Fr.v_meth, ↓Fr.v_comp, ↓Fr.v_comp2, ↓Fr.v_lsc, ↓Fr.vs_nil, ↓Fr.vs_cons, ↓Fr.vt_and, ↓Fr.vt_or, ↓Fr.vt_not, ↓Fr.vt_slot, ↓Fr.vt_con, ↓Fr.vt_bin, ↓Fr.vt_neg, ↓Fr.vt_cmp, ↓Fr.vt_chain, ↓Fr.vt_ife, ↓Fr.vt_tup, ↓Fr.vt_lst, ↓Fr.vt_ix, ↓Fr.vt_sl, ↓Fr.vt_call, ↓Fr.vt_blt, ↓Fr.vt_meth, ↓Fr.vt_comp, ↓Fr.vc_nil, ↓Fr.vc_cons, ↓Fr.vi_rng1, ↓Fr.vi_rng2, ↓Fr.vi_slot, ↓Fr.vi_con, ↓Fr.vi_bin, ↓Fr.vi_neg, ↓Fr.vi_cmp, ↓Fr.vi_chain, ↓Fr.vi_ife, ↓Fr.vi_tup, ↓Fr.vi_lst, ↓Fr.vi_ix, ↓Fr.vi_sl, ↓Fr.vi_call, ↓Fr.vi_blt, ↓Fr.vi_meth, ↓Fr.vi_comp, ↓Fr.vo_nil, ↓Fr.vo_cons, ↓Fr.x_asg, ↓Fr.x_asgs, ↓Fr.x_setix, ↓Fr.x_expr, ↓Fr.x_ret, ↓Fr.x_retN, ↓Fr.x_pass, ↓Fr.x_brk, ↓Fr.x_cnt, ↓Fr.x_ifs, ↓Fr.x_whl, ↓Fr.x_for, ↓Fr.xs_nil, ↓Fr.xs_cons, ↓Fr.bindD_val, ↓Fr.bindD_new, ↓Fr.bind_ok, ↓Fr.bindO_val, ↓Fr.bindO_newT, ↓Fr.bindO_newF, ↓Fr.toS_ok, ↓Fr.seq_nx, ↓Fr.seq_ret, ↓Fr.seq_bk, ↓Fr.seq_ct, ↓Fr.iteS_t, ↓Fr.iteS_f, ↓Fr.iteR_t, ↓Fr.iteR_f, ↓Fr.optR_some, ↓Fr.okD_some, ↓Fr.okB_some, ↓Fr.okS_some, ↓Fr.andR_t, ↓Fr.andR_f, ↓Fr.orR_t, ↓Fr.orR_f, ↓Fr.chainR_t, ↓Fr.chainR_f, ↓Fr.compE_some, ↓Fr.compL_some, ↓Fr.compU_some, ↓Fr.keepR_t, ↓Fr.keepR_f, ↓Fr.keepU_t, ↓Fr.keepU_f, ↓Fr.gate_t, ↓Fr.gateS_t, C_call, C_blt0, C_blt1, C_blt2, C_blt3, C_blt4, C_blt5, C_blt6, C_blt7, C_blt8, C_blt9, C_blt10, C_blt11, C_blt12, C_blt13, C_m0, C_m1, C_m2, C_ty, C_add, C_sub, C_mul, C_fdiv, C_mod, C_pow, C_lt, C_le, C_gt, C_ge, C_eq, C_ne, C_in, C_notin, Fr.asg_nm, Fr.asg_tp, Fr.setR, Fr.getS, Fr.initR, Fr.asgR_some, Fr.truth_bl, Fr.truth_non, Fr.truth_int, Fr.truth_tup, Fr.truth_lst, Fr.truth_ref, Fr.srcOf_tup, Fr.srcOf_lst, Fr.srcOf_rol, Fr.srcOf_ref, Fr.seqOf_tup, Fr.seqOf_lst, Fr.seqOf_rol, Fr.seqOf_ref, Fr.negR_int, Fr.ixR_some, Fr.atD_int, Fr.addD_int, Fr.subD_int, Fr.ltD_int, Fr.leD_int, Fr.gtD_int, Fr.geD_int, Fr.eqD_int, Fr.neD_int, Fr.eqD_str, Fr.neD_str, Fr.lenD_tup, Fr.lenD_lst, Fr.lenD_rol, Fr.one_1, Fr.two_2, Fr.fin_nx, Fr.fin_int, Fr.fin_bl, Fr.fin_none, Fr.fin_str, Fr.okV]⟩
      · have ap : appendD (.ref h.length) [cD c] (h.set p c1 ++ [F.map cD]) = .ok (.val .non) (h.set p c1 ++ [(F ++ [c]).map cD]) := by
          rw [append_at (hl1 _ _) (by rw [List.length_map]; omega) (by unfold D.und; exact und_c _ _), hl2, List.map_append]
          rfl
        refine ⟨F ++ [c], List.nodup_append.mpr ⟨nd, by simp, fun a ha b hb z => y ?_⟩, fun x hx => ?_, by simp, by simp [lb__law_part_1, isListD, e1, ni, y, ap, -List.map_map, ↓Fr.v_slot, ↓Fr.v_con, ↓Fr.v_bin, ↓Fr.v_neg, ↓Fr.v_cmp, ↓Fr.v_chain, ↓Fr.v_and, ↓Fr.v_or, ↓Fr.v_not, ↓Fr.v_ife, ↓Fr.v_tup, ↓Fr.v_lst, ↓Fr.v_ix, ↓Fr.v_sl, ↓Fr.v_call, ↓Fr.v_blt, ↓Fr.v_meth, ↓Fr.v_comp, ↓Fr.v_comp2, ↓Fr.v_lsc, ↓Fr.vs_nil, ↓Fr.vs_cons, ↓Fr.vt_and, ↓Fr.vt_or, ↓Fr.vt_not, ↓Fr.vt_slot, ↓Fr.vt_con, ↓Fr.vt_bin, ↓Fr.vt_neg, ↓Fr.vt_cmp, ↓Fr.vt_chain, ↓Fr.vt_ife, ↓Fr.vt_tup, ↓Fr.vt_lst, ↓Fr.vt_ix, ↓Fr.vt_sl, ↓Fr.vt_call, ↓Fr.vt_blt, ↓Fr.vt_meth, ↓Fr.vt_comp, ↓Fr.vc_nil, ↓Fr.vc_cons, ↓Fr.vi_rng1, ↓Fr.vi_rng2, ↓Fr.vi_slot, ↓Fr.vi_con, ↓Fr.vi_bin, ↓Fr.vi_neg, ↓Fr.vi_cmp, ↓Fr.vi_chain, ↓Fr.vi_ife, ↓Fr.vi_tup, ↓Fr.vi_lst, ↓Fr.vi_ix, ↓Fr.vi_sl, ↓Fr.vi_call, ↓Fr.vi_blt, ↓Fr.vi_meth, ↓Fr.vi_comp, ↓Fr.vo_nil, ↓Fr.vo_cons, ↓Fr.x_asg, ↓Fr.x_asgs, ↓Fr.x_setix, ↓Fr.x_expr, ↓Fr.x_ret, ↓Fr.x_retN, ↓Fr.x_pass, ↓Fr.x_brk, ↓Fr.x_cnt, ↓Fr.x_ifs, ↓Fr.x_whl, ↓Fr.x_for, ↓Fr.xs_nil, ↓Fr.xs_cons, ↓Fr.bindD_val, ↓Fr.bindD_new, ↓Fr.bind_ok, ↓Fr.bindO_val, ↓Fr.bindO_newT, ↓Fr.bindO_newF, ↓Fr.toS_ok, ↓Fr.seq_nx, ↓Fr.seq_ret, ↓Fr.seq_bk, ↓Fr.seq_ct, ↓Fr.iteS_t, ↓Fr.iteS_f, ↓Fr.iteR_t, ↓Fr.iteR_f, ↓Fr.optR_some, ↓Fr.okD_some, ↓Fr.okB_some, ↓Fr.okS_some, ↓Fr.andR_t, ↓Fr.andR_f, ↓Fr.orR_t, ↓Fr.orR_f, ↓Fr.chainR_t, ↓Fr.chainR_f, ↓Fr.compE_some, ↓Fr.compL_some, ↓Fr.compU_some, ↓Fr.keepR_t, ↓Fr.keepR_f, ↓Fr.keepU_t, ↓Fr.keepU_f, ↓Fr.gate_t, ↓Fr.gateS_t, C_call, C_blt0, C_blt1, C_blt2, C_blt3, C_blt4, C_blt5, C_blt6, C_blt7, C_blt8, C_blt9, C_blt10, C_blt11, C_blt12, C_blt13, C_m0, C_m1, C_m2, C_ty, C_add, C_sub, C_mul, C_fdiv, C_mod, C_pow, C_lt, C_le, C_gt, C_ge, C_eq, C_ne, C_in, C_notin, Fr.asg_nm, Fr.asg_tp, Fr.setR, Fr.getS, Fr.initR, Fr.asgR_some, Fr.truth_bl, Fr.truth_non, Fr.truth_int, Fr.truth_tup, Fr.truth_lst, Fr.truth_ref, Fr.srcOf_tup, Fr.srcOf_lst, Fr.srcOf_rol, Fr.srcOf_ref, Fr.seqOf_tup, Fr.seqOf_lst, Fr.seqOf_rol, Fr.seqOf_ref, Fr.negR_int, Fr.ixR_some, Fr.atD_int, Fr.addD_int, Fr.subD_int, Fr.ltD_int, Fr.leD_int, Fr.gtD_int, Fr.geD_int, Fr.eqD_int, Fr.neD_int, Fr.eqD_str, Fr.neD_str, Fr.lenD_tup, Fr.lenD_lst, Fr.lenD_rol, Fr.one_1, Fr.two_2, Fr.fin_nx, Fr.fin_int, Fr.fin_bl, Fr.fin_none, Fr.fin_str, Fr.okV]⟩
        · rw [List.mem_singleton.mp hb] at z
          exact z ▸ ha
        · rcases List.mem_append.mp hx with z | z
          · exact hF x z
          · rw [List.mem_singleton.mp z]
            exact vc
    obtain ⟨F', cell', o4', o5', eI, i1, i2, i3, i4⟩ := ih F1 (b + 9) c1 (some d0) (some (cD c)) (by omega) nd1 hF1 pc1 (by omega)
    refine ⟨F', cell', o4', o5', ?_, by rw [List.length_cons]; omega, i2, i3, i4.mono (by rw [List.length_cons]; omega)⟩
    simp only [forL, asg_nm, List.set_cons_succ, List.set_cons_zero, e]
    exact eI
theorem c_part (n : Nat) (h : Hs) (p k m b : Nat) (cell : List D) (hg : h[p]? = some cell) (pc : PenC b cell) (hb : b ≤ 2 ^ 39) (k1 : 1 ≤ k) (k2 : k ≤ 1000) (hm : m ≤ 16) :
    ∃ (q : List (List Int)) (cell' : List D), cl (n + 4) 16 [.ref p, .int k, .int m] h = .ok (.val (pD q)) (h.set p cell') ∧ vP k q ∧ PenC (b + 200) cell' := by
  have hp : p < h.length := (List.getElem?_eq_some_iff.mp hg).1
  have hs : ∀ c : List D, (h.set p c).length = h.length := fun c => List.length_set
  have hgs : (h ++ [[]])[p]? = some cell := by
    rw [app_at hp]
    exact hg
  obtain ⟨d, c1, e1, hd, pc1⟩ := c_draw (n + 1) (h ++ [[]]) p ((m : Int) + 1) b cell hgs pc (by omega) (by omega) (by
    have : (1000 : Nat) < 2 ^ 8000 := by decide +kernel
    omega)
  have e1s : (h ++ [[]]).set p c1 = h.set p c1 ++ [[]] := app_set hp
  rw [e1s] at e1
  have rg : ∀ h, rng1R (.int (d : Nat)) h = .ok (.vals (rngD 0 d)) h := fun h => by
    rw [rng1R_int (decide_eq_true (by omega))]
    simp
  have ld : (rngD 0 d).length = d := by rw [rng0]; simp
  obtain ⟨F, c2, o4, o5, eI, lF, nd, hF, pc2⟩ := part_loop n h p k (.int m) hp k1 k2 (rngD 0 d) [] (b + 1) c1 none none (by rw [ld, List.length_nil]; omega) List.nodup_nil (by simp) pc1 (by rw [ld]; omega)
  rw [ld] at lF pc2
  rw [List.length_nil] at lF
  have l00 : ∀ h, lstR [] h = .ok (.new []) h := fun h => lstR_ok (by show 0 ≤ 2 ^ 24; decide)
  have tu : tupD (.ref h.length) (h.set p c2 ++ [F.map cD]) = .ok (.val (pD F)) (h.set p c2 ++ [F.map cD]) := by
    have z : (h.set p c2 ++ [F.map cD])[h.length]? = some (F.map cD) := by
      rw [← hs c2]
      exact at_last
    simp only [tupD, seqOf, z]
    rfl
  have tk : (h.set p c2 ++ [F.map cD]).take h.length = h.set p c2 := by
    rw [← hs c2]
    exact take_app
  refine ⟨F, c2, ?_, ⟨by omega, hF, nub_self nd⟩, pc2.mono (by omega)⟩
  rw [cl_succ]
  simp [fns, body__law_part, l00, e1, rg, -List.map_map, ↓Fr.v_slot, ↓Fr.v_con, ↓Fr.v_bin, ↓Fr.v_neg, ↓Fr.v_cmp, ↓Fr.v_chain, ↓Fr.v_and, ↓Fr.v_or, ↓Fr.v_not, ↓Fr.v_ife, ↓Fr.v_tup, ↓Fr.v_lst, ↓Fr.v_ix, ↓Fr.v_sl, ↓Fr.v_call, ↓Fr.v_blt, ↓Fr.v_meth, ↓Fr.v_comp, ↓Fr.v_comp2, ↓Fr.v_lsc, ↓Fr.vs_nil, ↓Fr.vs_cons, ↓Fr.vt_and, ↓Fr.vt_or, ↓Fr.vt_not, ↓Fr.vt_slot, ↓Fr.vt_con, ↓Fr.vt_bin, ↓Fr.vt_neg, ↓Fr.vt_cmp, ↓Fr.vt_chain, ↓Fr.vt_ife, ↓Fr.vt_tup, ↓Fr.vt_lst, ↓Fr.vt_ix, ↓Fr.vt_sl, ↓Fr.vt_call, ↓Fr.vt_blt, ↓Fr.vt_meth, ↓Fr.vt_comp, ↓Fr.vc_nil, ↓Fr.vc_cons, ↓Fr.vi_rng1, ↓Fr.vi_rng2, ↓Fr.vi_slot, ↓Fr.vi_con, ↓Fr.vi_bin, ↓Fr.vi_neg, ↓Fr.vi_cmp, ↓Fr.vi_chain, ↓Fr.vi_ife, ↓Fr.vi_tup, ↓Fr.vi_lst, ↓Fr.vi_ix, ↓Fr.vi_sl, ↓Fr.vi_call, ↓Fr.vi_blt, ↓Fr.vi_meth, ↓Fr.vi_comp, ↓Fr.vo_nil, ↓Fr.vo_cons, ↓Fr.x_asg, ↓Fr.x_asgs, ↓Fr.x_setix, ↓Fr.x_expr, ↓Fr.x_ret, ↓Fr.x_retN, ↓Fr.x_pass, ↓Fr.x_brk, ↓Fr.x_cnt, ↓Fr.x_ifs, ↓Fr.x_whl, ↓Fr.x_for, ↓Fr.xs_nil, ↓Fr.xs_cons, ↓Fr.bindD_val, ↓Fr.bindD_new, ↓Fr.bind_ok, ↓Fr.bindO_val, ↓Fr.bindO_newT, ↓Fr.bindO_newF, ↓Fr.toS_ok, ↓Fr.seq_nx, ↓Fr.seq_ret, ↓Fr.seq_bk, ↓Fr.seq_ct, ↓Fr.iteS_t, ↓Fr.iteS_f, ↓Fr.iteR_t, ↓Fr.iteR_f, ↓Fr.optR_some, ↓Fr.okD_some, ↓Fr.okB_some, ↓Fr.okS_some, ↓Fr.andR_t, ↓Fr.andR_f, ↓Fr.orR_t, ↓Fr.orR_f, ↓Fr.chainR_t, ↓Fr.chainR_f, ↓Fr.compE_some, ↓Fr.compL_some, ↓Fr.compU_some, ↓Fr.keepR_t, ↓Fr.keepR_f, ↓Fr.keepU_t, ↓Fr.keepU_f, ↓Fr.gate_t, ↓Fr.gateS_t, C_call, C_blt0, C_blt1, C_blt2, C_blt3, C_blt4, C_blt5, C_blt6, C_blt7, C_blt8, C_blt9, C_blt10, C_blt11, C_blt12, C_blt13, C_m0, C_m1, C_m2, C_ty, C_add, C_sub, C_mul, C_fdiv, C_mod, C_pow, C_lt, C_le, C_gt, C_ge, C_eq, C_ne, C_in, C_notin, Fr.asg_nm, Fr.asg_tp, Fr.setR, Fr.getS, Fr.initR, Fr.asgR_some, Fr.truth_bl, Fr.truth_non, Fr.truth_int, Fr.truth_tup, Fr.truth_lst, Fr.truth_ref, Fr.srcOf_tup, Fr.srcOf_lst, Fr.srcOf_rol, Fr.srcOf_ref, Fr.seqOf_tup, Fr.seqOf_lst, Fr.seqOf_rol, Fr.seqOf_ref, Fr.negR_int, Fr.ixR_some, Fr.atD_int, Fr.addD_int, Fr.subD_int, Fr.ltD_int, Fr.leD_int, Fr.gtD_int, Fr.geD_int, Fr.eqD_int, Fr.neD_int, Fr.eqD_str, Fr.neD_str, Fr.lenD_tup, Fr.lenD_lst, Fr.lenD_rol, Fr.one_1, Fr.two_2, Fr.fin_nx, Fr.fin_int, Fr.fin_bl, Fr.fin_none, Fr.fin_str, Fr.okV]
  rw [List.map_nil] at eI
  rw [forI_vals, eI]
  simp [tu, -List.map_map, ↓Fr.v_slot, ↓Fr.v_con, ↓Fr.v_bin, ↓Fr.v_neg, ↓Fr.v_cmp, ↓Fr.v_chain, ↓Fr.v_and, ↓Fr.v_or, ↓Fr.v_not, ↓Fr.v_ife, ↓Fr.v_tup, ↓Fr.v_lst, ↓Fr.v_ix, ↓Fr.v_sl, ↓Fr.v_call, ↓Fr.v_blt, ↓Fr.v_meth, ↓Fr.v_comp, ↓Fr.v_comp2, ↓Fr.v_lsc, ↓Fr.vs_nil, ↓Fr.vs_cons, ↓Fr.vt_and, ↓Fr.vt_or, ↓Fr.vt_not, ↓Fr.vt_slot, ↓Fr.vt_con, ↓Fr.vt_bin, ↓Fr.vt_neg, ↓Fr.vt_cmp, ↓Fr.vt_chain, ↓Fr.vt_ife, ↓Fr.vt_tup, ↓Fr.vt_lst, ↓Fr.vt_ix, ↓Fr.vt_sl, ↓Fr.vt_call, ↓Fr.vt_blt, ↓Fr.vt_meth, ↓Fr.vt_comp, ↓Fr.vc_nil, ↓Fr.vc_cons, ↓Fr.vi_rng1, ↓Fr.vi_rng2, ↓Fr.vi_slot, ↓Fr.vi_con, ↓Fr.vi_bin, ↓Fr.vi_neg, ↓Fr.vi_cmp, ↓Fr.vi_chain, ↓Fr.vi_ife, ↓Fr.vi_tup, ↓Fr.vi_lst, ↓Fr.vi_ix, ↓Fr.vi_sl, ↓Fr.vi_call, ↓Fr.vi_blt, ↓Fr.vi_meth, ↓Fr.vi_comp, ↓Fr.vo_nil, ↓Fr.vo_cons, ↓Fr.x_asg, ↓Fr.x_asgs, ↓Fr.x_setix, ↓Fr.x_expr, ↓Fr.x_ret, ↓Fr.x_retN, ↓Fr.x_pass, ↓Fr.x_brk, ↓Fr.x_cnt, ↓Fr.x_ifs, ↓Fr.x_whl, ↓Fr.x_for, ↓Fr.xs_nil, ↓Fr.xs_cons, ↓Fr.bindD_val, ↓Fr.bindD_new, ↓Fr.bind_ok, ↓Fr.bindO_val, ↓Fr.bindO_newT, ↓Fr.bindO_newF, ↓Fr.toS_ok, ↓Fr.seq_nx, ↓Fr.seq_ret, ↓Fr.seq_bk, ↓Fr.seq_ct, ↓Fr.iteS_t, ↓Fr.iteS_f, ↓Fr.iteR_t, ↓Fr.iteR_f, ↓Fr.optR_some, ↓Fr.okD_some, ↓Fr.okB_some, ↓Fr.okS_some, ↓Fr.andR_t, ↓Fr.andR_f, ↓Fr.orR_t, ↓Fr.orR_f, ↓Fr.chainR_t, ↓Fr.chainR_f, ↓Fr.compE_some, ↓Fr.compL_some, ↓Fr.compU_some, ↓Fr.keepR_t, ↓Fr.keepR_f, ↓Fr.keepU_t, ↓Fr.keepU_f, ↓Fr.gate_t, ↓Fr.gateS_t, C_call, C_blt0, C_blt1, C_blt2, C_blt3, C_blt4, C_blt5, C_blt6, C_blt7, C_blt8, C_blt9, C_blt10, C_blt11, C_blt12, C_blt13, C_m0, C_m1, C_m2, C_ty, C_add, C_sub, C_mul, C_fdiv, C_mod, C_pow, C_lt, C_le, C_gt, C_ge, C_eq, C_ne, C_in, C_notin, Fr.asg_nm, Fr.asg_tp, Fr.setR, Fr.getS, Fr.initR, Fr.asgR_some, Fr.truth_bl, Fr.truth_non, Fr.truth_int, Fr.truth_tup, Fr.truth_lst, Fr.truth_ref, Fr.srcOf_tup, Fr.srcOf_lst, Fr.srcOf_rol, Fr.srcOf_ref, Fr.seqOf_tup, Fr.seqOf_lst, Fr.seqOf_rol, Fr.seqOf_ref, Fr.negR_int, Fr.ixR_some, Fr.atD_int, Fr.addD_int, Fr.subD_int, Fr.ltD_int, Fr.leD_int, Fr.gtD_int, Fr.geD_int, Fr.eqD_int, Fr.neD_int, Fr.eqD_str, Fr.neD_str, Fr.lenD_tup, Fr.lenD_lst, Fr.lenD_rol, Fr.one_1, Fr.two_2, Fr.fin_nx, Fr.fin_int, Fr.fin_bl, Fr.fin_none, Fr.fin_str, Fr.okV]
  rw [fin_tup (und_p _ _), tk]
end K02
set_option Elab.async false
set_option linter.all false
set_option maxRecDepth 100000
set_option maxHeartbeats 4000000
namespace K02
open PySem PySem.Spec PyProof.Rows L2 Fr
def okC (s : Int) (c : List Int) : Bool := decide (1 ≤ c.length) && decide (c.length ≤ 4) && c.all (fun l => decide (1 ≤ ab l) && decide (ab l ≤ s)) && decide ((nub (c.map ab)).length = c.length) && decide (sortI c = c)
theorem okC_v {s : Int} {c : List Int} (e : okC s c = true) : vC s c := by
  unfold okC at e
  simp only [Bool.and_eq_true, decide_eq_true_eq, List.all_eq_true] at e
  obtain ⟨⟨⟨⟨e1, e2⟩, e3⟩, e4⟩, e5⟩ := e
  exact ⟨e1, e2, e3, e4, e5⟩
def okP (s : Int) (p : List (List Int)) : Bool := decide (p.length ≤ 16) && p.all (okC s) && decide ((nub p).length = p.length)
theorem okP_v {s : Int} {p : List (List Int)} (e : okP s p = true) : vP s p := by
  unfold okP at e
  simp only [Bool.and_eq_true, decide_eq_true_eq, List.all_eq_true] at e
  exact ⟨e.1.1, fun c hc => okC_v (e.1.2 c hc), e.2⟩
def okW (w : Wr) : Bool := decide (1 ≤ w.ins) && decide (w.ins ≤ 2) && decide (w.ins ≤ w.wide) && decide (w.wide ≤ 4) && okP w.wide w.f && okP w.wide w.e && okP (2 * w.wide) w.n && okP w.wide w.l
theorem okW_v {w : Wr} (e : okW w = true) : vW w := by
  unfold okW at e
  simp only [Bool.and_eq_true, decide_eq_true_eq] at e
  obtain ⟨⟨⟨⟨⟨⟨⟨e1, e2⟩, e3⟩, e4⟩, e5⟩, e6⟩, e7⟩, e8⟩ := e
  exact ⟨e1, e2, e3, e4, okP_v e5, okP_v e6, okP_v e7, okP_v e8⟩
def typed : List Wr := [
  ⟨1, 2, [], [[-1, 2]], [[-2, 4], [-3, -2]], []⟩,
  ⟨1, 3, [], [[-1, 2]], [[-2, 5], [-4, -2, 6], [-6, -4, -2]], []⟩,
  ⟨1, 2, [[-2, 1], [-1, 2]], [], [[-4, 2, 3], [-4, -3, -2], [-3, 2, 4], [-2, 3, 4]], [[-2]]⟩,
  ⟨1, 3, [], [[-1, 2], [-3, 2]], [[-2, 5], [-3, 6], [-4, -2, 6], [-4, -3]], []⟩,
  ⟨2, 2, [], [[-2, 1]], [[-3, 1], [-1, 3]], [[1, 2]]⟩]
theorem typed_ok : ∀ w ∈ typed, vW w := by
  have e : typed.all okW = true := by decide +kernel
  rw [List.all_eq_true] at e
  exact fun w hw => okW_v (e w hw)
theorem tup10 {ds : List D} {h : Hs} (hl : ds.length ≤ 10) : tupR ds h = .ok (.val (.tup ds)) h := tupR_ok (by show _ ≤ 2 ^ 24; omega)
theorem lst10 {ds : List D} {h : Hs} (hl : ds.length ≤ 10) : lstR ds h = .ok (.new ds) h := lstR_ok (by show _ ≤ 2 ^ 24; omega)
theorem wD_und {m : Nat} {w : Wr} : (wD w).und m = true := D.flatv_und (by
  have e : ∀ p : List (List Int), D.flatvs (p.map cD) = true := fun p => by
    exact flatvs_all fun d hd => by
      obtain ⟨c, hc, rfl⟩ := List.mem_map.mp hd
      unfold D.flatv
      exact flat_ints c
  unfold wD D.flatv
  simp only [D.flatvs, D.flatv, e]
  rfl)
theorem c_typed (n : Nat) (h : Hs) : cl (n + 1) 17 [] h = .ok (.new (typed.map wD)) h := by
  rw [cl_succ]
  simp [fns, body__law_typed, tup10, lst10, -List.map_map, ↓Fr.v_slot, ↓Fr.v_con, ↓Fr.v_bin, ↓Fr.v_neg, ↓Fr.v_cmp, ↓Fr.v_chain, ↓Fr.v_and, ↓Fr.v_or, ↓Fr.v_not, ↓Fr.v_ife, ↓Fr.v_tup, ↓Fr.v_lst, ↓Fr.v_ix, ↓Fr.v_sl, ↓Fr.v_call, ↓Fr.v_blt, ↓Fr.v_meth, ↓Fr.v_comp, ↓Fr.v_comp2, ↓Fr.v_lsc, ↓Fr.vs_nil, ↓Fr.vs_cons, ↓Fr.vt_and, ↓Fr.vt_or, ↓Fr.vt_not, ↓Fr.vt_slot, ↓Fr.vt_con, ↓Fr.vt_bin, ↓Fr.vt_neg, ↓Fr.vt_cmp, ↓Fr.vt_chain, ↓Fr.vt_ife, ↓Fr.vt_tup, ↓Fr.vt_lst, ↓Fr.vt_ix, ↓Fr.vt_sl, ↓Fr.vt_call, ↓Fr.vt_blt, ↓Fr.vt_meth, ↓Fr.vt_comp, ↓Fr.vc_nil, ↓Fr.vc_cons, ↓Fr.vi_rng1, ↓Fr.vi_rng2, ↓Fr.vi_slot, ↓Fr.vi_con, ↓Fr.vi_bin, ↓Fr.vi_neg, ↓Fr.vi_cmp, ↓Fr.vi_chain, ↓Fr.vi_ife, ↓Fr.vi_tup, ↓Fr.vi_lst, ↓Fr.vi_ix, ↓Fr.vi_sl, ↓Fr.vi_call, ↓Fr.vi_blt, ↓Fr.vi_meth, ↓Fr.vi_comp, ↓Fr.vo_nil, ↓Fr.vo_cons, ↓Fr.x_asg, ↓Fr.x_asgs, ↓Fr.x_setix, ↓Fr.x_expr, ↓Fr.x_ret, ↓Fr.x_retN, ↓Fr.x_pass, ↓Fr.x_brk, ↓Fr.x_cnt, ↓Fr.x_ifs, ↓Fr.x_whl, ↓Fr.x_for, ↓Fr.xs_nil, ↓Fr.xs_cons, ↓Fr.bindD_val, ↓Fr.bindD_new, ↓Fr.bind_ok, ↓Fr.bindO_val, ↓Fr.bindO_newT, ↓Fr.bindO_newF, ↓Fr.toS_ok, ↓Fr.seq_nx, ↓Fr.seq_ret, ↓Fr.seq_bk, ↓Fr.seq_ct, ↓Fr.iteS_t, ↓Fr.iteS_f, ↓Fr.iteR_t, ↓Fr.iteR_f, ↓Fr.optR_some, ↓Fr.okD_some, ↓Fr.okB_some, ↓Fr.okS_some, ↓Fr.andR_t, ↓Fr.andR_f, ↓Fr.orR_t, ↓Fr.orR_f, ↓Fr.chainR_t, ↓Fr.chainR_f, ↓Fr.compE_some, ↓Fr.compL_some, ↓Fr.compU_some, ↓Fr.keepR_t, ↓Fr.keepR_f, ↓Fr.keepU_t, ↓Fr.keepU_f, ↓Fr.gate_t, ↓Fr.gateS_t, C_call, C_blt0, C_blt1, C_blt2, C_blt3, C_blt4, C_blt5, C_blt6, C_blt7, C_blt8, C_blt9, C_blt10, C_blt11, C_blt12, C_blt13, C_m0, C_m1, C_m2, C_ty, C_add, C_sub, C_mul, C_fdiv, C_mod, C_pow, C_lt, C_le, C_gt, C_ge, C_eq, C_ne, C_in, C_notin, Fr.asg_nm, Fr.asg_tp, Fr.setR, Fr.getS, Fr.initR, Fr.asgR_some, Fr.truth_bl, Fr.truth_non, Fr.truth_int, Fr.truth_tup, Fr.truth_lst, Fr.truth_ref, Fr.srcOf_tup, Fr.srcOf_lst, Fr.srcOf_rol, Fr.srcOf_ref, Fr.seqOf_tup, Fr.seqOf_lst, Fr.seqOf_rol, Fr.seqOf_ref, Fr.negR_int, Fr.ixR_some, Fr.atD_int, Fr.addD_int, Fr.subD_int, Fr.ltD_int, Fr.leD_int, Fr.gtD_int, Fr.geD_int, Fr.eqD_int, Fr.neD_int, Fr.eqD_str, Fr.neD_str, Fr.lenD_tup, Fr.lenD_lst, Fr.lenD_rol, Fr.one_1, Fr.two_2, Fr.fin_nx, Fr.fin_int, Fr.fin_bl, Fr.fin_none, Fr.fin_str, Fr.okV]
  rw [fin_new, List.take_length]
  · rfl
  · rfl
def knF (M : Nat) : D → Option D
  | .tup (a :: .int w :: r) => if w ≤ M then some (.tup (a :: .int w :: r)) else none
  | _ => none
theorem kn_filter (M : Nat) : ∀ l : List Wr, (l.map wD).filterMap (knF M) = (l.filter fun w => decide (w.wide ≤ (M : Int))).map wD
  | [] => rfl
  | w :: l => by
    rw [List.map_cons, List.filterMap_cons, kn_filter M l, List.filter_cons]
    by_cases z : w.wide ≤ M
    · simp [knF, z]
    · simp [knF, z]
theorem three (d : Nat) (hd : d < 3) : ∃ t : Nat, 1 ≤ t ∧ t ≤ 2 ∧ L2.atI [D.int 1, D.int 1, D.int 2] (d : Int) = some (.int t) := by
  have : d = 0 ∨ d = 1 ∨ d = 2 := by omega
  rcases this with rfl | rfl | rfl
  · exact ⟨1, by omega, by omega, by rw [atI_ofNat]; rfl⟩
  · exact ⟨1, by omega, by omega, by rw [atI_ofNat]; rfl⟩
  · exact ⟨2, by omega, by omega, by rw [atI_ofNat]; rfl⟩
theorem small8 {u : Nat} (hu : u ≤ 1000) : (u : Int).natAbs < 2 ^ 8000 := by
  have : (1000 : Nat) < 2 ^ 8000 := by decide +kernel
  omega
theorem c_writing (n : Nat) (h : Hs) (p M m b : Nat) (cell : List D) (hg : h[p]? = some cell) (pc : PenC b cell) (hb : b ≤ 2 ^ 38) (M2 : 2 ≤ M) (M4 : M ≤ 4) (hm : m ≤ 16) :
    ∃ (w : Wr) (cell' : List D), cl (n + 5) 18 [.ref p, .int M, .int m] h = .ok (.val (wD w)) (h.set p cell') ∧ vW w ∧ PenC (b + 1000) cell' := by
  have hp : p < h.length := (List.getElem?_eq_some_iff.mp hg).1
  have hs : ∀ c : List D, (h.set p c).length = h.length := fun c => List.length_set
  have hgs : ∀ c : List D, (h.set p c)[p]? = some c := fun c => set_at hp
  have ss : ∀ c c' : List D, (h.set p c).set p c' = h.set p c' := fun c c' => List.set_set _
  have tk : ∀ c : List D, (h.set p c).take h.length = h.set p c := fun c => by
    rw [← hs c, List.take_length]
  obtain ⟨K, eK⟩ : ∃ K, K = typed.filter fun w => decide (w.wide ≤ (M : Int)) := ⟨_, rfl⟩
  have K5 : K.length ≤ 5 := by
    rw [eK]
    exact List.length_filter_le _ _
  have K1 : 1 ≤ K.length := by
    have m1 : (⟨1, 2, [], [[-1, 2]], [[-2, 4], [-3, -2]], []⟩ : Wr) ∈ K := by
      rw [eK]
      exact List.mem_filter.mpr ⟨List.mem_cons_self, decide_eq_true (by show (2 : Int) ≤ M; omega)⟩
    exact List.length_pos_of_mem m1
  have KV : ∀ w ∈ K, vW w := fun w hw => by
    rw [eK] at hw
    exact typed_ok w (List.mem_filter.mp hw).1
  have mk : mapS (compF (C (n + 4)) [some (.ref p), some (.int M), some (.int m), none, none, none, none, none, none] (.slot 8) (.nm 8) (.cons (.cmp .le (.ix (.slot 8) (.con (.int 1))) (.slot 1)) .nil) [8]) (.vals (typed.map wD)) h = .ok (.new (K.map wD)) h := by
    rw [mapS_pure (knF M), kn_filter, ← eK]
    · intro x hx a
      obtain ⟨w, hw, rfl⟩ := List.mem_map.mp hx
      by_cases z : w.wide ≤ M
      · simp [compF_at, wipeR, atI_1, z, knF, -List.map_map, ↓Fr.v_slot, ↓Fr.v_con, ↓Fr.v_bin, ↓Fr.v_neg, ↓Fr.v_cmp, ↓Fr.v_chain, ↓Fr.v_and, ↓Fr.v_or, ↓Fr.v_not, ↓Fr.v_ife, ↓Fr.v_tup, ↓Fr.v_lst, ↓Fr.v_ix, ↓Fr.v_sl, ↓Fr.v_call, ↓Fr.v_blt, ↓Fr.v_meth, ↓Fr.v_comp, ↓Fr.v_comp2, ↓Fr.v_lsc, ↓Fr.vs_nil, ↓Fr.vs_cons, ↓Fr.vt_and, ↓Fr.vt_or, ↓Fr.vt_not, ↓Fr.vt_slot, ↓Fr.vt_con, ↓Fr.vt_bin, ↓Fr.vt_neg, ↓Fr.vt_cmp, ↓Fr.vt_chain, ↓Fr.vt_ife, ↓Fr.vt_tup, ↓Fr.vt_lst, ↓Fr.vt_ix, ↓Fr.vt_sl, ↓Fr.vt_call, ↓Fr.vt_blt, ↓Fr.vt_meth, ↓Fr.vt_comp, ↓Fr.vc_nil, ↓Fr.vc_cons, ↓Fr.vi_rng1, ↓Fr.vi_rng2, ↓Fr.vi_slot, ↓Fr.vi_con, ↓Fr.vi_bin, ↓Fr.vi_neg, ↓Fr.vi_cmp, ↓Fr.vi_chain, ↓Fr.vi_ife, ↓Fr.vi_tup, ↓Fr.vi_lst, ↓Fr.vi_ix, ↓Fr.vi_sl, ↓Fr.vi_call, ↓Fr.vi_blt, ↓Fr.vi_meth, ↓Fr.vi_comp, ↓Fr.vo_nil, ↓Fr.vo_cons, ↓Fr.x_asg, ↓Fr.x_asgs, ↓Fr.x_setix, ↓Fr.x_expr, ↓Fr.x_ret, ↓Fr.x_retN, ↓Fr.x_pass, ↓Fr.x_brk, ↓Fr.x_cnt, ↓Fr.x_ifs, ↓Fr.x_whl, ↓Fr.x_for, ↓Fr.xs_nil, ↓Fr.xs_cons, ↓Fr.bindD_val, ↓Fr.bindD_new, ↓Fr.bind_ok, ↓Fr.bindO_val, ↓Fr.bindO_newT, ↓Fr.bindO_newF, ↓Fr.toS_ok, ↓Fr.seq_nx, ↓Fr.seq_ret, ↓Fr.seq_bk, ↓Fr.seq_ct, ↓Fr.iteS_t, ↓Fr.iteS_f, ↓Fr.iteR_t, ↓Fr.iteR_f, ↓Fr.optR_some, ↓Fr.okD_some, ↓Fr.okB_some, ↓Fr.okS_some, ↓Fr.andR_t, ↓Fr.andR_f, ↓Fr.orR_t, ↓Fr.orR_f, ↓Fr.chainR_t, ↓Fr.chainR_f, ↓Fr.compE_some, ↓Fr.compL_some, ↓Fr.compU_some, ↓Fr.keepR_t, ↓Fr.keepR_f, ↓Fr.keepU_t, ↓Fr.keepU_f, ↓Fr.gate_t, ↓Fr.gateS_t, C_call, C_blt0, C_blt1, C_blt2, C_blt3, C_blt4, C_blt5, C_blt6, C_blt7, C_blt8, C_blt9, C_blt10, C_blt11, C_blt12, C_blt13, C_m0, C_m1, C_m2, C_ty, C_add, C_sub, C_mul, C_fdiv, C_mod, C_pow, C_lt, C_le, C_gt, C_ge, C_eq, C_ne, C_in, C_notin, Fr.asg_nm, Fr.asg_tp, Fr.setR, Fr.getS, Fr.initR, Fr.asgR_some, Fr.truth_bl, Fr.truth_non, Fr.truth_int, Fr.truth_tup, Fr.truth_lst, Fr.truth_ref, Fr.srcOf_tup, Fr.srcOf_lst, Fr.srcOf_rol, Fr.srcOf_ref, Fr.seqOf_tup, Fr.seqOf_lst, Fr.seqOf_rol, Fr.seqOf_ref, Fr.negR_int, Fr.ixR_some, Fr.atD_int, Fr.addD_int, Fr.subD_int, Fr.ltD_int, Fr.leD_int, Fr.gtD_int, Fr.geD_int, Fr.eqD_int, Fr.neD_int, Fr.eqD_str, Fr.neD_str, Fr.lenD_tup, Fr.lenD_lst, Fr.lenD_rol, Fr.one_1, Fr.two_2, Fr.fin_nx, Fr.fin_int, Fr.fin_bl, Fr.fin_none, Fr.fin_str, Fr.okV]
      · simp [compF_at, wipeR, atI_1, z, knF, -List.map_map, ↓Fr.v_slot, ↓Fr.v_con, ↓Fr.v_bin, ↓Fr.v_neg, ↓Fr.v_cmp, ↓Fr.v_chain, ↓Fr.v_and, ↓Fr.v_or, ↓Fr.v_not, ↓Fr.v_ife, ↓Fr.v_tup, ↓Fr.v_lst, ↓Fr.v_ix, ↓Fr.v_sl, ↓Fr.v_call, ↓Fr.v_blt, ↓Fr.v_meth, ↓Fr.v_comp, ↓Fr.v_comp2, ↓Fr.v_lsc, ↓Fr.vs_nil, ↓Fr.vs_cons, ↓Fr.vt_and, ↓Fr.vt_or, ↓Fr.vt_not, ↓Fr.vt_slot, ↓Fr.vt_con, ↓Fr.vt_bin, ↓Fr.vt_neg, ↓Fr.vt_cmp, ↓Fr.vt_chain, ↓Fr.vt_ife, ↓Fr.vt_tup, ↓Fr.vt_lst, ↓Fr.vt_ix, ↓Fr.vt_sl, ↓Fr.vt_call, ↓Fr.vt_blt, ↓Fr.vt_meth, ↓Fr.vt_comp, ↓Fr.vc_nil, ↓Fr.vc_cons, ↓Fr.vi_rng1, ↓Fr.vi_rng2, ↓Fr.vi_slot, ↓Fr.vi_con, ↓Fr.vi_bin, ↓Fr.vi_neg, ↓Fr.vi_cmp, ↓Fr.vi_chain, ↓Fr.vi_ife, ↓Fr.vi_tup, ↓Fr.vi_lst, ↓Fr.vi_ix, ↓Fr.vi_sl, ↓Fr.vi_call, ↓Fr.vi_blt, ↓Fr.vi_meth, ↓Fr.vi_comp, ↓Fr.vo_nil, ↓Fr.vo_cons, ↓Fr.x_asg, ↓Fr.x_asgs, ↓Fr.x_setix, ↓Fr.x_expr, ↓Fr.x_ret, ↓Fr.x_retN, ↓Fr.x_pass, ↓Fr.x_brk, ↓Fr.x_cnt, ↓Fr.x_ifs, ↓Fr.x_whl, ↓Fr.x_for, ↓Fr.xs_nil, ↓Fr.xs_cons, ↓Fr.bindD_val, ↓Fr.bindD_new, ↓Fr.bind_ok, ↓Fr.bindO_val, ↓Fr.bindO_newT, ↓Fr.bindO_newF, ↓Fr.toS_ok, ↓Fr.seq_nx, ↓Fr.seq_ret, ↓Fr.seq_bk, ↓Fr.seq_ct, ↓Fr.iteS_t, ↓Fr.iteS_f, ↓Fr.iteR_t, ↓Fr.iteR_f, ↓Fr.optR_some, ↓Fr.okD_some, ↓Fr.okB_some, ↓Fr.okS_some, ↓Fr.andR_t, ↓Fr.andR_f, ↓Fr.orR_t, ↓Fr.orR_f, ↓Fr.chainR_t, ↓Fr.chainR_f, ↓Fr.compE_some, ↓Fr.compL_some, ↓Fr.compU_some, ↓Fr.keepR_t, ↓Fr.keepR_f, ↓Fr.keepU_t, ↓Fr.keepU_f, ↓Fr.gate_t, ↓Fr.gateS_t, C_call, C_blt0, C_blt1, C_blt2, C_blt3, C_blt4, C_blt5, C_blt6, C_blt7, C_blt8, C_blt9, C_blt10, C_blt11, C_blt12, C_blt13, C_m0, C_m1, C_m2, C_ty, C_add, C_sub, C_mul, C_fdiv, C_mod, C_pow, C_lt, C_le, C_gt, C_ge, C_eq, C_ne, C_in, C_notin, Fr.asg_nm, Fr.asg_tp, Fr.setR, Fr.getS, Fr.initR, Fr.asgR_some, Fr.truth_bl, Fr.truth_non, Fr.truth_int, Fr.truth_tup, Fr.truth_lst, Fr.truth_ref, Fr.srcOf_tup, Fr.srcOf_lst, Fr.srcOf_rol, Fr.srcOf_ref, Fr.seqOf_tup, Fr.seqOf_lst, Fr.seqOf_rol, Fr.seqOf_ref, Fr.negR_int, Fr.ixR_some, Fr.atD_int, Fr.addD_int, Fr.subD_int, Fr.ltD_int, Fr.leD_int, Fr.gtD_int, Fr.geD_int, Fr.eqD_int, Fr.neD_int, Fr.eqD_str, Fr.neD_str, Fr.lenD_tup, Fr.lenD_lst, Fr.lenD_rol, Fr.one_1, Fr.two_2, Fr.fin_nx, Fr.fin_int, Fr.fin_bl, Fr.fin_none, Fr.fin_str, Fr.okV]
    · intro x hx y hy
      obtain ⟨w, hw, rfl⟩ := List.mem_map.mp hx
      have e : y = wD w := by
        unfold knF at hy
        simp only at hy
        split at hy
        · exact (Option.some.inj hy).symm
        · cases hy
      rw [e]
      exact wD_und
    · rw [List.length_map]
      show 5 ≤ 2 ^ 24
      decide
  obtain ⟨d1, c1, e1, hd1, pc1⟩ := c_draw (n + 2) h p 4 b cell hg pc (by omega) (by omega) (small8 (u := 4) (by omega))
  by_cases y : d1 = 0
  · subst y
    obtain ⟨d2, c2, e2, hd2, pc2⟩ := c_draw (n + 2) (h.set p c1) p K.length (b + 1) c1 (hgs _) pc1 (by omega) (by omega) (small8 (by omega))
    rw [ss] at e2
    have hd2' : d2 < K.length := by omega
    have at_ : L2.atI (K.map wD) (d2 : Int) = some (wD K[d2]) := by
      rw [atI_ofNat, List.getElem?_map, List.getElem?_eq_getElem hd2']
      rfl
    refine ⟨K[d2], c2, ?_, KV _ (List.getElem_mem hd2'), pc2.mono (by omega)⟩
    rw [cl_succ]
    simp [fns, body__law_writing, c_typed, mk, e1, e2, at_, -List.map_map, ↓Fr.v_slot, ↓Fr.v_con, ↓Fr.v_bin, ↓Fr.v_neg, ↓Fr.v_cmp, ↓Fr.v_chain, ↓Fr.v_and, ↓Fr.v_or, ↓Fr.v_not, ↓Fr.v_ife, ↓Fr.v_tup, ↓Fr.v_lst, ↓Fr.v_ix, ↓Fr.v_sl, ↓Fr.v_call, ↓Fr.v_blt, ↓Fr.v_meth, ↓Fr.v_comp, ↓Fr.v_comp2, ↓Fr.v_lsc, ↓Fr.vs_nil, ↓Fr.vs_cons, ↓Fr.vt_and, ↓Fr.vt_or, ↓Fr.vt_not, ↓Fr.vt_slot, ↓Fr.vt_con, ↓Fr.vt_bin, ↓Fr.vt_neg, ↓Fr.vt_cmp, ↓Fr.vt_chain, ↓Fr.vt_ife, ↓Fr.vt_tup, ↓Fr.vt_lst, ↓Fr.vt_ix, ↓Fr.vt_sl, ↓Fr.vt_call, ↓Fr.vt_blt, ↓Fr.vt_meth, ↓Fr.vt_comp, ↓Fr.vc_nil, ↓Fr.vc_cons, ↓Fr.vi_rng1, ↓Fr.vi_rng2, ↓Fr.vi_slot, ↓Fr.vi_con, ↓Fr.vi_bin, ↓Fr.vi_neg, ↓Fr.vi_cmp, ↓Fr.vi_chain, ↓Fr.vi_ife, ↓Fr.vi_tup, ↓Fr.vi_lst, ↓Fr.vi_ix, ↓Fr.vi_sl, ↓Fr.vi_call, ↓Fr.vi_blt, ↓Fr.vi_meth, ↓Fr.vi_comp, ↓Fr.vo_nil, ↓Fr.vo_cons, ↓Fr.x_asg, ↓Fr.x_asgs, ↓Fr.x_setix, ↓Fr.x_expr, ↓Fr.x_ret, ↓Fr.x_retN, ↓Fr.x_pass, ↓Fr.x_brk, ↓Fr.x_cnt, ↓Fr.x_ifs, ↓Fr.x_whl, ↓Fr.x_for, ↓Fr.xs_nil, ↓Fr.xs_cons, ↓Fr.bindD_val, ↓Fr.bindD_new, ↓Fr.bind_ok, ↓Fr.bindO_val, ↓Fr.bindO_newT, ↓Fr.bindO_newF, ↓Fr.toS_ok, ↓Fr.seq_nx, ↓Fr.seq_ret, ↓Fr.seq_bk, ↓Fr.seq_ct, ↓Fr.iteS_t, ↓Fr.iteS_f, ↓Fr.iteR_t, ↓Fr.iteR_f, ↓Fr.optR_some, ↓Fr.okD_some, ↓Fr.okB_some, ↓Fr.okS_some, ↓Fr.andR_t, ↓Fr.andR_f, ↓Fr.orR_t, ↓Fr.orR_f, ↓Fr.chainR_t, ↓Fr.chainR_f, ↓Fr.compE_some, ↓Fr.compL_some, ↓Fr.compU_some, ↓Fr.keepR_t, ↓Fr.keepR_f, ↓Fr.keepU_t, ↓Fr.keepU_f, ↓Fr.gate_t, ↓Fr.gateS_t, C_call, C_blt0, C_blt1, C_blt2, C_blt3, C_blt4, C_blt5, C_blt6, C_blt7, C_blt8, C_blt9, C_blt10, C_blt11, C_blt12, C_blt13, C_m0, C_m1, C_m2, C_ty, C_add, C_sub, C_mul, C_fdiv, C_mod, C_pow, C_lt, C_le, C_gt, C_ge, C_eq, C_ne, C_in, C_notin, Fr.asg_nm, Fr.asg_tp, Fr.setR, Fr.getS, Fr.initR, Fr.asgR_some, Fr.truth_bl, Fr.truth_non, Fr.truth_int, Fr.truth_tup, Fr.truth_lst, Fr.truth_ref, Fr.srcOf_tup, Fr.srcOf_lst, Fr.srcOf_rol, Fr.srcOf_ref, Fr.seqOf_tup, Fr.seqOf_lst, Fr.seqOf_rol, Fr.seqOf_ref, Fr.negR_int, Fr.ixR_some, Fr.atD_int, Fr.addD_int, Fr.subD_int, Fr.ltD_int, Fr.leD_int, Fr.gtD_int, Fr.geD_int, Fr.eqD_int, Fr.neD_int, Fr.eqD_str, Fr.neD_str, Fr.lenD_tup, Fr.lenD_lst, Fr.lenD_rol, Fr.one_1, Fr.two_2, Fr.fin_nx, Fr.fin_int, Fr.fin_bl, Fr.fin_none, Fr.fin_str, Fr.okV]
    rw [fin_tup (by have z := wD_und (m := h.length) (w := K[d2]); unfold D.und at z; exact z), tk]
  · have y' : ¬ (d1 : Int) = 0 := by omega
    obtain ⟨d2, c2, e2, hd2, pc2⟩ := c_draw (n + 2) (h.set p c1) p 3 (b + 1) c1 (hgs _) pc1 (by omega) (by omega) (small8 (u := 3) (by omega))
    rw [ss] at e2
    obtain ⟨t, t1, t2, et⟩ := three d2 (by omega)
    obtain ⟨d3, c3, e3, hd3, pc3⟩ := c_draw (n + 2) (h.set p c2) p 3 (b + 2) c2 (hgs _) pc2 (by omega) (by omega) (small8 (u := 3) (by omega))
    rw [ss] at e3
    have m1 : ∀ h, minD (.int t) (.int M) h = .ok (.val (.int t)) h := fun h => by
      simp only [minD, int2]
      rw [if_neg (by omega)]
      rfl
    obtain ⟨q, eq, q1, q2⟩ : ∃ q : Nat, (if (t : Int) + d3 < (M : Int) then (t : Int) + d3 else (M : Int)) = q ∧ t ≤ q ∧ q ≤ M := by
      by_cases z : (t : Int) + d3 < M
      · exact ⟨t + d3, by rw [if_pos z]; omega, by omega, by omega⟩
      · exact ⟨M, by rw [if_neg z], by omega, by omega⟩
    have m2 : ∀ h, minD (.int M) (.int ((t : Int) + d3)) h = .ok (.val (.int q)) h := fun h => by
      simp only [minD, int2, eq]
      rfl
    obtain ⟨p4, c4, e4, v4, pc4⟩ := c_part n (h.set p c3) p q 4 (b + 3) c3 (hgs _) pc3 (by omega) (by omega) (by omega) (by omega)
    obtain ⟨p5, c5, e5, v5, pc5⟩ := c_part n (h.set p c4) p q m (b + 3 + 200) c4 (hgs _) pc4 (by omega) (by omega) (by omega) hm
    obtain ⟨p6, c6, e6, v6, pc6⟩ := c_part n (h.set p c5) p (2 * q) m (b + 3 + 200 + 200) c5 (hgs _) pc5 (by omega) (by omega) (by omega) hm
    obtain ⟨p7, c7, e7, v7, pc7⟩ := c_part n (h.set p c6) p q 4 (b + 3 + 200 + 200 + 200) c6 (hgs _) pc6 (by omega) (by omega) (by omega) (by omega)
    rw [ss] at e4 e5 e6 e7
    have x2 : ((2 * q : Nat) : Int) = 2 * (q : Int) := by omega
    rw [x2] at e6 v6
    have mu : ∀ h, mulD (.int 2) (.int (q : Nat)) h = .ok (.val (.int (2 * (q : Int)))) h := fun h => mulD_intL (by decide)
    have g2 : decide (2 ≤ sizeLine) = true := decide_eq_true (by show 2 ≤ 2 ^ 24; decide)
    refine ⟨⟨t, q, p4, p5, p6, p7⟩, c7, ?_, ⟨by show (1 : Int) ≤ t; omega, by show (t : Int) ≤ 2; omega, by show (t : Int) ≤ q; omega, by show (q : Int) ≤ 4; omega, v4, v5, v6, v7⟩, pc7.mono (by omega)⟩
    have n4 : ((4 : Nat) : Int) = 4 := rfl
    rw [n4] at e4 e7
    rw [cl_succ]
    simp [fns, body__law_writing, c_typed, mk, e1, y', y, e2, et, e3, m1, m2, e4, e5, e6, e7, mu, g2, tup10, lst10, -List.map_map, ↓Fr.v_slot, ↓Fr.v_con, ↓Fr.v_bin, ↓Fr.v_neg, ↓Fr.v_cmp, ↓Fr.v_chain, ↓Fr.v_and, ↓Fr.v_or, ↓Fr.v_not, ↓Fr.v_ife, ↓Fr.v_tup, ↓Fr.v_lst, ↓Fr.v_ix, ↓Fr.v_sl, ↓Fr.v_call, ↓Fr.v_blt, ↓Fr.v_meth, ↓Fr.v_comp, ↓Fr.v_comp2, ↓Fr.v_lsc, ↓Fr.vs_nil, ↓Fr.vs_cons, ↓Fr.vt_and, ↓Fr.vt_or, ↓Fr.vt_not, ↓Fr.vt_slot, ↓Fr.vt_con, ↓Fr.vt_bin, ↓Fr.vt_neg, ↓Fr.vt_cmp, ↓Fr.vt_chain, ↓Fr.vt_ife, ↓Fr.vt_tup, ↓Fr.vt_lst, ↓Fr.vt_ix, ↓Fr.vt_sl, ↓Fr.vt_call, ↓Fr.vt_blt, ↓Fr.vt_meth, ↓Fr.vt_comp, ↓Fr.vc_nil, ↓Fr.vc_cons, ↓Fr.vi_rng1, ↓Fr.vi_rng2, ↓Fr.vi_slot, ↓Fr.vi_con, ↓Fr.vi_bin, ↓Fr.vi_neg, ↓Fr.vi_cmp, ↓Fr.vi_chain, ↓Fr.vi_ife, ↓Fr.vi_tup, ↓Fr.vi_lst, ↓Fr.vi_ix, ↓Fr.vi_sl, ↓Fr.vi_call, ↓Fr.vi_blt, ↓Fr.vi_meth, ↓Fr.vi_comp, ↓Fr.vo_nil, ↓Fr.vo_cons, ↓Fr.x_asg, ↓Fr.x_asgs, ↓Fr.x_setix, ↓Fr.x_expr, ↓Fr.x_ret, ↓Fr.x_retN, ↓Fr.x_pass, ↓Fr.x_brk, ↓Fr.x_cnt, ↓Fr.x_ifs, ↓Fr.x_whl, ↓Fr.x_for, ↓Fr.xs_nil, ↓Fr.xs_cons, ↓Fr.bindD_val, ↓Fr.bindD_new, ↓Fr.bind_ok, ↓Fr.bindO_val, ↓Fr.bindO_newT, ↓Fr.bindO_newF, ↓Fr.toS_ok, ↓Fr.seq_nx, ↓Fr.seq_ret, ↓Fr.seq_bk, ↓Fr.seq_ct, ↓Fr.iteS_t, ↓Fr.iteS_f, ↓Fr.iteR_t, ↓Fr.iteR_f, ↓Fr.optR_some, ↓Fr.okD_some, ↓Fr.okB_some, ↓Fr.okS_some, ↓Fr.andR_t, ↓Fr.andR_f, ↓Fr.orR_t, ↓Fr.orR_f, ↓Fr.chainR_t, ↓Fr.chainR_f, ↓Fr.compE_some, ↓Fr.compL_some, ↓Fr.compU_some, ↓Fr.keepR_t, ↓Fr.keepR_f, ↓Fr.keepU_t, ↓Fr.keepU_f, ↓Fr.gate_t, ↓Fr.gateS_t, C_call, C_blt0, C_blt1, C_blt2, C_blt3, C_blt4, C_blt5, C_blt6, C_blt7, C_blt8, C_blt9, C_blt10, C_blt11, C_blt12, C_blt13, C_m0, C_m1, C_m2, C_ty, C_add, C_sub, C_mul, C_fdiv, C_mod, C_pow, C_lt, C_le, C_gt, C_ge, C_eq, C_ne, C_in, C_notin, Fr.asg_nm, Fr.asg_tp, Fr.setR, Fr.getS, Fr.initR, Fr.asgR_some, Fr.truth_bl, Fr.truth_non, Fr.truth_int, Fr.truth_tup, Fr.truth_lst, Fr.truth_ref, Fr.srcOf_tup, Fr.srcOf_lst, Fr.srcOf_rol, Fr.srcOf_ref, Fr.seqOf_tup, Fr.seqOf_lst, Fr.seqOf_rol, Fr.seqOf_ref, Fr.negR_int, Fr.ixR_some, Fr.atD_int, Fr.addD_int, Fr.subD_int, Fr.ltD_int, Fr.leD_int, Fr.gtD_int, Fr.geD_int, Fr.eqD_int, Fr.neD_int, Fr.eqD_str, Fr.neD_str, Fr.lenD_tup, Fr.lenD_lst, Fr.lenD_rol, Fr.one_1, Fr.two_2, Fr.fin_nx, Fr.fin_int, Fr.fin_bl, Fr.fin_none, Fr.fin_str, Fr.okV]
    rw [fin_tup (by have z := wD_und (m := h.length) (w := ⟨t, q, p4, p5, p6, p7⟩); unfold D.und at z; exact z), tk]
end K02
set_option Elab.async false
set_option linter.all false
set_option maxRecDepth 100000
set_option maxHeartbeats 4000000
namespace K02
open PySem PySem.Spec PyProof.Rows L2 Fr
theorem pow9 {h : Hs} : powD (.int 10) (.int 9) h = .ok (.val (.int 1000000000)) h := by simp [powD, int2, okD]
theorem pow20 {h : Hs} : powD (.int 10) (.int 20) h = .ok (.val (.int 100000000000000000000)) h := by simp [powD, int2, okD]
theorem pow38 {h : Hs} : powD (.int 10) (.int 38) h = .ok (.val (.int 100000000000000000000000000000000000000)) h := by simp [powD, int2, okD]
theorem pow40 {h : Hs} : powD (.int 10) (.int 40) h = .ok (.val (.int 10000000000000000000000000000000000000000)) h := by simp [powD, int2, okD]
theorem pow60 {h : Hs} : powD (.int 10) (.int 60) h = .ok (.val (.int 1000000000000000000000000000000000000000000000000000000000000)) h := by simp [powD, int2, okD]
/-! ## what is shown is small -/
theorem lit_small {i : Int} (hi : i.natAbs ≤ 10000) : i.natAbs < 10 ^ 90 := by
  have : (10000 : Nat) < 10 ^ 90 := by decide +kernel
  omega
theorem cD_sz {c : List Int} (hl : c.length ≤ 4) : (cD c).sz ≤ 375 := by
  simp only [D.sz]
  have e : D.szs (c.map .int) ≤ (91 + 2) * (c.map D.int).length := szs_le fun d hd => by
    obtain ⟨i, hi, rfl⟩ := List.mem_map.mp hd
    exact Nat.le_refl _
  rw [List.length_map] at e
  have : 93 * c.length ≤ 93 * 4 := Nat.mul_le_mul_left _ hl
  omega
theorem cD_calm {c : List Int} (hc : ∀ i ∈ c, i.natAbs ≤ 10000) : (cD c).calm = true := by
  unfold D.calm
  exact calm_ints fun i hi => lit_small (hc i hi)
theorem cs_calm {f : List (List Int)} (hc : ∀ c ∈ f, ∀ i ∈ c, i.natAbs ≤ 10000) : D.calms (f.map cD) = true := calms_all fun d hd => by
  obtain ⟨c, hc', rfl⟩ := List.mem_map.mp hd
  exact cD_calm (hc c hc')
theorem cs_dep (f : List (List Int)) : D.deps (f.map cD) ≤ 1 := deps_le fun d hd => by
  obtain ⟨c, _, rfl⟩ := List.mem_map.mp hd
  simp [D.dep, deps_ints]
theorem cs_sz {f : List (List Int)} (hc : ∀ c ∈ f, c.length ≤ 4) : D.szs (f.map cD) ≤ 377 * f.length := by
  have e := szs_le (n := 375) (ds := f.map cD) fun d hd => by
    obtain ⟨c, hc', rfl⟩ := List.mem_map.mp hd
    exact cD_sz (hc c hc')
  rw [List.length_map] at e
  exact e
theorem vP.lit {s : Int} {p : List (List Int)} (v : vP s p) (hs : s ≤ 8) : ∀ c ∈ p, c.length ≤ 4 ∧ ∀ i ∈ c, i.natAbs ≤ 8 := fun c hc => ⟨(v.all c hc).l4, fun i hi => by
  have := (v.all c hc).lit i hi
  have e := nat_ab i
  omega⟩
theorem mvl_small {b i : Int} (hb : b.natAbs ≤ 4000) (hi : i.natAbs ≤ 8) : (mvl b i).natAbs ≤ 10000 := by
  unfold mvl
  split <;> omega
theorem spr_lit {s : Int} {p : List (List Int)} {z : Int} {m : Nat} (v : vP s p) (hs : s ≤ 8) (z0 : 0 ≤ z) (z4 : z ≤ 4) (hm : m ≤ 1000) : ∀ c ∈ spr p z m, c.length ≤ 4 ∧ ∀ i ∈ c, i.natAbs ≤ 10000 := fun c hc => by
  obtain ⟨k, hk, hc⟩ := List.mem_flatMap.mp hc
  obtain ⟨c0, hc0, rfl⟩ := List.mem_map.mp hc
  have lk := List.mem_range.mp hk
  obtain ⟨l4, li⟩ := v.lit hs c0 hc0
  refine ⟨by rw [List.length_map]; exact l4, fun i hi => ?_⟩
  obtain ⟨i0, hi0, rfl⟩ := List.mem_map.mp hi
  refine mvl_small ?_ (li i0 hi0)
  have e1 : (k : Int) * z ≤ 1000 * 4 := Int.mul_le_mul (by omega) z4 z0 (by omega)
  have e2 : 0 ≤ (k : Int) * z := Int.mul_nonneg (by omega) z0
  omega
theorem flt_lit {w : Wr} {m : Nat} (v : vW w) (h1 : 1 ≤ m) (hm : m ≤ 1000) : ∀ c ∈ flt w m, c.length ≤ 4 ∧ ∀ i ∈ c, i.natAbs ≤ 10000 := fun c hc => by
  have w4 := v.w4
  have w1 := v.w1
  have i1 := v.i1
  unfold flt at hc
  rcases List.mem_append.mp hc with hc | hc
  · rcases List.mem_append.mp hc with hc | hc
    · rcases List.mem_append.mp hc with hc | hc
      · obtain ⟨a, b⟩ := v.f.lit (by omega) c hc
        exact ⟨a, fun i hi => by have := b i hi; omega⟩
      · exact spr_lit v.e (by omega) (by omega) w4 hm c hc
    · exact spr_lit v.n (by omega) (by omega) w4 (by omega) c hc
  · obtain ⟨c0, hc0, rfl⟩ := List.mem_map.mp hc
    obtain ⟨l4, li⟩ := v.l.lit (by omega) c0 hc0
    refine ⟨by rw [List.length_map]; exact l4, fun i hi => ?_⟩
    obtain ⟨i0, hi0, rfl⟩ := List.mem_map.mp hi
    refine mvl_small ?_ (li i0 hi0)
    have e1 : ((m : Int) - 1) * w.wide ≤ 1000 * 4 := Int.mul_le_mul (by omega) w4 (by omega) (by omega)
    have e2 : 0 ≤ ((m : Int) - 1) * w.wide := Int.mul_nonneg (by omega) (by omega)
    omega
theorem flt_len {w : Wr} {m : Nat} : (flt w m).length = w.f.length + m * w.e.length + (m - 1) * w.n.length + w.l.length := by
  unfold flt
  simp only [List.length_append, List.length_map, spr_len]
theorem flt_cst {w : Wr} {m : Nat} (h1 : 1 ≤ m) : ((flt w m).length : Int) = cst w m := by
  rw [flt_len]
  unfold cst
  have e : ((m - 1 : Nat) : Int) = (m : Int) - 1 := by omega
  rw [Int.natCast_add, Int.natCast_add, Int.natCast_add, Int.natCast_mul, Int.natCast_mul, e]
theorem flt_few {w : Wr} {m : Nat} (v : vW w) (hm : m ≤ 300) : (flt w m).length ≤ 9632 := by
  rw [flt_len]
  have lf := v.f.l16
  have le := v.e.l16
  have ln := v.n.l16
  have ll := v.l.l16
  have m1 : m * w.e.length ≤ 300 * 16 := Nat.mul_le_mul hm le
  have m2 : (m - 1) * w.n.length ≤ 300 * 16 := Nat.mul_le_mul (by omega) ln
  omega
theorem show_flt {w : Wr} {m : Nat} {h : Hs} (v : vW w) (h1 : 1 ≤ m) (hm : m ≤ 300) : showD (.lst ((flt w m).map cD)) h = .ok (.val (.str (D.lst ((flt w m).map cD)).shown)) h := by
  have lit := flt_lit v h1 (by omega)
  have few := flt_few v hm
  have sz := cs_sz (f := flt w m) fun c hc => (lit c hc).1
  have dp := cs_dep (flt w m)
  refine show_val (by unfold D.calm; exact cs_calm fun c hc => (lit c hc).2) (by simp only [D.dep]; omega) (by simp only [D.sz]; omega)
theorem show_fltr {w : Wr} {m k : Nat} {h : Hs} (v : vW w) (h1 : 1 ≤ m) (hm : m ≤ 300) (e : h[k]? = some ((flt w m).map cD)) : showD (.ref k) h = .ok (.val (.str (D.lst ((flt w m).map cD)).shown)) h := by
  have lit := flt_lit v h1 (by omega)
  have few := flt_few v hm
  have sz := cs_sz (f := flt w m) fun c hc => (lit c hc).1
  have dp := cs_dep (flt w m)
  exact show_ref e (cs_calm fun c hc => (lit c hc).2) (by omega) (by omega)
theorem show_wD {w : Wr} {h : Hs} (v : vW w) : showD (wD w) h = .ok (.val (.str (wD w).shown)) h := by
  have w4 := v.w4
  have w1 := v.w1
  have i1 := v.i1
  have i2 := v.i2
  have pc : ∀ {s p}, vP s p → s ≤ 8 → (pD p).calm = true ∧ (pD p).dep ≤ 2 ∧ (pD p).sz ≤ 10000 := fun {s p} v hs => by
    have lit := v.lit hs
    have dp := cs_dep p
    have sz := cs_sz (f := p) fun c hc => (lit c hc).1
    have l16 := v.l16
    refine ⟨by unfold D.calm; exact cs_calm fun c hc i hi => by have := (lit c hc).2 i hi; omega, by simp only [D.dep]; omega, by simp only [D.sz]; omega⟩
  obtain ⟨a1, a2, a3⟩ := pc v.f (by omega)
  obtain ⟨b1, b2, b3⟩ := pc v.e (by omega)
  obtain ⟨c1, c2, c3⟩ := pc v.n (by omega)
  obtain ⟨d1, d2, d3⟩ := pc v.l (by omega)
  have k1 : (D.int w.ins).calm = true := by
    unfold D.calm
    exact decide_eq_true (lit_small (by omega))
  have k2 : (D.int w.wide).calm = true := by
    unfold D.calm
    exact decide_eq_true (lit_small (by omega))
  refine show_val ?_ ?_ ?_
  · unfold wD D.calm
    simp only [D.calms, a1, b1, c1, d1, k1, k2]
    rfl
  · have e : D.deps [.int w.ins, .int w.wide, pD w.f, pD w.e, pD w.n, pD w.l] ≤ 2 := deps_le fun d hd => by
      simp only [List.mem_cons, List.not_mem_nil, or_false] at hd
      rcases hd with rfl | rfl | rfl | rfl | rfl | rfl <;> first | assumption | (simp only [D.dep]; omega)
    unfold wD
    rw [show (D.tup [.int w.ins, .int w.wide, pD w.f, pD w.e, pD w.n, pD w.l]).dep = D.deps [.int w.ins, .int w.wide, pD w.f, pD w.e, pD w.n, pD w.l] + 1 by simp only [D.dep]]
    omega
  · have e := szs_le (n := 10000) (ds := [.int w.ins, .int w.wide, pD w.f, pD w.e, pD w.n, pD w.l]) fun d hd => by
      simp only [List.mem_cons, List.not_mem_nil, or_false] at hd
      rcases hd with rfl | rfl | rfl | rfl | rfl | rfl <;> first | assumption | (simp only [D.sz]; omega)
    unfold wD
    rw [show (D.tup [.int w.ins, .int w.wide, pD w.f, pD w.e, pD w.n, pD w.l]).sz = D.szs [.int w.ins, .int w.wide, pD w.f, pD w.e, pD w.n, pD w.l] + 3 by simp only [D.sz]]
    have e2 : (10000 + 2) * [D.int w.ins, D.int w.wide, pD w.f, pD w.e, pD w.n, pD w.l].length = 10002 * 6 := rfl
    omega
theorem show_cost {w : Wr} {k : Int} {h : Hs} (v : vW w) (h1 : 1 ≤ k) (h2 : k ≤ 10 ^ 61) : showD (.tup [.int (k * w.wide), .int (cst w k)]) h = .ok (.val (.str (D.tup [.int (k * w.wide), .int (cst w k)]).shown)) h := by
  have w4 := v.w4
  have w1 := v.w1
  have i1 := v.i1
  have lf := v.f.l16
  have le := v.e.l16
  have ln := v.n.l16
  have ll := v.l.l16
  have a1 : k * w.wide ≤ k * 4 := Int.mul_le_mul_of_nonneg_left w4 (by omega)
  have a2 : 0 ≤ k * w.wide := Int.mul_nonneg (by omega) (by omega)
  have b1 : k * (w.e.length : Int) ≤ k * 16 := Int.mul_le_mul_of_nonneg_left (by omega) (by omega)
  have b2 : 0 ≤ k * (w.e.length : Int) := Int.mul_nonneg (by omega) (by omega)
  have c1 : (k - 1) * (w.n.length : Int) ≤ (k - 1) * 16 := Int.mul_le_mul_of_nonneg_left (by omega) (by omega)
  have c2 : 0 ≤ (k - 1) * (w.n.length : Int) := Int.mul_nonneg (by omega) (by omega)
  have big : (1000 : Nat) * 10 ^ 61 < 10 ^ 90 := by decide +kernel
  have h2' : k.toNat ≤ 10 ^ 61 := by omega
  have k1 : (D.int (k * w.wide)).calm = true := by
    unfold D.calm
    exact decide_eq_true (by omega)
  have k2 : (D.int (cst w k)).calm = true := by
    unfold D.calm cst
    exact decide_eq_true (by omega)
  refine show_val ?_ ?_ ?_
  · unfold D.calm
    simp only [D.calms, k1, k2]
    rfl
  · simp only [D.dep, D.deps]
    omega
  · simp only [D.sz, D.szs]
    omega
end K02
set_option Elab.async false
set_option linter.all false
set_option maxRecDepth 100000
set_option maxHeartbeats 4000000
namespace K02
open PySem PySem.Spec PyProof.Rows L2 Fr
theorem big8 {u : Int} (h0 : 0 ≤ u) (hu : u ≤ 10 ^ 61) : u.natAbs < 2 ^ 8000 := by
  have : (10 : Nat) ^ 61 < 2 ^ 8000 := by decide +kernel
  omega
theorem lb2 (n : Nat) (w : Wr) (v : vW w) (k : Int) (h : Hs) (h1 : 1 ≤ k) (h2 : k ≤ 10 ^ 61) (o0 o1 o2 o4 o5 o6 o7 o8 : Option D) : exs (C (n + 7)) lb_law_2 [o0, o1, o2, some (wD w), o4, o5, o6, o7, o8, some (.int k)] h = .nx [o0, o1, o2, some (wD w), o4, o5, o6, o7, o8, some (.int k)] h := by
  have e1 := c_cost n w k h v h1
  have e2 := c_law_cost (n + 6) w k h v
  have e3 := show_cost (h := h) v h1 h2
  simp [lb_law_2, e1, e2, e3, -List.map_map, ↓Fr.v_slot, ↓Fr.v_con, ↓Fr.v_bin, ↓Fr.v_neg, ↓Fr.v_cmp, ↓Fr.v_chain, ↓Fr.v_and, ↓Fr.v_or, ↓Fr.v_not, ↓Fr.v_ife, ↓Fr.v_tup, ↓Fr.v_lst, ↓Fr.v_ix, ↓Fr.v_sl, ↓Fr.v_call, ↓Fr.v_blt, ↓Fr.v_meth, ↓Fr.v_comp, ↓Fr.v_comp2, ↓Fr.v_lsc, ↓Fr.vs_nil, ↓Fr.vs_cons, ↓Fr.vt_and, ↓Fr.vt_or, ↓Fr.vt_not, ↓Fr.vt_slot, ↓Fr.vt_con, ↓Fr.vt_bin, ↓Fr.vt_neg, ↓Fr.vt_cmp, ↓Fr.vt_chain, ↓Fr.vt_ife, ↓Fr.vt_tup, ↓Fr.vt_lst, ↓Fr.vt_ix, ↓Fr.vt_sl, ↓Fr.vt_call, ↓Fr.vt_blt, ↓Fr.vt_meth, ↓Fr.vt_comp, ↓Fr.vc_nil, ↓Fr.vc_cons, ↓Fr.vi_rng1, ↓Fr.vi_rng2, ↓Fr.vi_slot, ↓Fr.vi_con, ↓Fr.vi_bin, ↓Fr.vi_neg, ↓Fr.vi_cmp, ↓Fr.vi_chain, ↓Fr.vi_ife, ↓Fr.vi_tup, ↓Fr.vi_lst, ↓Fr.vi_ix, ↓Fr.vi_sl, ↓Fr.vi_call, ↓Fr.vi_blt, ↓Fr.vi_meth, ↓Fr.vi_comp, ↓Fr.vo_nil, ↓Fr.vo_cons, ↓Fr.x_asg, ↓Fr.x_asgs, ↓Fr.x_setix, ↓Fr.x_expr, ↓Fr.x_ret, ↓Fr.x_retN, ↓Fr.x_pass, ↓Fr.x_brk, ↓Fr.x_cnt, ↓Fr.x_ifs, ↓Fr.x_whl, ↓Fr.x_for, ↓Fr.xs_nil, ↓Fr.xs_cons, ↓Fr.bindD_val, ↓Fr.bindD_new, ↓Fr.bind_ok, ↓Fr.bindO_val, ↓Fr.bindO_newT, ↓Fr.bindO_newF, ↓Fr.toS_ok, ↓Fr.seq_nx, ↓Fr.seq_ret, ↓Fr.seq_bk, ↓Fr.seq_ct, ↓Fr.iteS_t, ↓Fr.iteS_f, ↓Fr.iteR_t, ↓Fr.iteR_f, ↓Fr.optR_some, ↓Fr.okD_some, ↓Fr.okB_some, ↓Fr.okS_some, ↓Fr.andR_t, ↓Fr.andR_f, ↓Fr.orR_t, ↓Fr.orR_f, ↓Fr.chainR_t, ↓Fr.chainR_f, ↓Fr.compE_some, ↓Fr.compL_some, ↓Fr.compU_some, ↓Fr.keepR_t, ↓Fr.keepR_f, ↓Fr.keepU_t, ↓Fr.keepU_f, ↓Fr.gate_t, ↓Fr.gateS_t, C_call, C_blt0, C_blt1, C_blt2, C_blt3, C_blt4, C_blt5, C_blt6, C_blt7, C_blt8, C_blt9, C_blt10, C_blt11, C_blt12, C_blt13, C_m0, C_m1, C_m2, C_ty, C_add, C_sub, C_mul, C_fdiv, C_mod, C_pow, C_lt, C_le, C_gt, C_ge, C_eq, C_ne, C_in, C_notin, Fr.asg_nm, Fr.asg_tp, Fr.setR, Fr.getS, Fr.initR, Fr.asgR_some, Fr.truth_bl, Fr.truth_non, Fr.truth_int, Fr.truth_tup, Fr.truth_lst, Fr.truth_ref, Fr.srcOf_tup, Fr.srcOf_lst, Fr.srcOf_rol, Fr.srcOf_ref, Fr.seqOf_tup, Fr.seqOf_lst, Fr.seqOf_rol, Fr.seqOf_ref, Fr.negR_int, Fr.ixR_some, Fr.atD_int, Fr.addD_int, Fr.subD_int, Fr.ltD_int, Fr.leD_int, Fr.gtD_int, Fr.geD_int, Fr.eqD_int, Fr.neD_int, Fr.eqD_str, Fr.neD_str, Fr.lenD_tup, Fr.lenD_lst, Fr.lenD_rol, Fr.one_1, Fr.two_2, Fr.fin_nx, Fr.fin_int, Fr.fin_bl, Fr.fin_none, Fr.fin_str, Fr.okV]
theorem lap (n : Nat) (h : Hs) (cell : List D) (b : Nat) (hg : h[0]? = some cell) (pc : PenC b cell) (hb : b ≤ 2 ^ 37) (d0 : D) (o0 o3 o4 o5 o6 o7 o8 o9 : Option D) :
    ∃ (h' : Hs) (cell' : List D) (p3 p4 p5 p6 p7 p8 p9 : Option D), exs (C (n + 7)) lb_law_1 [o0, some (.ref 0), some d0, o3, o4, o5, o6, o7, o8, o9] h = .nx [o0, some (.ref 0), some d0, p3, p4, p5, p6, p7, p8, p9] h' ∧ h'[0]? = some cell' ∧ PenC (b + 1003) cell' := by
  have hp : 0 < h.length := (List.getElem?_eq_some_iff.mp hg).1
  have hs : ∀ c : List D, (h.set 0 c).length = h.length := fun c => List.length_set
  have hg1 : ∀ (c : List D), (h.set 0 c)[0]? = some c := fun c => set_at hp
  have ss : ∀ c c' : List D, (h.set 0 c).set 0 c' = h.set 0 c' := fun c c' => List.set_set _
  have hg2 : ∀ (c x : List D), (h.set 0 c ++ [x])[0]? = some c := fun c x => by
    rw [app_at (by rw [hs]; exact hp), set_at hp]
  have hsp : ∀ (c c' x : List D), (h.set 0 c ++ [x]).set 0 c' = h.set 0 c' ++ [x] := fun c c' x => by
    rw [app_set (by rw [hs]; exact hp), List.set_set]
  have hl1 : ∀ c x : List D, (h.set 0 c ++ [x])[h.length]? = some x := fun c x => by
    rw [← hs c]
    exact at_last
  have hl2 : ∀ c x y : List D, (h.set 0 c ++ [x]).set h.length y = h.set 0 c ++ [y] := fun c x y => by
    rw [← hs c]
    exact set_end
  obtain ⟨w, c1, e1, v, pc1⟩ := c_writing (n + 2) h 0 4 6 b cell hg pc (by omega) (by omega) (by omega) (by omega)
  have n4 : ((4 : Nat) : Int) = 4 := rfl
  have n6 : ((6 : Nat) : Int) = 6 := rfl
  rw [n4, n6] at e1
  obtain ⟨d, c2, e2, hd, pc2⟩ := c_draw (n + 5) (h.set 0 c1) 0 12 (b + 1000) c1 (hg1 _) pc1 (by omega) (by omega) (small8 (u := 12) (by omega))
  rw [ss] at e2
  obtain ⟨m, em, m1, m2⟩ : ∃ m : Nat, (1 : Int) + d = m ∧ 1 ≤ m ∧ m ≤ 12 := ⟨d + 1, by omega, by omega, by omega⟩
  have m1' : (1 : Int) ≤ m := by omega
  have f1 : ∀ h, cl (n + 7) 20 [wD w, .int m] h = .ok (.new ((flt w m).map cD)) h := fun h => c_law_flat (n + 5) w m h v m1 (by omega)
  have f2 : ∀ h, cl (n + 7) 10 [wD w, .int m] h = .ok (.new ((flt w m).map cD)) h := fun h => c_flat n w m h v m1 (by omega)
  have f3 : ∀ h, cl (n + 7) 11 [wD w, .int m] h = .ok (.val (.tup [.int ((m : Int) * w.wide), .int (cst w m)])) h := fun h => c_cost n w m h v m1'
  have s1 : ∀ h, showD (wD w) h = .ok (.val (.str (wD w).shown)) h := fun h => show_wD v
  have s2 : ∀ h, showD (.lst ((flt w m).map cD)) h = .ok (.val (.str (D.lst ((flt w m).map cD)).shown)) h := fun h => show_flt v m1 (by omega)
  have s3 : showD (.ref h.length) (h.set 0 c2 ++ [(flt w m).map cD]) = .ok (.val (.str (D.lst ((flt w m).map cD)).shown)) (h.set 0 c2 ++ [(flt w m).map cD]) := show_fltr v m1 (by omega) (hl1 _ _)
  have s4 : ∀ h, showD (.tup [.int ((m : Int) * w.wide), .int (cst w m)]) h = .ok (.val (.str (D.tup [.int ((m : Int) * w.wide), .int (cst w m)]).shown)) h := fun h => show_cost v m1' (by omega)
  have w4 := v.w4
  have w1 := v.w1
  have i1 := v.i1
  have mu : ∀ h, mulD (.int (m : Int)) (.int w.wide) h = .ok (.val (.int ((m : Int) * w.wide))) h := fun h => mulD_intR (by omega)
  have few := flt_few v (show m ≤ 300 by omega)
  have fc := flt_cst (w := w) m1
  have g2 : decide (2 ≤ sizeLine) = true := decide_eq_true (by show 2 ≤ 2 ^ 24; decide)
  have ap : appendD (.ref h.length) [.tup [.int 1]] (h.set 0 c2 ++ [(flt w m).map cD]) = .ok (.val .non) (h.set 0 c2 ++ [(flt w m).map cD ++ [.tup [.int 1]]]) := by
    rw [append_at (hl1 _ _) (by rw [List.length_map]; omega) rfl, hl2]
  obtain ⟨Y, eY⟩ : ∃ Y, Y = ((flt w m).map cD ++ [D.tup [.int 1]]).set 0 D.non := ⟨_, rfl⟩
  have st : ∀ ρ, setAt (.ref h.length) (.int 0) .non ρ (h.set 0 c2 ++ [(flt w m).map cD ++ [.tup [.int 1]]]) = .nx ρ (h.set 0 c2 ++ [Y]) := fun ρ => by
    rw [setAt_at (hl1 _ _) (j := 0) (by unfold ixN; rw [if_pos (by omega), if_pos (by simp only [List.length_append, List.length_singleton]; omega)]; rfl) rfl, hl2, eY]
  obtain ⟨d3, c3, e3, hd3, pc3⟩ := c_draw (n + 5) (h.set 0 c2 ++ [Y]) 0 100000000000000000000000000000000000000 (b + 1000 + 1) c2 (hg2 _ _) pc2 (by omega) (by omega) (big8 (by omega) (by omega))
  rw [hsp] at e3
  obtain ⟨d4, c4, e4, hd4, pc4⟩ := c_draw (n + 5) (h.set 0 c3 ++ [Y]) 0 1000000000 (b + 1000 + 1 + 1) c3 (hg2 _ _) pc3 (by omega) (by omega) (big8 (by omega) (by omega))
  rw [hsp] at e4
  have mu2 : ∀ h, mulD (.int (d3 : Int)) (.int 100) h = .ok (.val (.int ((d3 : Int) * 100))) h := fun h => mulD_intR (by decide)
  have fd : ∀ h, fdivD (.int ((d3 : Int) * 100)) (.int (1 + (d4 : Int))) h = .ok (.val (.int ((d3 : Int) * 100 / (1 + (d4 : Int))))) h := fun h => fdivD_int (by omega) (big8 (by omega) (by omega))
  obtain ⟨lg, elg, lg1, lg2⟩ : ∃ lg : Int, 1 + (d3 : Int) * 100 / (1 + (d4 : Int)) = lg ∧ 1 ≤ lg ∧ lg ≤ 10 ^ 61 := by
    have q1 : 0 ≤ (d3 : Int) * 100 / (1 + (d4 : Int)) := Int.ediv_nonneg (by omega) (by omega)
    have q2 : (d3 : Int) * 100 / (1 + (d4 : Int)) ≤ (d3 : Int) * 100 := Int.ediv_le_self _ (by omega)
    exact ⟨_, rfl, by omega, by omega⟩
  refine ⟨h.set 0 c4 ++ [Y], c4, some (wD w), some (.int m), some (.str (wD w).shown), some (.lst ((flt w m).map cD)), some (.ref h.length), some (.int lg), some (.int (100000000000000000000 + (m : Int))), ?_, hg2 _ _, pc4.mono (by omega)⟩
  have l3 := lb2 n w v lg (h.set 0 c4 ++ [Y]) lg1 lg2 o0 (some (.ref 0)) (some d0) (some (.int m)) (some (.str (wD w).shown)) (some (.lst ((flt w m).map cD))) (some (.ref h.length)) (some (.int lg))
  have l4 := lb2 n w v 9999999999999999999999999999999999999999 (h.set 0 c4 ++ [Y]) (by omega) (by omega) o0 (some (.ref 0)) (some d0) (some (.int m)) (some (.str (wD w).shown)) (some (.lst ((flt w m).map cD))) (some (.ref h.length)) (some (.int lg))
  have l5 := lb2 n w v (100000000000000000000 + (m : Int)) (h.set 0 c4 ++ [Y]) (by omega) (by omega) o0 (some (.ref 0)) (some d0) (some (.int m)) (some (.str (wD w).shown)) (some (.lst ((flt w m).map cD))) (some (.ref h.length)) (some (.int lg))
  simp [lb_law_1, e1, e2, em, g2, s1, f1, f2, hs, s3, s2, f3, s4, mu, atI_1, tup10, fc, isListD, ap, st, pow38, pow9, pow40, pow20, e3, e4, mu2, fd, elg, -List.map_map, ↓Fr.v_slot, ↓Fr.v_con, ↓Fr.v_bin, ↓Fr.v_neg, ↓Fr.v_cmp, ↓Fr.v_chain, ↓Fr.v_and, ↓Fr.v_or, ↓Fr.v_not, ↓Fr.v_ife, ↓Fr.v_tup, ↓Fr.v_lst, ↓Fr.v_ix, ↓Fr.v_sl, ↓Fr.v_call, ↓Fr.v_blt, ↓Fr.v_meth, ↓Fr.v_comp, ↓Fr.v_comp2, ↓Fr.v_lsc, ↓Fr.vs_nil, ↓Fr.vs_cons, ↓Fr.vt_and, ↓Fr.vt_or, ↓Fr.vt_not, ↓Fr.vt_slot, ↓Fr.vt_con, ↓Fr.vt_bin, ↓Fr.vt_neg, ↓Fr.vt_cmp, ↓Fr.vt_chain, ↓Fr.vt_ife, ↓Fr.vt_tup, ↓Fr.vt_lst, ↓Fr.vt_ix, ↓Fr.vt_sl, ↓Fr.vt_call, ↓Fr.vt_blt, ↓Fr.vt_meth, ↓Fr.vt_comp, ↓Fr.vc_nil, ↓Fr.vc_cons, ↓Fr.vi_rng1, ↓Fr.vi_rng2, ↓Fr.vi_slot, ↓Fr.vi_con, ↓Fr.vi_bin, ↓Fr.vi_neg, ↓Fr.vi_cmp, ↓Fr.vi_chain, ↓Fr.vi_ife, ↓Fr.vi_tup, ↓Fr.vi_lst, ↓Fr.vi_ix, ↓Fr.vi_sl, ↓Fr.vi_call, ↓Fr.vi_blt, ↓Fr.vi_meth, ↓Fr.vi_comp, ↓Fr.vo_nil, ↓Fr.vo_cons, ↓Fr.x_asg, ↓Fr.x_asgs, ↓Fr.x_setix, ↓Fr.x_expr, ↓Fr.x_ret, ↓Fr.x_retN, ↓Fr.x_pass, ↓Fr.x_brk, ↓Fr.x_cnt, ↓Fr.x_ifs, ↓Fr.x_whl, ↓Fr.x_for, ↓Fr.xs_nil, ↓Fr.xs_cons, ↓Fr.bindD_val, ↓Fr.bindD_new, ↓Fr.bind_ok, ↓Fr.bindO_val, ↓Fr.bindO_newT, ↓Fr.bindO_newF, ↓Fr.toS_ok, ↓Fr.seq_nx, ↓Fr.seq_ret, ↓Fr.seq_bk, ↓Fr.seq_ct, ↓Fr.iteS_t, ↓Fr.iteS_f, ↓Fr.iteR_t, ↓Fr.iteR_f, ↓Fr.optR_some, ↓Fr.okD_some, ↓Fr.okB_some, ↓Fr.okS_some, ↓Fr.andR_t, ↓Fr.andR_f, ↓Fr.orR_t, ↓Fr.orR_f, ↓Fr.chainR_t, ↓Fr.chainR_f, ↓Fr.compE_some, ↓Fr.compL_some, ↓Fr.compU_some, ↓Fr.keepR_t, ↓Fr.keepR_f, ↓Fr.keepU_t, ↓Fr.keepU_f, ↓Fr.gate_t, ↓Fr.gateS_t, C_call, C_blt0, C_blt1, C_blt2, C_blt3, C_blt4, C_blt5, C_blt6, C_blt7, C_blt8, C_blt9, C_blt10, C_blt11, C_blt12, C_blt13, C_m0, C_m1, C_m2, C_ty, C_add, C_sub, C_mul, C_fdiv, C_mod, C_pow, C_lt, C_le, C_gt, C_ge, C_eq, C_ne, C_in, C_notin, Fr.asg_nm, Fr.asg_tp, Fr.setR, Fr.getS, Fr.initR, Fr.asgR_some, Fr.truth_bl, Fr.truth_non, Fr.truth_int, Fr.truth_tup, Fr.truth_lst, Fr.truth_ref, Fr.srcOf_tup, Fr.srcOf_lst, Fr.srcOf_rol, Fr.srcOf_ref, Fr.seqOf_tup, Fr.seqOf_lst, Fr.seqOf_rol, Fr.seqOf_ref, Fr.negR_int, Fr.ixR_some, Fr.atD_int, Fr.addD_int, Fr.subD_int, Fr.ltD_int, Fr.leD_int, Fr.gtD_int, Fr.geD_int, Fr.eqD_int, Fr.neD_int, Fr.eqD_str, Fr.neD_str, Fr.lenD_tup, Fr.lenD_lst, Fr.lenD_rol, Fr.one_1, Fr.two_2, Fr.fin_nx, Fr.fin_int, Fr.fin_bl, Fr.fin_none, Fr.fin_str, Fr.okV]
  rw [forI_vals]
  simp only [forL, asg_nm, List.set_cons_succ, List.set_cons_zero, l3, l4, l5]
  rfl
end K02
set_option Elab.async false
set_option linter.all false
set_option maxRecDepth 100000
set_option maxHeartbeats 4000000
namespace K02
open PySem PySem.Spec PyProof.Rows L2 Fr
theorem laps (n : Nat) : ∀ (ds : List D) (h : Hs) (cell : List D) (b : Nat) (o0 o2 o3 o4 o5 o6 o7 o8 o9 : Option D), h[0]? = some cell → PenC b cell → b + 1003 * ds.length ≤ 2 ^ 36 →
    ∃ (h' : Hs) (cell' : List D) (p2 p3 p4 p5 p6 p7 p8 p9 : Option D), forL (exs (C (n + 7)) lb_law_1) (.nm 2) ds [o0, some (.ref 0), o2, o3, o4, o5, o6, o7, o8, o9] h = .nx [o0, some (.ref 0), p2, p3, p4, p5, p6, p7, p8, p9] h' ∧ h'[0]? = some cell' ∧ PenC (b + 1003 * ds.length) cell' := by
  intro ds
  induction ds with
  | nil =>
    intro h cell b o0 o2 o3 o4 o5 o6 o7 o8 o9 hg pc hb
    exact ⟨h, cell, o2, o3, o4, o5, o6, o7, o8, o9, rfl, hg, pc⟩
  | cons d0 ds ih =>
    intro h cell b o0 o2 o3 o4 o5 o6 o7 o8 o9 hg pc hb
    rw [List.length_cons] at hb
    obtain ⟨h1, c1, p3, p4, p5, p6, p7, p8, p9, e, hg1, pc1⟩ := lap n h cell b hg pc (by omega) d0 o0 o3 o4 o5 o6 o7 o8 o9
    obtain ⟨h2, c2, q2, q3, q4, q5, q6, q7, q8, q9, e2, hg2, pc2⟩ := ih h1 c1 (b + 1003) o0 (some d0) p3 p4 p5 p6 p7 p8 p9 hg1 pc1 (by omega)
    refine ⟨h2, c2, q2, q3, q4, q5, q6, q7, q8, q9, ?_, hg2, pc2.mono (by rw [List.length_cons]; omega)⟩
    simp only [forL, asg_nm, List.set_cons_succ, List.set_cons_zero, e]
    exact e2
def w0 : Wr := ⟨1, 2, [[2], [-2, 1]], [], [], [[2], [-1]]⟩
theorem w0_ok : vW w0 := okW_v (by decide +kernel)
theorem law_true (n : Nat) (ns : List Int) : ∃ h', cl (n + 8) 22 [.rol (ns.map .int)] [] = .ok (.val (.bl true)) h' := by
  have e0 := c_pen (n + 6) ns []
  have pc0 : PenC 0 [.lst ((ns.take 60).map .int), .int 0, .int 0] := ⟨ns.take 60, 0, 0, rfl, Nat.le_refl _⟩
  have r5 : ∀ h, rng1R (.int 5) h = .ok (.vals (rngD 0 5)) h := fun h => rng1R_int (decide_eq_true (by omega))
  obtain ⟨h1, c1, p2, p3, p4, p5, p6, p7, p8, p9, e1, hg1, pc1⟩ := laps n (rngD 0 5) [[.lst ((ns.take 60).map .int), .int 0, .int 0]] _ 0 (some (.rol (ns.map .int))) none none none none none none none none rfl pc0 (by show 0 + 1003 * 5 ≤ 2 ^ 36; omega)
  obtain ⟨w, c2, e2, v, pc2⟩ := c_writing (n + 2) h1 0 2 2 _ c1 hg1 pc1 (by show 0 + 1003 * 5 ≤ 2 ^ 38; omega) (by omega) (by omega) (by omega)
  have n2 : ((2 : Nat) : Int) = 2 := rfl
  rw [n2] at e2
  have x300 : ((300 : Nat) : Int) = 300 := rfl
  have f1 : ∀ h, cl (n + 7) 20 [wD w, .int 300] h = .ok (.new ((flt w 300).map cD)) h := fun h => by
    have z := c_law_flat (n + 5) w 300 h v (by omega) (by omega)
    rw [x300] at z
    exact z
  have f2 : ∀ h, cl (n + 7) 10 [wD w, .int 300] h = .ok (.new ((flt w 300).map cD)) h := fun h => by
    have z := c_flat n w 300 h v (by omega) (by omega)
    rw [x300] at z
    exact z
  have f3 : ∀ h, cl (n + 7) 11 [wD w, .int 300] h = .ok (.val (.tup [.int (300 * w.wide), .int (cst w 300)])) h := fun h => c_cost n w 300 h v (by omega)
  have s2 : ∀ h, showD (.lst ((flt w 300).map cD)) h = .ok (.val (.str (D.lst ((flt w 300).map cD)).shown)) h := fun h => show_flt v (by omega) (by omega)
  have fc : ((flt w 300).length : Int) = cst w 300 := by
    have z := flt_cst (w := w) (m := 300) (by omega)
    rw [x300] at z
    exact z
  have k1 : ∀ h, cl (n + 7) 10 [wD w0, .int 2] h = .ok (.new ([[2], [-2, 1], [4], [-3]].map cD)) h := fun h => by
    have z := c_flat n w0 2 h w0_ok (by omega) (by omega)
    rw [n2, show flt w0 2 = [[2], [-2, 1], [4], [-3]] by decide +kernel] at z
    exact z
  have k2 : ∀ h, cl (n + 7) 11 [wD w0, .int 1000000000000000000000000000000000000000000000000000000000000] h = .ok (.val (.tup [.int 2000000000000000000000000000000000000000000000000000000000000, .int 4])) h := fun h => by
    have z := c_cost n w0 1000000000000000000000000000000000000000000000000000000000000 h w0_ok (by omega)
    rw [show 1000000000000000000000000000000000000000000000000000000000000 * w0.wide = 2000000000000000000000000000000000000000000000000000000000000 by decide +kernel, show cst w0 1000000000000000000000000000000000000000000000000000000000000 = 4 by decide +kernel] at z
    exact z
  have k3 : ∀ h, mulD (.int 2) (.int 1000000000000000000000000000000000000000000000000000000000000) h = .ok (.val (.int 2000000000000000000000000000000000000000000000000000000000000)) h := fun h => by
    rw [mulD_intL (by decide)]
    rfl
  have k4 : ∀ h, neD (.lst ([[2], [-2, 1], [4], [-3]].map cD)) (.lst ([[2], [-2, 1], [4], [-3]].map cD)) h = .ok (.val (.bl false)) h := fun h => neD_self rfl (by decide +kernel) (by decide +kernel)
  have k5 : ∀ h, neD (.tup [.int 2000000000000000000000000000000000000000000000000000000000000, .int 4]) (.tup [.int 2000000000000000000000000000000000000000000000000000000000000, .int 4]) h = .ok (.val (.bl false)) h := fun h => neD_self rfl (by decide +kernel) (by decide +kernel)
  refine ⟨List.take 0 (h1.set 0 c2), ?_⟩
  rw [cl_succ]
  simp [fns, body_law, e0, r5, -List.map_map, ↓Fr.v_slot, ↓Fr.v_con, ↓Fr.v_bin, ↓Fr.v_neg, ↓Fr.v_cmp, ↓Fr.v_chain, ↓Fr.v_and, ↓Fr.v_or, ↓Fr.v_not, ↓Fr.v_ife, ↓Fr.v_tup, ↓Fr.v_lst, ↓Fr.v_ix, ↓Fr.v_sl, ↓Fr.v_call, ↓Fr.v_blt, ↓Fr.v_meth, ↓Fr.v_comp, ↓Fr.v_comp2, ↓Fr.v_lsc, ↓Fr.vs_nil, ↓Fr.vs_cons, ↓Fr.vt_and, ↓Fr.vt_or, ↓Fr.vt_not, ↓Fr.vt_slot, ↓Fr.vt_con, ↓Fr.vt_bin, ↓Fr.vt_neg, ↓Fr.vt_cmp, ↓Fr.vt_chain, ↓Fr.vt_ife, ↓Fr.vt_tup, ↓Fr.vt_lst, ↓Fr.vt_ix, ↓Fr.vt_sl, ↓Fr.vt_call, ↓Fr.vt_blt, ↓Fr.vt_meth, ↓Fr.vt_comp, ↓Fr.vc_nil, ↓Fr.vc_cons, ↓Fr.vi_rng1, ↓Fr.vi_rng2, ↓Fr.vi_slot, ↓Fr.vi_con, ↓Fr.vi_bin, ↓Fr.vi_neg, ↓Fr.vi_cmp, ↓Fr.vi_chain, ↓Fr.vi_ife, ↓Fr.vi_tup, ↓Fr.vi_lst, ↓Fr.vi_ix, ↓Fr.vi_sl, ↓Fr.vi_call, ↓Fr.vi_blt, ↓Fr.vi_meth, ↓Fr.vi_comp, ↓Fr.vo_nil, ↓Fr.vo_cons, ↓Fr.x_asg, ↓Fr.x_asgs, ↓Fr.x_setix, ↓Fr.x_expr, ↓Fr.x_ret, ↓Fr.x_retN, ↓Fr.x_pass, ↓Fr.x_brk, ↓Fr.x_cnt, ↓Fr.x_ifs, ↓Fr.x_whl, ↓Fr.x_for, ↓Fr.xs_nil, ↓Fr.xs_cons, ↓Fr.bindD_val, ↓Fr.bindD_new, ↓Fr.bind_ok, ↓Fr.bindO_val, ↓Fr.bindO_newT, ↓Fr.bindO_newF, ↓Fr.toS_ok, ↓Fr.seq_nx, ↓Fr.seq_ret, ↓Fr.seq_bk, ↓Fr.seq_ct, ↓Fr.iteS_t, ↓Fr.iteS_f, ↓Fr.iteR_t, ↓Fr.iteR_f, ↓Fr.optR_some, ↓Fr.okD_some, ↓Fr.okB_some, ↓Fr.okS_some, ↓Fr.andR_t, ↓Fr.andR_f, ↓Fr.orR_t, ↓Fr.orR_f, ↓Fr.chainR_t, ↓Fr.chainR_f, ↓Fr.compE_some, ↓Fr.compL_some, ↓Fr.compU_some, ↓Fr.keepR_t, ↓Fr.keepR_f, ↓Fr.keepU_t, ↓Fr.keepU_f, ↓Fr.gate_t, ↓Fr.gateS_t, C_call, C_blt0, C_blt1, C_blt2, C_blt3, C_blt4, C_blt5, C_blt6, C_blt7, C_blt8, C_blt9, C_blt10, C_blt11, C_blt12, C_blt13, C_m0, C_m1, C_m2, C_ty, C_add, C_sub, C_mul, C_fdiv, C_mod, C_pow, C_lt, C_le, C_gt, C_ge, C_eq, C_ne, C_in, C_notin, Fr.asg_nm, Fr.asg_tp, Fr.setR, Fr.getS, Fr.initR, Fr.asgR_some, Fr.truth_bl, Fr.truth_non, Fr.truth_int, Fr.truth_tup, Fr.truth_lst, Fr.truth_ref, Fr.srcOf_tup, Fr.srcOf_lst, Fr.srcOf_rol, Fr.srcOf_ref, Fr.seqOf_tup, Fr.seqOf_lst, Fr.seqOf_rol, Fr.seqOf_ref, Fr.negR_int, Fr.ixR_some, Fr.atD_int, Fr.addD_int, Fr.subD_int, Fr.ltD_int, Fr.leD_int, Fr.gtD_int, Fr.geD_int, Fr.eqD_int, Fr.neD_int, Fr.eqD_str, Fr.neD_str, Fr.lenD_tup, Fr.lenD_lst, Fr.lenD_rol, Fr.one_1, Fr.two_2, Fr.fin_nx, Fr.fin_int, Fr.fin_bl, Fr.fin_none, Fr.fin_str, Fr.okV]
  rw [List.map_take] at e1
  rw [forI_vals, e1]
  have k1' : ∀ h, cl (n + 7) 10 [D.tup [D.int 1, D.int 2, D.tup [D.tup [D.int 2], D.tup [D.int (-2), D.int 1]], D.tup [], D.tup [], D.tup [D.tup [D.int 2], D.tup [D.int (-1)]]], .int 2] h = .ok (.new [D.tup [D.int 2], D.tup [D.int (-2), D.int 1], D.tup [D.int 4], D.tup [D.int (-3)]]) h := k1
  have k2' : ∀ h, cl (n + 7) 11 [D.tup [D.int 1, D.int 2, D.tup [D.tup [D.int 2], D.tup [D.int (-2), D.int 1]], D.tup [], D.tup [], D.tup [D.tup [D.int 2], D.tup [D.int (-1)]]], .int 1000000000000000000000000000000000000000000000000000000000000] h = .ok (.val (.tup [.int 2000000000000000000000000000000000000000000000000000000000000, .int 4])) h := k2
  have k4' : ∀ h, neD (.lst [D.tup [D.int 2], D.tup [D.int (-2), D.int 1], D.tup [D.int 4], D.tup [D.int (-3)]]) (.lst [D.tup [D.int 2], D.tup [D.int (-2), D.int 1], D.tup [D.int 4], D.tup [D.int (-3)]]) h = .ok (.val (.bl false)) h := k4
  clear k1 k2 k4
  simp [tup10, lst10, k1', k2', k3, k4', k5, pow60, e2, f1, f2, f3, s2, fc, atI_1, -List.map_map, ↓Fr.v_slot, ↓Fr.v_con, ↓Fr.v_bin, ↓Fr.v_neg, ↓Fr.v_cmp, ↓Fr.v_chain, ↓Fr.v_and, ↓Fr.v_or, ↓Fr.v_not, ↓Fr.v_ife, ↓Fr.v_tup, ↓Fr.v_lst, ↓Fr.v_ix, ↓Fr.v_sl, ↓Fr.v_call, ↓Fr.v_blt, ↓Fr.v_meth, ↓Fr.v_comp, ↓Fr.v_comp2, ↓Fr.v_lsc, ↓Fr.vs_nil, ↓Fr.vs_cons, ↓Fr.vt_and, ↓Fr.vt_or, ↓Fr.vt_not, ↓Fr.vt_slot, ↓Fr.vt_con, ↓Fr.vt_bin, ↓Fr.vt_neg, ↓Fr.vt_cmp, ↓Fr.vt_chain, ↓Fr.vt_ife, ↓Fr.vt_tup, ↓Fr.vt_lst, ↓Fr.vt_ix, ↓Fr.vt_sl, ↓Fr.vt_call, ↓Fr.vt_blt, ↓Fr.vt_meth, ↓Fr.vt_comp, ↓Fr.vc_nil, ↓Fr.vc_cons, ↓Fr.vi_rng1, ↓Fr.vi_rng2, ↓Fr.vi_slot, ↓Fr.vi_con, ↓Fr.vi_bin, ↓Fr.vi_neg, ↓Fr.vi_cmp, ↓Fr.vi_chain, ↓Fr.vi_ife, ↓Fr.vi_tup, ↓Fr.vi_lst, ↓Fr.vi_ix, ↓Fr.vi_sl, ↓Fr.vi_call, ↓Fr.vi_blt, ↓Fr.vi_meth, ↓Fr.vi_comp, ↓Fr.vo_nil, ↓Fr.vo_cons, ↓Fr.x_asg, ↓Fr.x_asgs, ↓Fr.x_setix, ↓Fr.x_expr, ↓Fr.x_ret, ↓Fr.x_retN, ↓Fr.x_pass, ↓Fr.x_brk, ↓Fr.x_cnt, ↓Fr.x_ifs, ↓Fr.x_whl, ↓Fr.x_for, ↓Fr.xs_nil, ↓Fr.xs_cons, ↓Fr.bindD_val, ↓Fr.bindD_new, ↓Fr.bind_ok, ↓Fr.bindO_val, ↓Fr.bindO_newT, ↓Fr.bindO_newF, ↓Fr.toS_ok, ↓Fr.seq_nx, ↓Fr.seq_ret, ↓Fr.seq_bk, ↓Fr.seq_ct, ↓Fr.iteS_t, ↓Fr.iteS_f, ↓Fr.iteR_t, ↓Fr.iteR_f, ↓Fr.optR_some, ↓Fr.okD_some, ↓Fr.okB_some, ↓Fr.okS_some, ↓Fr.andR_t, ↓Fr.andR_f, ↓Fr.orR_t, ↓Fr.orR_f, ↓Fr.chainR_t, ↓Fr.chainR_f, ↓Fr.compE_some, ↓Fr.compL_some, ↓Fr.compU_some, ↓Fr.keepR_t, ↓Fr.keepR_f, ↓Fr.keepU_t, ↓Fr.keepU_f, ↓Fr.gate_t, ↓Fr.gateS_t, C_call, C_blt0, C_blt1, C_blt2, C_blt3, C_blt4, C_blt5, C_blt6, C_blt7, C_blt8, C_blt9, C_blt10, C_blt11, C_blt12, C_blt13, C_m0, C_m1, C_m2, C_ty, C_add, C_sub, C_mul, C_fdiv, C_mod, C_pow, C_lt, C_le, C_gt, C_ge, C_eq, C_ne, C_in, C_notin, Fr.asg_nm, Fr.asg_tp, Fr.setR, Fr.getS, Fr.initR, Fr.asgR_some, Fr.truth_bl, Fr.truth_non, Fr.truth_int, Fr.truth_tup, Fr.truth_lst, Fr.truth_ref, Fr.srcOf_tup, Fr.srcOf_lst, Fr.srcOf_rol, Fr.srcOf_ref, Fr.seqOf_tup, Fr.seqOf_lst, Fr.seqOf_rol, Fr.seqOf_ref, Fr.negR_int, Fr.ixR_some, Fr.atD_int, Fr.addD_int, Fr.subD_int, Fr.ltD_int, Fr.leD_int, Fr.gtD_int, Fr.geD_int, Fr.eqD_int, Fr.neD_int, Fr.eqD_str, Fr.neD_str, Fr.lenD_tup, Fr.lenD_lst, Fr.lenD_rol, Fr.one_1, Fr.two_2, Fr.fin_nx, Fr.fin_int, Fr.fin_bl, Fr.fin_none, Fr.fin_str, Fr.okV]
end K02
namespace K02
open Fr
def depth : Nat := 40
def fuel : Nat := 0
theorem holds (ns : List Int) (h : ns.length ≤ 63) : ∃ h', (cnN (bc0 (fun _ => 0) fuel) fns depth).call 22 [.rol (ns.map .int)] [] = .ok (.val (.bl true)) h' := law_true 32 ns
end K02
open PySem PySem.W PyProof.Rows
set_option maxHeartbeats 0 in
theorem PySem.Challenge.cw_followrows_k02_flat_and_cost_holds : PySem.Challenge.rw_followrows_k02_flat_and_cost.Holds := by
  w_on; o_law; k_head; (case hw => w_witness2)
  k_fill
  refine Fr.walk_g (l := PySem.Challenge.rw_followrows_k02_flat_and_cost) (n := 63) (k := K02.depth) (x := "script") (sp := fun w => Fr.SpOf (Fr.cnN (Fr.bc0 (fun _ => 0) K02.fuel) K02.fns K02.depth) _ 22) rfl (by decide) rfl ⟨rfl, by decide, by decide⟩ (fun w h Y => PySem.W.kIn_of Y) ?F (fun _ _ a ns hl hS => Fr.law_pure hS (K02.holds ns hl).choose_spec)
  case F =>
    intro w mg fa h KX G hmg
    refine' K02.all_mk KX G hmg ?a_is_integer ?l_is_integer ?c_is_integer ?k_is_integer ?a_is_between ?l_is_between ?c_is_between ?k_is_between ?a_check_from_one ?l_check_from_one ?c_check_from_one ?k_check_from_one ?a_is_literal ?l_is_literal ?c_is_literal ?k_is_literal ?a_is_clause ?l_is_clause ?c_is_clause ?k_is_clause ?a_is_part ?l_is_part ?c_is_part ?k_is_part ?a_is_writing ?l_is_writing ?c_is_writing ?k_is_writing ?a_check_writing ?l_check_writing ?c_check_writing ?k_check_writing ?a_moved ?l_moved ?c_moved ?k_moved ?a_spread ?l_spread ?c_spread ?k_spread ?a_flat ?l_flat ?c_flat ?k_flat ?a_cost ?l_cost ?c_cost ?k_cost ?a__law_pen ?l__law_pen ?c__law_pen ?k__law_pen ?a__law_next ?l__law_next ?c__law_next ?k__law_next ?a__law_draw ?l__law_draw ?c__law_draw ?k__law_draw ?a__law_clause ?l__law_clause ?c__law_clause ?k__law_clause ?a__law_part ?l__law_part ?c__law_part ?k__law_part ?a__law_typed ?l__law_typed ?c__law_typed ?k__law_typed ?a__law_writing ?l__law_writing ?c__law_writing ?k__law_writing ?a__law_moved ?l__law_moved ?c__law_moved ?k__law_moved ?a__law_flat ?l__law_flat ?c__law_flat ?k__law_flat ?a__law_cost ?l__law_cost ?c__law_cost ?k__law_cost ?a_law ?l_law ?c_law ?k_law ?n_bool ?n_isinstance ?n_int ?n_abs ?n_list ?n_sorted ?n_len ?n_all ?n_tuple ?n_set ?n_range ?n_min ?n_repr ?v_MOST_LITERALS ?v_MOST_CLAUSES ?v_MOST_SIGNS ?v_MOST_INPUTS _
    (case a_is_integer => k_is); (case l_is_integer => k_is); (case c_is_integer => k_is); (case k_is_integer => k_is); (case a_is_between => k_is); (case l_is_between => k_is); (case c_is_between => k_is); (case k_is_between => k_is); (case a_check_from_one => k_is); (case l_check_from_one => k_is); (case c_check_from_one => k_is); (case k_check_from_one => k_is); (case a_is_literal => k_is); (case l_is_literal => k_is); (case c_is_literal => k_is); (case k_is_literal => k_is); (case a_is_clause => k_is); (case l_is_clause => k_is); (case c_is_clause => k_is); (case k_is_clause => k_is); (case a_is_part => k_is); (case l_is_part => k_is); (case c_is_part => k_is); (case k_is_part => k_is); (case a_is_writing => k_is); (case l_is_writing => k_is); (case c_is_writing => k_is); (case k_is_writing => k_is); (case a_check_writing => k_is); (case l_check_writing => k_is); (case c_check_writing => k_is); (case k_check_writing => k_is); (case a_moved => k_is); (case l_moved => k_is); (case c_moved => k_is); (case k_moved => k_is); (case a_spread => k_is); (case l_spread => k_is); (case c_spread => k_is); (case k_spread => k_is); (case a_flat => k_is); (case l_flat => k_is); (case c_flat => k_is); (case k_flat => k_is); (case a_cost => k_is); (case l_cost => k_is); (case c_cost => k_is); (case k_cost => k_is); (case a__law_pen => k_is); (case l__law_pen => k_is); (case c__law_pen => k_is); (case k__law_pen => k_is); (case a__law_next => k_is); (case l__law_next => k_is); (case c__law_next => k_is); (case k__law_next => k_is); (case a__law_draw => k_is); (case l__law_draw => k_is); (case c__law_draw => k_is); (case k__law_draw => k_is); (case a__law_clause => k_is); (case l__law_clause => k_is); (case c__law_clause => k_is); (case k__law_clause => k_is); (case a__law_part => k_is); (case l__law_part => k_is); (case c__law_part => k_is); (case k__law_part => k_is); (case a__law_typed => k_is); (case l__law_typed => k_is); (case c__law_typed => k_is); (case k__law_typed => k_is); (case a__law_writing => k_is); (case l__law_writing => k_is); (case c__law_writing => k_is); (case k__law_writing => k_is); (case a__law_moved => k_is); (case l__law_moved => k_is); (case c__law_moved => k_is); (case k__law_moved => k_is); (case a__law_flat => k_is); (case l__law_flat => k_is); (case c__law_flat => k_is); (case k__law_flat => k_is); (case a__law_cost => k_is); (case l__law_cost => k_is); (case c__law_cost => k_is); (case k__law_cost => k_is); (case a_law => k_is); (case l_law => k_is); (case c_law => k_is); (case k_law => k_is); (case n_bool => k_is); (case n_isinstance => k_is); (case n_int => k_is); (case n_abs => k_is); (case n_list => k_is); (case n_sorted => k_is); (case n_len => k_is); (case n_all => k_is); (case n_tuple => k_is); (case n_set => k_is); (case n_range => k_is); (case n_min => k_is); (case n_repr => k_is); (case v_MOST_LITERALS => k_is); (case v_MOST_CLAUSES => k_is); (case v_MOST_SIGNS => k_is); (case v_MOST_INPUTS => k_is)

