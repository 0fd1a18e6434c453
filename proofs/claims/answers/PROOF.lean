import PyProof.Rows.All
import PyRa54
import PyFlatLaws
import Wide.All
import OpenK.AllK
import Wide.FinOn
import Open.SpecLaws
import KE.OsGo
import HandS.ForSpec
import HandS.Dict
import HandS.Iter
import HandS.Comp
import HandS.TupLen
import PySem.Challenge.RW_nearroutes_s01_answers
import HandS.Walk
import KE.KDictWalk
import HandS.Conv
import HandS.SortRule
import KE.KDictSum
import KE.BitLaws
section
set_option autoImplicit false
/-! Routes in a list of any order (a dict's) beside the specification's list in order. -/
namespace NR
open Ra54

def key (r : Route) : Nat × Nat := (r.net, r.bits)
def klt (a b : Nat × Nat) : Prop := a.1 < b.1 ∨ (a.1 = b.1 ∧ a.2 < b.2)
theorem klt_irrefl (a : Nat × Nat) : ¬ klt a a := by unfold klt; omega
theorem klt_trans {a b c : Nat × Nat} (h : klt a b) (g : klt b c) : klt a c := by unfold klt at *; omega
theorem klt_asymm {a b : Nat × Nat} (h : klt a b) : ¬ klt b a := fun g => klt_irrefl a (klt_trans h g)
theorem klt_ne {a b : Nat × Nat} (h : klt a b) : a ≠ b := fun e => by subst e; exact klt_irrefl a h
theorem klt_tri {a b : Nat × Nat} (h : ¬ klt a b) (g : ¬ klt b a) : a = b := by
  obtain ⟨a1, a2⟩ := a
  obtain ⟨b1, b2⟩ := b
  unfold klt at *
  have h1 : a1 = b1 := by simp only at *; omega
  have h2 : a2 = b2 := by simp only at *; omega
  rw [h1, h2]
theorem before_iff (a b : Route) : before a b = true ↔ klt (key a) (key b) := by
  unfold before klt key
  simp
def Sorted (l : List Route) : Prop := l.Pairwise fun a b => klt (key a) (key b)
def NK (l : List Route) : Prop := l.Pairwise fun a b => key a ≠ key b
theorem Sorted.nk {l : List Route} (h : Sorted l) : NK l := h.imp fun g => klt_ne g
theorem NK.nodup {l : List Route} (h : NK l) : l.Nodup := h.imp fun g e => g (by rw [e])
theorem NK.perm {l l' : List Route} (p : l.Perm l') (h : NK l) : NK l' := by
  refine (p.pairwise_iff (R := fun a b => key a ≠ key b) ?_).mp h
  intro a b g e
  exact g e.symm
theorem NK.inj {l : List Route} (h : NK l) {a b : Route} (ha : a ∈ l) (hb : b ∈ l) (e : key a = key b) : a = b := by
  induction l with
  | nil => cases ha
  | cons x l ih =>
    have h' := List.pairwise_cons.mp h
    rcases List.mem_cons.mp ha with rfl | ha'
    · rcases List.mem_cons.mp hb with rfl | hb'
      · rfl
      · exact absurd e (h'.1 b hb')
    · rcases List.mem_cons.mp hb with rfl | hb'
      · exact absurd e.symm (h'.1 a ha')
      · exact ih h'.2 ha' hb'
theorem NK.keys {l : List Route} (h : NK l) : (l.map key).Nodup := List.pairwise_map.mpr h
theorem NK.of_keys {l : List Route} (h : (l.map key).Nodup) : NK l := List.pairwise_map.mp h

/-- two lists without repeats that hold the same are arrangements of each other -/
theorem perm_of_mem {α : Type} {l l' : List α} (h : l.Nodup) (h' : l'.Nodup) (m : ∀ x, x ∈ l ↔ x ∈ l') : l.Perm l' := by
  induction l generalizing l' with
  | nil =>
    cases l' with
    | nil => exact List.Perm.refl _
    | cons y l' => exact absurd ((m y).mpr List.mem_cons_self) List.not_mem_nil
  | cons x l ih =>
    have hx : x ∈ l' := (m x).mp List.mem_cons_self
    obtain ⟨s, t, rfl⟩ := List.append_of_mem hx
    have h1 := List.nodup_cons.mp h
    have p : (s ++ x :: t).Perm (x :: (s ++ t)) := List.perm_middle
    have h2 := List.nodup_cons.mp (p.nodup_iff.mp h')
    refine (List.Perm.cons x (ih h1.2 h2.2 fun y => ?_)).trans p.symm
    constructor
    · intro hy
      have q := p.mem_iff.mp ((m y).mp (List.mem_cons_of_mem _ hy))
      rcases List.mem_cons.mp q with rfl | q
      · exact absurd hy h1.1
      · exact q
    · intro hy
      have q := (m y).mpr (p.mem_iff.mpr (List.mem_cons_of_mem _ hy))
      rcases List.mem_cons.mp q with rfl | q
      · exact absurd hy h2.1
      · exact q

/-- a dict's store: in its place, or at the end -/
def put (r : Route) : List Route → List Route
  | [] => [r]
  | x :: l => if key x = key r then r :: l else x :: put r l
theorem mem_put {r : Route} : ∀ {l : List Route}, NK l → ∀ x, x ∈ put r l ↔ x = r ∨ (x ∈ l ∧ key x ≠ key r)
  | [], _, x => by simp [put]
  | y :: l, h, x => by
    have h' := List.pairwise_cons.mp h
    unfold put
    by_cases e : key y = key r
    · rw [if_pos e, List.mem_cons, List.mem_cons]
      constructor
      · rintro (rfl | hx)
        · exact .inl rfl
        · exact .inr ⟨.inr hx, fun q => h'.1 x hx (e.trans q.symm)⟩
      · rintro (rfl | ⟨rfl | hx, q⟩)
        · exact .inl rfl
        · exact absurd e q
        · exact .inr hx
    · rw [if_neg e, List.mem_cons, List.mem_cons, mem_put h'.2]
      constructor
      · rintro (rfl | rfl | ⟨hx, q⟩)
        · exact .inr ⟨.inl rfl, e⟩
        · exact .inl rfl
        · exact .inr ⟨.inr hx, q⟩
      · rintro (rfl | ⟨rfl | hx, q⟩)
        · exact .inr (.inl rfl)
        · exact .inl rfl
        · exact .inr (.inr ⟨hx, q⟩)
theorem nk_put {r : Route} : ∀ {l : List Route}, NK l → NK (put r l)
  | [], _ => List.pairwise_singleton _ _
  | y :: l, h => by
    have h' := List.pairwise_cons.mp h
    unfold put
    by_cases e : key y = key r
    · rw [if_pos e]
      exact List.pairwise_cons.mpr ⟨fun z hz q => h'.1 z hz (e.trans q), h'.2⟩
    · rw [if_neg e]
      refine List.pairwise_cons.mpr ⟨fun z hz => ?_, nk_put h'.2⟩
      rcases (mem_put h'.2 z).mp hz with rfl | ⟨hz, _⟩
      · exact e
      · exact h'.1 z hz
theorem mem_place {r : Route} : ∀ {l : List Route}, Sorted l → ∀ x, x ∈ place r l ↔ x = r ∨ (x ∈ l ∧ key x ≠ key r)
  | [], _, x => by simp [place]
  | y :: l, h, x => by
    have h' := List.pairwise_cons.mp h
    unfold place
    by_cases c : before r y = true
    · have c' := (before_iff _ _).mp c
      rw [if_pos c, List.mem_cons]
      constructor
      · rintro (rfl | hx)
        · exact .inl rfl
        · refine .inr ⟨hx, fun q => ?_⟩
          rcases List.mem_cons.mp hx with rfl | hx
          · exact klt_ne c' q.symm
          · exact klt_ne (klt_trans c' (h'.1 x hx)) q.symm
      · rintro (rfl | ⟨hx, _⟩)
        · exact .inl rfl
        · exact .inr hx
    · rw [if_neg c]
      by_cases d : before y r = true
      · have d' := (before_iff _ _).mp d
        rw [if_pos d, List.mem_cons, mem_place h'.2, List.mem_cons]
        constructor
        · rintro (rfl | rfl | ⟨hx, q⟩)
          · exact .inr ⟨.inl rfl, klt_ne d'⟩
          · exact .inl rfl
          · exact .inr ⟨.inr hx, q⟩
        · rintro (rfl | ⟨rfl | hx, q⟩)
          · exact .inr (.inl rfl)
          · exact .inl rfl
          · exact .inr (.inr ⟨hx, q⟩)
      · have e : key r = key y := klt_tri (fun q => c ((before_iff _ _).mpr q)) fun q => d ((before_iff _ _).mpr q)
        rw [if_neg d, List.mem_cons, List.mem_cons]
        constructor
        · rintro (rfl | hx)
          · exact .inl rfl
          · exact .inr ⟨.inr hx, fun q => klt_ne (h'.1 x hx) (q.trans e).symm⟩
        · rintro (rfl | ⟨rfl | hx, q⟩)
          · exact .inl rfl
          · exact absurd e.symm q
          · exact .inr hx
theorem sorted_place {r : Route} : ∀ {l : List Route}, Sorted l → Sorted (place r l)
  | [], _ => List.pairwise_singleton _ _
  | y :: l, h => by
    have h' := List.pairwise_cons.mp h
    unfold place
    by_cases c : before r y = true
    · have c' := (before_iff _ _).mp c
      rw [if_pos c]
      refine List.pairwise_cons.mpr ⟨fun z hz => ?_, h⟩
      rcases List.mem_cons.mp hz with rfl | hz
      · exact c'
      · exact klt_trans c' (h'.1 z hz)
    · rw [if_neg c]
      by_cases d : before y r = true
      · have d' := (before_iff _ _).mp d
        rw [if_pos d]
        refine List.pairwise_cons.mpr ⟨fun z hz => ?_, sorted_place h'.2⟩
        rcases (mem_place h'.2 z).mp hz with rfl | ⟨hz, _⟩
        · exact d'
        · exact h'.1 z hz
      · have e : key r = key y := klt_tri (fun q => c ((before_iff _ _).mpr q)) fun q => d ((before_iff _ _).mpr q)
        rw [if_neg d]
        exact List.pairwise_cons.mpr ⟨fun z hz => by rw [e]; exact h'.1 z hz, h'.2⟩

/-- the dict's entries (in any order) beside the specification's list -/
structure Ord (l l' : List Route) : Prop where
  nk : NK l
  so : Sorted l'
  pm : l'.Perm l
theorem Ord.mem {l l' : List Route} (o : Ord l l') (x : Route) : x ∈ l' ↔ x ∈ l := o.pm.mem_iff
theorem Ord.len {l l' : List Route} (o : Ord l l') : l'.length = l.length := o.pm.length_eq
theorem Ord.nil : Ord [] [] := ⟨.nil, .nil, .refl _⟩
theorem Ord.put {l l' : List Route} (o : Ord l l') (r : Route) : Ord (put r l) (place r l') := by
  refine ⟨nk_put o.nk, sorted_place o.so, perm_of_mem (sorted_place o.so).nk.nodup (nk_put o.nk).nodup fun x => ?_⟩
  rw [mem_place o.so, mem_put o.nk, o.mem]
theorem Ord.map {l l' : List Route} (o : Ord l l') {f : Route → Route} (hf : ∀ r, key (f r) = key r) : Ord (l.map f) (l'.map f) := by
  refine ⟨?_, ?_, o.pm.map f⟩
  · refine List.pairwise_map.mpr (o.nk.imp fun h => ?_)
    rw [hf, hf]; exact h
  · refine List.pairwise_map.mpr (o.so.imp fun h => ?_)
    rw [hf, hf]; exact h
theorem Ord.filter {l l' : List Route} (o : Ord l l') (p : Route → Bool) : Ord (l.filter p) (l'.filter p) :=
  ⟨o.nk.filter p, o.so.filter p, o.pm.filter p⟩

theorem routeOf_some {l : List Route} (h : NK l) {n b : Nat} {r : Route} : routeOf l n b = some r ↔ r ∈ l ∧ key r = (n, b) := by
  unfold routeOf key
  constructor
  · intro e
    have m := List.mem_of_find?_eq_some e
    have q := List.find?_some e
    simp only [Bool.and_eq_true, beq_iff_eq] at q
    exact ⟨m, by rw [q.1, q.2]⟩
  · rintro ⟨m, e⟩
    cases f : l.find? (fun r => r.net == n && r.bits == b) with
    | none =>
      have q := List.find?_eq_none.mp f r m
      have e1 : r.net = n := congrArg Prod.fst e
      have e2 : r.bits = b := congrArg Prod.snd e
      simp [e1, e2] at q
    | some r' =>
      have m' := List.mem_of_find?_eq_some f
      have q := List.find?_some f
      simp only [Bool.and_eq_true, beq_iff_eq] at q
      have e' : key r' = key r := by
        unfold key
        rw [q.1, q.2]
        exact e.symm
      rw [h.inj m' m e']
theorem routeOf_none {l : List Route} {n b : Nat} : routeOf l n b = none ↔ ∀ r ∈ l, key r ≠ (n, b) := by
  unfold routeOf key
  rw [List.find?_eq_none]
  constructor
  · intro h r hr e
    have e1 : r.net = n := congrArg Prod.fst e
    have e2 : r.bits = b := congrArg Prod.snd e
    exact h r hr (by simp [e1, e2])
  · intro h r hr q
    simp only [Bool.and_eq_true, beq_iff_eq] at q
    exact h r hr (by rw [q.1, q.2])
theorem Ord.routeOf {l l' : List Route} (o : Ord l l') (n b : Nat) : routeOf l' n b = routeOf l n b := by
  cases e : Ra54.routeOf l n b with
  | none =>
    rw [routeOf_none] at e ⊢
    exact fun r hr => e r ((o.mem r).mp hr)
  | some r =>
    rw [routeOf_some o.nk] at e
    rw [routeOf_some o.so.nk]
    exact ⟨(o.mem r).mpr e.1, e.2⟩
theorem routeOf_key {l : List Route} {n b : Nat} {r : Route} (e : routeOf l n b = some r) : r ∈ l ∧ r.net = n ∧ r.bits = b := by
  have m := List.mem_of_find?_eq_some e
  have q := List.find?_some e
  simp only [Bool.and_eq_true, beq_iff_eq] at q
  exact ⟨m, q.1, q.2⟩
theorem routeOf_put {l : List Route} (h : NK l) (r : Route) (n b : Nat) : routeOf (put r l) n b = if key r = (n, b) then some r else routeOf l n b := by
  by_cases c : key r = (n, b)
  · rw [if_pos c, routeOf_some (nk_put h)]
    exact ⟨(mem_put h r).mpr (.inl rfl), c⟩
  · rw [if_neg c]
    cases e : Ra54.routeOf l n b with
    | none =>
      rw [routeOf_none] at e ⊢
      intro x hx
      rcases (mem_put h x).mp hx with rfl | ⟨hx, _⟩
      · exact c
      · exact e x hx
    | some x =>
      rw [routeOf_some h] at e
      rw [routeOf_some (nk_put h)]
      refine ⟨(mem_put h x).mpr (.inr ⟨e.1, fun q => c ?_⟩), e.2⟩
      rw [← q]
      exact e.2

/-! what is offered, over a dict's entries -/
def offU (now i x : Nat) (l : List Route) (e : Entry) : List Route :=
  let new : Route := ⟨e.net, e.bits, e.dist, i, x, now + GOOD, 0, 0, true⟩
  match routeOf l e.net e.bits with
  | none => if e.dist < FAR ∧ l.length < MOST then put new l else l
  | some r =>
    if r.via = 0 ∧ r.dist = 0 then l
    else if r.link = i ∧ r.via = x then
      (if e.dist = r.dist then (if e.dist < FAR then put { r with good := now + GOOD } l else l)
       else if e.dist = FAR then put (lost now r) l else put new l)
    else if r.dist = FAR then (if now < r.held ∨ e.dist = FAR then l else put new l)
    else if e.dist < r.dist then put new l
    else l
theorem Ord.off {l l' : List Route} (o : Ord l l') (now i x : Nat) (e : Entry) : Ord (offU now i x l e) (offered now i x l' e) := by
  unfold offU offered
  simp only [o.routeOf, o.len]
  cases Ra54.routeOf l e.net e.bits with
  | none =>
    simp only
    by_cases c : e.dist < FAR ∧ l.length < MOST
    · rw [if_pos c, if_pos c]; exact o.put _
    · rw [if_neg c, if_neg c]; exact o
  | some r =>
    simp only
    repeat' split
    all_goals first
      | exact o
      | exact o.put _
theorem Ord.offs {now i x : Nat} : ∀ (es : List Entry) {l l' : List Route}, Ord l l' → Ord (es.foldl (offU now i x) l) (es.foldl (offered now i x) l')
  | [], _, _, o => o
  | e :: es, _, _, o => Ord.offs es (o.off now i x e)
end NR
end

section
set_option autoImplicit false
/-! Messages: bytes as natural numbers, read chunk by chunk; what a message changes. -/
namespace NR
open Ra54

def numN (l : List Nat) : Nat := l.foldl (fun n c => n * 256 + c) 0
def bytesOf (l : List Nat) : Bytes := l.map UInt8.ofNat
def Small (l : List Nat) : Prop := ∀ x ∈ l, x ≤ 255
theorem Small.take {l : List Nat} (h : Small l) (n : Nat) : Small (l.take n) := fun x hx => h x (List.mem_of_mem_take hx)
theorem Small.drop {l : List Nat} (h : Small l) (n : Nat) : Small (l.drop n) := fun x hx => h x (List.mem_of_mem_drop hx)
theorem byte_toNat {c : Nat} (h : c ≤ 255) : (UInt8.ofNat c).toNat = c := by
  rw [UInt8.toNat_ofNat']
  exact Nat.mod_eq_of_lt (by omega)
theorem number_fold : ∀ (l : List Nat) (n : Nat), Small l → (bytesOf l).foldl (fun n c => 256 * n + c.toNat) n = l.foldl (fun n c => n * 256 + c) n
  | [], _, _ => rfl
  | c :: l, n, h => by
    show (bytesOf l).foldl (fun n c => 256 * n + c.toNat) (256 * n + (UInt8.ofNat c).toNat) = l.foldl (fun n c => n * 256 + c) (n * 256 + c)
    rw [byte_toNat (h c List.mem_cons_self), Nat.mul_comm 256 n]
    exact number_fold l _ fun x hx => h x (List.mem_cons_of_mem _ hx)
theorem number_eq {l : List Nat} (h : Small l) : number (bytesOf l) = numN l := number_fold l 0 h
theorem numN_lt : ∀ (l : List Nat) (n : Nat), Small l → l.foldl (fun n c => n * 256 + c) n < (n + 1) * 256 ^ l.length
  | [], n, _ => by simp
  | c :: l, n, h => by
    have ih := numN_lt l (n * 256 + c) fun x hx => h x (List.mem_cons_of_mem _ hx)
    have hc := h c List.mem_cons_self
    have h1 : (n * 256 + c + 1) * 256 ^ l.length ≤ ((n + 1) * 256) * 256 ^ l.length := Nat.mul_le_mul_right _ (by omega)
    have h2 : ((n + 1) * 256) * 256 ^ l.length = (n + 1) * 256 ^ (l.length + 1) := by rw [Nat.pow_succ, Nat.mul_assoc, Nat.mul_comm 256 (256 ^ l.length)]
    show l.foldl (fun n c => n * 256 + c) (n * 256 + c) < (n + 1) * 256 ^ (l.length + 1)
    omega
theorem numN_bound {l : List Nat} (h : Small l) {k : Nat} (hk : l.length ≤ k) : numN l < 256 ^ k := by
  have a := numN_lt l 0 h
  have b : 256 ^ l.length ≤ 256 ^ k := Nat.pow_le_pow_right (by decide) hk
  unfold numN
  omega
theorem numN_more {l : List Nat} {i : Nat} {z : Nat} (h : l[i]? = some z) : numN (l.take (i + 1)) = numN (l.take i) * 256 + z := by
  have e : l.take (i + 1) = l.take i ++ [z] := by
    rw [List.take_add_one, h]
    rfl
  unfold numN
  rw [e, List.foldl_append]
  rfl
theorem numN_zero2 {a b : Nat} : numN [a, b] = 0 ↔ a = 0 ∧ b = 0 := by
  show (0 * 256 + a) * 256 + b = 0 ↔ _
  omega

/-- eight octets as an offer -/
def offerN (l : List Nat) : Option Entry :=
  let e : Entry := ⟨numN (l.take 4), l.getD 4 0, l.getD 5 0⟩
  if e.bits ≤ 32 ∧ netOf e.bits e.net = e.net ∧ 1 ≤ e.dist ∧ e.dist ≤ 16 ∧ numN (l.drop 6) = 0 then some e else none
theorem eight {l : List Nat} (h : l.length = 8) : ∃ a b c d e f g i : Nat, l = [a, b, c, d, e, f, g, i] := by
  match l, h with
  | [a, b, c, d, e, f, g, i], _ => exact ⟨a, b, c, d, e, f, g, i, rfl⟩
theorem byte_zero {c : Nat} (h : c ≤ 255) : UInt8.ofNat c = 0 ↔ c = 0 := by
  constructor
  · intro e
    have q := congrArg UInt8.toNat e
    rw [byte_toNat h] at q
    exact q
  · intro e
    rw [e]
    rfl
theorem readEntry_eq {l : List Nat} (h : Small l) (hl : l.length = 8) : readEntry (bytesOf l) = offerN l := by
  have e1 : number ((bytesOf l).take 4) = numN (l.take 4) := by
    unfold bytesOf
    rw [← List.map_take]
    exact number_eq (h.take 4)
  obtain ⟨a, b, c, d, e, f, g, i, rfl⟩ := eight hl
  have s : ∀ x, x ∈ [a, b, c, d, e, f, g, i] → x ≤ 255 := h
  have he : e ≤ 255 := s e (by simp)
  have hf : f ≤ 255 := s f (by simp)
  have hg : g ≤ 255 := s g (by simp)
  have hi : i ≤ 255 := s i (by simp)
  have e2 : number (((bytesOf [a, b, c, d, e, f, g, i]).drop 4).take 1) = e := by
    show 256 * 0 + (UInt8.ofNat e).toNat = e
    rw [byte_toNat he]
    omega
  have e3 : number (((bytesOf [a, b, c, d, e, f, g, i]).drop 5).take 1) = f := by
    show 256 * 0 + (UInt8.ofNat f).toNat = f
    rw [byte_toNat hf]
    omega
  have e4 : ((bytesOf [a, b, c, d, e, f, g, i]).drop 6 = [0, 0]) ↔ numN ([a, b, c, d, e, f, g, i].drop 6) = 0 := by
    show ([UInt8.ofNat g, UInt8.ofNat i] = [0, 0]) ↔ numN [g, i] = 0
    rw [numN_zero2]
    simp only [List.cons.injEq, and_true]
    rw [byte_zero hg, byte_zero hi]
  unfold readEntry offerN
  simp only [e1, e2, e3, e4]
  have e5 : (bytesOf [a, b, c, d, e, f, g, i]).length = 8 := rfl
  simp only [e5, true_and]
  rfl
/-- so many offers, one behind another -/
def offersN : Nat → List Nat → Option (List Entry)
  | 0, _ => some []
  | n + 1, l => (offerN (l.take 8)).bind fun e => (offersN n (l.drop 8)).map fun es => e :: es
theorem readEntries_eq : ∀ (n : Nat) (l : List Nat), Small l → readEntries n (bytesOf l) = if l.length = 8 * n then offersN n l else none
  | 0, l, _ => by
    unfold readEntries offersN bytesOf
    cases l <;> simp
  | n + 1, l, h => by
    have ih := readEntries_eq n (l.drop 8) (h.drop 8)
    have ed : (bytesOf l).drop 8 = bytesOf (l.drop 8) := by unfold bytesOf; rw [List.map_drop]
    have et : (bytesOf l).take 8 = bytesOf (l.take 8) := by unfold bytesOf; rw [List.map_take]
    show ((readEntry ((bytesOf l).take 8)).bind fun e => (readEntries n ((bytesOf l).drop 8)).map fun l => e :: l) = _
    rw [ed, et, ih]
    by_cases c : 8 ≤ l.length
    · have h8 : (l.take 8).length = 8 := by rw [List.length_take]; omega
      rw [readEntry_eq (h.take 8) h8, List.length_drop]
      by_cases d : l.length = 8 * (n + 1)
      · rw [if_pos d, if_pos (show l.length - 8 = 8 * n by omega)]
        rfl
      · rw [if_neg d, if_neg (show ¬ l.length - 8 = 8 * n by omega)]
        cases offerN (l.take 8) <;> rfl
    · rw [if_neg (show ¬ l.length = 8 * (n + 1) by omega)]
      have e : readEntry (bytesOf (l.take 8)) = none := by
        unfold readEntry
        refine if_neg fun z => c ?_
        have z1 := z.1
        unfold bytesOf at z1
        rw [List.length_map, List.length_take] at z1
        omega
      rw [e]
      rfl
def readN (l : List Nat) : Option (List Entry) :=
  if (1 ≤ numN (l.take 2) ∧ numN (l.take 2) ≤ 64) ∧ l.length = 2 + 8 * numN (l.take 2) then offersN (numN (l.take 2)) (l.drop 2) else none
theorem read_eq {l : List Nat} (h : Small l) : Ra54.read (bytesOf l) = readN l := by
  have et : (bytesOf l).take 2 = bytesOf (l.take 2) := by unfold bytesOf; rw [List.map_take]
  have ed : (bytesOf l).drop 2 = bytesOf (l.drop 2) := by unfold bytesOf; rw [List.map_drop]
  have el : (bytesOf l).length = l.length := by unfold bytesOf; rw [List.length_map]
  unfold Ra54.read readN
  simp only [et, ed, el, number_eq (h.take 2), readEntries_eq _ _ (h.drop 2), List.length_drop]
  by_cases c : 1 ≤ numN (l.take 2) ∧ numN (l.take 2) ≤ 64
  · by_cases d : l.length = 2 + 8 * numN (l.take 2)
    · rw [if_pos (show 2 ≤ l.length ∧ _ by exact ⟨by omega, c⟩), if_pos (show l.length - 2 = 8 * numN (l.take 2) by omega), if_pos ⟨c, d⟩]
    · rw [if_neg (show ¬ ((1 ≤ numN (l.take 2) ∧ numN (l.take 2) ≤ 64) ∧ l.length = 2 + 8 * numN (l.take 2)) from fun z => d z.2)]
      by_cases b : 2 ≤ l.length
      · rw [if_pos (show 2 ≤ l.length ∧ _ by exact ⟨b, c⟩), if_neg (show ¬ l.length - 2 = 8 * numN (l.take 2) by omega)]
      · exact if_neg fun z => b z.1
  · rw [if_neg (show ¬ ((1 ≤ numN (l.take 2) ∧ numN (l.take 2) ≤ 64) ∧ l.length = 2 + 8 * numN (l.take 2)) from fun z => c z.1)]
    exact if_neg fun z => c z.2
/-- what the loop knows behind some offers -/
theorem offersN_step {n : Nat} {l : List Nat} {es : List Entry} {w : Option (List Entry)} (h : w = (offersN (n + 1) l).map (es ++ ·)) :
    (offerN (l.take 8) = none → w = none) ∧ ∀ e, offerN (l.take 8) = some e → w = (offersN n (l.drop 8)).map ((es ++ [e]) ++ ·) := by
  have h' : w = ((offerN (l.take 8)).bind fun e => (offersN n (l.drop 8)).map fun es => e :: es).map (es ++ ·) := h
  constructor
  · intro e
    rw [h', e]
    rfl
  · intro e q
    rw [h', q]
    show ((offersN n (l.drop 8)).map fun es => e :: es).map (es ++ ·) = _
    cases offersN n (l.drop 8) with
    | none => rfl
    | some r => simp
theorem offerN_ok {l : List Nat} {e : Entry} (h : offerN l = some e) : e.bits ≤ 32 ∧ netOf e.bits e.net = e.net ∧ 1 ≤ e.dist ∧ e.dist ≤ 16 := by
  unfold offerN at h
  simp only at h
  split at h
  · rename_i c
    have q := Option.some.inj h
    subst q
    exact ⟨c.1, c.2.1, c.2.2.1, c.2.2.2.1⟩
  · cases h
end NR
end

section
set_option autoImplicit false
set_option linter.unusedSectionVars false
/-! Entries: an object's address beside the route that it says. -/
namespace NR
open Ra54
section
variable {α : Type} [DecidableEq α]
/-- a dict's store of a new object -/
def putE (x : α × Route) : List (α × Route) → List (α × Route)
  | [] => [x]
  | e :: l => if key e.2 = key x.2 then x :: l else e :: putE x l
/-- an object is changed where it stands -/
def modE (a : α) (r : Route) : List (α × Route) → List (α × Route)
  | [] => []
  | e :: l => if e.1 = a then (a, r) :: l else e :: modE a r l
def findE (es : List (α × Route)) (k : Nat × Nat) : Option (α × Route) := es.find? fun e => decide (key e.2 = k)
theorem putE_routes (x : α × Route) : ∀ es : List (α × Route), (putE x es).map (·.2) = put x.2 (es.map (·.2))
  | [] => rfl
  | e :: l => by
    show (if key e.2 = key x.2 then x :: l else e :: putE x l).map (·.2) = if key e.2 = key x.2 then x.2 :: l.map (·.2) else e.2 :: put x.2 (l.map (·.2))
    by_cases c : key e.2 = key x.2
    · rw [if_pos c, if_pos c]
      rfl
    · rw [if_neg c, if_neg c, List.map_cons, putE_routes x l]
theorem mem_putE {x y : α × Route} : ∀ {es : List (α × Route)}, y ∈ putE x es → y = x ∨ y ∈ es
  | [], h => .inl (List.mem_singleton.mp h)
  | e :: l, h => by
    unfold putE at h
    by_cases c : key e.2 = key x.2
    · rw [if_pos c] at h
      rcases List.mem_cons.mp h with h | h
      · exact .inl h
      · exact .inr (List.mem_cons_of_mem _ h)
    · rw [if_neg c] at h
      rcases List.mem_cons.mp h with h | h
      · exact .inr (h ▸ List.mem_cons_self)
      · exact (mem_putE h).imp id fun z => List.mem_cons_of_mem _ z
theorem putE_addrs {x : α × Route} : ∀ {es : List (α × Route)}, (es.map (·.1)).Nodup → (∀ e ∈ es, e.1 ≠ x.1) → ((putE x es).map (·.1)).Nodup
  | [], _, _ => List.pairwise_singleton _ _
  | e :: l, h, n => by
    have h' := List.nodup_cons.mp h
    have nl : x.1 ∉ l.map (·.1) := fun z => by
      obtain ⟨y, hy, q⟩ := List.mem_map.mp z
      exact n y (List.mem_cons_of_mem _ hy) q
    unfold putE
    by_cases c : key e.2 = key x.2
    · rw [if_pos c, List.map_cons]
      exact List.nodup_cons.mpr ⟨nl, h'.2⟩
    · rw [if_neg c, List.map_cons]
      refine List.nodup_cons.mpr ⟨fun z => ?_, putE_addrs h'.2 fun y hy => n y (List.mem_cons_of_mem _ hy)⟩
      obtain ⟨y, hy, q⟩ := List.mem_map.mp z
      rcases mem_putE hy with rfl | hy
      · exact n e List.mem_cons_self q.symm
      · exact h'.1 (List.mem_map.mpr ⟨y, hy, q⟩)
theorem putE_len (x : α × Route) : ∀ es : List (α × Route), (putE x es).length ≤ es.length + 1 ∧ ((findE es (key x.2)).isSome = true → (putE x es).length = es.length)
  | [] => ⟨Nat.le_refl _, fun h => by simp [findE] at h⟩
  | e :: l => by
    have ih := putE_len x l
    unfold putE
    by_cases c : key e.2 = key x.2
    · rw [if_pos c]
      exact ⟨by simp, fun _ => rfl⟩
    · rw [if_neg c, List.length_cons, List.length_cons]
      refine ⟨by omega, fun h => ?_⟩
      have h' : (findE l (key x.2)).isSome = true := by
        unfold findE at h ⊢
        rw [List.find?_cons_of_neg (by simpa using c)] at h
        exact h
      have q := ih.2 h'
      omega
theorem modE_addrs (a : α) (r : Route) : ∀ es : List (α × Route), (modE a r es).map (·.1) = es.map (·.1)
  | [] => rfl
  | e :: l => by
    unfold modE
    by_cases c : e.1 = a
    · rw [if_pos c, List.map_cons, List.map_cons, c]
    · rw [if_neg c, List.map_cons, List.map_cons, modE_addrs a r l]
theorem modE_len (a : α) (r : Route) (es : List (α × Route)) : (modE a r es).length = es.length := by
  have q := congrArg List.length (modE_addrs a r es)
  rw [List.length_map, List.length_map] at q
  exact q
theorem mem_modE {a : α} {r : Route} {y : α × Route} : ∀ {es : List (α × Route)}, (es.map (·.1)).Nodup → y ∈ modE a r es → (y = (a, r)) ∨ (y ∈ es ∧ y.1 ≠ a)
  | [], _, h => nomatch h
  | e :: l, nd, h => by
    have h' := List.nodup_cons.mp nd
    unfold modE at h
    by_cases c : e.1 = a
    · rw [if_pos c] at h
      rcases List.mem_cons.mp h with h | h
      · exact .inl h
      · exact .inr ⟨List.mem_cons_of_mem _ h, fun z => h'.1 (show e.1 ∈ l.map (·.1) by rw [c, ← z]; exact List.mem_map.mpr ⟨y, h, rfl⟩)⟩
    · rw [if_neg c] at h
      rcases List.mem_cons.mp h with h | h
      · exact .inr ⟨h ▸ List.mem_cons_self, by rw [h]; exact c⟩
      · exact (mem_modE h'.2 h).imp id fun z => ⟨List.mem_cons_of_mem _ z.1, z.2⟩
theorem modE_keys {a : α} {r r0 : Route} (hk : key r = key r0) : ∀ {es : List (α × Route)}, (es.map (·.1)).Nodup → (a, r0) ∈ es → (modE a r es).map (fun e => key e.2) = es.map fun e => key e.2
  | [], _, h => nomatch h
  | e :: l, nd, h => by
    have h' := List.nodup_cons.mp nd
    unfold modE
    by_cases c : e.1 = a
    · rw [if_pos c]
      have q : e = (a, r0) := by
        rcases List.mem_cons.mp h with h | h
        · exact h.symm
        · exact absurd (List.mem_map.mpr ⟨(a, r0), h, rfl⟩) (by rw [← c] at *; exact h'.1)
      rw [List.map_cons, List.map_cons, q]
      exact congrArg (· :: _) hk
    · rw [if_neg c, List.map_cons, List.map_cons]
      rcases List.mem_cons.mp h with h | h
      · exact absurd (congrArg Prod.fst h.symm) c
      · rw [modE_keys hk h'.2 h]
theorem modE_routes {a : α} {r r0 : Route} (hk : key r = key r0) : ∀ {es : List (α × Route)}, (es.map (·.1)).Nodup → NK (es.map (·.2)) → (a, r0) ∈ es → (modE a r es).map (·.2) = put r (es.map (·.2))
  | [], _, _, h => nomatch h
  | e :: l, nd, nk, h => by
    have h' := List.nodup_cons.mp nd
    have k' := List.pairwise_cons.mp nk
    show (if e.1 = a then (a, r) :: l else e :: modE a r l).map (·.2) = if key e.2 = key r then r :: l.map (·.2) else e.2 :: put r (l.map (·.2))
    by_cases c : e.1 = a
    · have q : e = (a, r0) := by
        rcases List.mem_cons.mp h with h | h
        · exact h.symm
        · exact absurd (List.mem_map.mpr ⟨(a, r0), h, rfl⟩) (by rw [← c] at *; exact h'.1)
      have k0 : key e.2 = key r := by rw [q]; exact hk.symm
      rw [if_pos c, if_pos k0]
      rfl
    · rcases List.mem_cons.mp h with h | h
      · exact absurd (congrArg Prod.fst h.symm) c
      · have k0 : ¬ key e.2 = key r := fun z => k'.1 r0 (List.mem_map.mpr ⟨(a, r0), h, rfl⟩) (z.trans hk)
        rw [if_neg c, if_neg k0, List.map_cons, modE_routes hk h'.2 k'.2 h]
theorem findE_routeOf (es : List (α × Route)) (n b : Nat) : (findE es (n, b)).map (·.2) = routeOf (es.map (·.2)) n b := by
  unfold findE routeOf
  rw [List.find?_map]
  have e : (fun e : α × Route => decide (key e.2 = (n, b))) = (fun r : Route => r.net == n && r.bits == b) ∘ fun x : α × Route => x.2 := by
    funext x
    show decide ((x.2.net, x.2.bits) = (n, b)) = (x.2.net == n && x.2.bits == b)
    rw [Bool.eq_iff_iff]
    simp
  rw [e]
theorem findE_none {es : List (α × Route)} {n b : Nat} : findE es (n, b) = none ↔ routeOf (es.map (·.2)) n b = none := by
  rw [← findE_routeOf]
  cases findE es (n, b) <;> simp
theorem findE_some {es : List (α × Route)} {n b : Nat} {e : α × Route} (h : findE es (n, b) = some e) : e ∈ es ∧ key e.2 = (n, b) ∧ routeOf (es.map (·.2)) n b = some e.2 := by
  refine ⟨List.mem_of_find?_eq_some h, by simpa using List.find?_some h, ?_⟩
  rw [← findE_routeOf, h]
  rfl
end
end NR
end

section
set_option autoImplicit false
/-! What a message changes: counted over the networks that it names. -/
namespace NR
open Ra54
/-- networks in the order in which they first come -/
def addK (ks : List (Nat × Nat)) (n : Nat × Nat) : List (Nat × Nat) := if n ∈ ks then ks else ks ++ [n]
def netK (e : Entry) : Nat × Nat := (e.net, e.bits)
def keysOf (es : List Entry) : List (Nat × Nat) := es.foldl (fun ks e => addK ks (netK e)) []
theorem mem_addK {ks : List (Nat × Nat)} {n x : Nat × Nat} : x ∈ addK ks n ↔ x ∈ ks ∨ x = n := by
  unfold addK
  split
  · rename_i h
    exact ⟨.inl, fun z => z.elim id fun e => e ▸ h⟩
  · rw [List.mem_append, List.mem_singleton]
theorem nodup_addK {ks : List (Nat × Nat)} {n : Nat × Nat} (h : ks.Nodup) : (addK ks n).Nodup := by
  unfold addK
  split
  · exact h
  · rename_i c
    refine List.nodup_append.mpr ⟨h, List.pairwise_singleton _ _, fun a ha b hb e => ?_⟩
    rw [List.mem_singleton.mp hb] at e
    exact c (e ▸ ha)
theorem mem_foldK : ∀ (es : List Entry) (ks : List (Nat × Nat)) (x : Nat × Nat), x ∈ es.foldl (fun ks e => addK ks (netK e)) ks ↔ x ∈ ks ∨ ∃ e ∈ es, netK e = x
  | [], ks, x => by simp
  | e :: es, ks, x => by
    rw [List.foldl_cons, mem_foldK es, mem_addK]
    constructor
    · rintro ((h | h) | ⟨y, hy, q⟩)
      · exact .inl h
      · exact .inr ⟨e, List.mem_cons_self, h.symm⟩
      · exact .inr ⟨y, List.mem_cons_of_mem _ hy, q⟩
    · rintro (h | ⟨y, hy, q⟩)
      · exact .inl (.inl h)
      · rcases List.mem_cons.mp hy with rfl | hy
        · exact .inl (.inr q.symm)
        · exact .inr ⟨y, hy, q⟩
theorem nodup_foldK : ∀ (es : List Entry) (ks : List (Nat × Nat)), ks.Nodup → (es.foldl (fun ks e => addK ks (netK e)) ks).Nodup
  | [], _, h => h
  | e :: es, _, h => nodup_foldK es _ (nodup_addK h)
theorem mem_keysOf {es : List Entry} {x : Nat × Nat} : x ∈ keysOf es ↔ ∃ e ∈ es, netK e = x := by
  unfold keysOf
  rw [mem_foldK]
  simp
theorem nodup_keysOf (es : List Entry) : (keysOf es).Nodup := nodup_foldK es [] .nil
theorem keysOf_more {es : List Entry} {i : Nat} {e : Entry} (h : es[i]? = some e) : keysOf (es.take (i + 1)) = addK (keysOf (es.take i)) (netK e) := by
  unfold keysOf
  rw [List.take_add_one, h, List.foldl_append]
  rfl
/-- an offer touches its own network alone, and takes none away -/
theorem offU_routeOf {now i y : Nat} {l : List Route} {e : Entry} (nk : NK l) : NK (offU now i y l e) ∧ (∀ n : Nat × Nat, n ≠ netK e → routeOf (offU now i y l e) n.1 n.2 = routeOf l n.1 n.2) ∧
    ∀ n : Nat × Nat, (routeOf l n.1 n.2).isSome = true → (routeOf (offU now i y l e) n.1 n.2).isSome = true := by
  have same : NK l ∧ (∀ n : Nat × Nat, n ≠ netK e → routeOf l n.1 n.2 = routeOf l n.1 n.2) ∧ ∀ n : Nat × Nat, (routeOf l n.1 n.2).isSome = true → (routeOf l n.1 n.2).isSome = true := ⟨nk, fun _ _ => rfl, fun _ h => h⟩
  have chg : ∀ r : Route, key r = netK e → NK (put r l) ∧ (∀ n : Nat × Nat, n ≠ netK e → routeOf (put r l) n.1 n.2 = routeOf l n.1 n.2) ∧ ∀ n : Nat × Nat, (routeOf l n.1 n.2).isSome = true → (routeOf (put r l) n.1 n.2).isSome = true := by
    intro r hr
    refine ⟨nk_put nk, fun n hn => ?_, fun n h => ?_⟩
    · rw [routeOf_put nk, if_neg (fun z => hn (by rw [← hr]; exact z.symm))]
    · rw [routeOf_put nk]
      split
      · rfl
      · exact h
  unfold offU
  cases q : routeOf l e.net e.bits with
  | none =>
    simp only
    split
    · exact chg _ rfl
    · exact same
  | some r =>
    obtain ⟨_, h1, h2⟩ := routeOf_key q
    have hk : key r = netK e := by
      unfold key netK
      rw [h1, h2]
    simp only
    repeat' split
    all_goals first
      | exact same
      | exact chg _ rfl
      | exact chg _ hk
theorem offsU_routeOf {now i y : Nat} : ∀ (es : List Entry) {l : List Route}, NK l → NK (es.foldl (offU now i y) l) ∧ (∀ n : Nat × Nat, (∀ e ∈ es, netK e ≠ n) → routeOf (es.foldl (offU now i y) l) n.1 n.2 = routeOf l n.1 n.2) ∧
    ∀ n : Nat × Nat, (routeOf l n.1 n.2).isSome = true → (routeOf (es.foldl (offU now i y) l) n.1 n.2).isSome = true
  | [], l, nk => ⟨nk, fun _ _ => rfl, fun _ h => h⟩
  | e :: es, l, nk => by
    obtain ⟨h1, h2, h3⟩ := offU_routeOf (now := now) (i := i) (y := y) (e := e) nk
    obtain ⟨g1, g2, g3⟩ := offsU_routeOf es h1
    refine ⟨g1, fun n hn => ?_, fun n h => g3 n (h3 n h)⟩
    rw [List.foldl_cons, g2 n fun x hx => hn x (List.mem_cons_of_mem _ hx), h2 n fun z => hn e List.mem_cons_self z.symm]
/-- how far, link, neighbour of the route to a network -/
def courseN (l : List Route) (n : Nat × Nat) : Option (Nat × Nat × Nat) := (routeOf l n.1 n.2).map fun r => (r.dist, r.link, r.via)
theorem differ_eq {l l' rs rs' : List Route} {ks : List (Nat × Nat)} (o : Ord l rs) (o' : Ord l' rs') (nd : ks.Nodup) (out : ∀ n : Nat × Nat, n ∉ ks → routeOf l' n.1 n.2 = routeOf l n.1 n.2)
    (stay : ∀ n : Nat × Nat, (routeOf l n.1 n.2).isSome = true → (routeOf l' n.1 n.2).isSome = true) : differ rs rs' = (ks.filter fun n => decide (courseN l' n ≠ courseN l n)).length := by
  have hp : ∀ r ∈ rs', (match routeOf rs r.net r.bits with
      | some q => !(q.dist == r.dist && (q.link == r.link && q.via == r.via))
      | none => true) = decide (courseN l' (key r) ≠ courseN l (key r)) := by
    intro r hr
    have h1 : routeOf l' (key r).1 (key r).2 = some r := (routeOf_some o'.nk).mpr ⟨(o'.mem r).mp hr, rfl⟩
    have h2 : courseN l' (key r) = some (r.dist, r.link, r.via) := by unfold courseN; rw [h1]; rfl
    rw [h2, o.routeOf]
    unfold courseN
    show _ = decide (some (r.dist, r.link, r.via) ≠ (routeOf l r.net r.bits).map fun r => (r.dist, r.link, r.via))
    cases routeOf l r.net r.bits with
    | none => rfl
    | some q =>
      show (!(q.dist == r.dist && (q.link == r.link && q.via == r.via))) = decide (some (r.dist, r.link, r.via) ≠ some (q.dist, q.link, q.via))
      rw [Bool.eq_iff_iff, Bool.not_eq_true', decide_eq_true_eq]
      simp only [ne_eq, Option.some.injEq, Prod.mk.injEq, Bool.and_eq_false_iff, beq_eq_false_iff_ne]
      omega
  have hd : differ rs rs' = (rs'.filter fun r => decide (courseN l' (key r) ≠ courseN l (key r))).length := by
    unfold differ
    exact congrArg List.length (List.filter_congr hp)
  rw [hd]
  have e1 : (rs'.filter fun r => decide (courseN l' (key r) ≠ courseN l (key r))).length = ((rs'.map key).filter fun n => decide (courseN l' n ≠ courseN l n)).length := by
    rw [List.filter_map, List.length_map]
    rfl
  rw [e1]
  refine (perm_of_mem (o'.so.nk.keys.filter _) (nd.filter _) fun n => ?_).length_eq
  rw [List.mem_filter, List.mem_filter, decide_eq_true_eq]
  constructor
  · rintro ⟨_, h⟩
    refine ⟨Classical.byContradiction fun z => h ?_, h⟩
    unfold courseN
    rw [out n z]
  · rintro ⟨_, h⟩
    refine ⟨?_, h⟩
    have hs : (routeOf l' n.1 n.2).isSome = true := by
      cases q : routeOf l' n.1 n.2 with
      | some r => rfl
      | none =>
        exfalso
        cases q2 : routeOf l n.1 n.2 with
        | none => exact h (by unfold courseN; rw [q, q2])
        | some r =>
          have z := stay n (by rw [q2]; rfl)
          rw [q] at z
          cases z
    obtain ⟨r, hr⟩ := Option.isSome_iff_exists.mp hs
    obtain ⟨m, hk⟩ := (routeOf_some o'.nk).mp hr
    exact List.mem_map.mpr ⟨r, (o'.mem r).mpr m, hk⟩
/-- what hear answers -/
theorem hear_count {now i y : Nat} {l rs : List Route} (o : Ord l rs) (es : List Entry) :
    differ rs (es.foldl (offered now i y) rs) = ((keysOf es).filter fun n => decide (courseN (es.foldl (offU now i y) l) n ≠ courseN l n)).length := by
  obtain ⟨_, g2, g3⟩ := offsU_routeOf (now := now) (i := i) (y := y) es o.nk
  refine differ_eq o (Ord.offs es o) (nodup_keysOf es) (fun n hn => g2 n fun e he z => hn (mem_keysOf.mpr ⟨e, he, z⟩)) g3
end NR
end

section
set_option autoImplicit false
/-! What is handed in, call by call. -/
namespace NR
open Ra54
inductive PC where
  | begin_ (now : Nat)
  | link (i address bits : Nat)
  | down (i : Nat)
  | hear (i x : Nat) (ns : List Nat)
  | tick (now : Nat)
  | way (address : Nat)
  | routes
  | due
def iN (ns : List Nat) : List Int := ns.map fun (n : Nat) => (n : Int)
def PC.raw : PC → List (List Int)
  | .begin_ n => [[0, (n : Int)]]
  | .link i a b => [[1, (i : Int), (a : Int), (b : Int)]]
  | .down i => [[2, (i : Int)]]
  | .hear i x ns => [[3, (i : Int), (x : Int)], iN ns]
  | .tick n => [[4, (n : Int)]]
  | .way a => [[5, (a : Int)]]
  | .routes => [[6]]
  | .due => [[7]]
def PC.flat : PC → List Int
  | .begin_ n => [0, (n : Int)]
  | .link i a b => [1, (i : Int), (a : Int), (b : Int)]
  | .down i => [2, (i : Int)]
  | .hear i x ns => 3 :: (i : Int) :: (x : Int) :: (ns.length : Int) :: iN ns
  | .tick n => [4, (n : Int)]
  | .way a => [5, (a : Int)]
  | .routes => [6]
  | .due => [7]
def PC.call : PC → Ra54.Call
  | .begin_ n => .begin_ n
  | .link i a b => .link i a b
  | .down i => .down i
  | .hear i x ns => .hear i x (bytesOf ns)
  | .tick n => .tick n
  | .way a => .way a
  | .routes => .routes
  | .due => .due
def PC.ok : PC → Prop
  | .hear _ _ ns => Small ns ∧ ns.length ≤ 2048
  | _ => True
theorem iN_length (ns : List Nat) : (iN ns).length = ns.length := by unfold iN; rw [List.length_map]
theorem PC.put (c : PC) : PyFlat.put1 c.raw = c.flat := by
  cases c with
  | hear i x ns =>
    show [(3 : Int), (i : Int), (x : Int)] ++ ((((iN ns).length : Nat) : Int) :: iN ns ++ []) = _
    rw [iN_length, List.append_nil]
    rfl
  | _ => rfl
theorem whole_eq (c : List (List Int)) : PyRa54.whole c = c := by
  unfold PyRa54.whole
  split <;> rfl
/-- what a call answers, number by number -/
def ansL (a : Ans) : List Int := a.value :: Ra54Neutral.ints (a.more ++ a.sent.flatMap fun m => m.1 :: m.2.length :: m.2.map UInt8.toNat)
theorem bytes_int (ns : List Nat) : (iN ns).map (fun (x : Int) => UInt8.ofNat x.toNat) = bytesOf ns := by
  unfold iN bytesOf
  rw [List.map_map]
  rfl
theorem PC.step (o : Option St) (c : PC) : Ra54Neutral.step o c.raw = ((Ra54.step o c.call).1, ansL (Ra54.step o c.call).2) := by
  cases c with
  | hear i x ns =>
    show ((Ra54.step o (.hear (i : Int).toNat (x : Int).toNat ((iN ns).map fun (x : Int) => UInt8.ofNat x.toNat))).1, ansL (Ra54.step o (.hear (i : Int).toNat (x : Int).toNat ((iN ns).map fun (x : Int) => UInt8.ofNat x.toNat))).2) = _
    rw [bytes_int, Int.toNat_natCast, Int.toNat_natCast]
    rfl
  | _ => rfl
theorem natural_nat {z : Int} {b : Nat} (h : Ra54Neutral.natural z b = true) : ∃ n : Nat, z = (n : Int) := by
  unfold Ra54Neutral.natural at h
  rw [Bool.and_eq_true, decide_eq_true_eq] at h
  exact ⟨z.toNat, by omega⟩
theorem small_nats : ∀ {l : List Int}, (l.all fun (z : Int) => Ra54Neutral.natural z 8) = true → ∃ ns : List Nat, l = iN ns ∧ Small ns
  | [], _ => ⟨[], rfl, fun x hx => nomatch hx⟩
  | z :: l, h => by
    rw [List.all_cons, Bool.and_eq_true] at h
    obtain ⟨ns, e, hs⟩ := small_nats h.2
    have h1 := h.1
    unfold Ra54Neutral.natural at h1
    rw [Bool.and_eq_true, decide_eq_true_eq, decide_eq_true_eq] at h1
    refine ⟨z.toNat :: ns, ?_, fun x hx => ?_⟩
    · show z :: l = ((z.toNat : Nat) : Int) :: iN ns
      rw [← e, show ((z.toNat : Nat) : Int) = z by omega]
    · rcases List.mem_cons.mp hx with rfl | hx
      · omega
      · exact hs x hx
theorem one {α : Type} {l : List α} (h : l.length = 1) : ∃ a, l = [a] := match l, h with | [a], _ => ⟨a, rfl⟩
theorem two_ {α : Type} {l : List α} (h : l.length = 2) : ∃ a b, l = [a, b] := match l, h with | [a, b], _ => ⟨a, b, rfl⟩
theorem three {α : Type} {l : List α} (h : l.length = 3) : ∃ a b c, l = [a, b, c] := match l, h with | [a, b, c], _ => ⟨a, b, c, rfl⟩
theorem PC.of {c : List (List Int)} (h : PyFlat.okCall PyRa54.shape c) (q : Ra54Neutral.asked1 c = true) : ∃ p : PC, p.raw = c ∧ p.ok := by
  obtain ⟨p, a, xs, rfl, hs⟩ := h
  unfold PyRa54.shape at hs
  by_cases c0 : p = 0
  · subst c0
    rw [if_pos rfl] at hs
    injection hs with hs
    injection hs with e1 e2
    obtain ⟨b, rfl⟩ := one e1.symm
    obtain rfl := List.length_eq_zero_iff.mp e2.symm
    obtain ⟨n, rfl⟩ := natural_nat (show Ra54Neutral.natural b 64 = true from q)
    exact ⟨.begin_ n, rfl, trivial⟩
  rw [if_neg c0] at hs
  by_cases c1 : p = 1
  · subst c1
    rw [if_pos rfl] at hs
    injection hs with hs
    injection hs with e1 e2
    obtain ⟨b, c, d, rfl⟩ := three e1.symm
    obtain rfl := List.length_eq_zero_iff.mp e2.symm
    have q' : (Ra54Neutral.natural b 64 && (Ra54Neutral.natural c 64 && (Ra54Neutral.natural d 64))) = true := q
    rw [Bool.and_eq_true, Bool.and_eq_true] at q'
    obtain ⟨n, rfl⟩ := natural_nat q'.1
    obtain ⟨m, rfl⟩ := natural_nat q'.2.1
    obtain ⟨k, rfl⟩ := natural_nat q'.2.2
    exact ⟨.link n m k, rfl, trivial⟩
  rw [if_neg c1] at hs
  by_cases c2 : p = 2
  · subst c2
    rw [if_pos rfl] at hs
    injection hs with hs
    injection hs with e1 e2
    obtain ⟨b, rfl⟩ := one e1.symm
    obtain rfl := List.length_eq_zero_iff.mp e2.symm
    obtain ⟨n, rfl⟩ := natural_nat (show Ra54Neutral.natural b 64 = true from q)
    exact ⟨.down n, rfl, trivial⟩
  rw [if_neg c2] at hs
  by_cases c3 : p = 3
  · subst c3
    rw [if_pos rfl] at hs
    injection hs with hs
    injection hs with e1 e2
    obtain ⟨b, c, rfl⟩ := two_ e1.symm
    obtain ⟨r, rfl⟩ := one e2.symm
    have q' : ((r.all (fun (z : Int) => Ra54Neutral.natural z 8) && decide ((r.length : Int) ≤ 2048)) && (Ra54Neutral.natural b 64 && (Ra54Neutral.natural c 64))) = true := q
    rw [Bool.and_eq_true, Bool.and_eq_true, Bool.and_eq_true, decide_eq_true_eq] at q'
    obtain ⟨n, rfl⟩ := natural_nat q'.2.1
    obtain ⟨m, rfl⟩ := natural_nat q'.2.2
    obtain ⟨ns, rfl, sm⟩ := small_nats q'.1.1
    have hl := q'.1.2
    rw [iN_length] at hl
    exact ⟨.hear n m ns, rfl, sm, by omega⟩
  rw [if_neg c3] at hs
  by_cases c4 : p = 4
  · subst c4
    rw [if_pos rfl] at hs
    injection hs with hs
    injection hs with e1 e2
    obtain ⟨b, rfl⟩ := one e1.symm
    obtain rfl := List.length_eq_zero_iff.mp e2.symm
    obtain ⟨n, rfl⟩ := natural_nat (show Ra54Neutral.natural b 64 = true from q)
    exact ⟨.tick n, rfl, trivial⟩
  rw [if_neg c4] at hs
  by_cases c5 : p = 5
  · subst c5
    rw [if_pos rfl] at hs
    injection hs with hs
    injection hs with e1 e2
    obtain ⟨b, rfl⟩ := one e1.symm
    obtain rfl := List.length_eq_zero_iff.mp e2.symm
    obtain ⟨n, rfl⟩ := natural_nat (show Ra54Neutral.natural b 64 = true from q)
    exact ⟨.way n, rfl, trivial⟩
  rw [if_neg c5] at hs
  by_cases c6 : p = 6
  · subst c6
    rw [if_pos rfl] at hs
    injection hs with hs
    injection hs with e1 e2
    obtain rfl := List.length_eq_zero_iff.mp e1.symm
    obtain rfl := List.length_eq_zero_iff.mp e2.symm
    exact ⟨.routes, rfl, trivial⟩
  rw [if_neg c6] at hs
  by_cases c7 : p = 7
  · subst c7
    rw [if_pos rfl] at hs
    injection hs with hs
    injection hs with e1 e2
    obtain rfl := List.length_eq_zero_iff.mp e1.symm
    obtain rfl := List.length_eq_zero_iff.mp e2.symm
    exact ⟨.due, rfl, trivial⟩
  rw [if_neg c7] at hs
  cases hs
theorem PC.all : ∀ {l : List (List (List Int))}, (∀ c ∈ l, PyFlat.okCall PyRa54.shape c) → l.all Ra54Neutral.asked1 = true → ∃ cs : List PC, cs.map PC.raw = l ∧ ∀ c ∈ cs, c.ok
  | [], _, _ => ⟨[], rfl, fun c hc => nomatch hc⟩
  | c :: l, h, q => by
    rw [List.all_cons, Bool.and_eq_true] at q
    obtain ⟨p, e1, o1⟩ := PC.of (h c List.mem_cons_self) q.1
    obtain ⟨cs, e2, o2⟩ := PC.all (fun d hd => h d (List.mem_cons_of_mem _ hd)) q.2
    refine ⟨p :: cs, by rw [List.map_cons, e1, e2], fun d hd => ?_⟩
    rcases List.mem_cons.mp hd with rfl | hd
    · exact o1
    · exact o2 d hd
theorem put_flat : ∀ cs : List PC, PyFlat.put (cs.map PC.raw) = cs.flatMap PC.flat
  | [] => rfl
  | c :: cs => by
    show PyFlat.put1 c.raw ++ PyFlat.put (cs.map PC.raw) = _
    rw [put_flat cs, PC.put, List.flatMap_cons]
/-- what is due, call by call -/
def due : Option St → List PC → List Int
  | _, [] => []
  | o, c :: cs => ((ansL (Ra54.step o c.call).2).length : Int) :: ansL (Ra54.step o c.call).2 ++ due (Ra54.step o c.call).1 cs
theorem due_told : ∀ (cs : List PC) (o : Option St), PyFlat.told (PyFlat.played Ra54Neutral.step o (cs.map PC.raw)) = due o cs
  | [], _ => rfl
  | c :: cs, o => by
    show (((Ra54Neutral.step o c.raw).2.length : Int) :: (Ra54Neutral.step o c.raw).2) ++ PyFlat.told (PyFlat.played Ra54Neutral.step (Ra54Neutral.step o c.raw).1 (cs.map PC.raw)) = _
    rw [PC.step, due_told cs]
    rfl
/-- THE REQUEST: calls one behind another, each within the document's bounds; what is due is what the document says of each -/
theorem request {l : List Int} (h : PyRa54.answers_asked l = true) : ∃ cs : List PC, l = cs.flatMap PC.flat ∧ (∀ c ∈ cs, c.ok) ∧ PyRa54.answers l = due none cs ∧ (due none cs).length ≤ 10000000 := by
  have h' : (match PyFlat.calls PyRa54.shape l.length l with
    | none => false
    | some raw => !raw.isEmpty && PyFlat.atMost 300 raw && PyInside.calls PyRa54.bound raw && Ra54Neutral.asked (raw.map PyRa54.whole) && PyFlat.short 10000000 (PyRa54.answers l)) = true := h
  cases e : PyFlat.calls PyRa54.shape l.length l with
  | none => rw [e] at h'; cases h'
  | some raw =>
    rw [e] at h'
    obtain ⟨h1, hshort⟩ := Bool.and_eq_true_iff.mp h'
    obtain ⟨_, hask⟩ := Bool.and_eq_true_iff.mp h1
    obtain ⟨el, hok⟩ := PyFlat.put_calls _ _ _ e
    have ew : raw.map PyRa54.whole = raw := by
      have : ∀ r : List (List (List Int)), r.map PyRa54.whole = r := fun r => by
        induction r with
        | nil => rfl
        | cons x r ih => rw [List.map_cons, ih, whole_eq]
      exact this raw
    rw [ew] at hask
    obtain ⟨cs, ec, oc⟩ := PC.all hok (Bool.and_eq_true_iff.mp hask).1
    have ea : PyRa54.answers l = due none cs := by
      unfold PyRa54.answers PyRa54.calls
      rw [e]
      show PyFlat.told (PyFlat.played Ra54Neutral.step Ra54Neutral.start (raw.map PyRa54.whole)) = _
      rw [ew, ← ec]
      exact due_told cs none
    refine ⟨cs, ?_, oc, ea, ?_⟩
    · rw [el, ← ec, put_flat]
    · rw [← ea]
      exact of_decide_eq_true hshort
end NR
end

section
set_option autoImplicit false
/-! The request as naturals; what stays of it behind a call. -/
namespace NR
open Ra54
def PC.flatN : PC → List Nat
  | .begin_ n => [0, n]
  | .link i a b => [1, i, a, b]
  | .down i => [2, i]
  | .hear i x ns => 3 :: i :: x :: ns.length :: ns
  | .tick n => [4, n]
  | .way a => [5, a]
  | .routes => [6]
  | .due => [7]
theorem PC.flat_nat (c : PC) : c.flat = iN c.flatN := by cases c <;> rfl
theorem PC.flatN_pos (c : PC) : 0 < c.flatN.length := by cases c <;> exact Nat.succ_pos _
theorem iN_append (a b : List Nat) : iN (a ++ b) = iN a ++ iN b := by unfold iN; rw [List.map_append]
theorem flat_nats : ∀ cs : List PC, cs.flatMap PC.flat = iN (cs.flatMap PC.flatN)
  | [] => rfl
  | c :: cs => by rw [List.flatMap_cons, List.flatMap_cons, iN_append, flat_nats cs, PC.flat_nat]
/-- a session's flag and state as the document's: begun or not -/
def oOf (b : Bool) (s : St) : Option St := if b = true then some s else none
theorem drop_next {ns : List Nat} {k : Nat} {a b : List Nat} (h : ns.drop k = a ++ b) : ns.drop (k + a.length) = b := by
  rw [← List.drop_drop, h, List.drop_left]
theorem drop_get {ns : List Nat} {k j : Nat} {a b : List Nat} {n : Nat} (h : ns.drop k = a ++ b) (e : a[j]? = some n) : ns[k + j]? = some n := by
  have q : (ns.drop k)[j]? = some n := by
    rw [h, List.getElem?_append_left (List.getElem?_eq_some_iff.mp e).1]
    exact e
  rwa [List.getElem?_drop] at q
theorem drop_part {ns : List Nat} {k : Nat} {a b c : List Nat} {m : Nat} (h : ns.drop k = a ++ (b ++ c)) (e : m = b.length) : (ns.drop (k + a.length)).take m = b := by
  rw [drop_next h, e, List.take_left]
theorem due_cons (o : Option St) (c : PC) (cs : List PC) : due o (c :: cs) = (((ansL (Ra54.step o c.call).2).length : Int) :: ansL (Ra54.step o c.call).2) ++ due (Ra54.step o c.call).1 cs := rfl
def PC.which : PC → Nat
  | .begin_ _ => 0
  | .link _ _ _ => 1
  | .down _ => 2
  | .hear _ _ _ => 3
  | .tick _ => 4
  | .way _ => 5
  | .routes => 6
  | .due => 7
def PC.nums : PC → List Nat
  | .begin_ n => [n]
  | .link i a b => [i, a, b]
  | .down i => [i]
  | .hear i x _ => [i, x]
  | .tick n => [n]
  | .way a => [a]
  | .routes => []
  | .due => []
def PC.row : PC → Option (List Nat)
  | .hear _ _ ns => some ns
  | _ => none
def rowN : Option (List Nat) → List Nat
  | none => []
  | some r => r.length :: r
theorem PC.flat_parts (c : PC) : c.flatN = [c.which] ++ (c.nums ++ rowN c.row) := by
  cases c with
  | hear i x ns => rfl
  | _ => rfl
/-- how many numbers a call has -/
theorem PC.nums_of (c : PC) : ([1, 3, 1, 2, 1, 1, 0, 0] : List Nat)[c.which]? = some c.nums.length := by cases c <;> rfl
theorem PC.row_of (c : PC) : c.row = none ↔ c.which ≠ 3 := by cases c <;> simp [PC.row, PC.which]
end NR
end

section
set_option autoImplicit false
/-! What is told, as natural numbers; when a tick is wanted; the narrowest network; what has aged. -/
namespace NR
open Ra54
theorem byte_of (x : Nat) : (UInt8.ofNat x).toNat = x % 256 := UInt8.toNat_ofNat'
/-- so many octets of a number, the highest first -/
def octN (n m : Nat) : List Nat := (List.range m).map fun i => n / 2 ^ (8 * (m - 1 - i)) % 256
theorem octN_length (n m : Nat) : (octN n m).length = m := by unfold octN; rw [List.length_map, List.length_range]
theorem two_nat (n : Nat) : (two n).map UInt8.toNat = octN n 2 := by
  show [(UInt8.ofNat (n / 256)).toNat, (UInt8.ofNat (n % 256)).toNat] = [n / 256 % 256, n / 1 % 256]
  rw [byte_of, byte_of, Nat.div_one, Nat.mod_mod]
theorem four_nat (n : Nat) : (four n).map UInt8.toNat = octN n 4 := by
  show [(UInt8.ofNat (n / 2 ^ 24)).toNat, (UInt8.ofNat (n / 2 ^ 16 % 256)).toNat, (UInt8.ofNat (n / 256 % 256)).toNat, (UInt8.ofNat (n % 256)).toNat] = [n / 2 ^ 24 % 256, n / 2 ^ 16 % 256, n / 256 % 256, n / 1 % 256]
  rw [byte_of, byte_of, byte_of, byte_of, Nat.div_one, Nat.mod_mod, Nat.mod_mod, Nat.mod_mod]
def entN (e : Entry) : List Nat := octN e.net 4 ++ [e.bits, e.dist, 0, 0]
def msgN (l : List Entry) : List Nat := octN l.length 2 ++ l.flatMap entN
theorem entN_length (e : Entry) : (entN e).length = 8 := by unfold entN; rw [List.length_append, octN_length]; rfl
theorem msgN_length (l : List Entry) : (msgN l).length = 2 + 8 * l.length := by
  unfold msgN
  rw [List.length_append, octN_length]
  congr 1
  induction l with
  | nil => rfl
  | cons e l ih => rw [List.flatMap_cons, List.length_append, ih, entN_length, List.length_cons]; omega
theorem msg_nat {l : List Entry} (h : ∀ e ∈ l, e.bits ≤ 255 ∧ e.dist ≤ 255) : (message l).map UInt8.toNat = msgN l := by
  unfold message msgN
  rw [List.map_append, two_nat]
  congr 1
  induction l with
  | nil => rfl
  | cons e l ih =>
    rw [List.flatMap_cons, List.flatMap_cons, List.map_append, ih fun x hx => h x (List.mem_cons_of_mem _ hx)]
    congr 1
    obtain ⟨h1, h2⟩ := h e List.mem_cons_self
    unfold entryBytes entN
    rw [List.map_append, four_nat]
    congr 1
    show [(UInt8.ofNat e.bits).toNat, (UInt8.ofNat e.dist).toNat, 0, 0] = _
    rw [byte_of, byte_of, Nat.mod_eq_of_lt (by omega), Nat.mod_eq_of_lt (by omega)]
/-- in messages of 64 at most -/
def chunksN (l : List Entry) : List (List Entry) := (List.range ((l.length + 63) / 64)).map fun i => (l.drop (64 * i)).take 64
theorem split_eq : ∀ (f : Nat) (l : List Entry), l.length < f → split f l = (chunksN l).map message
  | 0, _, h => absurd h (Nat.not_lt_zero _)
  | f + 1, [], _ => rfl
  | f + 1, x :: l, h => by
    have ih := split_eq f ((x :: l).drop 64) (by rw [List.length_drop, List.length_cons]; rw [List.length_cons] at h; omega)
    show (if (x :: l) = [] then [] else message ((x :: l).take 64) :: split f ((x :: l).drop 64)) = _
    rw [if_neg (fun z => nomatch z), ih]
    have en : ((x :: l).length + 63) / 64 = (((x :: l).drop 64).length + 63) / 64 + 1 := by
      rw [List.length_drop, List.length_cons]
      omega
    have e1 : chunksN (x :: l) = (x :: l).take 64 :: chunksN ((x :: l).drop 64) := by
      unfold chunksN
      rw [en, List.range_succ_eq_map, List.map_cons, List.map_map]
      refine congrArg _ (List.map_congr_left fun i _ => ?_)
      show ((x :: l).drop (64 * (i + 1))).take 64 = (((x :: l).drop 64).drop (64 * i)).take 64
      rw [List.drop_drop, show 64 * (i + 1) = 64 + 64 * i by omega]
    rw [e1]
    rfl
/-- told on a link: the link beside each message -/
def toldN (s : St) (l : List Route) (i : Nat) : List (Nat × List Nat) := match linkAt s i with
  | some _ => (chunksN (l.map (toldOn i))).map fun c => (i, msgN c)
  | none => []
def tellN (s : St) (l : List Route) (n : Nat) : List (Nat × List Nat) := (List.range n).flatMap (toldN s l)
def sentN (ms : List (Nat × List Nat)) : List Nat := ms.flatMap fun m => m.1 :: m.2.length :: m.2
theorem tell_eq {s : St} {l : List Route} (h : ∀ r ∈ l, r.bits ≤ 32) : (telling s l).map (fun m => (m.1, m.2.map UInt8.toNat)) = tellN s l 4 := by
  unfold telling tellN
  rw [List.map_flatMap]
  congr 1
  funext i
  unfold toldN
  cases linkAt s i with
  | none => rfl
  | some _ =>
    show ((split (l.length + 1) (l.map (toldOn i))).map fun b => (i, b)).map _ = _
    rw [split_eq _ _ (by rw [List.length_map]; exact Nat.lt_succ_self _), List.map_map, List.map_map]
    refine List.map_congr_left fun c hc => ?_
    show (i, (message c).map UInt8.toNat) = (i, msgN c)
    rw [msg_nat fun e he => ?_]
    obtain ⟨j, _, rfl⟩ := List.mem_map.mp hc
    obtain ⟨r, hr, rfl⟩ := List.mem_map.mp (List.mem_of_mem_drop (List.mem_of_mem_take he))
    refine ⟨Nat.le_trans (h r hr) (by decide), ?_⟩
    show (if r.link = i then FAR else min FAR (r.dist + 1)) ≤ 255
    have : FAR = 16 := rfl
    split <;> omega
theorem tell_len {s : St} {l : List Route} (h : ∀ r ∈ l, r.bits ≤ 32) : (telling s l).length = (tellN s l 4).length := by
  rw [← tell_eq h, List.length_map]
theorem tell_sent {s : St} {l : List Route} (h : ∀ r ∈ l, r.bits ≤ 32) : ((telling s l).flatMap fun m => m.1 :: m.2.length :: m.2.map UInt8.toNat) = sentN (tellN s l 4) := by
  rw [← tell_eq h]
  unfold sentN
  rw [List.flatMap_map]
  congr 1
  funext m
  show _ = m.1 :: (m.2.map UInt8.toNat).length :: m.2.map UInt8.toNat
  rw [List.length_map]
theorem chunks_len {l : List Entry} (h : l.length ≤ 256) : (chunksN l).length ≤ 4 := by
  unfold chunksN
  rw [List.length_map, List.length_range]
  omega
theorem chunk_len {l c : List Entry} (h : c ∈ chunksN l) : c.length ≤ 64 := by
  obtain ⟨i, _, rfl⟩ := List.mem_map.mp h
  exact List.length_take_le _ _
theorem sentN_append (a b : List (Nat × List Nat)) : sentN (a ++ b) = sentN a ++ sentN b := by unfold sentN; rw [List.flatMap_append]
theorem tellN_succ (s : St) (l : List Route) (n : Nat) : tellN s l (n + 1) = tellN s l n ++ toldN s l n := by
  unfold tellN
  rw [List.range_succ, List.flatMap_append, List.flatMap_singleton]

/-! due -/
def cand (s : St) (r : Route) : List Nat := (if r.changed = true then [max s.now s.soon] else []) ++ (if r.dist = FAR then [r.gone] else if 0 < r.via then [r.good] else [])
theorem due_fold (s : St) : ∀ (l : List Route) (t : Nat), l.foldl (fun t r =>
  let t := if r.changed = true then min t (max s.now s.soon) else t
  if r.dist = FAR then min t r.gone else if 0 < r.via then min t r.good else t) t = (l.flatMap (cand s)).foldl min t
  | [], _ => rfl
  | r :: l, t => by
    rw [List.foldl_cons, List.flatMap_cons, List.foldl_append, due_fold s l]
    congr 1
    unfold cand
    rw [List.foldl_append]
    by_cases c1 : r.changed = true <;> by_cases c2 : r.dist = FAR <;> by_cases c3 : 0 < r.via <;> simp [c1, c2, c3]
theorem min_fold : ∀ (l : List Nat) (t : Nat), l.foldl min t ∈ t :: l ∧ ∀ y ∈ t :: l, l.foldl min t ≤ y
  | [], t => ⟨List.mem_cons_self, fun y hy => by rw [List.mem_singleton.mp hy]; exact Nat.le_refl _⟩
  | x :: l, t => by
    obtain ⟨h1, h2⟩ := min_fold l (min t x)
    rw [List.foldl_cons]
    have h0 := h2 (min t x) List.mem_cons_self
    refine ⟨?_, fun y hy => ?_⟩
    · rcases List.mem_cons.mp h1 with e | e
      · rw [e]
        by_cases c : t ≤ x
        · rw [Nat.min_eq_left c]
          exact List.mem_cons_self
        · rw [Nat.min_eq_right (by omega)]
          exact List.mem_cons_of_mem _ List.mem_cons_self
      · exact List.mem_cons_of_mem _ (List.mem_cons_of_mem _ e)
    · rcases List.mem_cons.mp hy with rfl | hy
      · omega
      · rcases List.mem_cons.mp hy with rfl | hy
        · omega
        · exact h2 y (List.mem_cons_of_mem _ hy)
/-- the times that the program looks at -/
def endsL (l : List Route) : List Nat := (l.filter fun r => !decide (r.dist = 0)).map fun r => if r.dist < 16 then r.good else r.gone
def dueL (s : St) (l : List Route) : List Nat := (endsL l ++ [s.full]) ++ (if (l.any fun r => r.changed) = true then [max s.soon s.now] else [])
def DomD (r : Route) : Prop := r.dist ≤ 16 ∧ (r.dist = 0 → r.via = 0) ∧ (r.via = 0 → r.dist = 0 ∨ r.dist = 16)
theorem dueL_mem {s : St} {l l' : List Route} (pm : l'.Perm l) (hd : ∀ r ∈ l, DomD r) (y : Nat) : y ∈ dueL s l ↔ y ∈ s.full :: l'.flatMap (cand s) := by
  have hF : FAR = 16 := rfl
  have em : y ∈ endsL l ↔ ∃ r ∈ l, r.dist ≠ 0 ∧ y = if r.dist < 16 then r.good else r.gone := by
    unfold endsL
    rw [List.mem_map]
    constructor
    · rintro ⟨r, hr, rfl⟩
      obtain ⟨h1, h2⟩ := List.mem_filter.mp hr
      exact ⟨r, h1, by simpa using h2, rfl⟩
    · rintro ⟨r, hr, h1, rfl⟩
      exact ⟨r, List.mem_filter.mpr ⟨hr, by simpa using h1⟩, rfl⟩
  have ec : y ∈ l'.flatMap (cand s) ↔ ∃ r ∈ l, y ∈ cand s r := by
    rw [List.mem_flatMap]
    exact ⟨fun ⟨r, h1, h2⟩ => ⟨r, pm.mem_iff.mp h1, h2⟩, fun ⟨r, h1, h2⟩ => ⟨r, pm.mem_iff.mpr h1, h2⟩⟩
  unfold dueL
  rw [List.mem_append, List.mem_append, List.mem_singleton, List.mem_cons, em, ec]
  constructor
  · rintro ((⟨r, hr, h1, rfl⟩ | rfl) | h)
    · refine .inr ⟨r, hr, ?_⟩
      obtain ⟨d1, d2, d3⟩ := hd r hr
      unfold cand
      refine List.mem_append.mpr (.inr ?_)
      by_cases c : r.dist < 16
      · rw [if_pos c, if_neg (by omega), if_pos (by omega)]
        exact List.mem_singleton.mpr rfl
      · rw [if_neg c, if_pos (by omega)]
        exact List.mem_singleton.mpr rfl
    · exact .inl rfl
    · by_cases c : (l.any fun r => r.changed) = true
      · rw [if_pos c] at h
        obtain ⟨r, hr, hc⟩ := List.any_eq_true.mp c
        refine .inr ⟨r, hr, ?_⟩
        unfold cand
        refine List.mem_append.mpr (.inl ?_)
        rw [if_pos hc, Nat.max_comm]
        exact h
      · rw [if_neg c] at h
        cases h
  · rintro (rfl | ⟨r, hr, h⟩)
    · exact .inl (.inr rfl)
    · obtain ⟨d1, d2, d3⟩ := hd r hr
      unfold cand at h
      rcases List.mem_append.mp h with h | h
      · by_cases c : r.changed = true
        · rw [if_pos c] at h
          refine .inr ?_
          rw [if_pos (List.any_eq_true.mpr ⟨r, hr, c⟩), Nat.max_comm]
          exact h
        · rw [if_neg c] at h
          cases h
      · refine .inl (.inl ⟨r, hr, ?_⟩)
        by_cases c : r.dist = FAR
        · rw [if_pos c] at h
          exact ⟨by omega, by rw [if_neg (by omega)]; exact List.mem_singleton.mp h⟩
        · rw [if_neg c] at h
          by_cases c2 : 0 < r.via
          · rw [if_pos c2] at h
            refine ⟨fun z => ?_, by rw [if_pos (by omega)]; exact List.mem_singleton.mp h⟩
            have := d2 z
            omega
          · rw [if_neg c2] at h
            cases h
theorem due_min {s : St} {l : List Route} (pm : s.routes.Perm l) (hd : ∀ r ∈ l, DomD r) {m : Nat} (h1 : m ∈ dueL s l) (h2 : ∀ y ∈ dueL s l, m ≤ y) : m = dueAt s := by
  have e : dueAt s = (s.routes.flatMap (cand s)).foldl min s.full := due_fold s s.routes s.full
  obtain ⟨g1, g2⟩ := min_fold (s.routes.flatMap (cand s)) s.full
  rw [← e] at g1 g2
  have a1 := h2 _ ((dueL_mem pm hd _).mpr g1)
  have a2 := g2 _ ((dueL_mem pm hd _).mp h1)
  omega

/-! way -/
def fits (a : Nat) (r : Route) : Prop := r.dist < FAR ∧ netOf r.bits a = r.net
instance (a : Nat) (r : Route) : Decidable (fits a r) := inferInstanceAs (Decidable (_ ∧ _))
def bestStep (a : Nat) (m : Option Route) (r : Route) : Option Route := if fits a r then (match m with
  | some q => if q.bits < r.bits then some r else some q
  | none => some r) else m
theorem best_eq (l : List Route) (a : Nat) : best l a = l.foldl (bestStep a) none := rfl
/-- among those of l that fit, none has more bits -/
def IsBest (a : Nat) (l : List Route) : Option Route → Prop
  | none => ∀ r ∈ l, ¬ fits a r
  | some q => q ∈ l ∧ fits a q ∧ ∀ r ∈ l, fits a r → r.bits ≤ q.bits
theorem best_step {a : Nat} {l : List Route} {m : Option Route} (h : IsBest a l m) (r : Route) : IsBest a (l ++ [r]) (bestStep a m r) := by
  have ml : ∀ x, x ∈ l ++ [r] → x ∈ l ∨ x = r := fun x hx => (List.mem_append.mp hx).imp id List.mem_singleton.mp
  unfold bestStep
  by_cases c : fits a r
  · rw [if_pos c]
    cases m with
    | none =>
      refine ⟨List.mem_append.mpr (.inr (List.mem_singleton.mpr rfl)), c, fun x hx f => ?_⟩
      rcases ml x hx with hx | rfl
      · exact absurd f (h x hx)
      · exact Nat.le_refl _
    | some q =>
      obtain ⟨h1, h2, h3⟩ := h
      show IsBest a (l ++ [r]) (if q.bits < r.bits then some r else some q)
      by_cases d : q.bits < r.bits
      · rw [if_pos d]
        refine ⟨List.mem_append.mpr (.inr (List.mem_singleton.mpr rfl)), c, fun x hx f => ?_⟩
        rcases ml x hx with hx | rfl
        · have := h3 x hx f
          omega
        · exact Nat.le_refl _
      · rw [if_neg d]
        refine ⟨List.mem_append.mpr (.inl h1), h2, fun x hx f => ?_⟩
        rcases ml x hx with hx | rfl
        · exact h3 x hx f
        · omega
  · rw [if_neg c]
    cases m with
    | none =>
      intro x hx
      rcases ml x hx with hx | rfl
      · exact h x hx
      · exact c
    | some q =>
      obtain ⟨h1, h2, h3⟩ := h
      refine ⟨List.mem_append.mpr (.inl h1), h2, fun x hx f => ?_⟩
      rcases ml x hx with hx | rfl
      · exact h3 x hx f
      · exact absurd f c
theorem best_fold (a : Nat) : ∀ (l l0 : List Route) (m : Option Route), IsBest a l0 m → IsBest a (l0 ++ l) (l.foldl (bestStep a) m)
  | [], l0, m, h => by rw [List.append_nil]; exact h
  | r :: l, l0, m, h => by
    have q := best_fold a l (l0 ++ [r]) _ (best_step h r)
    rw [List.append_assoc] at q
    exact q
theorem best_is (l : List Route) (a : Nat) : IsBest a l (best l a) := best_fold a l [] none fun r hr => nomatch hr
theorem best_perm {l l' : List Route} (pm : l'.Perm l) (nk : NK l) (a : Nat) : best l' a = best l a := by
  have h1 := best_is l a
  have h2 := best_is l' a
  cases e1 : best l a with
  | none =>
    rw [e1] at h1
    cases e2 : best l' a with
    | none => rfl
    | some q =>
      rw [e2] at h2
      exact absurd h2.2.1 (h1 q (pm.mem_iff.mp h2.1))
  | some p =>
    rw [e1] at h1
    cases e2 : best l' a with
    | none =>
      rw [e2] at h2
      exact absurd h1.2.1 (h2 p (pm.mem_iff.mpr h1.1))
    | some q =>
      rw [e2] at h2
      have m1 := pm.mem_iff.mp h2.1
      have b1 := h1.2.2 q m1 h2.2.1
      have b2 := h2.2.2 p (pm.mem_iff.mpr h1.1) h1.2.1
      have eb : q.bits = p.bits := by omega
      have en : q.net = p.net := by rw [← h2.2.1.2, ← h1.2.1.2, eb]
      exact congrArg some (nk.inj m1 h1.1 (by unfold key; rw [eb, en]))

/-! the order -/
theorem sorted_uniq {l l' : List Route} (h : Sorted l) (h' : Sorted l') (p : l.Perm l') : l = l' := by
  refine List.Perm.eq_of_pairwise (le := fun a b => klt (key a) (key b)) ?_ h h' p
  intro a b _ _ x y
  exact absurd y (klt_asymm x)
theorem Ord.uniq {l rs rs' : List Route} (o : Ord l rs) (h : Sorted rs') (p : rs'.Perm l) : rs' = rs := sorted_uniq h o.so (p.trans o.pm.symm)
end NR
end

section
set_option Elab.async false
set_option maxRecDepth 100000
set_option maxHeartbeats 4000000
namespace NR
open PySem PySem.Spec PyProof.Rows L2
def top (i : Nat) : Stmt := PySem.Challenge.pw_nearroutes_s01_answers.main.body.getD i (.Pass ⟨0, 0, 0, 0⟩)
/-- a def of the module, by its name, and what it promises -/
structure HasF (P : Program) (w : World) (K : PySem.W.Frag) (mg : Str → Option Value) (base : Heap) (x : Str) (k : Nat) (ps : List Str) (sp : Sp) : Prop where
  ex : ∃ (f : Addr) (fd : FuncData), mg x = some (.ref f) ∧ PySem.W.keepIn K (.ref f) = true ∧ Binds K fd ps [] ∧ FnOk P w K mg base CX0 k f fd ps sp
/-- a method of the class at C -/
structure HasM (P : Program) (w : World) (K : PySem.W.Frag) (mg : Str → Option Value) (base : Heap) (C : Addr) (x : Str) (k : Nat) (ps : List Str) (sp : Sp) : Prop where
  ex : ∃ (f : Addr) (fd : FuncData), Meth K C x f ∧ Binds K fd ps [] ∧ FnOk P w K mg base CX0 k f fd ps sp

abbrev sIsHost : Stmt := top 4
abbrev sNetOf : Stmt := top 5
abbrev sIsOf : Stmt := top 6

/-- a network as a tuple: two numbers -/
def tupN (n : Nat × Nat) : HO := .tup [.int n.1, .int n.2]

def spIsHost : Sp := fun vs H Q _ => ∃ a : Nat, vs = [.int a] ∧ Q (.bl (decide (1 ≤ a ∧ a ≤ 4294967294))) H
def spNetOf : Sp := fun vs H Q _ => ∃ a b : Nat, vs = [.int a, .int b] ∧ a < 2 ^ 64 ∧ b ≤ 32 ∧ ∀ p, H p = none → Q (.ref p) (upd H p (tupN (Ra54.netOf b a, b)))
def spIsOf (K : PySem.W.Frag) : Sp := fun vs H Q _ => ∃ (a : Nat) (n : Nat × Nat) (t : Addr), vs = [.int a, .ref t] ∧ H t = some (tupN n) ∧ a < 2 ^ 64 ∧ n.2 ≤ 32 ∧ ∀ p, H p = none → Q (.bl (decide (Ra54.netOf n.2 a = n.1))) (upd H p (tupN (Ra54.netOf n.2 a, n.2)))

/-- a constant of the module: a whole number -/
def MgI (mg : Str → Option Value) (x : Str) (n : Int) : Prop := ∃ t, mg x = some (.int n t)
theorem pe_gi {X : Cx} {x : Str} {n : Int} {pos : Pos} (h : MgI X.mg x n) (hg : Gl X x := by rfl) (hn : x ≠ "__name__" := by decide) (hd : (x == ("__debug__" : Str)) = false := by decide) : PE X (.Name x pos) (tC (.int n)) := by
  obtain ⟨t, e⟩ := h
  exact pe_glob hg e ⟨t, rfl⟩ hd
theorem wantV {Q : VK} {v v' : V} {H : Hp} (e : v = v') (k : Q v' H) : Q v H := e ▸ k
theorem wantH {Q : VK} {v v' : V} {H H' : Hp} (e : v = v') (eh : H = H') (k : Q v' H') : Q v H := by
  subst e eh
  exact k
theorem Dp.net {K : PySem.W.Frag} {H : Hp} {p : Addr} {n : Nat × Nat} (h : H p = some (tupN n)) : Dp K H (.ref p) (.tuple [.int n.1, .int n.2]) :=
  .tup (SqT.of h) (.cons (.int _) (.cons (.int _) .nil))
theorem eqv_net (a b : Nat × Nat) : PyData.eqv (.tuple [.int a.1, .int a.2]) (.tuple [.int b.1, .int b.2]) = decide (a = b) := by
  obtain ⟨a1, a2⟩ := a
  obtain ⟨b1, b2⟩ := b
  have e : (((a1, a2) : Nat × Nat) = (b1, b2)) ↔ (((a1 : Int) == b1) && (((a2 : Int) == b2) && true)) = true := by
    simp only [Prod.mk.injEq, Bool.and_true, Bool.and_eq_true, beq_iff_eq]
    omega
  show (((a1 : Int) == b1) && (((a2 : Int) == b2) && true)) = decide (((a1, a2) : Nat × Nat) = (b1, b2))
  cases q : (((a1 : Int) == b1) && (((a2 : Int) == b2) && true)) with
  | true => exact (decide_eq_true (e.mpr q)).symm
  | false =>
    refine (decide_eq_false fun z => ?_).symm
    rw [e.mp z] at q
    cases q
structure TxtA (mg : Str → Option Value) : Prop where
  bits : MgI mg "ADDRESS_BITS" 32
  last : MgI mg "LAST_HOST" 4294967294

section
variable {P : Program} {w : World} {K : PySem.W.Frag} {mg : Str → Option Value} {base : Heap}
theorem scIsHost : FnScope ["address"] ["address"] (defScope sIsHost) := ⟨rfl, rfl, rfl, by decide +kernel, rfl, by decide +kernel, by decide +kernel⟩
theorem ok_isHost {f : Addr} {fd : FuncData} (F : Fun K "is_host" "is_host" sIsHost f fd) (T : TxtA mg) : FnOk P w K mg base CX0 1 f fd ["address"] spIsHost := by
  refine F.ok scIsHost (fun vs H Q E h => ?_) (fun cdv A outer s H vs Q E hr h => ?_)
  · obtain ⟨a, rfl, _⟩ := h
    rfl
  · obtain ⟨a, rfl, k⟩ := h
    refine ⟨_, pss_one (ps_ret (pe_chain op_le op_le pe_int (pv 0) (pe_gi T.last))), ?_⟩
    refine ⟨_, rfl, _, _, rfl, rfl, _, rfl, ?_⟩
    by_cases c : (1 : Int) ≤ (a : Int)
    · rw [decide_eq_true c]
      refine iteT ⟨_, _, rfl, rfl, ?_⟩
      have e : decide ((a : Int) ≤ 4294967294) = decide (1 ≤ a ∧ a ≤ 4294967294) := decide_eq_decide.mpr (by omega)
      exact wantV (Q := Q) (congrArg V.bl e) k
    · rw [decide_eq_false c]
      refine iteF ?_
      have e : decide (1 ≤ a ∧ a ≤ 4294967294) = false := decide_eq_false (by omega)
      rw [e] at k
      exact k
theorem scNetOf : FnScope ["address", "bits", "lower"] ["address", "bits"] (defScope sNetOf) := ⟨rfl, rfl, rfl, by decide +kernel, rfl, by decide +kernel, by decide +kernel⟩
theorem netOf_int (a b : Nat) (h : b ≤ 32) : (a : Int) / 2 ^ ((32 : Int) - (b : Int)).toNat * 2 ^ ((32 : Int) - (b : Int)).toNat = ((Ra54.netOf b a : Nat) : Int) := by
  have e : ((32 : Int) - (b : Int)).toNat = 32 - b := by omega
  rw [e]
  unfold Ra54.netOf
  simp
theorem ok_netOf {f : Addr} {fd : FuncData} (F : Fun K "network_of" "network_of" sNetOf f fd) (T : TxtA mg) : FnOk P w K mg base CX0 1 f fd ["address", "bits"] spNetOf := by
  refine F.ok scNetOf (fun vs H Q E h => ?_) (fun cdv A outer s H vs Q E hr h => ?_)
  · obtain ⟨a, b, rfl, _⟩ := h
    rfl
  · obtain ⟨a, b, rfl, ha, hb, k⟩ := h
    refine ⟨_, pss_cons (ps_set (i := 2) scNetOf.nd rfl (.inl rfl) (pe_op op_sub (pe_gi T.bits) (pv 1)))
      (pss_one (ps_ret (pe_tup (pa_cons (pe_op op_shl (pe_op op_shr (pv 0) (pv 2)) (pv 2)) (pa_cons (pv 1) pa_nil))))), ?_⟩
    refine ⟨_, rfl, _, _, rfl, rfl, _, rfl, _, rfl, _, _, rfl, rfl, by omega, _, rfl, _, _, rfl, rfl, ⟨by omega, by omega, ?_⟩, _, rfl, (by show 2 ≤ sizeLine; decide), fun p hp => ?_⟩
    · have q : ((a : Int) / 2 ^ ((32 : Int) - (b : Int)).toNat).natAbs ≤ a := by
        have e : ((a : Int) / 2 ^ ((32 : Int) - (b : Int)).toNat) = ((a / 2 ^ ((32 : Int) - (b : Int)).toNat : Nat) : Int) := by simp
        rw [e, Int.natAbs_natCast]
        exact Nat.div_le_self _ _
      omega
    · exact wantH (Q := Q) rfl (congrArg (fun z => upd H p (.tup [V.int z, V.int b])) (netOf_int a b hb)) (k p hp)
theorem scIsOf : FnScope ["address", "network"] ["address", "network"] (defScope sIsOf) := ⟨rfl, rfl, rfl, by decide +kernel, rfl, by decide +kernel, by decide +kernel⟩
theorem ok_isOf {f : Addr} {fd : FuncData} (F : Fun K "is_of" "is_of" sIsOf f fd) (N : HasF P w K mg base "network_of" 1 ["address", "bits"] spNetOf) : FnOk P w K mg base CX0 2 f fd ["address", "network"] (spIsOf K) := by
  refine F.ok scIsOf (fun vs H Q E h => ?_) (fun cdv A outer s H vs Q E hr h => ?_)
  · obtain ⟨a, n, t, rfl, _⟩ := h
    rfl
  · obtain ⟨a, n, t, rfl, ht, ha, hb, k⟩ := h
    obtain ⟨g, gd, mgg, kp, b, G⟩ := N.ex
    refine ⟨_, pss_one (ps_ret (pe_cmpR (op_eqD hr.units) (pe_call G hr (by rfl) mgg kp b .nil pass0 (pa_cons (pv 0) (pa_cons (pe_ix ix_tup (pv 1) pe_int (fun _ _ => rfl)) pa_nil))) (pv 1) (nomark _))), ?_⟩
    refine ⟨_, rfl, _, rfl, t, _, _, _, rfl, rfl, SqT.of ht, rfl, a, n.2, rfl, ha, hb, fun p hp => ?_⟩
    have hp' : H p ≠ H t := by rw [hp, ht]; exact fun z => nomatch z
    have ht' : upd H p (tupN (Ra54.netOf n.2 a, n.2)) t = some (tupN n) := by rw [upd_ne (fun z => hp' (by rw [z]))]; exact ht
    refine ⟨_, rfl, _, _, Dp.net upd_same, Dp.net ht', rfl, rfl, ?_⟩
    refine wantV (Q := Q) (congrArg V.bl ((eqv_net _ _).trans ?_)) (k p hp)
    exact decide_eq_decide.mpr ⟨fun z => congrArg Prod.fst z, fun z => by rw [z]⟩
end
end NR
end

section
set_option Elab.async false
set_option maxRecDepth 100000
set_option maxHeartbeats 4000000
/-! route.py -/
namespace NR
open PySem PySem.Spec PyProof.Rows L2
open Ra54 (Route)

/-- all that is tracked stands as it was, but for what stands at M -/
def Kept (M : Addr → Prop) (H H' : Hp) : Prop := ∀ b o, H b = some o → ¬ M b → H' b = some o
theorem Kept.refl (M : Addr → Prop) (H : Hp) : Kept M H H := fun _ _ e _ => e
theorem Kept.trans {M : Addr → Prop} {H H1 H2 : Hp} (a : Kept M H H1) (b : Kept M H1 H2) : Kept M H H2 := fun c o e n => b c o (a c o e n) n
theorem Kept.mono {M N : Addr → Prop} {H H' : Hp} (a : Kept M H H') (h : ∀ b, M b → N b) : Kept N H H' := fun c o e n => a c o e fun m => n (h c m)
theorem Kept.new {M : Addr → Prop} {H : Hp} {p : Addr} {o : HO} (h : H p = none) : Kept M H (upd H p o) := fun b u e _ => by
  rw [upd_ne (ne_of_none e h)]
  exact e
theorem Kept.at' {M : Addr → Prop} {H : Hp} {p : Addr} {o : HO} (h : M p) : Kept M H (upd H p o) := fun b u e n => by
  rw [upd_ne (fun z => n (by rw [z]; exact h))]
  exact e
theorem Kept.same {M : Addr → Prop} {H H' : Hp} (a : Same H H') : Kept M H H' := fun c o e _ => a c o e
theorem Same.kept {M : Addr → Prop} {H H' : Hp} (a : Kept M H H') (h : ∀ b, M b → H b = none) : Same H H' := fun c o e => a c o e fun m => by rw [h c m] at e; cases e
/-- behind a new instance and its own dict -/
theorem Kept.inst {M : Addr → Prop} {H : Hp} {x dx C : Addr} {fs : List (Str × V)} (nx : H x = none) (nd : H dx = none) : Kept M H (upd (upd H dx (.own x)) x (.ins C dx fs)) := fun b o e _ => by
  rw [upd_ne (ne_of_none e nx), upd_ne (ne_of_none e nd)]
  exact e

/-! a Route -/
def rF (far link nb g f t : Nat) (ch : Bool) : List (Str × V) := [("far", .int far), ("link", .int link), ("neighbour", .int nb), ("good_till", .int g), ("free_from", .int f), ("forgotten_at", .int t), ("changed", .bl ch)]
/-- at a stands a Route that says what the document's r says; what nobody asks for is left open: till when it's good but for a neighbour's, in reach; the other two times but out of reach -/
def RouteAt (C : Addr) (H : Hp) (a : Addr) (r : Route) : Prop := ∃ (dx : Addr) (g f t : Nat), H a = some (.ins C dx (rF r.dist r.link r.via g f t r.changed)) ∧ (0 < r.via → r.dist < 16 → g = r.good) ∧ (r.dist = 16 → f = r.held ∧ t = r.gone)
theorem RouteAt.of {C : Addr} {H H' : Hp} {a : Addr} {r : Route} (h : RouteAt C H a r) (k : H' a = H a) : RouteAt C H' a r := by
  obtain ⟨dx, g, f, t, e, q⟩ := h
  exact ⟨dx, g, f, t, k.trans e, q⟩
theorem RouteAt.kept {C : Addr} {M : Addr → Prop} {H H' : Hp} {a : Addr} {r : Route} (h : RouteAt C H a r) (k : Kept M H H') (n : ¬ M a) : RouteAt C H' a r := by
  obtain ⟨dx, g, f, t, e, q⟩ := h
  exact ⟨dx, g, f, t, k _ _ e n, q⟩

/-- what the top has written of the class Route -/
structure TxtR (K : PySem.W.Frag) (mg : Str → Option Value) (C : Addr) : Prop where
  cl : Cls K C
  n1 : NoAttr K C "far"
  n2 : NoAttr K C "link"
  n3 : NoAttr K C "neighbour"
  n4 : NoAttr K C "good_till"
  n5 : NoAttr K C "free_from"
  n6 : NoAttr K C "forgotten_at"
  n7 : NoAttr K C "changed"
  mgC : mg "Route" = some (.ref C)
  oor : MgI mg "OUT_OF_REACH" 16
  non : MgI mg "NO_NEIGHBOUR" 0
  good : MgI mg "GOOD_FOR" 180000
  held : MgI mg "HELD_FOR" 60000
  gone : MgI mg "KEPT_FOR" 120000

abbrev cRoute : Stmt := top 13
abbrev sRInit : Stmt := inClass cRoute 0
abbrev sRReach : Stmt := inClass cRoute 1
abbrev sROwn : Stmt := inClass cRoute 2
abbrev sRBy : Stmt := inClass cRoute 3
abbrev sRCourse : Stmt := inClass cRoute 7
abbrev sRConfirm : Stmt := inClass cRoute 8
abbrev sRLose : Stmt := inClass cRoute 9
abbrev sRYields : Stmt := inClass cRoute 11
abbrev sRForg : Stmt := inClass cRoute 4
abbrev sROutd : Stmt := inClass cRoute 5
abbrev sREnds : Stmt := inClass cRoute 6
abbrev sRTold : Stmt := inClass cRoute 10

def spRInit (C : Addr) : Sp := fun vs H Q _ => ∃ (p dx : Addr) (far link nb now : Nat), vs = [.ref p, .int far, .int link, .int nb, .int now] ∧ H p = some (.ins C dx []) ∧
  ∀ H' : Hp, H' p = some (.ins C dx (rF far link nb (now + 180000) now now true)) → Kept (· = p) H H' → Q .non H'
def spRReach (C : Addr) : Sp := fun vs H Q _ => ∃ (p : Addr) (r : Route), vs = [.ref p] ∧ RouteAt C H p r ∧ Q (.bl (decide (r.dist < 16))) H
def spROwn (C : Addr) : Sp := fun vs H Q _ => ∃ (p : Addr) (r : Route), vs = [.ref p] ∧ RouteAt C H p r ∧ Q (.bl (decide (r.dist = 0))) H
def spRBy (C : Addr) : Sp := fun vs H Q _ => ∃ (p : Addr) (r : Route) (i x : Nat), vs = [.ref p, .int i, .int x] ∧ RouteAt C H p r ∧ Q (.bl (decide (r.link = i ∧ r.via = x))) H
/-- what others a route: how far, the link, the neighbour -/
def tupC (r : Route) : HO := .tup [.int r.dist, .int r.link, .int r.via]
def spRCourse (C : Addr) : Sp := fun vs H Q _ => ∃ (p : Addr) (r : Route), vs = [.ref p] ∧ RouteAt C H p r ∧ ∀ q, H q = none → Q (.ref q) (upd H q (tupC r))
def spRConfirm (C : Addr) : Sp := fun vs H Q _ => ∃ (p : Addr) (r : Route) (now : Nat), vs = [.ref p, .int now] ∧ RouteAt C H p r ∧ ∀ H', RouteAt C H' p { r with good := now + 180000 } → Kept (· = p) H H' → Q .non H'
def spRLose (C : Addr) : Sp := fun vs H Q _ => ∃ (p : Addr) (r : Route) (now : Nat), vs = [.ref p, .int now] ∧ RouteAt C H p r ∧ ∀ H', RouteAt C H' p (Ra54.lost now r) → Kept (· = p) H H' → Q .non H'
def spRYields (C : Addr) : Sp := fun vs H Q _ => ∃ (p : Addr) (r : Route) (far now : Nat), vs = [.ref p, .int far, .int now] ∧ RouteAt C H p r ∧ r.dist ≤ 16 ∧
  Q (.bl (if r.dist < 16 then decide (far < r.dist) else decide (far < 16 ∧ r.held ≤ now))) H

section
variable {P : Program} {w : World} {K : PySem.W.Frag} {mg : Str → Option Value} {base : Heap} {C : Addr}
theorem scRInit : FnScope ["self", "far", "link", "neighbour", "now"] ["self", "far", "link", "neighbour", "now"] (defScope sRInit) := ⟨rfl, rfl, rfl, by decide +kernel, rfl, by decide +kernel, by decide +kernel⟩
theorem ok_rInit {f : Addr} {fd : FuncData} (F : Fun K "__init__" "Route.__init__" sRInit f fd) (T : TxtR K mg C) : FnOk P w K mg base CX0 1 f fd ["self", "far", "link", "neighbour", "now"] (spRInit C) := by
  refine F.ok scRInit (fun vs H Q E h => ?_) (fun cdv A outer s H vs Q E hr h => ?_)
  · obtain ⟨p, dx, far, link, nb, now, rfl, _⟩ := h
    rfl
  · obtain ⟨p, dx, far, link, nb, now, rfl, hp, k⟩ := h
    refine ⟨_, pss_cons (ps_fld (pv 0) (pv 1) rfl) (pss_cons (ps_fld (pv 0) (pv 2) rfl) (pss_cons (ps_fld (pv 0) (pv 3) rfl)
      (pss_cons (ps_fld (pv 0) (pe_op op_add (pv 4) (pe_gi T.good)) rfl) (pss_cons (ps_fld (pv 0) (pv 4) rfl) (pss_cons (ps_fld (pv 0) (pv 4) rfl) (pss_one (ps_fld (pv 0) pe_bl rfl))))))), ?_⟩
    refine ⟨_, rfl, _, rfl, p, C, dx, [], rfl, hp, T.cl, T.n1, (by show 0 < 1000; decide), ?_⟩
    refine ⟨_, rfl, _, rfl, p, C, dx, _, rfl, upd_same, T.cl, T.n2, (by show 1 < 1000; decide), ?_⟩
    refine ⟨_, rfl, _, rfl, p, C, dx, _, rfl, upd_same, T.cl, T.n3, (by show 2 < 1000; decide), ?_⟩
    refine ⟨_, rfl, _, _, rfl, rfl, _, rfl, p, C, dx, _, rfl, upd_same, T.cl, T.n4, (by show 3 < 1000; decide), ?_⟩
    refine ⟨_, rfl, _, rfl, p, C, dx, _, rfl, upd_same, T.cl, T.n5, (by show 4 < 1000; decide), ?_⟩
    refine ⟨_, rfl, _, rfl, p, C, dx, _, rfl, upd_same, T.cl, T.n6, (by show 5 < 1000; decide), ?_⟩
    refine ⟨_, rfl, p, C, dx, _, rfl, upd_same, T.cl, T.n7, (by show 6 < 1000; decide), ?_⟩
    simp only [upd_upd]
    exact k _ upd_same (Kept.at' rfl)
theorem scRReach : FnScope ["self"] ["self"] (defScope sRReach) := ⟨rfl, rfl, rfl, by decide +kernel, rfl, by decide +kernel, by decide +kernel⟩
theorem ok_rReach {f : Addr} {fd : FuncData} (F : Fun K "is_in_reach" "Route.is_in_reach" sRReach f fd) (T : TxtR K mg C) : FnOk P w K mg base CX0 1 f fd ["self"] (spRReach C) := by
  refine F.ok scRReach (fun vs H Q E h => ?_) (fun cdv A outer s H vs Q E hr h => ?_)
  · obtain ⟨p, r, rfl, _⟩ := h
    rfl
  · obtain ⟨p, r, rfl, ⟨dx, g, fr, t, hp, hq⟩, k⟩ := h
    refine ⟨_, pss_one (ps_ret (pe_cmpR op_lt (pe_fld (pv 0) rfl) (pe_gi T.oor) (nomark _))), ?_⟩
    refine ⟨_, rfl, p, C, dx, _, _, rfl, hp, T.cl, T.n1, rfl, _, _, rfl, rfl, ?_⟩
    exact wantV (Q := Q) (congrArg V.bl (decide_eq_decide.mpr (by omega))) k
theorem scROwn : FnScope ["self"] ["self"] (defScope sROwn) := ⟨rfl, rfl, rfl, by decide +kernel, rfl, by decide +kernel, by decide +kernel⟩
theorem ok_rOwn {f : Addr} {fd : FuncData} (F : Fun K "is_own" "Route.is_own" sROwn f fd) (T : TxtR K mg C) : FnOk P w K mg base CX0 1 f fd ["self"] (spROwn C) := by
  refine F.ok scROwn (fun vs H Q E h => ?_) (fun cdv A outer s H vs Q E hr h => ?_)
  · obtain ⟨p, r, rfl, _⟩ := h
    rfl
  · obtain ⟨p, r, rfl, ⟨dx, g, fr, t, hp, hq⟩, k⟩ := h
    refine ⟨_, pss_one (ps_ret (pe_cmpR op_eq (pe_fld (pv 0) rfl) pe_int (nomark _))), ?_⟩
    refine ⟨_, rfl, p, C, dx, _, _, rfl, hp, T.cl, T.n1, rfl, rfl, ?_⟩
    refine wantV (Q := Q) (congrArg V.bl (decide_eq_decide.mpr ?_)) k
    constructor
    · intro z
      injection z with z
      omega
    · intro z
      rw [z]
      rfl
theorem scRBy : FnScope ["self", "link", "neighbour"] ["self", "link", "neighbour"] (defScope sRBy) := ⟨rfl, rfl, rfl, by decide +kernel, rfl, by decide +kernel, by decide +kernel⟩
theorem eqI (a b : Nat) : decide (V.int (a : Int) = V.int (b : Int)) = decide (a = b) := decide_eq_decide.mpr ⟨fun z => by injection z with z; omega, fun z => by rw [z]⟩
theorem ok_rBy {f : Addr} {fd : FuncData} (F : Fun K "is_by" "Route.is_by" sRBy f fd) (T : TxtR K mg C) : FnOk P w K mg base CX0 1 f fd ["self", "link", "neighbour"] (spRBy C) := by
  refine F.ok scRBy (fun vs H Q E h => ?_) (fun cdv A outer s H vs Q E hr h => ?_)
  · obtain ⟨p, r, i, x, rfl, _⟩ := h
    rfl
  · obtain ⟨p, r, i, x, rfl, ⟨dx, g, fr, t, hp, hq⟩, k⟩ := h
    refine ⟨_, pss_one (ps_ret (pe_and (pe_cmpR op_eq (pe_fld (pv 0) rfl) (pv 1) (nomark _)) (pe_one (pe_cmpR op_eq (pe_fld (pv 0) rfl) (pv 2) (nomark _))))), ?_⟩
    refine ⟨_, rfl, p, C, dx, _, _, rfl, hp, T.cl, T.n2, rfl, _, rfl, rfl, _, rfl, ?_⟩
    rw [eqI]
    by_cases c : r.link = i
    · rw [decide_eq_true c]
      refine iteT ⟨_, rfl, p, C, dx, _, _, rfl, hp, T.cl, T.n3, rfl, _, rfl, rfl, ?_⟩
      refine wantV (Q := Q) (congrArg V.bl ((eqI _ _).trans (decide_eq_decide.mpr ?_))) k
      exact ⟨fun z => ⟨c, z⟩, fun z => z.2⟩
    · rw [decide_eq_false c]
      refine iteF ?_
      exact wantV (Q := Q) (congrArg V.bl (decide_eq_false (fun z => c z.1)).symm) k
theorem scRCourse : FnScope ["self"] ["self"] (defScope sRCourse) := ⟨rfl, rfl, rfl, by decide +kernel, rfl, by decide +kernel, by decide +kernel⟩
theorem ok_rCourse {f : Addr} {fd : FuncData} (F : Fun K "course" "Route.course" sRCourse f fd) (T : TxtR K mg C) : FnOk P w K mg base CX0 1 f fd ["self"] (spRCourse C) := by
  refine F.ok scRCourse (fun vs H Q E h => ?_) (fun cdv A outer s H vs Q E hr h => ?_)
  · obtain ⟨p, r, rfl, _⟩ := h
    rfl
  · obtain ⟨p, r, rfl, ⟨dx, g, fr, t, hp, hq⟩, k⟩ := h
    refine ⟨_, pss_one (ps_ret (pe_tup (pa_cons (pe_fld (pv 0) rfl) (pa_cons (pe_fld (pv 0) rfl) (pa_cons (pe_fld (pv 0) rfl) pa_nil))))), ?_⟩
    refine ⟨_, rfl, p, C, dx, _, _, rfl, hp, T.cl, T.n1, rfl, _, rfl, p, C, dx, _, _, rfl, hp, T.cl, T.n2, rfl, _, rfl, p, C, dx, _, _, rfl, hp, T.cl, T.n3, rfl, (by show 3 ≤ sizeLine; decide), fun q hq => ?_⟩
    exact k q hq
theorem scRConfirm : FnScope ["self", "now"] ["self", "now"] (defScope sRConfirm) := ⟨rfl, rfl, rfl, by decide +kernel, rfl, by decide +kernel, by decide +kernel⟩
theorem ok_rConfirm {f : Addr} {fd : FuncData} (F : Fun K "confirm" "Route.confirm" sRConfirm f fd) (T : TxtR K mg C) : FnOk P w K mg base CX0 1 f fd ["self", "now"] (spRConfirm C) := by
  refine F.ok scRConfirm (fun vs H Q E h => ?_) (fun cdv A outer s H vs Q E hr h => ?_)
  · obtain ⟨p, r, now, rfl, _⟩ := h
    rfl
  · obtain ⟨p, r, now, rfl, ⟨dx, g, fr, t, hp, hg, hq⟩, k⟩ := h
    refine ⟨_, pss_one (ps_fld (pv 0) (pe_op op_add (pv 1) (pe_gi T.good)) rfl), ?_⟩
    refine ⟨_, rfl, _, _, rfl, rfl, _, rfl, p, C, dx, _, rfl, hp, T.cl, T.n4, (by show 7 < 1000; decide), ?_⟩
    exact k _ ⟨dx, now + 180000, fr, t, upd_same, fun _ _ => rfl, hq⟩ (Kept.at' rfl)
theorem scRLose : FnScope ["self", "now"] ["self", "now"] (defScope sRLose) := ⟨rfl, rfl, rfl, by decide +kernel, rfl, by decide +kernel, by decide +kernel⟩
theorem ok_rLose {f : Addr} {fd : FuncData} (F : Fun K "lose" "Route.lose" sRLose f fd) (T : TxtR K mg C) : FnOk P w K mg base CX0 1 f fd ["self", "now"] (spRLose C) := by
  refine F.ok scRLose (fun vs H Q E h => ?_) (fun cdv A outer s H vs Q E hr h => ?_)
  · obtain ⟨p, r, now, rfl, _⟩ := h
    rfl
  · obtain ⟨p, r, now, rfl, ⟨dx, g, fr, t, hp, hg, hq⟩, k⟩ := h
    refine ⟨_, pss_cons (ps_fld (pv 0) (pe_gi T.oor) rfl) (pss_cons (ps_fld (pv 0) (pe_op op_add (pv 1) (pe_gi T.held)) rfl)
      (pss_cons (ps_fld (pv 0) (pe_op op_add (pv 1) (pe_gi T.gone)) rfl) (pss_one (ps_fld (pv 0) pe_bl rfl)))), ?_⟩
    refine ⟨_, rfl, p, C, dx, _, rfl, hp, T.cl, T.n1, (by show 7 < 1000; decide), ?_⟩
    refine ⟨_, rfl, _, _, rfl, rfl, _, rfl, p, C, dx, _, rfl, upd_same, T.cl, T.n5, (by show 7 < 1000; decide), ?_⟩
    refine ⟨_, rfl, _, _, rfl, rfl, _, rfl, p, C, dx, _, rfl, upd_same, T.cl, T.n6, (by show 7 < 1000; decide), ?_⟩
    refine ⟨_, rfl, p, C, dx, _, rfl, upd_same, T.cl, T.n7, (by show 7 < 1000; decide), ?_⟩
    simp only [upd_upd]
    exact k _ ⟨dx, g, now + 60000, now + 120000, upd_same, fun _ z => absurd z (by show ¬ (16 : Nat) < 16; decide), fun _ => ⟨rfl, rfl⟩⟩ (Kept.at' rfl)
theorem scRYields : FnScope ["self", "far", "now"] ["self", "far", "now"] (defScope sRYields) := ⟨rfl, rfl, rfl, by decide +kernel, rfl, by decide +kernel, by decide +kernel⟩
theorem ok_rYields {f : Addr} {fd : FuncData} (F : Fun K "yields_to" "Route.yields_to" sRYields f fd) (T : TxtR K mg C) (R : HasM P w K mg base C "is_in_reach" 1 ["self"] (spRReach C)) : FnOk P w K mg base CX0 2 f fd ["self", "far", "now"] (spRYields C) := by
  refine F.ok scRYields (fun vs H Q E h => ?_) (fun cdv A outer s H vs Q E hr h => ?_)
  · obtain ⟨p, r, far, now, rfl, _⟩ := h
    rfl
  · obtain ⟨p, r, far, now, rfl, R0, hd, k⟩ := h
    obtain ⟨dx, g, fr, t, hp, hg, hq⟩ := id R0
    obtain ⟨gR, gdR, mR, bR, GR⟩ := R.ex
    refine ⟨_, pss_cons (ps_if (pt_val (pe_meth0 (pv 0) T.cl mR GR hr bR .nil pass0)) (pss_one (ps_ret (pe_cmpR op_lt (pv 1) (pe_fld (pv 0) rfl) (nomark _)))) pss_nil)
      (pss_one (ps_ret (pe_and (pe_cmpR op_lt (pv 1) (pe_gi T.oor) (nomark _)) (pe_one (pe_cmpR op_ge (pv 2) (pe_fld (pv 0) rfl) (nomark _)))))), ?_⟩
    refine ⟨_, rfl, p, dx, _, rfl, hp, rfl, p, r, rfl, R0, _, rfl, ?_⟩
    by_cases c : r.dist < 16
    · rw [decide_eq_true c]
      refine iteT ⟨_, rfl, _, rfl, p, C, dx, _, _, rfl, hp, T.cl, T.n1, rfl, _, _, rfl, rfl, ?_⟩
      refine wantV (Q := Q) (congrArg V.bl ?_) k
      rw [if_pos c]
      exact decide_eq_decide.mpr (by omega)
    · rw [decide_eq_false c]
      have h16 : r.dist = 16 := by omega
      refine iteF ⟨_, rfl, _, _, rfl, rfl, _, rfl, ?_⟩
      rw [if_neg c] at k
      by_cases d : (far : Int) < 16
      · rw [decide_eq_true d]
        refine iteT ⟨_, rfl, _, rfl, p, C, dx, _, _, rfl, hp, T.cl, T.n5, rfl, _, _, rfl, rfl, ?_⟩
        refine wantV (Q := Q) (congrArg V.bl ?_) k
        have e := (hq h16).1
        exact decide_eq_decide.mpr (by omega)
      · rw [decide_eq_false d]
        refine iteF (wantV (Q := Q) (congrArg V.bl ?_) k)
        exact (decide_eq_false (by omega)).symm
end
end NR
end

section
set_option Elab.async false
set_option maxRecDepth 100000
set_option maxHeartbeats 4000000
/-! message.py -/
namespace NR
open PySem PySem.Spec PyProof.Rows L2
open Ra54 (Route)
abbrev Ent := Ra54.Entry

def vN (ns : List Nat) : List V := ns.map fun (n : Nat) => V.int (n : Int)
theorem vN_get {ns : List Nat} {i : Nat} {n : Nat} (h : ns[i]? = some n) : (vN ns)[i]? = some (.int n) := by
  unfold vN
  rw [List.getElem?_map, h]
  rfl
theorem vN_of {ns : List Nat} {i : Nat} {v : V} (h : (vN ns)[i]? = some v) : ∃ n : Nat, ns[i]? = some n ∧ v = .int n := by
  unfold vN at h
  rw [List.getElem?_map] at h
  cases e : ns[i]? with
  | none => rw [e] at h; cases h
  | some n => rw [e] at h; exact ⟨n, rfl, (Option.some.inj h).symm⟩
theorem vN_length (ns : List Nat) : (vN ns).length = ns.length := by
  unfold vN
  rw [List.length_map]
/-- xs[i:j], numbers that are not negative -/
theorem cut_nn (xs : List V) (i j : Nat) : cutV xs (some (i : Int)) (some (j : Int)) = (xs.drop i).take (j - i) := by
  unfold cutV
  rw [HT.sIx_nat, HT.sIx_nat]
  by_cases c : i ≤ xs.length
  · rw [Nat.min_eq_left c]
    by_cases d : j ≤ xs.length
    · rw [Nat.min_eq_left d]
    · rw [Nat.min_eq_right (by omega)]
      rw [List.take_of_length_le (by rw [List.length_drop]; omega), List.take_of_length_le (by rw [List.length_drop]; omega)]
  · rw [List.drop_of_length_le (by omega : xs.length ≤ min i xs.length), List.drop_of_length_le (by omega : xs.length ≤ i)]
    simp
theorem cut_0n (xs : List V) (j : Nat) : cutV xs none (some (j : Int)) = xs.take j := by
  have e : cutV xs none (some (j : Int)) = cutV xs (some ((0 : Nat) : Int)) (some (j : Int)) := by
    unfold cutV
    rw [HT.sIx_nat xs.length 0 0, HT.sIx_none, Nat.zero_min]
  rw [e, cut_nn]
  simp
theorem cut_n0 (xs : List V) (i : Nat) : cutV xs (some (i : Int)) none = xs.drop i := by
  unfold cutV
  rw [HT.sIx_nat, HT.sIx_none]
  by_cases c : i ≤ xs.length
  · rw [Nat.min_eq_left c, List.take_of_length_le (by rw [List.length_drop]; omega)]
  · rw [List.drop_of_length_le (by omega : xs.length ≤ min i xs.length), List.drop_of_length_le (by omega : xs.length ≤ i)]
    simp

theorem cut_hi (ns : List Nat) (j : Nat) : cutV (vN ns) none (some (j : Int)) = vN (ns.take j) := by
  rw [cut_0n]
  unfold vN
  rw [List.map_take]
theorem cut_lo (ns : List Nat) (i : Nat) : cutV (vN ns) (some (i : Int)) none = vN (ns.drop i) := by
  rw [cut_n0]
  unfold vN
  rw [List.map_drop]
theorem cut_mid (ns : List Nat) (i j : Nat) : cutV (vN ns) (some (i : Int)) (some (j : Int)) = vN ((ns.drop i).take (j - i)) := by
  rw [cut_nn]
  unfold vN
  rw [List.map_take, List.map_drop]
/-- a list just made -/
theorem seq_new {K : PySem.W.Frag} {H : Hp} {p : Addr} {xs ys : List V} (e : xs = ys) : SqL K (upd H p (.lst xs)) p ys := by
  subst e
  exact SqL.of upd_same
theorem same_new {H : Hp} {p : Addr} {o : HO} (h : H p = none) : Same H (upd H p o) := fun b u e => by
  rw [upd_ne (ne_of_none e h)]
  exact e
theorem range8 (m : Nat) (h : m ≤ 64) : RgC 2 ((2 + 8 * m : Nat) : Int) 8 m := by
  have e : Builtin.Range.rangeSize 2 ((2 + 8 * m : Nat) : Int) 8 = (m : Int) := by
    unfold Builtin.Range.rangeSize
    rw [if_pos (by decide)]
    split <;> omega
  refine ⟨by decide, by decide, ?_, e⟩
  unfold Builtin.Range.small
  rw [e]
  generalize hb : ((2 + 8 * m : Nat) : Int) = b
  simp only [Builtin.Range.rangeFitsLong, Bool.and_eq_true, Bool.or_eq_true, decide_eq_true_eq, beq_iff_eq, show ((8 : Int) > 0) by decide, if_true]
  omega
/-- an offer: a tuple of a network's tuple and how far -/
def OfferAt (H : Hp) (a : Addr) (e : Ent) : Prop := ∃ q, H a = some (.tup [.ref q, .int e.dist]) ∧ H q = some (tupN (e.net, e.bits))
theorem OfferAt.kept {H H' : Hp} {a : Addr} {e : Ent} (h : OfferAt H a e) (k : ∀ b xs, H b = some (.tup xs) → H' b = some (.tup xs)) : OfferAt H' a e := by
  obtain ⟨q, h1, h2⟩ := h
  exact ⟨q, k _ _ h1, k _ _ h2⟩

structure TxtM (mg : Str → Option Value) : Prop where
  bits : MgI mg "ADDRESS_BITS" 32
  oor : MgI mg "OUT_OF_REACH" 16
  head : MgI mg "HEAD_SIZE" 2
  size : MgI mg "OFFER_SIZE" 8
  most : MgI mg "MOST_OFFERS" 64
  len : mg "len" = none
  range : mg "range" = none

abbrev sNum : Stmt := top 18
abbrev sOffer : Stmt := top 20
abbrev sOffers : Stmt := top 21
abbrev sOcts : Stmt := top 19
abbrev sMsg : Stmt := top 22
abbrev sMsgs : Stmt := top 23

def spNum (K : PySem.W.Frag) : Sp := fun vs H Q _ => ∃ (a : Addr) (ns : List Nat), vs = [.ref a] ∧ SqL K H a (vN ns) ∧ Small ns ∧ ns.length ≤ 7 ∧ Q (.int (numN ns)) H
def spOffer (K : PySem.W.Frag) : Sp := fun vs H Q _ => ∃ (a : Addr) (ns : List Nat), vs = [.ref a] ∧ SqL K H a (vN ns) ∧ Small ns ∧ ns.length = 8 ∧
  (offerN ns = none → ∀ H', Same H H' → Q .non H') ∧ ∀ e, offerN ns = some e → ∀ H' p, Same H H' → OfferAt H' p e → Q (.ref p) H'
def spOffers (K : PySem.W.Frag) : Sp := fun vs H Q _ => ∃ (a : Addr) (ns : List Nat), vs = [.ref a] ∧ SqL K H a (vN ns) ∧ Small ns ∧ ns.length ≤ 2048 ∧
  (readN ns = none → ∀ H', Same H H' → Q .non H') ∧
  ∀ es, readN ns = some es → ∀ H' p (ps : List (Addr × Ent)), Same H H' → H p = none → H' p = some (.lst (ps.map fun x => V.ref x.1)) → ps.map (·.2) = es → (∀ x ∈ ps, OfferAt H' x.1 x.2) → Q (.ref p) H'

section
variable {P : Program} {w : World} {K : PySem.W.Frag} {mg : Str → Option Value} {base : Heap}
theorem scNum : FnScope ["octets", "number", "octet"] ["octets"] (defScope sNum) := ⟨rfl, rfl, rfl, by decide +kernel, rfl, by decide +kernel, by decide +kernel⟩
theorem ok_num {f : Addr} {fd : FuncData} (F : Fun K "number_from" "number_from" sNum f fd) : FnOk P w K mg base CX0 1 f fd ["octets"] (spNum K) := by
  refine F.ok scNum (fun vs H Q E h => ?_) (fun cdv A outer s H vs Q E hr h => ?_)
  · obtain ⟨a, ns, rfl, _⟩ := h
    rfl
  · obtain ⟨a, ns, rfl, hS, hs, hl, k⟩ := h
    refine ⟨_, pss_cons (ps_set (i := 1) scNum.nd rfl (.inl rfl) pe_int) (pss_cons (ps_for PassesOwn.never rfl (pi_list (pv 0)) (pg_name (i := 2) scNum.nd rfl (.inl rfl))
      (pss_one (ps_set (i := 1) scNum.nd rfl (.inl rfl) (pe_op op_add (pe_op op_mul (pv 1) pe_int) (pv 2))))) (pss_one (ps_ret (pv 1)))), ?_⟩
    refine ⟨_, rfl, a, rfl, ⟨_, hS⟩, for_list (K := K) (a := a) (xs := vN ns) (fun i σ H' => ∃ v : Option V, σ = [some (.ref a), some (.int (numN (ns.take i))), v] ∧ H' = H)
      ⟨none, rfl, rfl⟩ (fun i σ H' _ ⟨_, _, e⟩ => by rw [e]; exact hS) ?_ ?_⟩
    · rintro i y σ H' hi ⟨v, rfl, rfl⟩
      obtain ⟨z, hz, rfl⟩ := vN_of hi
      have b : numN (ns.take i) < 256 ^ 7 := numN_bound (hs.take i) (by rw [List.length_take]; omega)
      refine ⟨_, rfl, _, _, rfl, rfl, .inl ⟨by omega, ?_⟩, _, rfl, _, _, rfl, rfl, ?_⟩
      · have : (256 : Nat) ^ 7 < 2 ^ 64 := by decide
        show ((numN (ns.take i) : Nat) : Int) < 2 ^ 64
        omega
      · refine ⟨some (.int z), ?_, rfl⟩
        show [some (V.ref a), some (V.int ((numN (ns.take i) : Int) * 256 + (z : Int))), some (V.int z)] = _
        rw [numN_more hz]
        simp
    · rintro σ H' ⟨v, rfl, rfl⟩
      refine ⟨_, rfl, ?_⟩
      rw [vN_length, List.take_length]
      exact k
theorem scOffer : FnScope ["octets", "address", "bits", "far", "network"] ["octets"] (defScope sOffer) := ⟨rfl, rfl, rfl, by decide +kernel, rfl, by decide +kernel, by decide +kernel⟩
theorem ok_offer {f : Addr} {fd : FuncData} (F : Fun K "offer_from" "offer_from" sOffer f fd) (T : TxtM mg) (M : HasF P w K mg base "number_from" 1 ["octets"] (spNum K)) (N : HasF P w K mg base "network_of" 1 ["address", "bits"] spNetOf) :
    FnOk P w K mg base CX0 2 f fd ["octets"] (spOffer K) := by
  refine F.ok scOffer (fun vs H Q E h => ?_) (fun cdv A outer s H vs Q E hr h => ?_)
  · obtain ⟨a, ns, rfl, _⟩ := h
    rfl
  · obtain ⟨a, ns, rfl, hS, hs, hl, kN, kS⟩ := h
    obtain ⟨g1, gd1, mg1, kp1, b1, G1⟩ := M.ex
    obtain ⟨g2, gd2, mg2, kp2, b2, G2⟩ := N.ex
    refine ⟨_, pss_cons (ps_set (i := 1) scOffer.nd rfl (.inl rfl) (pe_call G1 hr (by rfl) mg1 kp1 b1 .nil pass0 (pa_cons (pe_slice sl_list (pv 0) po_none (po_some pe_int)) pa_nil)))
      (pss_cons (ps_set (i := 2) scOffer.nd rfl (.inl rfl) (pe_ix ix_list (pv 0) pe_int (fun _ _ => rfl)))
      (pss_cons (ps_set (i := 3) scOffer.nd rfl (.inl rfl) (pe_ix ix_list (pv 0) pe_int (fun _ _ => rfl)))
      (pss_cons (ps_if (pt_cmpR op_gt (pv 2) (pe_gi T.bits) (nomark _)) (pss_one (ps_ret pe_non)) pss_nil)
      (pss_cons (ps_set (i := 4) scOffer.nd rfl (.inl rfl) (pe_call G2 hr (by rfl) mg2 kp2 b2 .nil pass0 (pa_cons (pv 1) (pa_cons (pv 2) pa_nil))))
      (pss_cons (ps_if (PW.pt (pw_or (pt_cmpR op_ne (pe_ix ix_tup (pv 4) pe_int (fun _ _ => rfl)) (pv 1) (nomark _))
          (pw_or (pt_not (pt_chain op_le op_le pe_int (pv 3) (pe_gi T.oor)))
          (pw_or1 (pt_cmpR op_ne (pe_call G1 hr (by rfl) mg1 kp1 b1 .nil pass0 (pa_cons (pe_slice sl_list (pv 0) (po_some pe_int) po_none) pa_nil)) pe_int (nomark _))))))
        (pss_one (ps_ret pe_non)) pss_nil)
      (pss_one (ps_ret (pe_tup (pa_cons (pv 4) (pa_cons (pv 3) pa_nil)))))))))), ?_⟩
    obtain ⟨a0, a1, a2, a3, B, D, a6, a7, rfl⟩ := eight hl
    have hoff : offerN [a0, a1, a2, a3, B, D, a6, a7] = if B ≤ 32 ∧ Ra54.netOf B (numN [a0, a1, a2, a3]) = numN [a0, a1, a2, a3] ∧ 1 ≤ D ∧ D ≤ 16 ∧ numN [a6, a7] = 0 then some ⟨numN [a0, a1, a2, a3], B, D⟩ else none := rfl
    have hs4 : Small [a0, a1, a2, a3] := hs.take 4
    have hs6 : Small [a6, a7] := hs.drop 6
    have hN : numN [a0, a1, a2, a3] < 2 ^ 64 := Nat.lt_trans (numN_bound hs4 (k := 4) (Nat.le_refl _)) (by decide)
    generalize hN4 : numN [a0, a1, a2, a3] = N4 at *
    refine ⟨_, rfl, _, rfl, a, _, rfl, hS, fun p hp => ⟨p, [a0, a1, a2, a3], rfl, seq_new (cut_hi _ 4), hs4, (by show 4 ≤ 7; decide), ?_⟩⟩
    rw [hN4]
    have s1 := same_new (o := .lst (cutV (vN [a0, a1, a2, a3, B, D, a6, a7]) none (some 4))) hp
    generalize upd H p (.lst (cutV (vN [a0, a1, a2, a3, B, D, a6, a7]) none (some 4))) = H1 at s1 ⊢
    have hS1 := s1.seq hS
    -- bits, far; if bits > ADDRESS_BITS
    refine ⟨_, rfl, a, _, _, _, rfl, rfl, hS1, atI_nat (j := 4) rfl, ?_⟩
    refine ⟨_, rfl, a, _, _, _, rfl, rfl, hS1, atI_nat (j := 5) rfl, ?_⟩
    refine ⟨_, rfl, _, _, rfl, rfl, _, rfl, ?_⟩
    by_cases c : B ≤ 32
    · rw [decide_eq_false (show ¬ (32 : Int) < (B : Int) by omega)]
      refine iteF ?_
      -- network = network_of(address, bits)
      refine ⟨_, rfl, _, rfl, N4, B, rfl, hN, c, fun q hq => ?_⟩
      have s2 := s1.trans (same_new (o := tupN (Ra54.netOf B N4, B)) hq)
      have hQ : upd H1 q (tupN (Ra54.netOf B N4, B)) q = some (tupN (Ra54.netOf B N4, B)) := upd_same
      generalize upd H1 q (tupN (Ra54.netOf B N4, B)) = H2 at s2 hQ ⊢
      have hS2 := s2.seq hS
      refine ⟨_, rfl, q, _, _, _, rfl, rfl, SqT.of hQ, rfl, _, rfl, rfl, _, rfl, ?_⟩
      by_cases e1 : Ra54.netOf B N4 = N4
      · rw [e1, decide_eq_true rfl]
        refine iteF ?_
        refine ⟨_, rfl, _, _, rfl, rfl, _, rfl, ?_⟩
        -- not 1 <= far <= OUT_OF_REACH
        by_cases c1 : 1 ≤ D
        · rw [decide_eq_true (show (1 : Int) ≤ (D : Int) by omega)]
          refine iteT ⟨_, _, rfl, rfl, _, rfl, ?_⟩
          by_cases c2 : D ≤ 16
          · rw [decide_eq_true (show (D : Int) ≤ 16 by omega)]
            refine iteF ?_
            -- number_from(octets[6:]) != 0
            refine ⟨_, rfl, _, rfl, a, _, rfl, hS2, fun u hu => ⟨u, [a6, a7], rfl, seq_new (cut_lo _ 6), hs6, (by show 2 ≤ 7; decide), ?_⟩⟩
            have s3 := s2.trans (same_new (o := .lst (cutV (vN [a0, a1, a2, a3, B, D, a6, a7]) (some 6) none)) hu)
            have hQ3 := (same_new (o := .lst (cutV (vN [a0, a1, a2, a3, B, D, a6, a7]) (some 6) none)) hu) _ _ hQ
            generalize upd H2 u (.lst (cutV (vN [a0, a1, a2, a3, B, D, a6, a7]) (some 6) none)) = H3 at s3 hQ3 ⊢
            refine ⟨rfl, _, rfl, ?_⟩
            by_cases c3 : numN [a6, a7] = 0
            · have e3 : (!decide (V.int ((numN [a6, a7] : Nat) : Int) = V.int 0)) = false := by rw [c3]; rfl
              rw [e3]
              refine iteF ⟨_, rfl, _, rfl, (by show 2 ≤ sizeLine; decide), fun v hv => ?_⟩
              refine kS ⟨N4, B, D⟩ ?_ _ v (s3.trans (same_new hv)) ⟨q, upd_same, ?_⟩
              · rw [hoff, if_pos ⟨c, e1, c1, c2, c3⟩]
              · rw [upd_ne (ne_of_none hQ3 hv), hQ3, e1]
            · have e3 : (!decide (V.int ((numN [a6, a7] : Nat) : Int) = V.int 0)) = true := by rw [show decide (V.int ((numN [a6, a7] : Nat) : Int) = V.int 0) = false from (eqI _ 0).trans (decide_eq_false c3)]; rfl
              rw [e3]
              refine iteT (kN ?_ _ s3)
              rw [hoff, if_neg (fun z => c3 z.2.2.2.2)]
          · rw [decide_eq_false (show ¬ (D : Int) ≤ 16 by omega)]
            refine iteT (iteT (kN ?_ _ s2))
            rw [hoff, if_neg (fun z => c2 z.2.2.2.1)]
        · rw [decide_eq_false (show ¬ (1 : Int) ≤ (D : Int) by omega)]
          refine iteF ⟨_, rfl, ?_⟩
          refine iteT (iteT (kN ?_ _ s2))
          rw [hoff, if_neg (fun z => c1 z.2.2.1)]
      · have e2 : decide (V.int ((Ra54.netOf B N4 : Nat) : Int) = V.int (N4 : Int)) = false := (eqI _ _).trans (decide_eq_false e1)
        rw [e2]
        refine iteT (iteT (kN ?_ _ s2))
        rw [hoff, if_neg (fun z => e1 z.2.1)]
    · rw [decide_eq_true (show (32 : Int) < (B : Int) by omega)]
      refine iteT (kN ?_ _ s1)
      rw [hoff, if_neg (fun z => c z.1)]
theorem scOffers : FnScope ["octets", "many", "offers", "at", "offer"] ["octets"] (defScope sOffers) := ⟨rfl, rfl, rfl, by decide +kernel, rfl, by decide +kernel, by decide +kernel⟩
theorem ok_offers {f : Addr} {fd : FuncData} (F : Fun K "offers_from" "offers_from" sOffers f fd) (T : TxtM mg) (M : HasF P w K mg base "number_from" 1 ["octets"] (spNum K)) (N : HasF P w K mg base "offer_from" 2 ["octets"] (spOffer K)) :
    FnOk P w K mg base CX0 3 f fd ["octets"] (spOffers K) := by
  refine F.ok scOffers (fun vs H Q E h => ?_) (fun cdv A outer s H vs Q E hr h => ?_)
  · obtain ⟨a, ns, rfl, _⟩ := h
    rfl
  · obtain ⟨a, ns, rfl, hS, hs, hl, kN, kS⟩ := h
    obtain ⟨g1, gd1, mg1, kp1, b1, G1⟩ := M.ex
    obtain ⟨g2, gd2, mg2, kp2, b2, G2⟩ := N.ex
    have hr1 : Room 1 _ := hr.mono (by decide)
    refine ⟨_, pss_cons (ps_set (i := 1) scOffers.nd rfl (.inl rfl) (pe_call G1 hr1 (by rfl) mg1 kp1 b1 .nil pass0 (pa_cons (pe_slice sl_list (pv 0) po_none (po_some (pe_gi T.head))) pa_nil)))
      (pss_cons (ps_if (PW.pt (pw_or (pt_not (pt_chain op_le op_le pe_int (pv 1) (pe_gi T.most)))
          (pw_or1 (pt_cmpR op_ne (pe_callB call_len_seq (by rfl) T.len PySem.boot_len (pa_cons (pv 0) pa_nil)) (pe_op op_add (pe_gi T.head) (pe_op op_mul (pe_gi T.size) (pv 1))) (nomark _)))))
        (pss_one (ps_ret pe_non)) pss_nil)
      (pss_cons (ps_set (i := 2) scOffers.nd rfl (.inl rfl) (pe_lst pa_nil))
      (pss_cons (ps_for PassesOwn.never rfl (pi_range3 (by rfl) T.range (pa_cons (pe_gi T.head) (pa_cons (pe_callB call_len_seq (by rfl) T.len PySem.boot_len (pa_cons (pv 0) pa_nil)) (pa_cons (pe_gi T.size) pa_nil)))) (pg_name (i := 3) scOffers.nd rfl (.inl rfl))
        (pss_cons (ps_set (i := 4) scOffers.nd rfl (.inl rfl) (pe_call G2 hr (by rfl) mg2 kp2 b2 .nil pass0 (pa_cons (pe_slice sl_list (pv 0) (po_some (pv 3)) (po_some (pe_op op_add (pv 3) (pe_gi T.size)))) pa_nil)))
        (pss_cons (ps_if (pt_cmp (pc_isN (pv 4))) (pss_one (ps_ret pe_non)) pss_nil)
        (pss_one (ps_expr (pe_bm PySem.F.plainAttrs_list PySem.F.slot_list_append PySem.F.type_list_append mt_append (pv 2) (pa_cons (pv 4) pa_nil)))))))
      (pss_one (ps_ret (pv 2)))))), ?_⟩
    have hs2 := hs.take 2
    have hN : numN (ns.take 2) < 2 ^ 16 := numN_bound hs2 (k := 2) (by rw [List.length_take]; omega)
    have hread : readN ns = if (1 ≤ numN (ns.take 2) ∧ numN (ns.take 2) ≤ 64) ∧ ns.length = 2 + 8 * numN (ns.take 2) then offersN (numN (ns.take 2)) (ns.drop 2) else none := rfl
    generalize hM : numN (ns.take 2) = m at hN hread
    refine ⟨_, rfl, _, rfl, a, _, rfl, hS, fun p hp => ⟨p, ns.take 2, rfl, seq_new (cut_hi _ 2), hs2, (by rw [List.length_take]; omega), ?_⟩⟩
    rw [hM]
    have s1 := same_new (o := .lst (cutV (vN ns) none (some 2))) hp
    generalize upd H p (.lst (cutV (vN ns) none (some 2))) = H1 at s1 ⊢
    have hS1 := s1.seq hS
    refine ⟨_, rfl, _, _, rfl, rfl, _, rfl, ?_⟩
    by_cases c1 : 1 ≤ m
    · rw [decide_eq_true (show (1 : Int) ≤ (m : Int) by omega)]
      refine iteT ⟨_, _, rfl, rfl, _, rfl, ?_⟩
      by_cases c2 : m ≤ 64
      · rw [decide_eq_true (show (m : Int) ≤ 64 by omega)]
        refine iteF ?_
        refine ⟨_, rfl, a, _, rfl, .inl hS1, _, rfl, _, _, rfl, rfl, .inl ⟨by decide, by decide⟩, _, _, rfl, rfl, rfl, _, rfl, ?_⟩
        have el : ((vN ns).length : Int) = (ns.length : Int) := by rw [vN_length]
        by_cases c3 : ns.length = 2 + 8 * m
        · have e3 : (!decide (V.int ((vN ns).length : Int) = V.int (2 + 8 * (m : Int)))) = false := by
            rw [decide_eq_true (by rw [el, c3] <;> rfl)]
            rfl
          rw [e3]
          refine iteF ?_
          rw [if_pos ⟨⟨c1, c2⟩, c3⟩] at hread
          -- offers = []
          refine ⟨Nat.zero_le _, fun L hL => ?_⟩
          have s2 := s1.trans (same_new (o := .lst []) hL)
          have hLs : upd H1 L (.lst []) L = some (.lst []) := upd_same
          generalize upd H1 L (.lst []) = H2 at s2 hLs ⊢
          have hS2 := s2.seq hS
          have hL0 : H L = none := s1.free hL
          -- for at in range(HEAD_SIZE, len(octets), OFFER_SIZE)
          refine ⟨_, rfl, a, _, rfl, .inl hS2, 2, _, 8, m, rfl, ?_, for_rangeC (lo := 2) (c := 8) (n := m) (fun i σ H' => ∃ (ps : List (Addr × Ent)) (v3 v4 : Option V), σ = [some (.ref a), some (.int m), some (.ref L), v3, v4] ∧ Same H H' ∧
              H' L = some (.lst (ps.map fun x => V.ref x.1)) ∧ (∀ x ∈ ps, OfferAt H' x.1 x.2) ∧ readN ns = (offersN (m - i) (ns.drop (2 + 8 * i))).map (ps.map (·.2) ++ ·) ∧ ps.length ≤ i)
            ⟨[], none, none, rfl, s2, hLs, (fun x hx => nomatch hx), ?_, Nat.zero_le _⟩ ?_ ?_⟩
          · rw [el, c3]
            exact range8 m c2
          · rw [hread]
            show offersN m (ns.drop 2) = (offersN (m - 0) (ns.drop (2 + 8 * 0))).map fun z => z
            rw [Option.map_id']
            rfl
          · rintro i σ H' hi ⟨ps, v3, v4, rfl, s3, hL3, hps, hrd, hpl⟩
            have hS3 := s3.seq hS
            have hm : m - i = (m - (i + 1)) + 1 := by omega
            rw [hm] at hrd
            obtain ⟨st1, st2⟩ := offersN_step hrd
            have e8 : ((2 : Int) + (i : Nat) * 8) = ((2 + 8 * i : Nat) : Int) := by omega
            rw [e8]
            refine ⟨_, rfl, _, rfl, _, rfl, _, rfl, _, _, rfl, rfl, _, rfl, a, _, rfl, hS3, fun u hu => ?_⟩
            have ec : cutV (vN ns) (some ((2 + 8 * i : Nat) : Int)) (some (((2 + 8 * i : Nat) : Int) + 8)) = vN ((ns.drop (2 + 8 * i)).take 8) := by
              have q := cut_mid ns (2 + 8 * i) (2 + 8 * i + 8)
              rw [show 2 + 8 * i + 8 - (2 + 8 * i) = 8 by omega] at q
              exact q
            have h8 : ((ns.drop (2 + 8 * i)).take 8).length = 8 := by
              rw [List.length_take, List.length_drop]
              omega
            refine ⟨u, _, rfl, seq_new ec, (hs.drop _).take _, h8, fun en H4 s4 => ?_, fun e he H4 t s4 ho => ?_⟩
            · refine ⟨_, rfl, _, rfl, ?_⟩
              refine iteT (kN (st1 en) _ (s3.trans ((same_new hu).trans s4)))
            · have s5 := (same_new hu).trans s4
              refine ⟨_, rfl, _, rfl, ?_⟩
              refine iteF ?_
              have hL4 := s5 _ _ hL3
              have tk : ∀ b xs, H' b = some (.tup xs) → upd H4 L (.lst (ps.map (fun x => V.ref x.1) ++ [V.ref t])) b = some (.tup xs) := fun b xs z => by
                rw [upd_ne (ne_of (s5 _ _ z) hL4 (fun q => nomatch q))]
                exact s5 _ _ z
              refine ⟨_, rfl, .inl ⟨rfl, _, SqL.of hL4⟩, _, rfl, L, _, _, rfl, rfl, hL4, ?_, ?_⟩
              · rw [List.length_map]
                exact small1000 (by omega)
              · refine ⟨ps ++ [(t, e)], _, _, rfl, fun b o z => ?_, ?_, ?_, ?_, ?_⟩
                · rw [upd_ne (ne_of_none z hL0)]
                  exact s5 _ _ (s3 _ _ z)
                · rw [upd_same, List.map_append]
                  rfl
                · intro x hx
                  rcases List.mem_append.mp hx with hx | hx
                  · exact (hps x hx).kept tk
                  · rw [List.mem_singleton.mp hx]
                    refine ho.kept fun b xs z => ?_
                    rw [upd_ne (ne_of z hL4 (fun q => nomatch q))]
                    exact z
                · have q := st2 e he
                  rw [List.drop_drop] at q
                  rw [q, List.map_append]
                  rfl
                · rw [List.length_append]
                  show ps.length + 1 ≤ i + 1
                  omega
          · rintro σ H' ⟨ps, v3, v4, rfl, s3, hL3, hps, hrd, hpl⟩
            rw [Nat.sub_self] at hrd
            refine ⟨_, rfl, kS (ps.map (·.2)) ?_ H' L ps s3 hL0 hL3 rfl hps⟩
            rw [hrd]
            show some (ps.map (·.2) ++ []) = _
            rw [List.append_nil]
        · have e3 : (!decide (V.int ((vN ns).length : Int) = V.int (2 + 8 * (m : Int)))) = true := by
            rw [decide_eq_false (fun z => c3 (by injection z with z; omega))]
            rfl
          rw [e3]
          refine iteT (kN ?_ _ s1)
          rw [hread, if_neg (fun z => c3 z.2)]
      · rw [decide_eq_false (show ¬ (m : Int) ≤ 64 by omega)]
        refine iteT (iteT (kN ?_ _ s1))
        rw [hread, if_neg (fun z => c2 z.1.2)]
    · rw [decide_eq_false (show ¬ (1 : Int) ≤ (m : Int) by omega)]
      refine iteF ⟨_, rfl, ?_⟩
      refine iteT (iteT (kN ?_ _ s1))
      rw [hread, if_neg (fun z => c1 z.1.1)]
end
end NR
end

section
set_option Elab.async false
set_option maxRecDepth 100000
set_option maxHeartbeats 4000000
/-! for v in d.values(), d a dict whose keys are tuples -/
namespace NR
open PySem PySem.Spec PyProof.Rows L2

/-- the values of the locked dict at d -/
def ItVT (d : Addr) (o : Obj) (kvs : List (List Key × V)) : It where
  go := fun i H => H d = some (.frz o (.dT kvs)) ∧ i < kvs.length
  yld := fun i H x H' => H' = H ∧ ∃ k, kvs[i]? = some (k, x)
  stop := fun i H => H d = some (.frz o (.dT kvs)) ∧ kvs.length ≤ i
/-- what a locked dict with tuple keys is below -/
theorem lockedT {X : Cx} {pins : List (Addr × Obj)} {σ : L2.St} {H : Hp} {s : Shared} {d : Addr} {o : Obj} {kvs : List (List Key × V)} (I : Inv X pins σ H s) (h : H d = some (.frz o (.dT kvs))) :
    (d == sysModules) = false ∧ s.heap.get? d = some o ∧ o.ExactDict ∧ ∃ (es : Array DictEntry) (ep : Nat), o.data = .dict es ep ∧ es.size = kvs.length ∧
      ∀ (i : Nat) (hi : i < es.size) (k : List Key) (v : V), kvs[i]? = some (k, v) → RelV v es[i].val := by
  obtain ⟨g1, g2, g3, xs, pr, o2, es, ep, g4, g5, g6, g7, _⟩ := I.hok d _ h
  rw [g1] at g4
  obtain rfl : o = o2 := Option.some.inj g4
  have l1 : es.size = xs.length := size_of_entries g7
  have l2 : kvs.length = xs.length := Paired.length pr
  refine ⟨g3, g1, g5, es, ep, g6, l1.trans l2.symm, fun i hi k v e => ?_⟩
  obtain ⟨b, hb, _, _, rv⟩ := paired_get pr e
  have q := entry_at g7 i
  rw [hb, Array.getElem?_eq_getElem hi, Option.map_some] at q
  rw [Option.some.inj q]
  exact rv
theorem turnVT {P : Program} {w : World} {K : PySem.W.Frag} {tg : Expr} {d : Addr} {o : Obj} {es : Array DictEntry} {ep : Nat} {kvs : List (List Key × V)} (it : Addr) (hod : o.data = .dict es ep) :
    Turn P w K tg (ItVT d o kvs) [it] it (fun i h => h.IsValIter it d i kvs.length ep) := by
  constructor
  case mem => exact List.mem_singleton.mpr rfl
  case obj =>
    intro i h ⟨oi, e1, _, e2⟩ b hb
    rw [List.mem_singleton.mp hb]
    refine ⟨oi, e1, fun v z => ?_⟩
    rw [e2] at z
    cases z
  case keep =>
    intro i h h' st k
    exact st.at fun oi e => k it (List.mem_singleton.mpr rfl) oi e
  case self =>
    intro A i s Q E st h
    exact wpAny_pyIter_valiter st h
  case item =>
    intro X e1 e2 e3 hc i pins s σ H E I hf st hg
    subst e1 e2 e3
    obtain ⟨q0, q1, _, q3, q4, q5⟩ := hf it (List.mem_singleton.mpr rfl)
    obtain ⟨g1, g2, g3, es2, ep2, g4, g5, ent⟩ := lockedT I hg.1
    obtain ⟨z1, z2⟩ := dict_ep hod g4
    subst z1 z2
    have hlt : i < es2.size := by rw [g5]; exact hg.2
    rw [← g5] at st
    refine wpAny_pyNext_values_item_raw st ⟨o, g2, g3, g4⟩ hlt fun h' st' sb => ?_
    have I1 : Inv X pins σ H { s with heap := h' } := I.turned (t' := s.toks) (fun b ob hb z => (sb.2 b hb).trans z) q0 q1 q3 q4 q5
    obtain ⟨oi, w1, w2, w3⟩ := id st'
    have hk : kvs[i]? = some (kvs[i]'hg.2) := List.getElem?_eq_getElem hg.2
    refine ⟨es2[i].val, rfl, go_of (s := { s with heap := h' }) w1 w2 w3 (by decide) ⟨(kvs[i]'hg.2).2, H, I1, ent i hlt _ _ hk, ⟨rfl, (kvs[i]'hg.2).1, hk⟩, ?_, fun b hb => (hf b hb).1⟩⟩
    show h'.IsValIter it d (i + 1) kvs.length _
    rw [← g5]
    exact st'
  case done =>
    intro X e1 e2 e3 hc i pins s σ H E I hf st hg
    subst e1 e2 e3
    obtain ⟨q0, q1, _, q3, q4, q5⟩ := hf it (List.mem_singleton.mpr rfl)
    obtain ⟨g1, g2, g3, es2, ep2, g4, g5, ent⟩ := lockedT I hg.1
    obtain ⟨z1, z2⟩ := dict_ep hod g4
    subst z1 z2
    rw [← g5] at st
    exact wpAny_pyNext_values_end_raw (I.ok.hd hc) st ⟨o, g2, g3, g4⟩ (by rw [g5]; exact hg.2) fun h' eb => ⟨rfl, I.turned (t' := s.toks) (fun b ob hb z => eb b ob hb z) q0 q1 q3 q4 q5⟩
def iValsT (td : TE) : TI := fun σ H R => td σ H fun x H1 => ∃ d o kvs, x = .ref d ∧ H1 d = some (.frz o (.dT kvs)) ∧ R (ItVT d o kvs) H1
theorem pi_valuesT {X : Cx} {tg e : Expr} {td : TE} {apos cpos : Pos} (he : PE X e td) (hbase : attributeBase e "values" X.env (eval e X.env) = eval e X.env := by rfl) (hline : (apos.endLine == cpos.line) = true := by rfl) :
    PI X tg (.Call (.Attribute e "values" apos) [] [] cpos) (iValsT td) := by
  refine ⟨fun pins s σ H R I h => ?_⟩
  refine wpAny_Call_method (T := "dict") (id := "dict.values") hbase rfl hline F.plainAttrs_dict F.slot_dict_values F.type_dict_values (thn (he.run pins s σ H _ I h) fun u s1 ⟨x, H1, I1, rx, d, o, kvs, ex, hd, q⟩ => ?_)
  subst ex
  obtain rfl : u = Value.ref d := rx
  obtain ⟨g1, g2, g3, es, ep, g4, g5, _⟩ := lockedT I1 hd
  have raw : s1.heap.DictRaw d es ep := ⟨o, g2, g3, g4⟩
  refine ⟨raw.typeIs, ?_, ?_⟩
  · intro b z
    injection z with z
    subst z
    exact ⟨o, g2, g3.2.1⟩
  have I2 : Inv X pins σ H1 { s1 with heap := s1.heap.push { cls := .type "dict_values", data := .fields #[.ref d] } } := I1.kept (t' := s1.toks) fun b ob z => Heap.get?_push_of_some _ z
  have fin : wpAny (model X.prog X.w) X.A (pyIter (.ref s1.heap.objs.size)) (PIE X pins σ tg R) X.xe { s1 with heap := s1.heap.push { cls := .type "dict_values", data := .fields #[.ref d] } } := by
    refine wpAny_pyIter_values_raw (d := d) (es := es) (ep := ep) ⟨_, Heap.get?_push_size _ rfl, rfl, rfl⟩ (raw.at fun ob z => Heap.get?_push_of_some _ z) (pi_one (tk := s1.toks) I2 _ (turnVT _ g4) ⟨_, Heap.get?_push_size _ rfl, rfl, ?_⟩ q)
    rw [g5] <;> rfl
  show wpAny _ _ (callWith cpos (.builtin "dict.values") [.ref d] [] []) _ X.xe s1
  exact method_meetsIn F.slot_dict_values F.entry_dict_values rfl (PySem.evalArgs_none ⟨rfl, raw.typeIs, F.args_dict_values_1 _, _, meets_dict_values_raw d g1, ⟨⟨es, ep, raw⟩, fin⟩⟩)
/-- the turns of such a walk, for the for loop -/
theorem for_valsT {d : Addr} {o : Obj} {kvs : List (List Key × V)} {g : TG} {tb : TS} {D : Ends} {σ : L2.St} {H : Hp} (Pv : Nat → L2.St → Hp → Prop) (h0 : Pv 0 σ H) (hl : ∀ i σ H, i ≤ kvs.length → Pv i σ H → H d = some (.frz o (.dT kvs)))
    (hs : ∀ i k x σ H, kvs[i]? = some (k, x) → Pv i σ H → g x σ H fun σ2 H2 => tb { D with nx := Pv (i + 1), ct := Pv (i + 1), bk := D.nx } σ2 H2) (hd : ∀ σ H, Pv kvs.length σ H → D.nx σ H) :
    ∃ W : Nat → Nat → L2.St → Hp → Prop, (∃ m, W 0 m σ H) ∧ ∀ i m σ H, W i m σ H →
      ((ItVT d o kvs).stop i H ∧ D.nx σ H) ∨ ((ItVT d o kvs).go i H ∧ ∃ N : L2.St → Hp → Prop, (∀ σ' H', N σ' H' → ∃ m', m' < m ∧ W (i + 1) m' σ' H') ∧ ∀ x H', (ItVT d o kvs).yld i H x H' → g x σ H' fun σ2 H2 => tb { D with nx := N, ct := N, bk := D.nx } σ2 H2) := by
  refine for_it (J := ItVT d o kvs) (n := kvs.length) (G := fun H => H d = some (.frz o (.dT kvs))) (Y := fun i H x H' => H' = H ∧ ∃ k, kvs[i]? = some (k, x)) ⟨fun i H hi h => ⟨h, hi⟩, fun H h => ⟨h, Nat.le_refl _⟩, fun i H x H' _ _ y => y⟩ Pv h0 hl (fun i x σ H H' hi p y => ?_) hd
  obtain ⟨rfl, k, y⟩ := y
  exact hs i k x σ _ y p
end NR
end

section
set_option Elab.async false
set_option maxRecDepth 100000
set_option maxHeartbeats 4000000
/-! table.py: what stands in the heap -/
namespace NR
open PySem PySem.Spec L2
open Ra54 (Route)

def keyL (r : Route) : List Key := [.inl r.net, .inl r.bits]
def keyT (n : Nat × Nat) : List Key := [.inl n.1, .inl n.2]
theorem keyL_eq {r : Route} {n : Nat × Nat} : keyL r = keyT n ↔ key r = n := by
  obtain ⟨a, b⟩ := n
  unfold keyL keyT key
  simp only [List.cons.injEq, Sum.inl.injEq, and_true, Prod.mk.injEq]
  omega
theorem keyLL {r s : Route} : keyL r = keyL s ↔ key r = key s := keyL_eq (n := key s)
abbrev Ents := List (Addr × Route)
def kvsOf (es : Ents) : List (List Key × V) := es.map fun e => (keyL e.2, V.ref e.1)
theorem kvs_len (es : Ents) : (kvsOf es).length = es.length := by
  unfold kvsOf
  rw [List.length_map]
theorem kvs_val (n : Nat × Nat) : ∀ es : Ents, valV (kvsOf es) (keyT n) = (findE es n).map fun e => V.ref e.1
  | [] => rfl
  | e :: l => by
    unfold findE
    by_cases c : key e.2 = n
    · rw [List.find?_cons_of_pos (by simpa using c)]
      exact valV_pos (p := (keyL e.2, V.ref e.1)) (keyL_eq.mpr c)
    · rw [List.find?_cons_of_neg (by simpa using c)]
      exact (valV_neg (p := (keyL e.2, V.ref e.1)) (fun z => c (keyL_eq.mp z))).trans (kvs_val n l)
theorem kvs_map_other {r : Route} {v : V} : ∀ {es : Ents}, (∀ e ∈ es, key e.2 ≠ key r) → (kvsOf es).map (fun kv => if kv.1 = keyL r then (kv.1, v) else kv) = kvsOf es
  | [], _ => rfl
  | e :: l, h => by
    show (if keyL e.2 = keyL r then (keyL e.2, v) else (keyL e.2, V.ref e.1)) :: (kvsOf l).map (fun kv => if kv.1 = keyL r then (kv.1, v) else kv) = (keyL e.2, V.ref e.1) :: kvsOf l
    rw [if_neg (fun z => h e List.mem_cons_self (keyLL.mp z)), kvs_map_other fun y hy => h y (List.mem_cons_of_mem _ hy)]
theorem kvs_any {r : Route} : ∀ es : Ents, ((kvsOf es).any fun kv => decide (kv.1 = keyL r)) = es.any fun e => decide (key e.2 = key r)
  | [] => rfl
  | e :: l => by
    show (decide (keyL e.2 = keyL r) || ((kvsOf l).any fun kv => decide (kv.1 = keyL r))) = (decide (key e.2 = key r) || l.any fun e => decide (key e.2 = key r))
    rw [kvs_any l, decide_eq_decide.mpr keyLL]
theorem kvs_put {x : Addr × Route} : ∀ {es : Ents}, NK (es.map (·.2)) → putK (kvsOf es) (keyL x.2) (V.ref x.1) = kvsOf (putE x es) := by
  intro es nk
  have step : ∀ {es : Ents}, NK (es.map (·.2)) → (es.any fun e => decide (key e.2 = key x.2)) = true → (kvsOf es).map (fun kv => if kv.1 = keyL x.2 then (kv.1, V.ref x.1) else kv) = kvsOf (putE x es) := by
    intro es
    induction es with
    | nil => intro _ h; simp at h
    | cons e l ih =>
      intro nk h
      have k' := List.pairwise_cons.mp nk
      show (if keyL e.2 = keyL x.2 then (keyL e.2, V.ref x.1) else (keyL e.2, V.ref e.1)) :: (kvsOf l).map (fun kv => if kv.1 = keyL x.2 then (kv.1, V.ref x.1) else kv) = kvsOf (if key e.2 = key x.2 then x :: l else e :: putE x l)
      by_cases c : key e.2 = key x.2
      · rw [if_pos (keyLL.mpr c), if_pos c, kvs_map_other (r := x.2) (v := V.ref x.1) (es := l) fun y hy z => k'.1 y.2 (List.mem_map.mpr ⟨y, hy, rfl⟩) (c.trans z.symm), keyLL.mpr c]
        rfl
      · rw [if_neg (fun z => c (keyLL.mp z)), if_neg c]
        have h' : (l.any fun e => decide (key e.2 = key x.2)) = true := by
          have q : (decide (key e.2 = key x.2) || l.any fun e => decide (key e.2 = key x.2)) = true := h
          rwa [decide_eq_false c, Bool.false_or] at q
        rw [ih k'.2 h']
        rfl
  have stepN : ∀ {es : Ents}, ¬ (es.any fun e => decide (key e.2 = key x.2)) = true → kvsOf es ++ [(keyL x.2, V.ref x.1)] = kvsOf (putE x es) := by
    intro es
    induction es with
    | nil => intro _; rfl
    | cons e l ih =>
      intro h
      have q : ¬ (decide (key e.2 = key x.2) || l.any fun e => decide (key e.2 = key x.2)) = true := h
      have c : ¬ key e.2 = key x.2 := fun z => q (by rw [decide_eq_true z]; rfl)
      have h' : ¬ (l.any fun e => decide (key e.2 = key x.2)) = true := fun z => q (by rw [z, Bool.or_true])
      show (keyL e.2, V.ref e.1) :: (kvsOf l ++ [(keyL x.2, V.ref x.1)]) = kvsOf (if key e.2 = key x.2 then x :: l else e :: putE x l)
      rw [if_neg c, ih h']
      rfl
  unfold putK
  rw [kvs_any]
  by_cases c : (es.any fun e => decide (key e.2 = key x.2)) = true
  · rw [if_pos c]
    exact step nk c
  · rw [if_neg c]
    exact stepN c
theorem kvs_mod {a : Addr} {r r0 : Route} (hk : key r = key r0) : ∀ {es : Ents}, (es.map (·.1)).Nodup → (a, r0) ∈ es → kvsOf (modE a r es) = kvsOf es
  | [], _, h => nomatch h
  | e :: l, nd, h => by
    have h' := List.nodup_cons.mp nd
    unfold modE
    by_cases c : e.1 = a
    · have q : e = (a, r0) := by
        rcases List.mem_cons.mp h with h | h
        · exact h.symm
        · exact absurd (show e.1 ∈ l.map (·.1) by rw [c]; exact List.mem_map.mpr ⟨(a, r0), h, rfl⟩) h'.1
      rw [if_pos c, q]
      show (keyL r, V.ref a) :: kvsOf l = (keyL r0, V.ref a) :: kvsOf l
      rw [keyLL.mpr hk]
    · rw [if_neg c]
      rcases List.mem_cons.mp h with h | h
      · exact absurd (congrArg Prod.fst h.symm) c
      · show (keyL e.2, V.ref e.1) :: kvsOf (modE a r l) = _
        rw [kvs_mod hk h'.2 h]
        rfl

/-- how far a route may be; a link's own has no neighbour -/
def Dom (r : Route) : Prop := r.dist ≤ 16 ∧ (r.dist = 0 → r.via = 0) ∧ (r.via = 0 → r.dist = 0 ∨ r.dist = 16) ∧ r.bits ≤ 32
structure TabAt (CT CR : Addr) (H : Hp) (ta d : Addr) (es : Ents) : Prop where
  ob : ∃ dx, H ta = some (.ins CT dx [("by_network", .ref d)])
  dc : H d = some (.dT (kvsOf es))
  rt : ∀ e ∈ es, RouteAt CR H e.1 e.2
  ad : (es.map (·.1)).Nodup
  nk : NK (es.map (·.2))
  le : es.length ≤ 256
  dom : ∀ e ∈ es, Dom e.2
def Foot (ta d : Addr) (es : Ents) (b : Addr) : Prop := b = ta ∨ b = d ∨ b ∈ es.map (·.1)
section
variable {CT CR : Addr} {H H' : Hp} {ta d a x : Addr} {es : Ents} {r r0 : Route}
theorem TabAt.ne_ta (T : TabAt CT CR H ta d es) {e : Addr × Route} (h : e ∈ es) : e.1 ≠ ta := by
  obtain ⟨dx, g, f, t, q, _⟩ := T.rt e h
  obtain ⟨dy, z⟩ := T.ob
  exact ne_of q z fun w => by injection w with _ _ w; cases w
theorem TabAt.ne_d (T : TabAt CT CR H ta d es) {e : Addr × Route} (h : e ∈ es) : e.1 ≠ d := by
  obtain ⟨dx, g, f, t, q, _⟩ := T.rt e h
  exact ne_of q T.dc fun w => nomatch w
theorem TabAt.tad (T : TabAt CT CR H ta d es) : ta ≠ d := by
  obtain ⟨dy, z⟩ := T.ob
  exact ne_of z T.dc fun w => nomatch w
theorem TabAt.foot_some (T : TabAt CT CR H ta d es) {b : Addr} (h : Foot ta d es b) : ∃ o, H b = some o := by
  rcases h with rfl | rfl | h
  · obtain ⟨dy, z⟩ := T.ob
    exact ⟨_, z⟩
  · exact ⟨_, T.dc⟩
  · obtain ⟨e, he, rfl⟩ := List.mem_map.mp h
    obtain ⟨dx, g, f, t, q, _⟩ := T.rt e he
    exact ⟨_, q⟩
theorem TabAt.kept {M : Addr → Prop} (T : TabAt CT CR H ta d es) (k : Kept M H H') (n : ∀ b, Foot ta d es b → ¬ M b) : TabAt CT CR H' ta d es := by
  refine ⟨?_, k _ _ T.dc (n _ (.inr (.inl rfl))), fun e he => (T.rt e he).kept k (n _ (.inr (.inr (List.mem_map.mpr ⟨e, he, rfl⟩)))), T.ad, T.nk, T.le, T.dom⟩
  obtain ⟨dx, z⟩ := T.ob
  exact ⟨dx, k _ _ z (n _ (.inl rfl))⟩
theorem TabAt.same (T : TabAt CT CR H ta d es) (k : Same H H') : TabAt CT CR H' ta d es := T.kept (M := fun _ => False) (Kept.same k) fun _ _ z => z
/-- a route is changed in its place -/
theorem TabAt.mod (T : TabAt CT CR H ta d es) (h : (a, r0) ∈ es) (hk : key r = key r0) (hd : Dom r) (R : RouteAt CR H' a r) (k : Kept (· = a) H H') : TabAt CT CR H' ta d (modE a r es) := by
  obtain ⟨dx, z⟩ := T.ob
  refine ⟨⟨dx, k _ _ z (T.ne_ta h).symm⟩, ?_, fun e he => ?_, ?_, ?_, by rw [modE_len]; exact T.le, fun e he => ?_⟩
  · rw [kvs_mod hk T.ad h]
    exact k _ _ T.dc (T.ne_d h).symm
  · rcases mem_modE T.ad he with rfl | ⟨he, n⟩
    · exact R
    · exact (T.rt e he).kept k n
  · rw [modE_addrs]
    exact T.ad
  · refine NK.of_keys ?_
    rw [List.map_map]
    have q := modE_keys hk T.ad h
    have e1 : (modE a r es).map (key ∘ fun x => x.2) = es.map (key ∘ fun x => x.2) := q
    rw [e1, ← List.map_map]
    exact T.nk.keys
  · rcases mem_modE T.ad he with rfl | ⟨he, _⟩
    · exact hd
    · exact T.dom e he
/-- a new route is put in -/
theorem TabAt.put {H1 : Hp} (T : TabAt CT CR H ta d es) (hx : H x = none) (k : Same H H1) (R : RouteAt CR H1 x r) (hl : (findE es (key r)).isSome = true ∨ es.length < 256) (hd : Dom r) :
    TabAt CT CR (upd H1 d (.dT (putK (kvsOf es) (keyL r) (.ref x)))) ta d (putE (x, r) es) := by
  obtain ⟨dx, z⟩ := T.ob
  have nx : ∀ e ∈ es, e.1 ≠ x := fun e he q => by
    obtain ⟨dy, g, f, t, w, _⟩ := T.rt e he
    rw [q, hx] at w
    cases w
  have xd : x ≠ d := fun q => by
    have w := T.dc
    rw [← q, hx] at w
    cases w
  have pl := putE_len (x, r) es
  refine ⟨⟨dx, by rw [upd_ne T.tad]; exact k _ _ z⟩, by rw [upd_same, kvs_put (x := (x, r)) T.nk], fun e he => ?_, putE_addrs T.ad nx, ?_, ?_, fun e he => ?_⟩
  · rcases mem_putE he with rfl | he
    · exact R.of (upd_ne xd)
    · exact ((T.rt e he).kept (M := fun _ => False) (Kept.same k) fun q => q).of (upd_ne (T.ne_d he))
  · rw [putE_routes]
    exact nk_put T.nk
  · rcases hl with hl | hl
    · rw [pl.2 hl]
      exact T.le
    · exact Nat.le_trans pl.1 hl
  · rcases mem_putE he with rfl | he
    · exact hd
    · exact T.dom e he
theorem foot_put {b : Addr} (h : Foot ta d (putE (x, r) es) b) : Foot ta d es b ∨ b = x := by
  rcases h with h | h | h
  · exact .inl (.inl h)
  · exact .inl (.inr (.inl h))
  · obtain ⟨e, he, rfl⟩ := List.mem_map.mp h
    rcases mem_putE he with rfl | he
    · exact .inr rfl
    · exact .inl (.inr (.inr (List.mem_map.mpr ⟨e, he, rfl⟩)))
theorem foot_mod {b : Addr} : Foot ta d (modE a r es) b ↔ Foot ta d es b := by
  unfold Foot
  rw [modE_addrs]
end
end NR
end

section
set_option Elab.async false
set_option maxRecDepth 100000
set_option maxHeartbeats 4000000
/-! d a dict whose keys are tuples: for k, v in d.items(); sorted(d), the keys pairs of ints -/
namespace NR
open PySem PySem.Spec PySem.Calls PyProof.Rows L2

theorem walk_valuesT {d : Addr} {o : Obj} {kvs : List (List Key × V)} : Walk (ItVT d o kvs) kvs.length (fun H => H d = some (.frz o (.dT kvs))) (fun i H x H' => H' = H ∧ ∃ k, kvs[i]? = some (k, x)) :=
  ⟨fun _ _ hi q => ⟨q, hi⟩, fun _ q => ⟨q, Nat.le_refl _⟩, fun _ _ _ _ _ _ y => y⟩
/-- the pairs, each a new tuple of the key's own tuple and the value -/
def ItIT (d : Addr) (o : Obj) (kvs : List (List Key × V)) : It where
  go := fun i H => H d = some (.frz o (.dT kvs)) ∧ i < kvs.length
  yld := fun i H x H' => ∃ (T q : Addr) (k : List Key) (v : V), kvs[i]? = some (k, v) ∧ H q = some (.tup (k.map kV)) ∧ x = .ref T ∧ H T = none ∧ H' = upd H T (.tup [.ref q, v])
  stop := fun i H => H d = some (.frz o (.dT kvs)) ∧ kvs.length ≤ i
theorem lockedT2 {X : Cx} {pins : List (Addr × Obj)} {σ : L2.St} {H : Hp} {s : Shared} {d : Addr} {o : Obj} {kvs : List (List Key × V)} (I : Inv X pins σ H s) (h : H d = some (.frz o (.dT kvs))) :
    (d == sysModules) = false ∧ s.heap.get? d = some o ∧ o.ExactDict ∧ ∃ (es : Array DictEntry) (ep : Nat), o.data = .dict es ep ∧ es.size = kvs.length ∧
      ∀ (i : Nat) (hi : i < es.size) (k : List Key) (v : V), kvs[i]? = some (k, v) → RelV v es[i].val ∧ ∃ q, es[i].key = .ref q ∧ H q = some (.tup (k.map kV)) := by
  obtain ⟨g1, g2, g3, xs, pr, o2, es, ep, g4, g5, g6, g7, _⟩ := I.hok d _ h
  rw [g1] at g4
  obtain rfl : o = o2 := Option.some.inj g4
  have l1 : es.size = xs.length := size_of_entries g7
  have l2 : kvs.length = xs.length := Paired.length pr
  refine ⟨g3, g1, g5, es, ep, g6, l1.trans l2.symm, fun i hi k v e => ?_⟩
  obtain ⟨b, hb, _, hq, rv⟩ := paired_get pr e
  have q := entry_at g7 i
  rw [hb, Array.getElem?_eq_getElem hi, Option.map_some] at q
  rw [Option.some.inj q]
  exact ⟨rv, b.2.1, rfl, hq⟩
theorem turnIT {P : Program} {w : World} {K : PySem.W.Frag} {elts : List Expr} {kk : Nat} {tpos : Pos} {d : Addr} {o : Obj} {es : Array DictEntry} {ep : Nat} {kvs : List (List Key × V)} (it : Addr) (hod : o.data = .dict es ep) :
    Turn P w K (.Tuple elts kk tpos) (ItIT d o kvs) [it] it (fun i h => ∃ ok ov, IsItemIter h it d i kvs.length ep ok ov) := by
  constructor
  case mem => exact List.mem_singleton.mpr rfl
  case obj =>
    intro i h st b hb
    obtain rfl : b = it := List.mem_singleton.mp hb
    obtain ⟨ok, ov, e⟩ := st
    exact ⟨_, e, fun v z => nomatch z⟩
  case keep => exact fun i h h' st k => let ⟨ok, ov, e⟩ := st; ⟨ok, ov, k it (List.mem_singleton.mpr rfl) _ e⟩
  case self => exact fun A i s Q E st h => let ⟨_, _, e⟩ := st; PySem.W.kcp_self e h
  case item =>
    intro X e1 e2 e3 hc i pins s σ H E I hf st hg
    subst e1 e2 e3
    obtain ⟨g1, g2, g3, es2, ep2, g4, g5, ent⟩ := lockedT2 I hg.1
    obtain ⟨z1, z2⟩ := dict_ep hod g4
    subst z1 z2
    have hlt : i < es2.size := by rw [g5]; exact hg.2
    obtain ⟨ok, ov, he⟩ := st
    rw [← g5] at he
    have hl2 : it < s.heap.objs.size := Heap.lt_size he
    have hk : kvs[i]? = some (kvs[i]'hg.2) := List.getElem?_eq_getElem hg.2
    obtain ⟨rv, q, ek, hq⟩ := ent i hlt _ _ hk
    refine wpAny_pyNext_items_item_raw he ⟨o, g2, g3, g4⟩ hlt fun h' ho hT hz hk' => ?_
    refine ⟨_, rfl, wpAny_letOwnedTupleGo_items (s := { s with heap := h' }) ho fun h'' he' sb => ?_⟩
    have hT2 : h''.get? s.heap.objs.size = some { cls := .type "tuple", data := .seq #[es2[i].key, es2[i].val] } := (sb.2 _ (Nat.ne_of_gt hl2)).trans hT
    have new : ObjOk X.prog X.w (upd H s.heap.objs.size (.tup [.ref q, (kvs[i]'hg.2).2])) h'' s.heap.objs.size (.tup [.ref q, (kvs[i]'hg.2).2]) :=
      ⟨by show 2 ≤ sizeLine; decide, [es2[i].key, es2[i].val], .cons ek (.cons rv .nil), ⟨_, hT2, rfl, _, rfl⟩⟩
    have I1 : Inv X pins σ (upd H s.heap.objs.size (.tup [.ref q, (kvs[i]'hg.2).2])) { s with heap := h'' } :=
      I.turnedNew (t' := s.toks) (ch := [it]) (fun b ob hb e => (sb.2 b (by simpa using hb)).trans (hk' b ob (by simpa using hb) e)) hf (Nat.le_refl _) new
    refine ⟨.ref s.heap.objs.size, _, I1, rfl, ⟨_, q, (kvs[i]'hg.2).1, (kvs[i]'hg.2).2, hk, hq, rfl, I.hok.fresh (Nat.le_refl _), rfl⟩, ⟨es2[i].key, es2[i].val, ?_⟩, fun b hb => ?_⟩
    · rw [← g5]; exact he'
    · obtain rfl : b = it := List.mem_singleton.mp hb
      rw [upd_ne (Nat.ne_of_lt hl2)]
      exact (hf b (List.mem_singleton.mpr rfl)).1
  case done =>
    intro X e1 e2 e3 hc i pins s σ H E I hf st hg
    subst e1 e2 e3
    obtain ⟨q0, q1, _, q3, q4, q5⟩ := hf it (List.mem_singleton.mpr rfl)
    obtain ⟨g1, g2, g3, es2, ep2, g4, g5, ent⟩ := lockedT2 I hg.1
    obtain ⟨z1, z2⟩ := dict_ep hod g4
    subst z1 z2
    obtain ⟨ok, ov, he⟩ := st
    rw [← g5] at he
    exact wpAny_pyNext_items_end_raw (I.ok.hd hc) he ⟨o, g2, g3, g4⟩ (by rw [g5]; exact hg.2) fun h' eb => ⟨rfl, I.turned (t' := s.toks) (fun b ob hb z => eb b ob hb z) q0 q1 q3 q4 q5⟩
def iItemsT (td : TE) : TI := fun σ H R => td σ H fun x H1 => ∃ d o kvs, x = .ref d ∧ H1 d = some (.frz o (.dT kvs)) ∧ R (ItIT d o kvs) H1
theorem pi_itemsT {X : Cx} {e : Expr} {elts : List Expr} {kk : Nat} {tpos : Pos} {td : TE} {apos cpos : Pos} (he : PE X e td) (hbase : attributeBase e "items" X.env (eval e X.env) = eval e X.env := by rfl) (hline : (apos.endLine == cpos.line) = true := by rfl) :
    PI X (.Tuple elts kk tpos) (.Call (.Attribute e "items" apos) [] [] cpos) (iItemsT td) := by
  refine ⟨fun pins s σ H R I h => ?_⟩
  refine wpAny_Call_method (T := "dict") (id := "dict.items") hbase rfl hline F.plainAttrs_dict F.slot_dict_items F.type_dict_items (thn (he.run pins s σ H _ I h) fun u s1 ⟨x, H1, I1, rx, d, o, kvs, ex, hd, q⟩ => ?_)
  subst ex
  obtain rfl : u = Value.ref d := rx
  obtain ⟨g1, g2, g3, es, ep, g4, g5, _⟩ := lockedT2 I1 hd
  have raw : s1.heap.DictRaw d es ep := ⟨o, g2, g3, g4⟩
  refine ⟨raw.typeIs, ?_, ?_⟩
  · intro b z
    injection z with z
    subst z
    exact ⟨o, g2, g3.2.1⟩
  have I2 : Inv X pins σ H1 { s1 with heap := s1.heap.push { cls := .type "dict_items", data := .fields #[.ref d] } } := I1.kept (t' := s1.toks) fun b ob z => Heap.get?_push_of_some _ z
  have fin : wpAny (model X.prog X.w) X.A (pyIter (.ref s1.heap.objs.size)) (PIE X pins σ (.Tuple elts kk tpos) R) X.xe { s1 with heap := s1.heap.push { cls := .type "dict_items", data := .fields #[.ref d] } } := by
    refine wpAny_pyIter_items_raw (d := d) (es := es) (ep := ep) ⟨_, Heap.get?_push_size _ rfl, rfl, rfl⟩ (raw.at fun ob z => Heap.get?_push_of_some _ z) (pi_one (tk := s1.toks) I2 _ (turnIT _ g4) ⟨.none, .none, ?_⟩ q)
    rw [← g5]
    exact Heap.get?_push_size _ rfl
  show wpAny _ _ (callWith cpos (.builtin "dict.items") [.ref d] [] []) _ X.xe s1
  exact method_meetsIn F.slot_dict_items F.entry_dict_items rfl (PySem.evalArgs_none ⟨rfl, raw.typeIs, F.args_dict_items_1 _, _, meets_dict_items_raw d g1, ⟨⟨es, ep, raw⟩, fin⟩⟩)
theorem walk_itemsT {d : Addr} {o : Obj} {kvs : List (List Key × V)} : Walk (ItIT d o kvs) kvs.length (fun H => H d = some (.frz o (.dT kvs)))
    (fun i H x H' => ∃ (T q : Addr) (k : List Key) (v : V), kvs[i]? = some (k, v) ∧ H q = some (.tup (k.map kV)) ∧ x = .ref T ∧ H T = none ∧ H' = upd H T (.tup [.ref q, v])) :=
  ⟨fun _ _ hi q => ⟨q, hi⟩, fun _ q => ⟨q, Nat.le_refl _⟩, fun _ _ _ _ _ _ y => y⟩
/-- the two numbers of the tuple that a reference means -/
def kOf (H : Hp) : V → Int × Int
  | .ref t => match H t with
    | some (.tup [.int i, .int j]) => (i, j)
    | _ => (0, 0)
  | _ => (0, 0)
theorem kOf_at {H : Hp} {t : Addr} {i j : Int} (h : H t = some (.tup [.int i, .int j])) : kOf H (.ref t) = (i, j) := by
  unfold kOf
  simp only [h]
def rSortedDT : List V → Hp → VK → Prop := fun vs H Q => ∃ (d : Addr) (kvs : List (List Key × V)), vs = [V.ref d] ∧ Rd H d (.dT kvs) ∧ (∀ x ∈ kvs, ∃ i j : Int, x.1 = [.inl i, .inl j]) ∧
  ∀ bs ys p, IsKeys H kvs bs → SrtO.Srtd (ltP (kOf H)) ys → SrtO.Stb (ltP (kOf H)) ys (bs.map V.ref) → H p = none → Q (.ref p) (upd H p (.lst ys))
theorem sortedHeap_old {h : Heap} {a b : Addr} {vs : List Value} {out : Array Value} {o : Obj} (hb : b ≠ a) (e : h.get? b = some o) : (sortedHeap h a vs out).get? b = some o := by
  unfold sortedHeap
  rw [Heap.get?_update_ne _ _ _ _ hb]
  refine Heap.get?_push_of_some _ (Heap.get?_push_of_some _ ?_)
  rw [Heap.get?_update_ne _ _ _ _ hb]
  exact e
theorem sortedHeap_at {h : Heap} {a : Addr} {vs xs : List Value} {out : Array Value} {n : Nat} (e : h.get? a = some (seqObj "list" xs.toArray n)) : ∃ m, (sortedHeap h a vs out).get? a = some (seqObj "list" out m) := by
  unfold sortedHeap
  obtain ⟨e1, h1⟩ : ∃ e1, (h.update a (Obj.mapSeq fun _ => #[])).get? a = some (seqObj "list" #[] e1) := ⟨_, get?_update_seq e (fun _ => #[])⟩
  exact ⟨_, get?_update_seq (Heap.get?_push_of_some _ (Heap.get?_push_of_some _ h1)) (fun _ => out)⟩
theorem cr_sortedDT {X : Cx} (hc : X.calm = true) : CallR X (.builtin "sorted") rSortedDT := by
  intro pins s σ H vs us Q I r h
  obtain ⟨d, kvs, rfl, hd, hk, q⟩ := h
  obtain ⟨u, rfl, rx⟩ := r.one
  cases rx
  obtain ⟨z, hs, ks, pr, o, es, ep, ho, hx, hdt, he, hn⟩ := (show ObjOk X.prog X.w H s.heap d (.dT kvs) from hd.ok I.hok)
  have l1 : es.size = ks.length := size_of_entries he
  have l2 : kvs.length = ks.length := Paired.length pr
  refine Calls.call_function_entry kind_sorted plain_sorted entry_sorted (args_sorted1 _) ?_
  unfold Builtin.«sorted»
  refine wpAny_bind (m := checkCount "sorted" 1 1 _) (wpAny_pure ?_)
  refine wpAny_bind (PySem.W.kdu_collect (A := X.A.in1) (kdl_raw hs hx hdt) (I.ok.hd hc) ho (by omega) fun h' tk acc' kp it => ?_)
  have ea : acc'.toList = ks.map fun x => Value.ref x.2.1 := by
    have hl : acc'.toList.length = ks.length := by rw [Array.length_toList, it.1]; exact l1
    apply List.ext_getElem?
    intro j
    rw [List.getElem?_map]
    cases hj : acc'.toList[j]? with
    | none =>
      have h1 := List.getElem?_eq_none_iff.mp hj
      rw [List.getElem?_eq_none (by omega)]
      all_goals rfl
    | some v =>
      obtain ⟨en, hen, hv⟩ := it.2 j v (by rw [← Array.getElem?_toList]; exact hj)
      have qe := entry_at he j
      rw [hen] at qe
      cases hb : ks[j]? with
      | none =>
        rw [hb] at qe
        exact nomatch (show some en = none from qe)
      | some b =>
        rw [hb] at qe
        have e2 : en = entryOfKey (tupleKind (mixKind X.prog X.w)) b := Option.some.inj qe
        rw [hv, e2]
        all_goals rfl
  have eb : acc'.toList = (ks.map fun x => x.2.1).map Value.ref := by rw [ea, List.map_map]; all_goals rfl
  have hz : acc'.toList.length ≤ sizeLine := by rw [ea, List.length_map]; omega
  refine wpAny_bind (wpAny_newList ?_ hz)
  have isk : IsKeys H kvs (ks.map fun x => x.2.1) := isKeys_of pr
  -- each collected value is a tuple of two numbers
  have pair : ∀ v ∈ acc'.toList, Srt.IsPair s.heap v (kOf H (backV v)).1 (kOf H (backV v)).2 := by
    intro v hv
    rw [ea] at hv
    obtain ⟨x, hx', rfl⟩ := List.mem_map.mp hv
    obtain ⟨j, hj⟩ := List.mem_iff_getElem?.mp hx'
    obtain ⟨kv, hkv, hq⟩ : ∃ kv, kvs[j]? = some kv ∧ H x.2.1 = some (.tup (kv.1.map kV)) := by
      have hjl : j < kvs.length := by rw [l2]; exact (List.getElem?_eq_some_iff.mp hj).1
      obtain ⟨b, hb, _, e2, _⟩ := paired_get pr (List.getElem?_eq_getElem hjl)
      rw [hj] at hb
      cases hb
      exact ⟨_, List.getElem?_eq_getElem hjl, e2⟩
    obtain ⟨i1, j1, ek⟩ := hk kv (List.mem_of_getElem? hkv)
    have ht : H x.2.1 = some (.tup [.int i1, .int j1]) := by rw [hq, ek]; rfl
    obtain ⟨_, its2, r2, o2, ho2, hc2, n2, hd2⟩ := I.hok _ _ ht
    obtain ⟨u1, u2, rfl, ri, rj⟩ := vals2 r2
    obtain ⟨t1, rfl⟩ := ri
    obtain ⟨t2, rfl⟩ := rj
    show Srt.IsPair s.heap (.ref x.2.1) (kOf H (.ref x.2.1)).1 (kOf H (.ref x.2.1)).2
    rw [kOf_at ht]
    exact ⟨x.2.1, o2, t1, t2, n2, rfl, ho2, hc2, hd2⟩
  have hoL : (h'.push { cls := .type "list", data := .seq acc'.toList.toArray }).get? h'.objs.size = some (seqObj "list" acc'.toList.toArray 0) := Heap.get?_push_size _ rfl
  have keep : ∀ b o, s.heap.get? b = some o → b ≠ h'.objs.size ∧ (h'.push { cls := .type "list", data := .seq acc'.toList.toArray }).get? b = some o := fun b o e =>
    ⟨Nat.ne_of_lt (Heap.lt_size (kp _ _ e)), Heap.get?_push_of_some _ (kp _ _ e)⟩
  refine wpAny_bind (wpAny_holding (wpAny_call_entry slot_list_sort ⟨_, hoL, rfl⟩ entry_list_sort (SrtO.list_sort_ord (SrtO.swo_lex fun u => kOf H (backV u)) hoL hz (fun h2 => ?_) fun out h1 h2 => ⟨_, rfl, ?_⟩) (args_list_sort _)))
  · refine SrtO.pairs_sortableO (by omega) (fun v hv => (pair v hv).keeps fun b o e _ => (keep b o e).2) fun o e => ?_
    have e' : some o = some (seqObj "list" acc'.toList.toArray 0) := e.symm.trans hoL
    cases e'
    intro c
    exact absurd (Value.type.inj c) (by decide)
  · refine wpAny_pure ⟨_, rfl, ?_⟩
    have h3 : ∀ u ∈ out, ∃ a, u = Value.ref a := fun u hu => by
      have hm := h2.perm.mem_iff.mp hu
      rw [ea] at hm
      obtain ⟨x, _, rfl⟩ := List.mem_map.mp hm
      exact ⟨_, rfl⟩
    have hb : SrtO.Stb (ltP (kOf H)) (out.map backV) ((ks.map fun x => x.2.1).map V.ref) := by
      have e1 : (ks.map fun x => x.2.1).map V.ref = acc'.toList.map backV := by
        rw [eb, List.map_map, List.map_map, List.map_map]
        rfl
      rw [e1]
      exact SrtO.Stb.map (ltP_swo (kOf H)) backV h2
    obtain ⟨m, hm⟩ := sortedHeap_at (vs := acc'.toList) (out := out.toArray) hoL
    have hlen : (out.map backV).length ≤ sizeLine := by
      have e1 := h2.perm.length_eq
      rw [List.length_map]
      omega
    have I2 : Inv X pins σ H { s with heap := h', toks := tk } := I.kept (t' := tk) kp
    have kp2 : ∀ b o, h'.get? b = some o → (sortedHeap (h'.push { cls := .type "list", data := .seq acc'.toList.toArray }) h'.objs.size acc'.toList out.toArray).get? b = some o := fun b o e =>
      sortedHeap_old (Nat.ne_of_lt (Heap.lt_size e)) (Heap.get?_push_of_some _ e)
    exact ⟨.ref h'.objs.size, upd H h'.objs.size (.lst (out.map backV)), I2.laid (t' := tk) kp2 (Nat.le_refl _) ⟨hlen, out, m, vals_back h3, hm⟩, rfl, q _ _ _ isk (SrtO.srtd_map h1) hb (I2.hok.fresh (Nat.le_refl _))⟩
end NR
end

section
set_option Elab.async false
set_option maxRecDepth 100000
set_option maxHeartbeats 4000000
/-! table.py: the defs -/
namespace NR
open PySem PySem.Spec L2
open Ra54 (Route)

structure TxtT (K : PySem.W.Frag) (mg : Str → Option Value) (C : Addr) : Prop where
  cl : Cls K C
  n1 : NoAttr K C "by_network"
  mgC : mg "Table" = some (.ref C)
  most : MgI mg "MOST_ROUTES" 256
  oor : MgI mg "OUT_OF_REACH" 16
  non : MgI mg "NO_NEIGHBOUR" 0
  len : mg "len" = none

abbrev cTable : Stmt := top 26
abbrev sTInit : Stmt := inClass cTable 0
abbrev sTFull : Stmt := inClass cTable 1
abbrev sTHas : Stmt := inClass cTable 2
abbrev sTCourse : Stmt := inClass cTable 3
abbrev sTOwn : Stmt := inClass cTable 9
abbrev sTLose : Stmt := inClass cTable 10
abbrev sTOffer : Stmt := inClass cTable 14
abbrev sTAgain : Stmt := inClass cTable 15
abbrev sTOrder : Stmt := inClass cTable 4
abbrev sTChOrd : Stmt := inClass cTable 5
abbrev sTHasCh : Stmt := inClass cTable 6
abbrev sTEnds : Stmt := inClass cTable 7
abbrev sTRouteTo : Stmt := inClass cTable 8
abbrev sTForget : Stmt := inClass cTable 11
abbrev sTOutd : Stmt := inClass cTable 12
abbrev sTMark : Stmt := inClass cTable 13

def spTInit (CT CR : Addr) : Sp := fun vs H Q _ => ∃ (p dx : Addr), vs = [.ref p] ∧ H p = some (.ins CT dx []) ∧ ∀ (d : Addr) (H' : Hp), H d = none → TabAt CT CR H' p d [] → Kept (· = p) H H' → Q .non H'
def spTFull (CT CR : Addr) : Sp := fun vs H Q _ => ∃ (ta d : Addr) (es : Ents), vs = [.ref ta] ∧ TabAt CT CR H ta d es ∧ Q (.bl (decide (256 ≤ es.length))) H
def spTHas (CT CR : Addr) : Sp := fun vs H Q _ => ∃ (ta d t : Addr) (es : Ents) (n : Nat × Nat), vs = [.ref ta, .ref t] ∧ TabAt CT CR H ta d es ∧ H t = some (tupN n) ∧
  Q (.bl ((findE es n).isSome || decide (es.length < 256))) H
def spTCourse (CT CR : Addr) : Sp := fun vs H Q _ => ∃ (ta d t : Addr) (es : Ents) (n : Nat × Nat), vs = [.ref ta, .ref t] ∧ TabAt CT CR H ta d es ∧ H t = some (tupN n) ∧
  (findE es n = none → Q .non H) ∧ ∀ e, findE es n = some e → ∀ q, H q = none → Q (.ref q) (upd H q (tupC e.2))
def spTOwn (CT CR : Addr) : Sp := fun vs H Q _ => ∃ (ta d t : Addr) (es : Ents) (n : Nat × Nat) (i now : Nat), vs = [.ref ta, .ref t, .int i, .int now] ∧ TabAt CT CR H ta d es ∧ H t = some (tupN n) ∧
  ((findE es n).isSome = true ∨ es.length < 256) ∧ n.2 ≤ 32 ∧
  ∀ H' x, H x = none → TabAt CT CR H' ta d (putE (x, ⟨n.1, n.2, 0, i, 0, 0, 0, 0, true⟩) es) → Kept (· = d) H H' → Q .non H'
def downF (i now : Nat) (r : Route) : Route := if r.link = i ∧ r.dist < 16 then Ra54.lost now r else r
def spTLose (CT CR : Addr) : Sp := fun vs H Q _ => ∃ (ta d : Addr) (es : Ents) (i now : Nat), vs = [.ref ta, .int i, .int now] ∧ TabAt CT CR H ta d es ∧
  ∀ H', TabAt CT CR H' ta d (es.map fun e => (e.1, downF i now e.2)) → Kept (· ∈ es.map (·.1)) H H' → Q .non H'
def spTOffer (CT CR : Addr) : Sp := fun vs H Q _ => ∃ (ta d t : Addr) (es : Ents) (e : Ent) (i y now : Nat), vs = [.ref ta, .ref t, .int e.dist, .int i, .int y, .int now] ∧ TabAt CT CR H ta d es ∧ H t = some (tupN (e.net, e.bits)) ∧
  1 ≤ e.dist ∧ e.dist ≤ 16 ∧ e.bits ≤ 32 ∧ 1 ≤ y ∧ ∀ H' es', TabAt CT CR H' ta d es' → es'.map (·.2) = offU now i y (es.map (·.2)) e → (∀ b, Foot ta d es' b → Foot ta d es b ∨ H b = none) → Kept (Foot ta d es) H H' → Q .non H'
def spTAgain (CR : Addr) : Sp := fun vs H Q _ => ∃ (ta a : Addr) (r : Route) (far now : Nat), vs = [.ref ta, .ref a, .int far, .int now] ∧ RouteAt CR H a r ∧ r.dist ≤ 16 ∧
  (far = 16 → r.dist < 16 → ∀ H', RouteAt CR H' a (Ra54.lost now r) → Kept (· = a) H H' → Q (.bl false) H') ∧
  (far = 16 → ¬ r.dist < 16 → Q (.bl false) H) ∧
  (far ≠ 16 → far = r.dist → ∀ H', RouteAt CR H' a { r with good := now + 180000 } → Kept (· = a) H H' → Q (.bl false) H') ∧
  (far ≠ 16 → far ≠ r.dist → Q (.bl true) H)

section
variable {P : Program} {w : World} {K : PySem.W.Frag} {mg : Str → Option Value} {base : Heap} {CT CR : Addr}
theorem scTInit : FnScope ["self"] ["self"] (defScope sTInit) := ⟨rfl, rfl, rfl, by decide +kernel, rfl, by decide +kernel, by decide +kernel⟩
theorem ok_tInit {f : Addr} {fd : FuncData} (F : Fun K "__init__" "Table.__init__" sTInit f fd) (T : TxtT K mg CT) : FnOk P w K mg base CX0 1 f fd ["self"] (spTInit CT CR) := by
  refine F.ok scTInit (fun vs H Q E h => ?_) (fun cdv A outer s H vs Q E hr h => ?_)
  · obtain ⟨p, dx, rfl, _⟩ := h
    rfl
  · obtain ⟨p, dx, rfl, hp, k⟩ := h
    refine ⟨_, pss_one (ps_fld (pv 0) pe_dnewT rfl), ?_⟩
    intro d hd
    have npd : p ≠ d := ne_of_none hp hd
    refine ⟨_, rfl, p, CT, dx, [], rfl, (by rw [upd_ne npd]; exact hp), T.cl, T.n1, (by show 0 < 1000; decide), ?_⟩
    refine k d _ hd ⟨⟨dx, upd_same⟩, by rw [upd_ne npd.symm, upd_same]; rfl, (fun e he => nomatch he), .nil, .nil, Nat.zero_le _, (fun e he => nomatch he)⟩ fun b o e n => ?_
    rw [upd_ne n, upd_ne (ne_of_none e hd)]
    exact e
theorem scTFull : FnScope ["self"] ["self"] (defScope sTFull) := ⟨rfl, rfl, rfl, by decide +kernel, rfl, by decide +kernel, by decide +kernel⟩
theorem ok_tFull {f : Addr} {fd : FuncData} (F : Fun K "is_full" "Table.is_full" sTFull f fd) (T : TxtT K mg CT) : FnOk P w K mg base CX0 1 f fd ["self"] (spTFull CT CR) := by
  refine F.ok scTFull (fun vs H Q E h => ?_) (fun cdv A outer s H vs Q E hr h => ?_)
  · obtain ⟨ta, d, es, rfl, _⟩ := h
    rfl
  · obtain ⟨ta, d, es, rfl, TA, k⟩ := h
    obtain ⟨dx, h1⟩ := TA.ob
    refine ⟨_, pss_one (ps_ret (pe_cmpR op_ge (pe_callB call_len_dT (by rfl) T.len PySem.boot_len (pa_cons (pe_fld (pv 0) rfl) pa_nil)) (pe_gi T.most) (nomark _))), ?_⟩
    refine ⟨_, rfl, ta, CT, dx, _, _, rfl, h1, T.cl, T.n1, rfl, d, _, rfl, TA.dc, _, _, rfl, rfl, ?_⟩
    refine wantV (Q := Q) (congrArg V.bl (decide_eq_decide.mpr ?_)) k
    rw [kvs_len]
    omega
theorem scTHas : FnScope ["self", "network"] ["self", "network"] (defScope sTHas) := ⟨rfl, rfl, rfl, by decide +kernel, rfl, by decide +kernel, by decide +kernel⟩
theorem ok_tHas {f : Addr} {fd : FuncData} (F : Fun K "has_place_for" "Table.has_place_for" sTHas f fd) (T : TxtT K mg CT) (M : HasM P w K mg base CT "is_full" 1 ["self"] (spTFull CT CR)) : FnOk P w K mg base CX0 2 f fd ["self", "network"] (spTHas CT CR) := by
  refine F.ok scTHas (fun vs H Q E h => ?_) (fun cdv A outer s H vs Q E hr h => ?_)
  · obtain ⟨ta, d, t, es, n, rfl, _⟩ := h
    rfl
  · obtain ⟨ta, d, t, es, n, rfl, TA, ht, k⟩ := h
    obtain ⟨dx, h1⟩ := TA.ob
    obtain ⟨g, gd, m, b, G⟩ := M.ex
    have hu := hu_of hr
    refine ⟨_, pss_one (ps_ret (pe_or (pe_cmp (pc_din hu (pv 1) (pe_fld (pv 0) rfl))) (pe_one (pe_not (pe_meth0 (pv 0) T.cl m G hr b .nil pass0))))), ?_⟩
    refine ⟨_, rfl, _, rfl, ta, CT, dx, _, _, rfl, h1, T.cl, T.n1, rfl, d, _, rfl, DGet.t (k := keyT n) TA.dc ht, _, rfl, ?_⟩
    rw [kvs_val]
    cases e : findE es n with
    | some x =>
      rw [e] at k
      exact iteT k
    | none =>
      rw [e] at k
      refine iteF ⟨_, rfl, ta, dx, _, rfl, h1, rfl, ta, d, es, rfl, TA, _, rfl, ?_⟩
      refine wantV (Q := Q) (congrArg V.bl ?_) k
      by_cases c : es.length < 256
      · rw [decide_eq_true c, decide_eq_false (by omega)]
        rfl
      · rw [decide_eq_false c, decide_eq_true (by omega)]
        rfl
theorem scTCourse : FnScope ["self", "network", "route"] ["self", "network"] (defScope sTCourse) := ⟨rfl, rfl, rfl, by decide +kernel, rfl, by decide +kernel, by decide +kernel⟩
theorem ok_tCourse {f : Addr} {fd : FuncData} (F : Fun K "course_to" "Table.course_to" sTCourse f fd) (T : TxtT K mg CT) (TR : TxtR K mg CR) (M : HasM P w K mg base CR "course" 1 ["self"] (spRCourse CR)) : FnOk P w K mg base CX0 2 f fd ["self", "network"] (spTCourse CT CR) := by
  refine F.ok scTCourse (fun vs H Q E h => ?_) (fun cdv A outer s H vs Q E hr h => ?_)
  · obtain ⟨ta, d, t, es, n, rfl, _⟩ := h
    rfl
  · obtain ⟨ta, d, t, es, n, rfl, TA, ht, kN, kS⟩ := h
    obtain ⟨dx, h1⟩ := TA.ob
    obtain ⟨g, gd, m, b, G⟩ := M.ex
    have hu := hu_of hr
    refine ⟨_, pss_cons (ps_set (i := 2) scTCourse.nd rfl (.inl rfl) (pe_dget1 hu (pe_fld (pv 0) rfl) (pv 1) ⟨rfl, rfl, rfl, rfl⟩))
      (pss_one (ps_ret (pe_ifExp (pt_cmp (pc_isN (pv 2))) pe_non (pe_meth0 (pv 2) TR.cl m G hr b .nil pass0)))), ?_⟩
    refine ⟨_, rfl, ta, CT, dx, _, _, rfl, h1, T.cl, T.n1, rfl, d, rfl, .inr ⟨_, .inl TA.dc⟩, _, rfl, _, DGet.t (k := keyT n) TA.dc ht, ?_⟩
    rw [kvs_val]
    cases e : findE es n with
    | none => exact ⟨_, rfl, _, rfl, iteT (kN e)⟩
    | some x =>
      obtain ⟨hm, _, _⟩ := findE_some e
      have R := TA.rt x hm
      obtain ⟨dy, g2, f2, t2, q, _⟩ := id R
      refine ⟨_, rfl, _, rfl, iteF ⟨_, rfl, x.1, dy, _, rfl, q, rfl, x.1, x.2, rfl, R, fun p hp => ?_⟩⟩
      exact kS x e p hp
theorem scTOwn : FnScope ["self", "network", "link", "now"] ["self", "network", "link", "now"] (defScope sTOwn) := ⟨rfl, rfl, rfl, by decide +kernel, rfl, by decide +kernel, by decide +kernel⟩
/-- Route(far, link, neighbour, now) as a new object -/
theorem new_route {H H1 : Hp} {x dx : Addr} (nx : H x = none) (nd : H dx = none) (k : Kept (· = x) (upd (upd H dx (.own x)) x (.ins CR dx [])) H1) : Same H H1 := fun b o e => by
  refine k b o ?_ (ne_of_none e nx)
  rw [upd_ne (ne_of_none e nx), upd_ne (ne_of_none e nd)]
  exact e
theorem ok_tOwn {f : Addr} {fd : FuncData} (F : Fun K "put_own" "Table.put_own" sTOwn f fd) (T : TxtT K mg CT) (TR : TxtR K mg CR) (hI : ∃ fI fdI, Mk K CR fI ∧ Binds K fdI ["self", "far", "link", "neighbour", "now"] [] ∧ FnOk P w K mg base CX0 1 fI fdI ["self", "far", "link", "neighbour", "now"] (spRInit CR)) :
    FnOk P w K mg base CX0 3 f fd ["self", "network", "link", "now"] (spTOwn CT CR) := by
  refine F.ok scTOwn (fun vs H Q E h => ?_) (fun cdv A outer s H vs Q E hr h => ?_)
  · obtain ⟨ta, d, t, es, n, i, now, rfl, _⟩ := h
    rfl
  · obtain ⟨ta, d, t, es, n, i, now, rfl, TA, ht, hl, hb, k⟩ := h
    obtain ⟨fI, fdI, M, bI, GI⟩ := hI
    have hu := hu_of hr
    refine ⟨_, pss_one (ps_dput hu (pe_fld (pv 0) rfl) (pv 1) (pe_make M GI hr (by rfl) TR.mgC bI .nil pass0 (pa_cons pe_int (pa_cons (pv 2) (pa_cons (pe_gi T.non) (pa_cons (pv 3) pa_nil))))) rfl), ?_⟩
    refine ⟨_, rfl, _, rfl, fun x dx nx nd nex => ?_⟩
    refine ⟨x, dx, 0, i, 0, now, rfl, upd_same, fun H1 h1 kp => ⟨rfl, ?_⟩⟩
    have s1 := new_route nx nd kp
    have TA1 := TA.same s1
    obtain ⟨dy, q1⟩ := TA1.ob
    refine ⟨_, rfl, ta, CT, dy, _, _, rfl, q1, T.cl, T.n1, rfl, _, rfl, d, _, rfl, DPut.t (k := keyT n) TA1.dc (s1 _ _ ht) (by rw [kvs_len]; exact small1000 (Nat.le_trans TA.le (by decide))), ?_⟩
    refine k _ x nx (TA.put (r := ⟨n.1, n.2, 0, i, 0, 0, 0, 0, true⟩) nx s1 ⟨dx, _, _, _, h1, fun z => absurd z (Nat.lt_irrefl 0), fun z => absurd z (by show ¬ (0 : Nat) = 16; decide)⟩ hl ⟨Nat.zero_le _, fun _ => rfl, fun _ => .inl rfl, hb⟩) fun b o e nb => ?_
    rw [upd_ne nb]
    exact s1 _ _ e
theorem scTLose : FnScope ["self", "link", "now", "route"] ["self", "link", "now"] (defScope sTLose) := ⟨rfl, rfl, rfl, by decide +kernel, rfl, by decide +kernel, by decide +kernel⟩
theorem downF_key (i now : Nat) (r : Route) : key (downF i now r) = key r := by
  unfold downF
  split <;> rfl
theorem lost_dom (now : Nat) {r : Route} (h : r.bits ≤ 32) : Dom (Ra54.lost now r) := ⟨Nat.le_refl _, fun z => absurd z (by show ¬ (16 : Nat) = 0; decide), fun _ => .inr rfl, h⟩
theorem downF_dist (i now : Nat) {r : Route} (h : Dom r) : Dom (downF i now r) := by
  unfold downF
  split
  · exact lost_dom now h.2.2.2
  · exact h
theorem ok_tLose {f : Addr} {fd : FuncData} (F : Fun K "lose_all_by" "Table.lose_all_by" sTLose f fd) (T : TxtT K mg CT) (TR : TxtR K mg CR) (MR : HasM P w K mg base CR "is_in_reach" 1 ["self"] (spRReach CR)) (ML : HasM P w K mg base CR "lose" 1 ["self", "now"] (spRLose CR)) :
    FnOk P w K mg base CX0 2 f fd ["self", "link", "now"] (spTLose CT CR) := by
  refine F.ok scTLose (fun vs H Q E h => ?_) (fun cdv A outer s H vs Q E hr h => ?_)
  · obtain ⟨ta, d, es, i, now, rfl, _⟩ := h
    rfl
  · obtain ⟨ta, d, es, i, now, rfl, TA, k⟩ := h
    obtain ⟨g1, gd1, m1, b1, G1⟩ := MR.ex
    obtain ⟨g2, gd2, m2, b2, G2⟩ := ML.ex
    obtain ⟨dx, h1⟩ := TA.ob
    refine ⟨_, pss_one (ps_lock (ps_for PassesOwn.never rfl (pi_valuesT (pe_fld (pv 0) rfl)) (pg_name (i := 3) scTLose.nd rfl (.inl rfl))
      (pss_one (ps_if (PW.pt (pw_and (pt_cmpR op_eq (pe_fld (pv 3) rfl) (pv 1) (nomark _)) (pw_and1 (pt_val (pe_meth0 (pv 3) TR.cl m1 G1 hr b1 .nil pass0)))))
        (pss_one (ps_expr (pe_meth (pv 3) TR.cl m2 G2 hr b2 .nil pass0 (pa_cons (pv 2) pa_nil)))) pss_nil)))), ?_⟩
    refine ⟨d, _, TA.dc, trivial, fun od => ?_⟩
    have hd0 : upd H d (.frz od (.dT (kvsOf es))) ta = some (.ins CT dx [("by_network", .ref d)]) := by rw [upd_ne TA.tad]; exact h1
    refine ⟨_, rfl, ta, CT, dx, _, _, rfl, hd0, T.cl, T.n1, rfl, d, od, _, rfl, upd_same, ?_⟩
    -- behind j routes: these are done, the others stand as they were
    refine for_valsT (kvs := kvsOf es) (fun j σ H' => ∃ v : Option V, σ = [some (.ref ta), some (.int i), some (.int now), v] ∧ H' d = some (.frz od (.dT (kvsOf es))) ∧ Kept (fun b => b ∈ es.map (·.1) ∨ b = d) H H' ∧
        (∀ m e, es[m]? = some e → RouteAt CR H' e.1 (if m < j then downF i now e.2 else e.2))) ⟨none, rfl, upd_same, Kept.at' (.inr rfl), fun m e hm => ?_⟩ (fun j σ H' _ ⟨_, _, z, _⟩ => z) ?_ ?_
    · rw [if_neg (Nat.not_lt_zero _)]
      exact (TA.rt e (List.mem_of_getElem? hm)).of (upd_ne (TA.ne_d (List.mem_of_getElem? hm)))
    · rintro j kk x σ H' hj ⟨v, rfl, hfz, hk, hR⟩
      obtain ⟨e, he, e1⟩ : ∃ e, es[j]? = some e ∧ x = V.ref e.1 := by
        unfold kvsOf at hj
        rw [List.getElem?_map] at hj
        cases q : es[j]? with
        | none => rw [q] at hj; cases hj
        | some e => rw [q] at hj; exact ⟨e, rfl, (congrArg Prod.snd (Option.some.inj hj)).symm⟩
      subst e1
      have hme := List.mem_of_getElem? he
      have R := hR j e he
      rw [if_neg (Nat.lt_irrefl j)] at R
      obtain ⟨dy, g, fr, t, q1, q2⟩ := id R
      -- what stands behind the turn, whatever was done to this one
      have next : ∀ H2, RouteAt CR H2 e.1 (downF i now e.2) → Kept (· = e.1) H' H2 → ∃ v : Option V, ([some (V.ref ta), some (V.int i), some (V.int now), some (V.ref e.1)] : L2.St) = [some (.ref ta), some (.int i), some (.int now), v] ∧ H2 d = some (.frz od (.dT (kvsOf es))) ∧
          Kept (fun b => b ∈ es.map (·.1) ∨ b = d) H H2 ∧ (∀ m e, es[m]? = some e → RouteAt CR H2 e.1 (if m < j + 1 then downF i now e.2 else e.2)) := by
        intro H2 R2 k2
        refine ⟨_, rfl, k2 _ _ hfz (TA.ne_d hme).symm, hk.trans (k2.mono fun b z => .inl (by rw [z]; exact List.mem_map.mpr ⟨e, hme, rfl⟩)), fun m e' hm => ?_⟩
        by_cases c : m = j
        · subst c
          rw [he] at hm
          cases hm
          rw [if_pos (Nat.lt_succ_self m)]
          exact R2
        · have n : e'.1 ≠ e.1 := fun z => c (by
            have a1 : (es.map (·.1))[m]? = some e'.1 := by rw [List.getElem?_map, hm]; rfl
            have a2 : (es.map (·.1))[j]? = some e.1 := by rw [List.getElem?_map, he]; rfl
            rw [← z] at a2
            obtain ⟨b1, c1⟩ := List.getElem?_eq_some_iff.mp a1
            obtain ⟨b2, c2⟩ := List.getElem?_eq_some_iff.mp a2
            exact (List.getElem_inj TA.ad).mp (c1.trans c2.symm))
          have q := (hR m e' hm).kept k2 n
          have e3 : (m < j + 1) ↔ (m < j) := by omega
          simp only [e3]
          exact q
      refine ⟨_, rfl, e.1, CR, dy, _, _, rfl, q1, TR.cl, TR.n2, rfl, _, rfl, rfl, _, rfl, ?_⟩
      rw [eqI]
      by_cases c : e.2.link = i
      · rw [decide_eq_true c]
        refine iteT ⟨_, rfl, e.1, dy, _, rfl, q1, rfl, e.1, e.2, rfl, R, _, rfl, ?_⟩
        by_cases c2 : e.2.dist < 16
        · rw [decide_eq_true c2]
          refine iteT ⟨_, rfl, e.1, dy, _, rfl, q1, rfl, _, rfl, e.1, e.2, now, rfl, R, fun H2 R2 k2 => ?_⟩
          refine next H2 ?_ k2
          unfold downF
          rw [if_pos ⟨c, c2⟩]
          exact R2
        · rw [decide_eq_false c2]
          refine iteF (next H' ?_ (Kept.refl _ _))
          unfold downF
          rw [if_neg fun z => c2 z.2]
          exact R
      · rw [decide_eq_false c]
        refine iteF (iteF (next H' ?_ (Kept.refl _ _)))
        unfold downF
        rw [if_neg fun z => c z.1]
        exact R
    · rintro σ H' ⟨v, rfl, hfz, hk, hR⟩
      rw [kvs_len] at hR
      refine ⟨hfz, k _ ?_ fun b o e n => ?_⟩
      · have ek : kvsOf (es.map fun e => (e.1, downF i now e.2)) = kvsOf es := by
          unfold kvsOf
          rw [List.map_map]
          exact List.map_congr_left fun e _ => by
            show (keyL (downF i now e.2), V.ref e.1) = (keyL e.2, V.ref e.1)
            rw [keyLL.mpr (downF_key i now e.2)]
        have er : (es.map fun e => (e.1, downF i now e.2)).map (·.2) = (es.map (·.2)).map (downF i now) := by
          rw [List.map_map, List.map_map]
          rfl
        refine ⟨⟨dx, ?_⟩, by rw [upd_same, ek], fun e he => ?_, by rw [List.map_map]; exact TA.ad, ?_, by rw [List.length_map]; exact TA.le, fun e he => ?_⟩
        · rw [upd_ne TA.tad]
          refine hk _ _ h1 fun z => ?_
          rcases z with z | z
          · obtain ⟨y, hy, q⟩ := List.mem_map.mp z
            exact TA.ne_ta hy q
          · exact TA.tad z
        · obtain ⟨y, hy, rfl⟩ := List.mem_map.mp he
          obtain ⟨m, hm⟩ := List.mem_iff_getElem?.mp hy
          have q := hR m y hm
          rw [if_pos (List.getElem?_eq_some_iff.mp hm).1] at q
          exact q.of (upd_ne (TA.ne_d hy))
        · rw [er]
          exact List.pairwise_map.mpr (TA.nk.imp fun z => by rw [downF_key, downF_key]; exact z)
        · obtain ⟨y, hy, rfl⟩ := List.mem_map.mp he
          exact downF_dist i now (TA.dom y hy)
      · by_cases c : b = d
        · rw [c] at e ⊢
          rw [upd_same, ← e, TA.dc]
        · rw [upd_ne c]
          exact hk b o e fun z => z.elim n c
end
end NR
end

section
set_option Elab.async false
set_option maxRecDepth 100000
set_option maxHeartbeats 4000000
/-! table.py: offer -/
namespace NR
open PySem PySem.Spec L2
open Ra54 (Route)
section
variable {P : Program} {w : World} {K : PySem.W.Frag} {mg : Str → Option Value} {base : Heap} {CT CR : Addr}
theorem scTAgain : FnScope ["self", "route", "far", "now"] ["self", "route", "far", "now"] (defScope sTAgain) := ⟨rfl, rfl, rfl, by decide +kernel, rfl, by decide +kernel, by decide +kernel⟩
theorem ok_tAgain {f : Addr} {fd : FuncData} (F : Fun K "hear_again" "Table.hear_again" sTAgain f fd) (T : TxtT K mg CT) (TR : TxtR K mg CR) (MR : HasM P w K mg base CR "is_in_reach" 1 ["self"] (spRReach CR)) (ML : HasM P w K mg base CR "lose" 1 ["self", "now"] (spRLose CR))
    (MC : HasM P w K mg base CR "confirm" 1 ["self", "now"] (spRConfirm CR)) : FnOk P w K mg base CX0 2 f fd ["self", "route", "far", "now"] (spTAgain CR) := by
  refine F.ok scTAgain (fun vs H Q E h => ?_) (fun cdv A outer s H vs Q E hr h => ?_)
  · obtain ⟨ta, a, r, far, now, rfl, _⟩ := h
    rfl
  · obtain ⟨ta, a, r, far, now, rfl, R, hd, k1, k2, k3, k4⟩ := h
    obtain ⟨dx, g, fr, t, q1, q2⟩ := id R
    obtain ⟨g1, gd1, m1, b1, G1⟩ := MR.ex
    obtain ⟨g2, gd2, m2, b2, G2⟩ := ML.ex
    obtain ⟨g3, gd3, m3, b3, G3⟩ := MC.ex
    refine ⟨_, pss_cons (ps_if (pt_cmpR op_eq (pv 2) (pe_gi T.oor) (nomark _))
        (pss_cons (ps_if (pt_val (pe_meth0 (pv 1) TR.cl m1 G1 hr b1 .nil pass0)) (pss_one (ps_expr (pe_meth (pv 1) TR.cl m2 G2 hr b2 .nil pass0 (pa_cons (pv 3) pa_nil)))) pss_nil) (pss_one (ps_ret pe_bl))) pss_nil)
      (pss_cons (ps_if (pt_cmpR op_eq (pv 2) (pe_fld (pv 1) rfl) (nomark _)) (pss_cons (ps_expr (pe_meth (pv 1) TR.cl m3 G3 hr b3 .nil pass0 (pa_cons (pv 3) pa_nil))) (pss_one (ps_ret pe_bl))) pss_nil)
      (pss_one (ps_ret pe_bl))), ?_⟩
    refine ⟨_, rfl, rfl, _, rfl, ?_⟩
    by_cases c : far = 16
    · rw [decide_eq_true (by rw [c] <;> rfl)]
      refine iteT ⟨_, rfl, a, dx, _, rfl, q1, rfl, a, r, rfl, R, _, rfl, ?_⟩
      by_cases c2 : r.dist < 16
      · rw [decide_eq_true c2]
        refine iteT ⟨_, rfl, a, dx, _, rfl, q1, rfl, _, rfl, a, r, now, rfl, R, fun H2 R2 kp => k1 c c2 H2 R2 kp⟩
      · rw [decide_eq_false c2]
        exact iteF (k2 c c2)
    · rw [decide_eq_false (fun z => c (by injection z with z; omega))]
      refine iteF ⟨_, rfl, _, rfl, a, CR, dx, _, _, rfl, q1, TR.cl, TR.n1, rfl, rfl, _, rfl, ?_⟩
      rw [eqI]
      by_cases c2 : far = r.dist
      · rw [decide_eq_true c2]
        refine iteT ⟨_, rfl, a, dx, _, rfl, q1, rfl, _, rfl, a, r, now, rfl, R, fun H2 R2 kp => k3 c c2 H2 R2 kp⟩
      · rw [decide_eq_false c2]
        exact iteF (k4 c c2)
theorem scTOffer : FnScope ["self", "network", "far", "link", "neighbour", "now", "route", "learns"] ["self", "network", "far", "link", "neighbour", "now"] (defScope sTOffer) := ⟨rfl, rfl, rfl, by decide +kernel, rfl, by decide +kernel, by decide +kernel⟩
theorem ok_tOffer {f : Addr} {fd : FuncData} (F : Fun K "offer" "Table.offer" sTOffer f fd) (T : TxtT K mg CT) (TR : TxtR K mg CR) (hI : ∃ fI fdI, Mk K CR fI ∧ Binds K fdI ["self", "far", "link", "neighbour", "now"] [] ∧ FnOk P w K mg base CX0 1 fI fdI ["self", "far", "link", "neighbour", "now"] (spRInit CR))
    (MF : HasM P w K mg base CT "is_full" 1 ["self"] (spTFull CT CR)) (MO : HasM P w K mg base CR "is_own" 1 ["self"] (spROwn CR)) (MB : HasM P w K mg base CR "is_by" 1 ["self", "link", "neighbour"] (spRBy CR))
    (MA : HasM P w K mg base CT "hear_again" 2 ["self", "route", "far", "now"] (spTAgain CR)) (MY : HasM P w K mg base CR "yields_to" 2 ["self", "far", "now"] (spRYields CR)) :
    FnOk P w K mg base CX0 3 f fd ["self", "network", "far", "link", "neighbour", "now"] (spTOffer CT CR) := by
  refine F.ok scTOffer (fun vs H Q E h => ?_) (fun cdv A outer s H vs Q E hr h => ?_)
  · obtain ⟨ta, d, t, es, e, i, y, now, rfl, _⟩ := h
    rfl
  · obtain ⟨ta, d, t, es, e, i, y, now, rfl, TA, ht, he1, he, heb, hy, k⟩ := h
    obtain ⟨fI, fdI, MI, bI, GI⟩ := hI
    obtain ⟨g1, gd1, m1, b1, G1⟩ := MF.ex
    obtain ⟨g2, gd2, m2, b2, G2⟩ := MO.ex
    obtain ⟨g3, gd3, m3, b3, G3⟩ := MB.ex
    obtain ⟨g4, gd4, m4, b4, G4⟩ := MA.ex
    obtain ⟨g5, gd5, m5, b5, G5⟩ := MY.ex
    obtain ⟨dx, h1⟩ := TA.ob
    have hu := hu_of hr
    have hr1 : Room 1 _ := hr.mono (by decide)
    refine ⟨_, pss_cons (ps_set (i := 6) scTOffer.nd rfl (.inl rfl) (pe_dget1 hu (pe_fld (pv 0) rfl) (pv 1) ⟨rfl, rfl, rfl, rfl⟩))
      (pss_cons (ps_if (pt_cmp (pc_isN (pv 6)))
        (pss_one (ps_set (i := 7) scTOffer.nd rfl (.inl rfl) (pe_and (pe_cmpR op_lt (pv 2) (pe_gi T.oor) (nomark _)) (pe_one (pe_not (pe_meth0 (pv 0) T.cl m1 G1 hr1 b1 .nil pass0))))))
        (pss_one (ps_if (pt_val (pe_meth0 (pv 6) TR.cl m2 G2 hr1 b2 .nil pass0)) (pss_one (ps_set (i := 7) scTOffer.nd rfl (.inl rfl) pe_bl))
          (pss_one (ps_if (pt_val (pe_meth (pv 6) TR.cl m3 G3 hr1 b3 .nil pass0 (pa_cons (pv 3) (pa_cons (pv 4) pa_nil))))
            (pss_one (ps_set (i := 7) scTOffer.nd rfl (.inl rfl) (pe_meth (pv 0) T.cl m4 G4 hr b4 .nil pass0 (pa_cons (pv 6) (pa_cons (pv 2) (pa_cons (pv 5) pa_nil))))))
            (pss_one (ps_set (i := 7) scTOffer.nd rfl (.inl rfl) (pe_meth (pv 6) TR.cl m5 G5 hr b5 .nil pass0 (pa_cons (pv 2) (pa_cons (pv 5) pa_nil))))))))))
      (pss_one (ps_if (pt_val (pv 7)) (pss_one (ps_dput hu (pe_fld (pv 0) rfl) (pv 1) (pe_make MI GI hr (by rfl) TR.mgC bI .nil pass0 (pa_cons (pv 2) (pa_cons (pv 3) (pa_cons (pv 4) (pa_cons (pv 5) pa_nil))))) rfl)) pss_nil))), ?_⟩
    have hU : offU now i y (es.map (·.2)) e = (match Ra54.routeOf (es.map (·.2)) e.net e.bits with
      | none => if e.dist < 16 ∧ (es.map (·.2)).length < 256 then put ⟨e.net, e.bits, e.dist, i, y, now + 180000, 0, 0, true⟩ (es.map (·.2)) else es.map (·.2)
      | some r =>
        if r.via = 0 ∧ r.dist = 0 then es.map (·.2)
        else if r.link = i ∧ r.via = y then
          (if e.dist = r.dist then (if e.dist < 16 then put { r with good := now + 180000 } (es.map (·.2)) else es.map (·.2))
           else if e.dist = 16 then put (Ra54.lost now r) (es.map (·.2)) else put ⟨e.net, e.bits, e.dist, i, y, now + 180000, 0, 0, true⟩ (es.map (·.2)))
        else if r.dist = 16 then (if now < r.held ∨ e.dist = 16 then es.map (·.2) else put ⟨e.net, e.bits, e.dist, i, y, now + 180000, 0, 0, true⟩ (es.map (·.2)))
        else if e.dist < r.dist then put ⟨e.net, e.bits, e.dist, i, y, now + 180000, 0, 0, true⟩ (es.map (·.2))
        else es.map (·.2)) := rfl
    have foot0 : ∀ b, Foot ta d es b → Foot ta d es b ∨ H b = none := fun b z => .inl z
    -- if learns: a new route is put in
    have fin : ∀ (σ : L2.St) (b : Bool), σ[0]? = some (some (.ref ta)) → σ[1]? = some (some (.ref t)) → σ[2]? = some (some (.int e.dist)) → σ[3]? = some (some (.int i)) → σ[4]? = some (some (.int y)) → σ[5]? = some (some (.int now)) → σ[7]? = some (some (.bl b)) →
        (b = true → ((findE es (e.net, e.bits)).isSome = true ∨ es.length < 256) ∧ e.dist < 16 ∧ offU now i y (es.map (·.2)) e = put ⟨e.net, e.bits, e.dist, i, y, now + 180000, 0, 0, true⟩ (es.map (·.2))) → (b = false → offU now i y (es.map (·.2)) e = es.map (·.2)) →
        tIfS (tTest (tVar 7)) (sDPut (tFld K (tVar 0) "by_network") (tVar 1) (tMake CR (spRInit CR) [] E0 (tCons (tVar 2) (tCons (tVar 3) (tCons (tVar 4) (tCons (tVar 5) tNil)))))) tNext { nx := fun _ H' => Q .non H', rt := Q } σ H := by
      intro σ b z0 z1 z2 z3 z4 z5 z7 hT hF
      refine ⟨_, z7, b, rfl, ?_⟩
      cases b with
      | false => exact iteF (k H es TA (hF rfl).symm foot0 (Kept.refl _ _))
      | true =>
        obtain ⟨hl, h16, ho⟩ := hT rfl
        refine iteT ⟨_, z2, _, z3, _, z4, _, z5, fun x dx nx nd nex => ?_⟩
        refine ⟨x, dx, e.dist, i, y, now, rfl, upd_same, fun H1 h1 kp => ⟨rfl, ?_⟩⟩
        have s1 := new_route nx nd kp
        have TA1 := TA.same s1
        obtain ⟨dy, q1⟩ := TA1.ob
        refine ⟨_, z0, ta, CT, dy, _, _, rfl, q1, T.cl, T.n1, rfl, _, z1, d, _, rfl, DPut.t (k := keyT (e.net, e.bits)) TA1.dc (s1 _ _ ht) (by rw [kvs_len]; exact small1000 (Nat.le_trans TA.le (by decide))), ?_⟩
        refine k _ (putE (x, ⟨e.net, e.bits, e.dist, i, y, now + 180000, 0, 0, true⟩) es) ?_ ?_ (fun b z => ?_) fun b o q nb => ?_
        · exact TA.put (r := ⟨e.net, e.bits, e.dist, i, y, now + 180000, 0, 0, true⟩) nx s1 ⟨dx, _, _, _, h1, fun _ _ => rfl, fun z => absurd h16 (by show ¬ e.dist < 16; have : e.dist = 16 := z; omega)⟩ hl ⟨he, fun z => absurd he1 (by show ¬ 1 ≤ e.dist; have : e.dist = 0 := z; omega), fun z => absurd hy (by show ¬ 1 ≤ y; have : y = 0 := z; omega), heb⟩
        · rw [ho, putE_routes]
        · exact (foot_put z).imp id fun w => by rw [w]; exact nx
        · rw [upd_ne (fun z => nb (.inr (.inl z)))]
          exact s1 _ _ q
    refine ⟨_, rfl, ta, CT, dx, _, _, rfl, h1, T.cl, T.n1, rfl, d, rfl, .inr ⟨_, .inl TA.dc⟩, _, rfl, _, DGet.t (k := keyT (e.net, e.bits)) TA.dc ht, ?_⟩
    rw [kvs_val]
    cases ef : findE es (e.net, e.bits) with
    | none =>
      have er : Ra54.routeOf (es.map (·.2)) e.net e.bits = none := findE_none.mp ef
      rw [er] at hU
      have hU' : offU now i y (es.map (·.2)) e = if e.dist < 16 ∧ es.length < 256 then put ⟨e.net, e.bits, e.dist, i, y, now + 180000, 0, 0, true⟩ (es.map (·.2)) else es.map (·.2) := by
        rw [hU, List.length_map]
      refine ⟨_, rfl, _, rfl, iteT ?_⟩
      refine ⟨_, rfl, _, _, rfl, rfl, _, rfl, ?_⟩
      by_cases c : e.dist < 16
      · rw [decide_eq_true (show (e.dist : Int) < 16 by omega)]
        refine iteT ⟨_, rfl, ta, dx, _, rfl, h1, rfl, ta, d, es, rfl, TA, _, rfl, ?_⟩
        refine fin _ (!decide (256 ≤ es.length)) rfl rfl rfl rfl rfl rfl rfl (fun z => ?_) (fun z => ?_)
        · have hl : es.length < 256 := by
            rw [Bool.not_eq_true', decide_eq_false_iff_not] at z
            omega
          exact ⟨.inr hl, c, by rw [hU', if_pos ⟨c, hl⟩]⟩
        · rw [Bool.not_eq_false', decide_eq_true_eq] at z
          rw [hU', if_neg (fun w => by omega)]
      · rw [decide_eq_false (show ¬ (e.dist : Int) < 16 by omega)]
        refine iteF (fin _ false rfl rfl rfl rfl rfl rfl rfl (fun z => nomatch z) fun _ => ?_)
        rw [hU', if_neg (fun w => c w.1)]
    | some x =>
      obtain ⟨a, r⟩ := x
      obtain ⟨hm, hk, er0⟩ := findE_some ef
      have er : Ra54.routeOf (es.map (·.2)) e.net e.bits = some r := er0
      have R := TA.rt _ hm
      have D := TA.dom _ hm
      have D1 : r.dist ≤ 16 := D.1
      have D2 : r.dist = 0 → r.via = 0 := D.2.1
      obtain ⟨dy, g, fr, t2, q1, q2⟩ := id R
      rw [er] at hU
      have hsome : (findE es (e.net, e.bits)).isSome = true := by rw [ef]; rfl
      refine ⟨_, rfl, _, rfl, iteF ?_⟩
      refine ⟨_, rfl, a, dy, _, rfl, q1, rfl, a, r, rfl, R, _, rfl, ?_⟩
      by_cases c0 : r.dist = 0
      · rw [decide_eq_true c0]
        refine iteT (fin _ false rfl rfl rfl rfl rfl rfl rfl (fun z => nomatch z) fun _ => ?_)
        rw [hU]
        exact if_pos ⟨D2 c0, c0⟩
      · rw [decide_eq_false c0]
        have hU1 := hU.trans (if_neg (fun z : r.via = 0 ∧ r.dist = 0 => c0 z.2))
        refine iteF ⟨_, rfl, a, dy, _, rfl, q1, rfl, _, rfl, _, rfl, a, r, i, y, rfl, R, _, rfl, ?_⟩
        by_cases c1 : r.link = i ∧ r.via = y
        · rw [decide_eq_true c1]
          have hU2 := hU1.trans (if_pos c1)
          refine iteT ⟨_, rfl, ta, dx, _, rfl, h1, rfl, _, rfl, _, rfl, _, rfl, ta, a, r, e.dist, now, rfl, R, D1, fun c2 c3 H2 R2 kp => ?_, fun c2 c3 => ?_, fun c2 c3 H2 R2 kp => ?_, fun c2 c3 => ?_⟩
          · refine ⟨_, rfl, false, rfl, iteF (k H2 (modE a (Ra54.lost now r) es) (TA.mod hm rfl (lost_dom now D.2.2.2) R2 kp) ?_ (fun b z => .inl (foot_mod.mp z)) (kp.mono fun b z => .inr (.inr (by rw [z]; exact List.mem_map.mpr ⟨_, hm, rfl⟩))))⟩
            rw [modE_routes (r := Ra54.lost now r) (r0 := r) rfl TA.ad TA.nk hm, hU2, if_neg (by omega), if_pos c2]
          · refine fin _ false rfl rfl rfl rfl rfl rfl rfl (fun z => nomatch z) fun _ => ?_
            rw [hU2, if_pos (by omega), if_neg (by omega)]
          · refine ⟨_, rfl, false, rfl, iteF (k H2 (modE a { r with good := now + 180000 } es) (TA.mod hm rfl D R2 kp) ?_ (fun b z => .inl (foot_mod.mp z)) (kp.mono fun b z => .inr (.inr (by rw [z]; exact List.mem_map.mpr ⟨_, hm, rfl⟩))))⟩
            rw [modE_routes (r := { r with good := now + 180000 }) (r0 := r) rfl TA.ad TA.nk hm, hU2, if_pos c3, if_pos (by omega)]
          · refine fin _ true rfl rfl rfl rfl rfl rfl rfl (fun _ => ⟨.inl hsome, by omega, ?_⟩) (fun z => nomatch z)
            rw [hU2, if_neg c3, if_neg c2]
        · rw [decide_eq_false c1]
          have hU2 := hU1.trans (if_neg c1)
          refine iteF ⟨_, rfl, a, dy, _, rfl, q1, rfl, _, rfl, _, rfl, a, r, e.dist, now, rfl, R, D1, ?_⟩
          refine fin _ _ rfl rfl rfl rfl rfl rfl rfl (fun z => ?_) (fun z => ?_)
          · by_cases c2 : r.dist < 16
            · rw [if_pos c2, decide_eq_true_eq] at z
              exact ⟨.inl hsome, by omega, by rw [hU2, if_neg (by omega), if_pos z]⟩
            · rw [if_neg c2, decide_eq_true_eq] at z
              exact ⟨.inl hsome, z.1, by rw [hU2, if_pos (by omega), if_neg (by omega)]⟩
          · by_cases c2 : r.dist < 16
            · rw [if_pos c2, decide_eq_false_iff_not] at z
              rw [hU2, if_neg (by omega), if_neg z]
            · rw [if_neg c2, decide_eq_false_iff_not] at z
              rw [hU2, if_pos (by omega), if_pos (by omega)]
end
end NR
end

section
set_option Elab.async false
set_option maxRecDepth 100000
set_option maxHeartbeats 4000000
/-! session.py: what stands in the heap; begin, link, down -/
namespace NR
open PySem PySem.Spec L2
open Ra54 (Route Link)
abbrev St0 := Ra54.St

/-- what kind of object: a list, a tuple, a dict, an instance of so many attributes -/
def kd : HO → Nat
  | .lst _ => 1
  | .tup _ => 2
  | .dT _ => 3
  | .ins _ _ fs => 10 + fs.length
  | _ => 0
/-- a link's place among the ports -/
def PortV (CP : Addr) (H : Hp) (v : V) : Option Link → Prop
  | none => v = .non
  | some l => ∃ a dx t, v = .ref a ∧ H a = some (.ins CP dx [("address", .int l.address), ("network", .ref t)]) ∧ H t = some (tupN (Ra54.netOf l.bits l.address, l.bits)) ∧ l.bits ≤ 32 ∧ l.address < 2 ^ 32
def sF (b : Bool) (now pl ta full soon : Nat) : List (Str × V) := [("begun", .bl b), ("now", .int now), ("ports", .ref pl), ("table", .ref ta), ("all_told_at", .int full), ("changes_told_from", .int soon)]
/-- the addresses of the classes -/
structure Cl where
  R : Addr
  T : Addr
  P : Addr
  S : Addr
structure SesAt (C : Cl) (H : Hp) (sa pl ta d : Addr) (es : Ents) (b : Bool) (s : St0) : Prop where
  ob : ∃ dx, H sa = some (.ins C.S dx (sF b s.now pl ta s.full s.soon))
  pt : ∃ vs : List V, H pl = some (.lst vs) ∧ vs.length = 4 ∧ s.links.length = 4 ∧ ∀ (i : Nat) (v : V) (o : Option Link), vs[i]? = some v → s.links[i]? = some o → PortV C.P H v o
  tb : TabAt C.T C.R H ta d es
  od : Ord (es.map (·.2)) s.routes
def SFoot (sa pl ta d : Addr) (es : Ents) (b : Addr) : Prop := b = sa ∨ b = pl ∨ Foot ta d es b
section
variable {C : Cl} {H H' : Hp} {sa pl ta d : Addr} {es : Ents} {b : Bool} {s : St0}
theorem PortV.kept {CP : Addr} {M : Addr → Prop} {v : V} {o : Option Link} (h : PortV CP H v o) (k : Kept M H H') (n : ∀ b o, M b → H b = some o → kd o ≠ 12 ∧ kd o ≠ 2) : PortV CP H' v o := by
  cases o with
  | none => exact h
  | some l =>
    obtain ⟨a, dx, t, rfl, h1, h2, h3⟩ := h
    exact ⟨a, dx, t, rfl, k _ _ h1 (fun z => (n _ _ z h1).1 rfl), k _ _ h2 (fun z => (n _ _ z h2).2 rfl), h3⟩
theorem PortV.same {CP : Addr} {v : V} {o : Option Link} (h : PortV CP H v o) (k : Same H H') : PortV CP H' v o := h.kept (M := fun _ => False) (Kept.same k) fun _ _ z => z.elim
/-- what a table's own objects are -/
theorem TabAt.kinds {CT CR : Addr} (T : TabAt CT CR H ta d es) : ∀ b o, Foot ta d es b → H b = some o → kd o = 11 ∨ kd o = 3 ∨ kd o = 17 := by
  intro b o h e
  rcases h with rfl | rfl | h
  · obtain ⟨dx, z⟩ := T.ob
    rw [z] at e
    cases e
    exact .inl rfl
  · rw [T.dc] at e
    cases e
    exact .inr (.inl rfl)
  · obtain ⟨x, hx, rfl⟩ := List.mem_map.mp h
    obtain ⟨dx, g, f, t, z, _⟩ := T.rt x hx
    rw [z] at e
    cases e
    exact .inr (.inr rfl)
theorem SesAt.sa_pl (S : SesAt C H sa pl ta d es b s) : sa ≠ pl := by
  obtain ⟨dx, z⟩ := S.ob
  obtain ⟨vs, q, _⟩ := S.pt
  exact ne_of z q fun w => nomatch w
theorem SesAt.sa_foot (S : SesAt C H sa pl ta d es b s) : ¬ Foot ta d es sa := fun h => by
  obtain ⟨dx, z⟩ := S.ob
  have q : (16 : Nat) = 11 ∨ (16 : Nat) = 3 ∨ (16 : Nat) = 17 := S.tb.kinds _ _ h z
  omega
theorem SesAt.pl_foot (S : SesAt C H sa pl ta d es b s) : ¬ Foot ta d es pl := fun h => by
  obtain ⟨vs, q, _⟩ := S.pt
  have w : (1 : Nat) = 11 ∨ (1 : Nat) = 3 ∨ (1 : Nat) = 17 := S.tb.kinds _ _ h q
  omega
theorem SesAt.foot_some (S : SesAt C H sa pl ta d es b s) {x : Addr} (h : SFoot sa pl ta d es x) : ∃ o, H x = some o := by
  rcases h with rfl | rfl | h
  · obtain ⟨dx, z⟩ := S.ob
    exact ⟨_, z⟩
  · obtain ⟨vs, q, _⟩ := S.pt
    exact ⟨_, q⟩
  · exact S.tb.foot_some h
theorem SesAt.kept {M : Addr → Prop} (S : SesAt C H sa pl ta d es b s) (k : Kept M H H') (n : ∀ x, SFoot sa pl ta d es x → ¬ M x) (p : ∀ b o, M b → H b = some o → kd o ≠ 12 ∧ kd o ≠ 2) :
    SesAt C H' sa pl ta d es b s := by
  obtain ⟨dx, z⟩ := S.ob
  obtain ⟨vs, q, l1, l2, hp⟩ := S.pt
  exact ⟨⟨dx, k _ _ z (n _ (.inl rfl))⟩, ⟨vs, k _ _ q (n _ (.inr (.inl rfl))), l1, l2, fun i v o h1 h2 => (hp i v o h1 h2).kept k p⟩, S.tb.kept k fun x h => n x (.inr (.inr h)), S.od⟩
theorem SesAt.same (S : SesAt C H sa pl ta d es b s) (k : Same H H') : SesAt C H' sa pl ta d es b s := S.kept (M := fun _ => False) (Kept.same k) (fun _ _ z => z) fun _ _ z => z.elim
/-- the table alone has changed -/
theorem SesAt.table {es' : Ents} {rs' : List Route} (S : SesAt C H sa pl ta d es b s) (T : TabAt C.T C.R H' ta d es') (o : Ord (es'.map (·.2)) rs') (k : Kept (Foot ta d es) H H') : SesAt C H' sa pl ta d es' b { s with routes := rs' } := by
  obtain ⟨dx, z⟩ := S.ob
  obtain ⟨vs, q, l1, l2, hp⟩ := S.pt
  exact ⟨⟨dx, k _ _ z S.sa_foot⟩, ⟨vs, k _ _ q S.pl_foot, l1, l2, fun i v o h1 h2 => (hp i v o h1 h2).kept k fun b o m e => by have q := S.tb.kinds b o m e; omega⟩, T, o⟩
/-- a port is put or taken -/
theorem SesAt.port {v : V} {o : Option Link} {i : Nat} {vs : List V} (S : SesAt C H sa pl ta d es b s) (hv : H pl = some (.lst vs)) (hp : PortV C.P H v o) : SesAt C (upd H pl (.lst (vs.set i v))) sa pl ta d es b { s with links := s.links.set i o } := by
  obtain ⟨dx, z⟩ := S.ob
  obtain ⟨vs', q, l1, l2, h⟩ := S.pt
  rw [hv] at q
  cases q
  have k : Kept (· = pl) H (upd H pl (.lst (vs.set i v))) := Kept.at' rfl
  have n : ∀ b o, b = pl → H b = some o → kd o ≠ 12 ∧ kd o ≠ 2 := fun b o e h => by
    rw [e, hv] at h
    cases h
    exact ⟨(by show (1 : Nat) ≠ 12; decide), (by show (1 : Nat) ≠ 2; decide)⟩
  refine ⟨⟨dx, k _ _ z S.sa_pl⟩, ⟨vs.set i v, upd_same, by rw [List.length_set]; exact l1, by show (s.links.set i o).length = 4; rw [List.length_set]; exact l2, fun j u r h1 h2 => ?_⟩, S.tb.kept k fun x hx e => S.pl_foot (e ▸ hx), S.od⟩
  have h2' : (s.links.set i o)[j]? = some r := h2
  by_cases c : i = j
  · subst c
    have b1 : i < vs.length := by
      have := (List.getElem?_eq_some_iff.mp h1).1
      rwa [List.length_set] at this
    rw [List.getElem?_set_self b1] at h1
    rw [List.getElem?_set_self (by omega)] at h2'
    cases h1
    cases h2'
    exact hp.kept k n
  · rw [List.getElem?_set_ne c] at h1 h2'
    exact (h j u r h1 h2').kept k n
end
end NR
end

section
set_option Elab.async false
set_option maxRecDepth 100000
set_option maxHeartbeats 4000000
/-! session.py: begin, down, link -/
namespace NR
open PySem PySem.Spec L2
open Ra54 (Route Link)

structure TxtS (K : PySem.W.Frag) (mg : Str → Option Value) (C : Cl) : Prop where
  cl : Cls K C.S
  n1 : NoAttr K C.S "begun"
  n2 : NoAttr K C.S "now"
  n3 : NoAttr K C.S "ports"
  n4 : NoAttr K C.S "table"
  n5 : NoAttr K C.S "all_told_at"
  n6 : NoAttr K C.S "changes_told_from"
  mgC : mg "Session" = some (.ref C.S)
  pcl : Cls K C.P
  p1 : NoAttr K C.P "address"
  p2 : NoAttr K C.P "network"
  mgP : mg "Port" = some (.ref C.P)
  last : MgI mg "LAST_LINK" 3
  most : MgI mg "MOST_LINK_BITS" 31
  tend : MgI mg "TIME_END" 4611686018427387904
  every : MgI mg "ALL_TOLD_EVERY" 30000
  soon : MgI mg "CHANGES_TOLD_EVERY" 1000
  lastA : MgI mg "LAST_ADDRESS" 4294967295
  nonb : MgI mg "NO_NEIGHBOUR" 0
  any : mg "any" = none
  min : mg "min" = none
  max : mg "max" = none
  enum : mg "enumerate" = none
  len : mg "len" = none

abbrev cPort : Stmt := top 33
abbrev cSes : Stmt := top 34
abbrev sPInit : Stmt := inClass cPort 0
abbrev sSInit : Stmt := inClass cSes 0
abbrev sSStart : Stmt := inClass cSes 1
abbrev sSBegin : Stmt := inClass cSes 2
abbrev sSUp : Stmt := inClass cSes 3
abbrev sSHas : Stmt := inClass cSes 4
abbrev sSDown : Stmt := inClass cSes 5
abbrev sSHear : Stmt := inClass cSes 6
abbrev sSTake : Stmt := inClass cSes 7
abbrev sSTick : Stmt := inClass cSes 8
abbrev sSTell : Stmt := inClass cSes 9
abbrev sSWay : Stmt := inClass cSes 10
abbrev sSRoutes : Stmt := inClass cSes 11
abbrev sSDue : Stmt := inClass cSes 12

def spPInit (CP : Addr) : Sp := fun vs H Q _ => ∃ (p dx t : Addr) (a : Nat), vs = [.ref p, .int a, .ref t] ∧ H p = some (.ins CP dx []) ∧ ∀ H' : Hp, H' p = some (.ins CP dx [("address", .int a), ("network", .ref t)]) → Kept (· = p) H H' → Q .non H'
/-- a session that is being made, or one that stands -/
def SesRaw (CS : Addr) (H : Hp) (sa : Addr) (b : Bool) : Prop := ∃ (dx : Addr) (fs : List (Str × V)), H sa = some (.ins CS dx fs) ∧ (fs = ([("begun", .bl b)] : List (Str × V)) ∨ ∃ now pl ta full soon, fs = sF b now pl ta full soon)
def spSStart (C : Cl) : Sp := fun vs H Q _ => ∃ (sa : Addr) (b : Bool) (now : Nat), vs = [.ref sa, .int now] ∧ SesRaw C.S H sa b ∧
  ∀ (H' : Hp) (pl ta d : Addr), H pl = none → H ta = none → H d = none → SesAt C H' sa pl ta d [] b (Ra54.begun now) → Kept (· = sa) H H' → Q .non H'
def spSInit (C : Cl) : Sp := fun vs H Q _ => ∃ (sa dx : Addr), vs = [.ref sa] ∧ H sa = some (.ins C.S dx []) ∧
  ∀ (H' : Hp) (pl ta d : Addr), H pl = none → H ta = none → H d = none → SesAt C H' sa pl ta d [] false (Ra54.begun 0) → Kept (· = sa) H H' → Q .non H'
def spSBegin (C : Cl) : Sp := fun vs H Q _ => ∃ (sa pl ta d : Addr) (es : Ents) (b : Bool) (s : St0) (now : Nat), vs = [.ref sa, .int now] ∧ SesAt C H sa pl ta d es b s ∧
  (¬ now < 2 ^ 62 → Q (.int (-1)) H) ∧
  (now < 2 ^ 62 → ∀ (H' : Hp) (pl' ta' d' : Addr), H pl' = none → H ta' = none → H d' = none → SesAt C H' sa pl' ta' d' [] true (Ra54.begun now) → Kept (· = sa) H H' → Q (.int 0) H')

theorem Kept.me {H : Hp} {p : Addr} {o : HO} : Kept (· = p) H (upd H p o) := Kept.at' rfl
section
variable {P : Program} {w : World} {K : PySem.W.Frag} {mg : Str → Option Value} {base : Heap} {C : Cl}
theorem scPInit : FnScope ["self", "address", "network"] ["self", "address", "network"] (defScope sPInit) := ⟨rfl, rfl, rfl, by decide +kernel, rfl, by decide +kernel, by decide +kernel⟩
theorem ok_pInit {f : Addr} {fd : FuncData} (F : Fun K "__init__" "Port.__init__" sPInit f fd) (T : TxtS K mg C) : FnOk P w K mg base CX0 1 f fd ["self", "address", "network"] (spPInit C.P) := by
  refine F.ok scPInit (fun vs H Q E h => ?_) (fun cdv A outer s H vs Q E hr h => ?_)
  · obtain ⟨p, dx, t, a, rfl, _⟩ := h
    rfl
  · obtain ⟨p, dx, t, a, rfl, hp, k⟩ := h
    refine ⟨_, pss_cons (ps_fld (pv 0) (pv 1) rfl) (pss_one (ps_fld (pv 0) (pv 2) rfl)), ?_⟩
    refine ⟨_, rfl, _, rfl, p, C.P, dx, [], rfl, hp, T.pcl, T.p1, (by show 0 < 1000; decide), ?_⟩
    refine ⟨_, rfl, _, rfl, p, C.P, dx, _, rfl, upd_same, T.pcl, T.p2, (by show 1 < 1000; decide), ?_⟩
    simp only [upd_upd]
    exact k _ upd_same (Kept.at' rfl)
theorem scSStart : FnScope ["self", "now"] ["self", "now"] (defScope sSStart) := ⟨rfl, rfl, rfl, by decide +kernel, rfl, by decide +kernel, by decide +kernel⟩
theorem ok_sStart {f : Addr} {fd : FuncData} (F : Fun K "start_at" "Session.start_at" sSStart f fd) (T : TxtS K mg C) (TT : TxtT K mg C.T) (hI : ∃ fI fdI, Mk K C.T fI ∧ Binds K fdI ["self"] [] ∧ FnOk P w K mg base CX0 1 fI fdI ["self"] (spTInit C.T C.R)) :
    FnOk P w K mg base CX0 3 f fd ["self", "now"] (spSStart C) := by
  refine F.ok scSStart (fun vs H Q E h => ?_) (fun cdv A outer s H vs Q E hr h => ?_)
  · obtain ⟨sa, b, now, rfl, _⟩ := h
    rfl
  · obtain ⟨sa, b, now, rfl, ⟨dx, fs, h1, hf⟩, k⟩ := h
    obtain ⟨fI, fdI, M, bI, GI⟩ := hI
    refine ⟨_, pss_cons (ps_fld (pv 0) (pv 1) rfl) (pss_cons (ps_fld (pv 0) (pe_lst (pa_cons pe_non (pa_cons pe_non (pa_cons pe_non (pa_cons pe_non pa_nil))))) rfl)
      (pss_cons (ps_fld (pv 0) (pe_make0 M GI hr (by rfl) TT.mgC bI .nil pass0) rfl)
      (pss_cons (ps_fld (pv 0) (pe_op op_add (pv 1) (pe_gi T.every)) rfl)
      (pss_one (ps_fld (pv 0) (pv 1) rfl))))), ?_⟩
    have fl : ∀ g : List (Str × V) → List (Str × V), fs.length < 1000 := fun _ => by
      rcases hf with rfl | ⟨_, _, _, _, _, rfl⟩
      · show 1 < 1000; decide
      · show 6 < 1000; decide
    refine ⟨_, rfl, _, rfl, sa, C.S, dx, fs, rfl, h1, T.cl, T.n2, fl id, ?_⟩
    -- the ports' list
    refine ⟨(by show 4 ≤ sizeLine; decide), fun pl hpl => ?_⟩
    have npl : sa ≠ pl := fun z => by rw [← z, upd_same] at hpl; cases hpl
    have hpl0 : H pl = none := by rw [upd_ne npl.symm] at hpl; exact hpl
    refine ⟨_, rfl, sa, C.S, dx, _, rfl, (upd_ne npl).trans upd_same, T.cl, T.n3, ?_, ?_⟩
    · rcases hf with rfl | ⟨_, _, _, _, _, rfl⟩
      · show 2 < 1000; decide
      · show 6 < 1000; decide
    have k2 : Kept (· = sa) H (upd (upd H sa (.ins C.S dx (putF "now" (.int now) fs))) pl (.lst [.non, .non, .non, .non])) := Kept.me.trans (Kept.new hpl)
    -- the table
    intro ta dx2 nta ndx2 nex
    refine ⟨ta, dx2, rfl, upd_same, fun d H1 hd TA kp => ⟨rfl, ?_⟩⟩
    generalize hG : upd (upd H sa (.ins C.S dx (putF "now" (.int now) fs))) pl (.lst [.non, .non, .non, .non]) = G at *
    have hGpl : G pl = some (.lst [.non, .non, .non, .non]) := by rw [← hG, upd_same]
    have hGsa : G sa = some (.ins C.S dx (putF "now" (.int now) fs)) := by rw [← hG, upd_ne npl, upd_same]
    generalize hJ : upd G sa (.ins C.S dx (putF "ports" (.ref pl) (putF "now" (.int now) fs))) = J at *
    have hJsa : J sa = some (.ins C.S dx (putF "ports" (.ref pl) (putF "now" (.int now) fs))) := by rw [← hJ, upd_same]
    have hJpl : J pl = some (.lst [.non, .non, .non, .non]) := by rw [← hJ, upd_ne npl.symm]; exact hGpl
    have k3 : Kept (· = sa) H J := by rw [← hJ]; exact k2.trans Kept.me
    have s3 := new_route nta ndx2 kp
    have k4 : Kept (· = sa) H H1 := k3.trans (Kept.same s3)
    have h1sa := s3 _ _ hJsa
    have h1pl := s3 _ _ hJpl
    have free : ∀ x, J x = none → H x = none := fun x hx => by
      cases q : H x with
      | none => rfl
      | some o =>
        by_cases c : x = sa
        · rw [c, hJsa] at hx
          cases hx
        · rw [k3 x o q c] at hx
          cases hx
    have hta0 : H ta = none := free ta nta
    have hd0 : H d = none := by
      refine free d ?_
      have nd : d ≠ ta := fun z => by rw [z, upd_same] at hd; cases hd
      rw [upd_ne nd] at hd
      by_cases c : d = dx2
      · rw [c, upd_same] at hd
        cases hd
      · rwa [upd_ne c] at hd
    refine ⟨_, rfl, sa, C.S, dx, _, rfl, h1sa, T.cl, T.n4, ?_, ?_⟩
    · rcases hf with rfl | ⟨_, _, _, _, _, rfl⟩
      · show 3 < 1000; decide
      · show 6 < 1000; decide
    refine ⟨_, rfl, _, _, rfl, rfl, _, rfl, sa, C.S, dx, _, rfl, upd_same, T.cl, T.n5, ?_, ?_⟩
    · rcases hf with rfl | ⟨_, _, _, _, _, rfl⟩
      · show 4 < 1000; decide
      · show 6 < 1000; decide
    refine ⟨_, rfl, _, rfl, sa, C.S, dx, _, rfl, upd_same, T.cl, T.n6, ?_, ?_⟩
    · rcases hf with rfl | ⟨_, _, _, _, _, rfl⟩
      · show 5 < 1000; decide
      · show 6 < 1000; decide
    simp only [upd_upd]
    have ef : putF "changes_told_from" (.int now) (putF "all_told_at" (.int ((now : Int) + 30000)) (putF "table" (.ref ta) (putF "ports" (.ref pl) (putF "now" (.int now) fs)))) = sF b now pl ta (now + 30000) now := by
      rcases hf with rfl | ⟨_, _, _, _, _, rfl⟩ <;> rfl
    have nta : sa ≠ ta := fun z => by
      obtain ⟨y, q⟩ := TA.ob
      rw [← z, h1sa] at q
      injection q with q
      injection q with _ _ q
      rcases hf with rfl | ⟨_, _, _, _, _, rfl⟩ <;> cases q
    refine k _ pl ta d hpl0 hta0 hd0 ⟨⟨dx, upd_same.trans (congrArg (fun z => some (HO.ins C.S dx z)) ef)⟩, ⟨_, (upd_ne npl.symm).trans h1pl, rfl, rfl, fun i v o e1 e2 => ?_⟩, TA.kept (M := (· = sa)) (Kept.at' rfl) fun x hx e => ?_, Ord.nil⟩ (k4.trans Kept.me)
    · have e2' : (List.replicate 4 (none : Option Link))[i]? = some o := e2
      match i, e1, e2' with
      | 0, e1, e2' => cases e1; cases e2'; rfl
      | 1, e1, e2' => cases e1; cases e2'; rfl
      | 2, e1, e2' => cases e1; cases e2'; rfl
      | 3, e1, e2' => cases e1; cases e2'; rfl
    · rcases hx with hx | hx | hx
      · exact nta (e.symm.trans hx)
      · have q := TA.dc
        rw [← hx, e, h1sa] at q
        cases q
      · cases hx
theorem scSInit : FnScope ["self"] ["self"] (defScope sSInit) := ⟨rfl, rfl, rfl, by decide +kernel, rfl, by decide +kernel, by decide +kernel⟩
theorem ok_sInit {f : Addr} {fd : FuncData} (F : Fun K "__init__" "Session.__init__" sSInit f fd) (T : TxtS K mg C) (M : HasM P w K mg base C.S "start_at" 3 ["self", "now"] (spSStart C)) : FnOk P w K mg base CX0 4 f fd ["self"] (spSInit C) := by
  refine F.ok scSInit (fun vs H Q E h => ?_) (fun cdv A outer s H vs Q E hr h => ?_)
  · obtain ⟨sa, dx, rfl, _⟩ := h
    rfl
  · obtain ⟨sa, dx, rfl, h1, k⟩ := h
    obtain ⟨g, gd, m, b, G⟩ := M.ex
    refine ⟨_, pss_cons (ps_fld (pv 0) pe_bl rfl) (pss_one (ps_expr (pe_meth (pv 0) T.cl m G hr b .nil pass0 (pa_cons pe_int pa_nil)))), ?_⟩
    refine ⟨_, rfl, sa, C.S, dx, [], rfl, h1, T.cl, T.n1, (by show 0 < 1000; decide), ?_⟩
    refine ⟨_, rfl, sa, dx, _, rfl, upd_same, rfl, sa, false, 0, rfl, ⟨dx, _, upd_same, .inl rfl⟩, fun H' pl ta d e1 e2 e3 S kp => ?_⟩
    have fr : ∀ {x}, upd H sa (.ins C.S dx (putF "begun" (.bl false) [])) x = none → H x = none := fun {x} hx => by
      by_cases c : x = sa
      · rw [c, upd_same] at hx
        cases hx
      · rwa [upd_ne c] at hx
    exact k H' pl ta d (fr e1) (fr e2) (fr e3) S (Kept.me.trans kp)
theorem scSBegin : FnScope ["self", "now"] ["self", "now"] (defScope sSBegin) := ⟨rfl, rfl, rfl, by decide +kernel, rfl, by decide +kernel, by decide +kernel⟩
theorem ok_sBegin {f : Addr} {fd : FuncData} (F : Fun K "begin" "Session.begin" sSBegin f fd) (T : TxtS K mg C) (M : HasM P w K mg base C.S "start_at" 3 ["self", "now"] (spSStart C)) : FnOk P w K mg base CX0 4 f fd ["self", "now"] (spSBegin C) := by
  refine F.ok scSBegin (fun vs H Q E h => ?_) (fun cdv A outer s H vs Q E hr h => ?_)
  · obtain ⟨sa, pl, ta, d, es, b, st, now, rfl, _⟩ := h
    rfl
  · obtain ⟨sa, pl, ta, d, es, b, st, now, rfl, S, kN, kS⟩ := h
    obtain ⟨g, gd, m, bb, G⟩ := M.ex
    obtain ⟨dx, h1⟩ := S.ob
    refine ⟨_, pss_cons (ps_if (pt_cmpR op_ge (pv 1) (pe_gi T.tend) (nomark _)) (pss_one (ps_ret (pe_un un_neg pe_int))) pss_nil)
      (pss_cons (ps_expr (pe_meth (pv 0) T.cl m G hr bb .nil pass0 (pa_cons (pv 1) pa_nil)))
      (pss_cons (ps_fld (pv 0) pe_bl rfl) (pss_one (ps_ret pe_int)))), ?_⟩
    refine ⟨_, rfl, _, _, rfl, rfl, _, rfl, ?_⟩
    by_cases c : now < 2 ^ 62
    · rw [decide_eq_false (show ¬ (4611686018427387904 : Int) ≤ (now : Int) by omega)]
      refine iteF ⟨_, rfl, sa, dx, _, rfl, h1, rfl, _, rfl, sa, b, now, rfl, ⟨dx, _, h1, .inr ⟨_, _, _, _, _, rfl⟩⟩, fun H' pl' ta' d' e1 e2 e3 S' kp => ?_⟩
      obtain ⟨dx', h2⟩ := S'.ob
      refine ⟨_, rfl, sa, C.S, dx', _, rfl, h2, T.cl, T.n1, (by show 6 < 1000; decide), ?_⟩
      obtain ⟨vs, q, l1, l2, hp⟩ := S'.pt
      refine kS c _ pl' ta' d' e1 e2 e3 ⟨⟨dx', upd_same⟩, ⟨vs, by rw [upd_ne S'.sa_pl.symm]; exact q, l1, l2, fun i v o z1 z2 => (hp i v o z1 z2).kept (M := (· = sa)) (Kept.at' rfl) fun x o e z => ?_⟩, S'.tb.kept (M := (· = sa)) (Kept.at' rfl) fun x hx e => S'.sa_foot (e ▸ hx), S'.od⟩ (kp.trans Kept.me)
      rw [e, h2] at z
      cases z
      exact ⟨(by show (16 : Nat) ≠ 12; decide), (by show (16 : Nat) ≠ 2; decide)⟩
    · rw [decide_eq_true (show (4611686018427387904 : Int) ≤ (now : Int) by omega)]
      exact iteT ⟨_, rfl, kN c⟩
end
end NR
end

section
set_option Elab.async false
set_option maxRecDepth 100000
set_option maxHeartbeats 4000000
/-! session.py: link, down -/
namespace NR
open PySem PySem.Spec L2
open Ra54 (Route Link)

/-- the network of a link that is up -/
def linkNet (l : Link) : Nat × Nat := (Ra54.netOf l.bits l.address, l.bits)
def anyOn (ls : List (Option Link)) (n : Nat × Nat) : Bool := ls.any fun o => match o with
  | some l => decide (linkNet l = n)
  | none => false
def spSHas (C : Cl) : Sp := fun vs H Q _ => ∃ (sa pl ta d t : Addr) (es : Ents) (b : Bool) (s : St0) (n : Nat × Nat), vs = [.ref sa, .ref t] ∧ SesAt C H sa pl ta d es b s ∧ H t = some (tupN n) ∧
  ∀ H', Same H H' → Q (.bl (anyOn s.links n)) H'

/-- within a comprehension's block: the written part by its own letter -/
theorem yes_if {σ : L2.St} {H : Hp} {A B : Hp → Prop} (h : A H) : tYes σ H (fun b H3 => if b = true then A H3 else B H3) := iteT (A := A H) (B := B H) h
theorem op_eqDK {X : Cx} (K : PySem.W.Frag) (hu : X.A.units + 64 < cLine) (hK : X.K = K) : OpR X (compareOp .Eq) (rEqD K) := by
  subst hK
  exact op_eqD hu
theorem op_neDK {X : Cx} (K : PySem.W.Frag) (hu : X.A.units + 64 < cLine) (hK : X.K = K) : OpR X (compareOp .NotEq) (rNeD K) := by
  subst hK
  exact op_neD hu
theorem pe_fldK {X : Cx} (K : PySem.W.Frag) {e : Expr} {f : Str} {ta : TE} {pos : Pos} (he : PE X e ta) (hb : attributeBase e f X.env (eval e X.env) = eval e X.env) (hK : X.K = K) : PE X (.Attribute e f pos) (tFld K ta f) := by
  subst hK
  exact pe_fld he hb
section
variable {P : Program} {w : World} {K : PySem.W.Frag} {mg : Str → Option Value} {base : Heap} {C : Cl}
theorem scSHas : FnScope ["self", "network", "port"] ["self", "network"] (defScope sSHas) := ⟨rfl, rfl, rfl, by decide +kernel, rfl, by decide +kernel, by decide +kernel⟩
theorem ok_sHas {f : Addr} {fd : FuncData} (F : Fun K "has_port_on" "Session.has_port_on" sSHas f fd) (T : TxtS K mg C) : FnOk P w K mg base CX0 1 f fd ["self", "network"] (spSHas C) := by
  refine F.ok scSHas (fun vs H Q E h => ?_) (fun cdv A outer s H vs Q E hr h => ?_)
  · obtain ⟨sa, pl, ta, d, t, es, b, st, n, rfl, _⟩ := h
    rfl
  · obtain ⟨sa, pl, ta, d, t, es, b, st, n, rfl, S, ht, k⟩ := h
    obtain ⟨dx, h1⟩ := S.ob
    obtain ⟨vs, hpl, l1, l2, hp⟩ := S.pt
    refine ⟨_, pss_one (ps_ret (pe_callB (cr_any rfl) (by rfl) T.any (by decide +kernel) (pa_cons (pe_lc (own := [("port", 2)]) (g := gName 2) (tt := tYes) (by rfl) scSHas.nd (pi_list (pe_fld (pv 0) rfl)) (blkOk_by (own := [("port", 2)]) (N := ["self", "network", "port"]) (sc := defScope sSHas) (by decide +kernel))
      (fun _ _ _ _ _ => pg_name (i := 2) scSHas.nd rfl (Or.inl rfl)) (fun _ _ _ _ _ => pts_nil)
      (fun _ _ _ _ _ => pe_and (pe_cmp (pc_notN (pv 2))) (pe_one (pe_cmpR (op_eqDK K hr.units rfl) (pe_fldK K (pv 2) rfl rfl) (pv 1) (nomark _))))) pa_nil))), ?_⟩
    refine ⟨_, rfl, sa, C.S, dx, _, _, rfl, h1, T.cl, T.n3, rfl, pl, rfl, ⟨_, SqL.of hpl⟩, fun D hD => ?_⟩
    have sD := same_new (o := .lst []) hD
    have nD : ∀ (acc : List V) b o, H b = some o → upd H D (.lst acc) b = some o := fun acc b o e => (same_new (o := .lst acc) hD) b o e
    refine lc_list (K := K) (a := pl) (xs := vs) (fun i H' => ∃ bs : List Bool, H' = upd H D (.lst (bs.map V.bl)) ∧ bs.length = i ∧ bs.any id = anyOn (st.links.take i) n) ⟨[], rfl, rfl, rfl⟩ (fun i H' _ ⟨bs, e, _⟩ => ?_) (fun i x H' hi ⟨bs, e, el, ea⟩ => ?_) (fun H' ⟨bs, e, el, ea⟩ => ?_)
    · rw [e]
      exact SqL.of (nD _ _ _ hpl)
    · subst e
      have hil : i < st.links.length := by
        rw [l2, ← l1]
        exact (List.getElem?_eq_some_iff.mp hi).1
      have ho : st.links[i]? = some st.links[i] := List.getElem?_eq_getElem hil
      have hP := hp i x _ hi ho
      have etk : st.links.take (i + 1) = st.links.take i ++ [st.links[i]] := by rw [List.take_add_one, ho]; rfl
      have next : ∀ c : Bool, c = anyOn [st.links[i]] n → ∃ acc, upd H D (.lst (bs.map V.bl)) D = some (.lst acc) ∧ acc.length < sizeLine ∧ ∃ bs' : List Bool, upd (upd H D (.lst (bs.map V.bl))) D (.lst (acc ++ [V.bl c])) = upd H D (.lst (bs'.map V.bl)) ∧ bs'.length = i + 1 ∧ bs'.any id = anyOn (st.links.take (i + 1)) n := by
        intro c hc
        refine ⟨_, upd_same, by rw [List.length_map]; exact small1000 (by omega), bs ++ [c], by rw [upd_upd, List.map_append]; rfl, by rw [List.length_append, el]; rfl, ?_⟩
        rw [List.any_append, ea, etk]
        unfold anyOn
        rw [List.any_append]
        refine congrArg (_ || ·) ?_
        rw [show ([c].any id) = c from Bool.or_false c, hc]
        rfl
      refine ⟨rfl, yes_if ?_⟩
      generalize hlk : st.links[i] = o at hP next ⊢
      cases o with
      | none =>
        refine ⟨_, rfl, _, rfl, ?_⟩
        rw [show x = V.non from hP]
        exact iteF (next false rfl)
      | some l =>
        obtain ⟨a, dy, t', rfl, q1, q2, q3⟩ := hP
        refine ⟨_, rfl, _, rfl, ?_⟩
        refine iteT ⟨_, rfl, a, C.P, dy, _, _, rfl, nD _ _ _ q1, T.pcl, T.p2, rfl, _, rfl, _, _, Dp.net (nD _ _ _ q2), Dp.net (nD _ _ _ ht), rfl, rfl, ?_⟩
        rw [eqv_net]
        exact next _ (by show _ = (decide (linkNet l = n) || false); rw [Bool.or_false]; rfl)
    · subst e
      refine ⟨D, bs, rfl, SqL.of upd_same, ?_⟩
      rw [ea]
      have e4 : st.links.take vs.length = st.links := by rw [l1, ← l2, List.take_length]
      rw [e4]
      exact k _ (nD _)
end
end NR
end

section
set_option Elab.async false
set_option maxRecDepth 100000
set_option maxHeartbeats 4000000
/-! session.py: link, down -/
namespace NR
open PySem PySem.Spec L2
open Ra54 (Route Link)

/-- what was tracked and not the session's own isn't so behind either -/
def FootIn (sa pl ta d : Addr) (es es' : Ents) (H : Hp) : Prop := ∀ x o, H x = some o → ¬ SFoot sa pl ta d es x → ¬ SFoot sa pl ta d es' x
theorem FootIn.of {sa pl ta d : Addr} {es es' : Ents} {H : Hp} (h : ∀ x, Foot ta d es' x → Foot ta d es x ∨ H x = none) : FootIn sa pl ta d es es' H := by
  intro x o e n m
  rcases m with m | m | m
  · exact n (.inl m)
  · exact n (.inr (.inl m))
  · rcases h x m with m | m
    · exact n (.inr (.inr m))
    · rw [m] at e
      cases e
/-- behind a call of the document's: its answer, the session as the document has it, nothing else touched -/
def After (C : Cl) (H : Hp) (sa pl ta d : Addr) (es : Ents) (b : Bool) (s : St0) (c : Ra54.Call) (Q : VK) : Prop :=
  ∀ (H' : Hp) (es' : Ents) (s' : St0) (z : Int), Ra54.step (some s) c = (some s', Ra54.only z) → SesAt C H' sa pl ta d es' b s' → FootIn sa pl ta d es es' H → Kept (SFoot sa pl ta d es) H H' → Q (.int z) H'
theorem After.same {C : Cl} {H : Hp} {sa pl ta d : Addr} {es : Ents} {b : Bool} {s : St0} {c : Ra54.Call} {Q : VK} (h : After C H sa pl ta d es b s c Q) {z : Int} (e : Ra54.step (some s) c = (some s, Ra54.only z)) (S : SesAt C H sa pl ta d es b s) {H' : Hp} (k : Same H H') : Q (.int z) H' :=
  h H' es s z e (S.same k) (FootIn.of fun _ q => .inl q) (Kept.same k)
def spSDown (C : Cl) : Sp := fun vs H Q _ => ∃ (sa pl ta d : Addr) (es : Ents) (b : Bool) (s : St0) (i : Nat), vs = [.ref sa, .int i] ∧ SesAt C H sa pl ta d es b s ∧ After C H sa pl ta d es b s (.down i) Q
def spSUp (C : Cl) : Sp := fun vs H Q _ => ∃ (sa pl ta d : Addr) (es : Ents) (b : Bool) (s : St0) (i a n : Nat), vs = [.ref sa, .int i, .int a, .int n] ∧ SesAt C H sa pl ta d es b s ∧ After C H sa pl ta d es b s (.link i a n) Q
theorem ixN_nat {n j : Nat} (h : j < n) : ixN n (j : Int) = some j := by
  unfold ixN
  rw [if_pos (by omega), if_pos (by omega)]
  rfl
theorem link_at {s : St0} {i : Nat} {o : Option Link} (h : s.links[i]? = some o) : Ra54.linkAt s i = o := by
  unfold Ra54.linkAt
  rw [h]
  rfl
section
variable {P : Program} {w : World} {K : PySem.W.Frag} {mg : Str → Option Value} {base : Heap} {C : Cl}
theorem scSDown : FnScope ["self", "i"] ["self", "i"] (defScope sSDown) := ⟨rfl, rfl, rfl, by decide +kernel, rfl, by decide +kernel, by decide +kernel⟩
theorem ok_sDown {f : Addr} {fd : FuncData} (F : Fun K "take_down" "Session.take_down" sSDown f fd) (T : TxtS K mg C) (TT : TxtT K mg C.T) (M : HasM P w K mg base C.T "lose_all_by" 2 ["self", "link", "now"] (spTLose C.T C.R)) : FnOk P w K mg base CX0 3 f fd ["self", "i"] (spSDown C) := by
  refine F.ok scSDown (fun vs H Q E h => ?_) (fun cdv A outer s H vs Q E hr h => ?_)
  · obtain ⟨sa, pl, ta, d, es, b, st, i, rfl, _⟩ := h
    rfl
  · obtain ⟨sa, pl, ta, d, es, b, st, i, rfl, S, k⟩ := h
    obtain ⟨dx, h1⟩ := S.ob
    obtain ⟨vs, hpl, l1, l2, hp⟩ := S.pt
    obtain ⟨g, gd, m, bb, G⟩ := M.ex
    refine ⟨_, pss_cons (ps_if (pt_cmpR op_gt (pv 1) (pe_gi T.last) (nomark _)) (pss_one (ps_ret (pe_un un_neg pe_int))) pss_nil)
      (pss_cons (ps_if (pt_cmp (pc_isN (pe_ix ix_list (pe_fld (pv 0) rfl) (pv 1) (fun _ _ => rfl)))) (pss_one (ps_ret (pe_un un_neg pe_int))) pss_nil)
      (pss_cons (ps_asg pe_non (pg_sub (pe_fld (pv 0) rfl) (pv 1) set_list))
      (pss_cons (ps_expr (pe_meth (pe_fld (pv 0) rfl) TT.cl m G hr bb .nil pass0 (pa_cons (pv 1) (pa_cons (pe_fld (pv 0) rfl) pa_nil))))
      (pss_one (ps_ret pe_int))))), ?_⟩
    refine ⟨_, rfl, _, _, rfl, rfl, _, rfl, ?_⟩
    by_cases c : 3 < i
    · rw [decide_eq_true (show (3 : Int) < (i : Int) by omega)]
      refine iteT ⟨_, rfl, k.same ?_ S (Same.refl H)⟩
      show (if 3 < i then _ else _) = _
      rw [if_pos c]
    · rw [decide_eq_false (show ¬ (3 : Int) < (i : Int) by omega)]
      have hv : vs[i]? = some vs[i] := List.getElem?_eq_getElem (by omega)
      have ho : st.links[i]? = some st.links[i] := List.getElem?_eq_getElem (by omega)
      have hP := hp i _ _ hv ho
      generalize vs[i] = v at hv hP
      generalize st.links[i] = o at ho hP
      have hla := link_at ho
      refine iteF ⟨_, rfl, sa, C.S, dx, _, _, rfl, h1, T.cl, T.n3, rfl, _, rfl, pl, _, _, _, rfl, rfl, SqL.of hpl, atI_nat hv, _, rfl, ?_⟩
      cases o with
      | none =>
        rw [show v = V.non from hP]
        refine iteT ⟨_, rfl, k.same ?_ S (Same.refl H)⟩
        show (if 3 < i then _ else if (Ra54.linkAt st i).isNone = true then _ else _) = _
        rw [if_neg c, hla]
        rfl
      | some l =>
        obtain ⟨a, dy, t, rfl, q1, q2, q3⟩ := hP
        refine iteF ?_
        refine ⟨_, rfl, sa, C.S, dx, _, _, rfl, h1, T.cl, T.n3, rfl, _, rfl, pl, _, _, i, rfl, rfl, hpl, ?_, ?_⟩
        · exact ixN_nat (by omega)
        have S2 := S.port (i := i) (v := .non) (o := none) hpl rfl
        have k2 : Kept (SFoot sa pl ta d es) H (upd H pl (.lst (vs.set i .non))) := Kept.at' (.inr (.inl rfl))
        generalize upd H pl (.lst (vs.set i .non)) = H2 at S2 k2 ⊢
        obtain ⟨dx2, h2⟩ := S2.ob
        obtain ⟨dz, z1⟩ := S2.tb.ob
        refine ⟨_, rfl, sa, C.S, dx2, _, _, rfl, h2, T.cl, T.n4, rfl, ta, dz, _, rfl, z1, rfl, _, rfl, _, rfl, sa, C.S, dx2, _, _, rfl, h2, T.cl, T.n2, rfl, ?_⟩
        refine ⟨ta, d, es, i, st.now, rfl, S2.tb, fun H3 TA3 k3 => ?_⟩
        have er : (es.map fun e => (e.1, downF i st.now e.2)).map (·.2) = (es.map (·.2)).map (downF i st.now) := by
          rw [List.map_map, List.map_map]
          rfl
        have ea : (es.map fun e => (e.1, downF i st.now e.2)).map (·.1) = es.map (·.1) := by
          rw [List.map_map]
          rfl
        have S3 := S2.table (rs' := st.routes.map (downF i st.now)) TA3 (by rw [er]; exact S.od.map (downF_key i st.now)) (k3.mono fun x q => .inr (.inr q))
        refine k H3 _ _ 0 ?_ S3 (FootIn.of fun x q => .inl ?_) (k2.trans (k3.mono fun x q => .inr (.inr (.inr (.inr q)))))
        · show (if 3 < i then _ else if (Ra54.linkAt st i).isNone = true then _ else _) = _
          rw [if_neg c, hla]
          rfl
        · unfold Foot at q ⊢
          rwa [ea] at q
theorem scSUp : FnScope ["self", "i", "address", "bits", "network"] ["self", "i", "address", "bits"] (defScope sSUp) := ⟨rfl, rfl, rfl, by decide +kernel, rfl, by decide +kernel, by decide +kernel⟩
theorem anyOn_spec (ls : List (Option Link)) (a n : Nat) : (ls.any fun l => match l with
      | some l => l.bits == n && Ra54.netOf n l.address == Ra54.netOf n a
      | none => false) = anyOn ls (Ra54.netOf n a, n) := by
  unfold anyOn
  congr 1
  funext o
  cases o with
  | none => rfl
  | some l =>
    show (l.bits == n && Ra54.netOf n l.address == Ra54.netOf n a) = decide ((Ra54.netOf l.bits l.address, l.bits) = (Ra54.netOf n a, n))
    rw [Bool.eq_iff_iff]
    simp only [Bool.and_eq_true, beq_iff_eq, decide_eq_true_eq, Prod.mk.injEq]
    constructor
    · rintro ⟨e1, e2⟩
      exact ⟨by rw [e1]; exact e2, e1⟩
    · rintro ⟨e1, e2⟩
      exact ⟨e2, by rw [← e2]; rw [← e2] at e1; exact e1⟩
theorem ok_sUp {f : Addr} {fd : FuncData} (F : Fun K "bring_up" "Session.bring_up" sSUp f fd) (T : TxtS K mg C) (TT : TxtT K mg C.T) (NI : HasF P w K mg base "is_host" 1 ["address"] spIsHost) (NN : HasF P w K mg base "network_of" 1 ["address", "bits"] spNetOf)
    (MH : HasM P w K mg base C.S "has_port_on" 1 ["self", "network"] (spSHas C)) (MP : HasM P w K mg base C.T "has_place_for" 2 ["self", "network"] (spTHas C.T C.R)) (MO : HasM P w K mg base C.T "put_own" 3 ["self", "network", "link", "now"] (spTOwn C.T C.R))
    (hI : ∃ fI fdI, Mk K C.P fI ∧ Binds K fdI ["self", "address", "network"] [] ∧ FnOk P w K mg base CX0 1 fI fdI ["self", "address", "network"] (spPInit C.P)) : FnOk P w K mg base CX0 4 f fd ["self", "i", "address", "bits"] (spSUp C) := by
  refine F.ok scSUp (fun vs H Q E h => ?_) (fun cdv A outer s H vs Q E hr h => ?_)
  · obtain ⟨sa, pl, ta, d, es, b, st, i, a, n, rfl, _⟩ := h
    rfl
  · obtain ⟨sa, pl, ta, d, es, b, st, i, a, n, rfl, S, k⟩ := h
    obtain ⟨dx, h1⟩ := S.ob
    obtain ⟨vs, hpl, l1, l2, hp⟩ := S.pt
    obtain ⟨g1, gd1, m1, kp1, b1, G1⟩ := NI.ex
    obtain ⟨g2, gd2, m2, kp2, b2, G2⟩ := NN.ex
    obtain ⟨g3, gd3, m3, b3, G3⟩ := MH.ex
    obtain ⟨g4, gd4, m4, b4, G4⟩ := MP.ex
    obtain ⟨g5, gd5, m5, b5, G5⟩ := MO.ex
    obtain ⟨fI, fdI, MI, bI, GI⟩ := hI
    have hr1 : Room 1 _ := hr.mono (by decide)
    have hr2 : Room 2 _ := hr.mono (by decide)
    refine ⟨_, pss_cons (ps_if (PW.pt (pw_or (pt_cmpR op_gt (pv 1) (pe_gi T.last) (nomark _)) (pw_or (pt_not (pt_val (pe_call G1 hr1 (by rfl) m1 kp1 b1 .nil pass0 (pa_cons (pv 2) pa_nil))))
        (pw_or1 (pt_not (pt_chain op_le op_le pe_int (pv 3) (pe_gi T.most))))))) (pss_one (ps_ret (pe_un un_neg pe_int))) pss_nil)
      (pss_cons (ps_if (pt_cmp (pc_notN (pe_ix ix_list (pe_fld (pv 0) rfl) (pv 1) (fun _ _ => rfl)))) (pss_one (ps_ret (pe_un un_neg pe_int))) pss_nil)
      (pss_cons (ps_set (i := 4) scSUp.nd rfl (.inl rfl) (pe_call G2 hr1 (by rfl) m2 kp2 b2 .nil pass0 (pa_cons (pv 2) (pa_cons (pv 3) pa_nil))))
      (pss_cons (ps_if (pt_val (pe_meth (pv 0) T.cl m3 G3 hr1 b3 .nil pass0 (pa_cons (pv 4) pa_nil))) (pss_one (ps_ret (pe_un un_neg pe_int))) pss_nil)
      (pss_cons (ps_if (pt_not (pt_val (pe_meth (pe_fld (pv 0) rfl) TT.cl m4 G4 hr2 b4 .nil pass0 (pa_cons (pv 4) pa_nil)))) (pss_one (ps_ret (pe_un un_neg pe_int))) pss_nil)
      (pss_cons (ps_asg (pe_make MI GI hr2 (by rfl) T.mgP bI .nil pass0 (pa_cons (pv 2) (pa_cons (pv 4) pa_nil))) (pg_sub (pe_fld (pv 0) rfl) (pv 1) set_list))
      (pss_cons (ps_expr (pe_meth (pe_fld (pv 0) rfl) TT.cl m5 G5 hr b5 .nil pass0 (pa_cons (pv 4) (pa_cons (pv 1) (pa_cons (pe_fld (pv 0) rfl) pa_nil)))))
      (pss_one (ps_ret pe_int)))))))), ?_⟩
    -- what the document says
    have hstep : Ra54.step (some st) (.link i a n) = if 3 < i ∨ a = 0 ∨ Ra54.ALL ≤ a ∨ n = 0 ∨ 31 < n then (some st, Ra54.only (-1))
        else if (Ra54.linkAt st i).isSome = true then (some st, Ra54.only (-4))
        else if anyOn st.links (Ra54.netOf n a, n) = true then (some st, Ra54.only (-2))
        else if (Ra54.routeOf st.routes (Ra54.netOf n a) n).isNone = true ∧ Ra54.MOST ≤ st.routes.length then (some st, Ra54.only (-5))
        else (some { st with links := st.links.set i (some ⟨a, n⟩), routes := Ra54.place ⟨Ra54.netOf n a, n, 0, i, 0, 0, 0, 0, true⟩ st.routes }, Ra54.only 0) := by
      rw [← anyOn_spec]
      rfl
    have hALL : Ra54.ALL = 4294967295 := by decide
    refine ⟨_, rfl, _, _, rfl, rfl, _, rfl, ?_⟩
    by_cases c1 : 3 < i
    · rw [decide_eq_true (show (3 : Int) < (i : Int) by omega)]
      refine iteT (iteT ⟨_, rfl, k.same ?_ S (Same.refl H)⟩)
      rw [hstep, if_pos (.inl c1)] <;> rfl
    rw [decide_eq_false (show ¬ (3 : Int) < (i : Int) by omega)]
    refine iteF ⟨_, rfl, a, rfl, _, rfl, ?_⟩
    by_cases c2 : 1 ≤ a ∧ a ≤ 4294967294
    case neg =>
      rw [decide_eq_false c2]
      refine iteT (iteT ⟨_, rfl, k.same ?_ S (Same.refl H)⟩)
      rw [hstep, if_pos (by omega)] <;> rfl
    rw [decide_eq_true c2]
    refine iteF ⟨_, rfl, _, _, rfl, rfl, _, rfl, ?_⟩
    by_cases c3 : 1 ≤ n
    case neg =>
      rw [decide_eq_false (show ¬ (1 : Int) ≤ (n : Int) by omega)]
      refine iteF ⟨_, rfl, ?_⟩
      refine iteT ⟨_, rfl, k.same ?_ S (Same.refl H)⟩
      rw [hstep, if_pos (by omega)] <;> rfl
    rw [decide_eq_true (show (1 : Int) ≤ (n : Int) by omega)]
    refine iteT ⟨_, _, rfl, rfl, _, rfl, ?_⟩
    by_cases c4 : n ≤ 31
    case neg =>
      rw [decide_eq_false (show ¬ (n : Int) ≤ 31 by omega)]
      refine iteT ⟨_, rfl, k.same ?_ S (Same.refl H)⟩
      rw [hstep, if_pos (by omega)] <;> rfl
    rw [decide_eq_true (show (n : Int) ≤ 31 by omega)]
    refine iteF ?_
    replace hstep := hstep.trans (if_neg (by omega))
    -- self.ports[i] is not None
    have hv : vs[i]? = some vs[i] := List.getElem?_eq_getElem (by omega)
    have ho : st.links[i]? = some st.links[i] := List.getElem?_eq_getElem (by omega)
    have hP := hp i _ _ hv ho
    generalize vs[i] = v at hv hP
    generalize st.links[i] = o at ho hP
    have hla := link_at ho
    refine ⟨_, rfl, sa, C.S, dx, _, _, rfl, h1, T.cl, T.n3, rfl, _, rfl, pl, _, _, _, rfl, rfl, SqL.of hpl, atI_nat hv, _, rfl, ?_⟩
    cases o with
    | some l =>
      obtain ⟨a', dy, t, rfl, q1, q2, q3⟩ := hP
      refine iteT ⟨_, rfl, k.same ?_ S (Same.refl H)⟩
      rw [hstep, hla]
      rfl
    | none =>
      rw [show v = V.non from hP]
      rw [hla] at hstep
      replace hstep := hstep.trans (if_neg (by decide))
      refine iteF ?_
      -- network
      refine ⟨_, rfl, _, rfl, a, n, rfl, by omega, by omega, fun t ht0 => ?_⟩
      have s1 := same_new (o := tupN (Ra54.netOf n a, n)) ht0
      have ht : upd H t (tupN (Ra54.netOf n a, n)) t = some (tupN (Ra54.netOf n a, n)) := upd_same
      generalize upd H t (tupN (Ra54.netOf n a, n)) = H1 at s1 ht ⊢
      have S1 := S.same s1
      have h11 := s1 _ _ h1
      refine ⟨_, rfl, sa, dx, _, rfl, h11, rfl, _, rfl, sa, pl, ta, d, t, es, b, st, _, rfl, S1, ht, fun H2 s2 => ⟨_, rfl, ?_⟩⟩
      have s12 := s1.trans s2
      by_cases c5 : anyOn st.links (Ra54.netOf n a, n) = true
      · rw [c5]
        refine iteT ⟨_, rfl, k.same ?_ S s12⟩
        rw [hstep, if_pos c5] <;> rfl
      rw [Bool.eq_false_iff.mpr c5]
      refine iteF ?_
      replace hstep := hstep.trans (if_neg c5)
      have S2 := S1.same s2
      have ht2 := s2 _ _ ht
      have h12 := s12 _ _ h1
      obtain ⟨dy, z1⟩ := S2.tb.ob
      refine ⟨_, rfl, sa, C.S, dx, _, _, rfl, h12, T.cl, T.n4, rfl, ta, dy, _, rfl, z1, rfl, _, rfl, ta, d, t, es, _, rfl, S2.tb, ht2, _, rfl, ?_⟩
      have eR : Ra54.routeOf st.routes (Ra54.netOf n a) n = (findE es (Ra54.netOf n a, n)).map (·.2) := by rw [S.od.routeOf, findE_routeOf]
      have eL : st.routes.length = es.length := by rw [S.od.len, List.length_map]
      have hM : Ra54.MOST = 256 := rfl
      rw [eR, eL, hM] at hstep
      by_cases c6 : (findE es (Ra54.netOf n a, n)).isSome = true ∨ es.length < 256
      case neg =>
        have e0 : ((findE es (Ra54.netOf n a, n)).isSome || decide (es.length < 256)) = false := by
          cases q : (findE es (Ra54.netOf n a, n)).isSome with
          | true => exact absurd (.inl q) c6
          | false => exact decide_eq_false fun z => c6 (.inr z)
        rw [e0]
        refine iteT ⟨_, rfl, k.same ?_ S s12⟩
        refine hstep.trans (if_pos ⟨?_, by omega⟩)
        cases q : findE es (Ra54.netOf n a, n) with
        | none => rfl
        | some x => exact absurd (.inl (by rw [q]; rfl)) c6
      have e0 : ((findE es (Ra54.netOf n a, n)).isSome || decide (es.length < 256)) = true := by
        rcases c6 with z | z
        · rw [z]
          rfl
        · rw [decide_eq_true z, Bool.or_true]
      rw [e0]
      refine iteF ?_
      replace hstep := hstep.trans (if_neg (fun z => by
        rcases c6 with q | q
        · cases r : findE es (Ra54.netOf n a, n) with
          | none => rw [r] at q; cases q
          | some x => rw [r] at z; cases z.1
        · omega))
      -- self.ports[i] = Port(address, network)
      refine ⟨_, rfl, _, rfl, fun x dz nx nd nex => ⟨x, dz, t, a, rfl, upd_same, fun H3 h3 kp => ⟨rfl, ?_⟩⟩⟩
      have s3 := new_route nx nd kp
      have S3 := S2.same s3
      have h13 := s3 _ _ h12
      have hpl3 := s3 _ _ (s12 _ _ hpl)
      have ht3 := s3 _ _ ht2
      refine ⟨_, rfl, sa, C.S, dx, _, _, rfl, h13, T.cl, T.n3, rfl, _, rfl, pl, _, _, i, rfl, rfl, hpl3, ixN_nat (by omega), ?_⟩
      have S4 := S3.port (i := i) (v := .ref x) (o := some ⟨a, n⟩) hpl3 ⟨x, dz, t, rfl, h3, ht3, by show n ≤ 32; omega, by show a < 2 ^ 32; omega⟩
      have ht4 : upd H3 pl (.lst (vs.set i (.ref x))) t = some (tupN (Ra54.netOf n a, n)) := by rw [upd_ne (ne_of ht3 hpl3 fun z => nomatch z)]; exact ht3
      have k4 : Kept (SFoot sa pl ta d es) H (upd H3 pl (.lst (vs.set i (.ref x)))) := (Kept.same (s12.trans s3)).trans (Kept.at' (.inr (.inl rfl)))
      have fr4 : ∀ y, upd H3 pl (.lst (vs.set i (.ref x))) y = none → H y = none := fun y hy => by
        by_cases c : y = pl
        · rw [c, upd_same] at hy
          cases hy
        · rw [upd_ne c] at hy
          exact (s12.trans s3).free hy
      generalize upd H3 pl (.lst (vs.set i (.ref x))) = H4 at S4 ht4 k4 fr4 ⊢
      obtain ⟨dx4, h14⟩ := S4.ob
      obtain ⟨dy4, z4⟩ := S4.tb.ob
      refine ⟨_, rfl, sa, C.S, dx4, _, _, rfl, h14, T.cl, T.n4, rfl, ta, dy4, _, rfl, z4, rfl, _, rfl, _, rfl, _, rfl, sa, C.S, dx4, _, _, rfl, h14, T.cl, T.n2, rfl, ?_⟩
      refine ⟨ta, d, t, es, _, i, st.now, rfl, S4.tb, ht4, c6, by show n ≤ 32; omega, fun H5 y ny TA5 k5 => ?_⟩
      have S5 := S4.table (rs' := Ra54.place ⟨Ra54.netOf n a, n, 0, i, 0, 0, 0, 0, true⟩ st.routes) TA5 (by rw [putE_routes]; exact S.od.put _) (k5.mono fun q hq => .inr (.inl hq))
      refine k H5 _ _ 0 hstep S5 (FootIn.of fun q hq => ?_) (k4.trans (k5.mono fun q hq => .inr (.inr (.inr (.inl hq)))))
      exact (foot_put hq).imp id fun e => by rw [e]; exact fr4 y ny
end
end NR
end

section
set_option Elab.async false
set_option maxRecDepth 100000
set_option maxHeartbeats 4000000
/-! session.py: hear -/
namespace NR
open PySem PySem.Spec L2
open Ra54 (Route Link)

def spSTake (C : Cl) : Sp := fun vs H Q _ => ∃ (sa pl ta d L : Addr) (es : Ents) (b : Bool) (s : St0) (i y : Nat) (ps : List (Addr × Ent)), vs = [.ref sa, .ref L, .int i, .int y] ∧ SesAt C H sa pl ta d es b s ∧
  H L = some (.lst (ps.map fun x => V.ref x.1)) ∧ L ≠ pl ∧ ps.length ≤ 64 ∧ (∀ x ∈ ps, OfferAt H x.1 x.2 ∧ 1 ≤ x.2.dist ∧ x.2.dist ≤ 16 ∧ x.2.bits ≤ 32) ∧ 1 ≤ y ∧
  ∀ H' es', SesAt C H' sa pl ta d es' b { s with routes := (ps.map (·.2)).foldl (Ra54.offered s.now i y) s.routes } → FootIn sa pl ta d es es' H → Kept (SFoot sa pl ta d es) H H' →
    Q (.int (Ra54.differ s.routes ((ps.map (·.2)).foldl (Ra54.offered s.now i y) s.routes) : Nat)) H'
/-- a route's course, as a value -/
def CourseV (H : Hp) (v : V) (o : Option (Nat × Nat × Nat)) : Prop := match o with
  | none => v = .non
  | some c => ∃ q, v = .ref q ∧ H q = some (.tup [.int c.1, .int c.2.1, .int c.2.2])
theorem CourseV.kept {H H' : Hp} {v : V} {o : Option (Nat × Nat × Nat)} (h : CourseV H v o) (k : ∀ b xs, H b = some (.tup xs) → H' b = some (.tup xs)) : CourseV H' v o := by
  cases o with
  | none => exact h
  | some c =>
    obtain ⟨q, e, z⟩ := h
    exact ⟨q, e, k _ _ z⟩
def bKvs (bs : List ((Nat × Nat) × V)) : List (List Key × V) := bs.map fun p => (keyT p.1, p.2)
def cData : Option (Nat × Nat × Nat) → PyData
  | none => .none
  | some c => .tuple [.int c.1, .int c.2.1, .int c.2.2]
theorem CourseV.dp {K : PySem.W.Frag} {H : Hp} {v : V} {o : Option (Nat × Nat × Nat)} (h : CourseV H v o) : Dp K H v (cData o) := by
  cases o with
  | none => rw [show v = V.non from h]; exact .non
  | some c =>
    obtain ⟨q, rfl, z⟩ := h
    exact .tup (SqT.of z) (.cons (.int _) (.cons (.int _) (.cons (.int _) .nil)))
theorem cData_shaped (o : Option (Nat × Nat × Nat)) : SeqAt.shaped (cData o) = true := by
  cases o <;> rfl
theorem cData_eqv (a b : Option (Nat × Nat × Nat)) : PyData.eqv (cData a) (cData b) = decide (a = b) := by
  cases a with
  | none => cases b <;> rfl
  | some a =>
    cases b with
    | none => rfl
    | some b =>
      obtain ⟨a1, a2, a3⟩ := a
      obtain ⟨b1, b2, b3⟩ := b
      show (((a1 : Int) == b1) && (((a2 : Int) == b2) && (((a3 : Int) == b3) && true))) = decide (some (a1, a2, a3) = some (b1, b2, b3))
      rw [Bool.eq_iff_iff]
      simp only [Bool.and_true, Bool.and_eq_true, beq_iff_eq, decide_eq_true_eq, Option.some.injEq, Prod.mk.injEq]
      omega
theorem keyT_inj {a b : Nat × Nat} (h : keyT a = keyT b) : a = b := by
  obtain ⟨a1, a2⟩ := a
  obtain ⟨b1, b2⟩ := b
  unfold keyT at h
  simp only [List.cons.injEq, Sum.inl.injEq, and_true] at h
  rw [Prod.mk.injEq]
  omega
theorem bKvs_put (bs : List ((Nat × Nat) × V)) (n : Nat × Nat) (v : V) : ∃ bs', putK (bKvs bs) (keyT n) v = bKvs bs' ∧ bs'.map (·.1) = addK (bs.map (·.1)) n ∧ ∀ p ∈ bs', p ∈ bs ∨ p = (n, v) := by
  have ea : ((bKvs bs).any fun kv => decide (kv.1 = keyT n)) = decide (n ∈ bs.map (·.1)) := by
    rw [Bool.eq_iff_iff, List.any_eq_true, decide_eq_true_eq, List.mem_map]
    constructor
    · rintro ⟨kv, h1, h2⟩
      obtain ⟨p, hp, rfl⟩ := List.mem_map.mp h1
      exact ⟨p, hp, keyT_inj (of_decide_eq_true h2)⟩
    · rintro ⟨p, hp, e⟩
      exact ⟨(keyT p.1, p.2), List.mem_map.mpr ⟨p, hp, rfl⟩, decide_eq_true (by rw [← e])⟩
  unfold putK addK
  rw [ea]
  by_cases c : n ∈ bs.map (·.1)
  · rw [if_pos (decide_eq_true c), if_pos c]
    refine ⟨bs.map fun p => if p.1 = n then (p.1, v) else p, ?_, ?_, fun p hp => ?_⟩
    · unfold bKvs
      rw [List.map_map, List.map_map]
      refine List.map_congr_left fun p _ => ?_
      show (if keyT p.1 = keyT n then (keyT p.1, v) else (keyT p.1, p.2)) = (keyT (if p.1 = n then (p.1, v) else p).1, (if p.1 = n then (p.1, v) else p).2)
      by_cases d : p.1 = n
      · rw [if_pos d, if_pos (by rw [d])]
      · rw [if_neg d, if_neg (fun z => d (keyT_inj z))]
    · rw [List.map_map]
      refine List.map_congr_left fun p _ => ?_
      show (if p.1 = n then (p.1, v) else p).1 = p.1
      split <;> rfl
    · obtain ⟨p', hp', rfl⟩ := List.mem_map.mp hp
      by_cases d : p'.1 = n
      · rw [if_pos d, d]
        exact .inr rfl
      · rw [if_neg d]
        exact .inl hp'
  · rw [if_neg (by rw [decide_eq_false c]; exact Bool.false_ne_true), if_neg c]
    refine ⟨bs ++ [(n, v)], ?_, by rw [List.map_append]; rfl, fun p hp => ?_⟩
    · unfold bKvs
      rw [List.map_append]
      rfl
    · rcases List.mem_append.mp hp with h | h
      · exact .inl h
      · exact .inr (List.mem_singleton.mp h)
theorem bKvs_val {bs : List ((Nat × Nat) × V)} (nd : (bs.map (·.1)).Nodup) {j : Nat} {p : (Nat × Nat) × V} (h : bs[j]? = some p) : valV (bKvs bs) (keyT p.1) = some p.2 := by
  induction bs generalizing j with
  | nil => cases h
  | cons x bs ih =>
    have nd' := List.nodup_cons.mp nd
    cases j with
    | zero =>
      have e : x = p := by simpa using h
      subst e
      exact valV_pos (p := (keyT x.1, x.2)) rfl
    | succ j =>
      have h' : bs[j]? = some p := by simpa using h
      have n : ¬ x.1 = p.1 := fun e => nd'.1 (show x.1 ∈ bs.map (·.1) by rw [e]; exact List.mem_map.mpr ⟨p, List.mem_of_getElem? h', rfl⟩)
      exact (valV_neg (p := (keyT x.1, x.2)) (fun z => n (keyT_inj z))).trans (ih nd'.2 h')
theorem keysOf_len : ∀ (es : List Ent) (ks : List (Nat × Nat)), (es.foldl (fun ks e => addK ks (netK e)) ks).length ≤ ks.length + es.length
  | [], _ => by simp
  | e :: es, ks => by
    rw [List.foldl_cons]
    refine Nat.le_trans (keysOf_len es _) ?_
    have : (addK ks (netK e)).length ≤ ks.length + 1 := by
      unfold addK
      split
      · omega
      · rw [List.length_append]; exact Nat.le_refl _
    rw [List.length_cons]
    omega
section
variable {P : Program} {w : World} {K : PySem.W.Frag} {mg : Str → Option Value} {base : Heap} {C : Cl}
theorem scSTake : FnScope ["self", "offers", "i", "neighbour", "before", "network", "far"] ["self", "offers", "i", "neighbour"] (defScope sSTake) := ⟨rfl, rfl, rfl, by decide +kernel, rfl, by decide +kernel, by decide +kernel⟩
theorem ok_sTake {f : Addr} {fd : FuncData} (F : Fun K "take_in" "Session.take_in" sSTake f fd) (T : TxtS K mg C) (TT : TxtT K mg C.T) (MC : HasM P w K mg base C.T "course_to" 2 ["self", "network"] (spTCourse C.T C.R)) (MO : HasM P w K mg base C.T "offer" 3 ["self", "network", "far", "link", "neighbour", "now"] (spTOffer C.T C.R)) :
    FnOk P w K mg base CX0 4 f fd ["self", "offers", "i", "neighbour"] (spSTake C) := by
  refine F.ok scSTake (fun vs H Q E h => ?_) (fun cdv A outer s H vs Q E hr h => ?_)
  · obtain ⟨sa, pl, ta, d, L, es, b, st, i, y, ps, rfl, _⟩ := h
    rfl
  · obtain ⟨sa, pl, ta, d, L, es, b, st, i, y, ps, rfl, S, hL, nL, hlen, hps, hy, k⟩ := h
    obtain ⟨g1, gd1, m1, b1, G1⟩ := MC.ex
    obtain ⟨g2, gd2, m2, b2, G2⟩ := MO.ex
    have hu := hu_of hr
    have hr2 : Room 2 _ := hr.mono (by decide)
    refine ⟨_, pss_cons (ps_set (i := 4) scSTake.nd rfl (.inr rfl) pe_dnewT)
      (pss_cons (ps_for PassesOwn.never rfl (pi_list (pv 1)) (pg_tup rfl (pgs_cons (pg_name (i := 5) scSTake.nd rfl (.inl rfl)) (pgs_cons (pg_name (i := 6) scSTake.nd rfl (.inl rfl)) pgs_nil)))
        (pss_one (ps_dput hu (pv 4) (pv 5) (pe_meth (pe_fld (pv 0) rfl) TT.cl m1 G1 hr2 b1 .nil pass0 (pa_cons (pv 5) pa_nil)) rfl)))
      (pss_cons (ps_for PassesOwn.never rfl (pi_list (pv 1)) (pg_tup rfl (pgs_cons (pg_name (i := 5) scSTake.nd rfl (.inl rfl)) (pgs_cons (pg_name (i := 6) scSTake.nd rfl (.inl rfl)) pgs_nil)))
        (pss_one (ps_expr (pe_meth (pe_fld (pv 0) rfl) TT.cl m2 G2 hr b2 .nil pass0 (pa_cons (pv 5) (pa_cons (pv 6) (pa_cons (pv 2) (pa_cons (pv 3) (pa_cons (pe_fld (pv 0) rfl) pa_nil)))))))))
      (pss_one (ps_ret (pe_callB call_len_seq (by rfl) T.len PySem.boot_len (pa_cons (pe_lock (pe_lc (own := [("network", 5)]) (g := gName 5) (by rfl) scSTake.nd (pi_keys (pv 4)) (blkOk_by (own := [("network", 5)]) (N := ["self", "offers", "i", "neighbour", "before", "network", "far"]) (sc := defScope sSTake) (by decide +kernel))
        (fun _ _ _ _ _ => pg_name (i := 5) scSTake.nd rfl (Or.inl rfl))
        (fun _ _ _ _ _ => pts_one (pt_cmpR (op_neDK K hr2.units rfl) (pe_meth (pe_fldK K (pv 0) rfl rfl) TT.cl m1 G1 hr2 b1 .nil pass0 (pa_cons (pv 5) pa_nil)) (pe_dget hu (pv 4) (pv 5) (fun _ _ => rfl)) (nomark _)))
        (fun _ _ _ _ _ => pv 5))) pa_nil)))))), ?_⟩
    -- before = {}
    intro B hB
    have sB := same_new (o := .dT []) hB
    have hB1 : upd H B (.dT []) B = some (.dT (bKvs [])) := upd_same
    generalize upd H B (.dT []) = H1 at sB hB1 ⊢
    have nBS : ∀ x, SFoot sa pl ta d es x → x ≠ B := fun x hx e => by
      obtain ⟨o, q⟩ := S.foot_some hx
      rw [e, hB] at q
      cases q
    -- for network, far in offers: before[network] = ..
    refine ⟨_, rfl, L, rfl, ⟨_, SqL.of (sB _ _ hL)⟩, for_list (K := K) (a := L) (xs := ps.map fun x => V.ref x.1) (fun j σ H' => ∃ (v5 v6 : Option V) (bs : List ((Nat × Nat) × V)), σ = [some (.ref sa), some (.ref L), some (.int i), some (.int y), some (.ref B), v5, v6] ∧ Same H H' ∧
        H' B = some (.dT (bKvs bs)) ∧ bs.map (·.1) = keysOf ((ps.map (·.2)).take j) ∧ ∀ p ∈ bs, CourseV H' p.2 (courseN (es.map (·.2)) p.1))
      ⟨none, none, [], rfl, sB, hB1, rfl, fun p hp => nomatch hp⟩ (fun j σ H' _ ⟨_, _, _, _, s, _⟩ => SqL.of (s _ _ hL)) ?_ ?_⟩
    · rintro j x σ H' hj ⟨v5, v6, bs, rfl, s2, hb2, ek, hc⟩
      obtain ⟨pe, hpe, rfl⟩ : ∃ pe, ps[j]? = some pe ∧ x = V.ref pe.1 := by
        rw [List.getElem?_map] at hj
        cases q : ps[j]? with
        | none => rw [q] at hj; cases hj
        | some e => rw [q] at hj; exact ⟨e, rfl, (Option.some.inj hj).symm⟩
      obtain ⟨⟨q, w1, w2⟩, d1, d16, d32⟩ := hps pe (List.mem_of_getElem? hpe)
      have hpe2 : (ps.map (·.2))[j]? = some pe.2 := by rw [List.getElem?_map, hpe]; rfl
      have hjl : j < ps.length := (List.getElem?_eq_some_iff.mp hpe).1
      refine ⟨pe.1, _, rfl, SqT.of (s2 _ _ w1), rfl, _, _, rfl, _, _, rfl, rfl, ?_⟩
      have S2 := S.same s2
      obtain ⟨dx, h1⟩ := S2.ob
      obtain ⟨dz, z1⟩ := S2.tb.ob
      have blen : (bKvs bs).length < sizeLine := by
        unfold bKvs
        rw [List.length_map]
        have e1 : bs.length = (keysOf ((ps.map (·.2)).take j)).length := by rw [← ek, List.length_map]
        have e2 := keysOf_len ((ps.map (·.2)).take j) []
        have e3 : ((ps.map (·.2)).take j).length ≤ j := List.length_take_le _ _
        unfold keysOf at e1
        exact small1000 (by rw [List.length_nil] at e2; omega)
      -- what stands behind the store, whatever the course
      have next : ∀ (H3 : Hp) (v : V), Same H' H3 → CourseV H3 v (courseN (es.map (·.2)) (netK pe.2)) → ∃ (v5 v6 : Option V) (bs' : List ((Nat × Nat) × V)), ([some (V.ref sa), some (V.ref L), some (V.int i), some (V.int y), some (V.ref B), some (V.ref q), some (V.int pe.2.dist)] : L2.St) = [some (.ref sa), some (.ref L), some (.int i), some (.int y), some (.ref B), v5, v6] ∧
          Same H (upd H3 B (.dT (putK (bKvs bs) (keyT (netK pe.2)) v))) ∧ upd H3 B (.dT (putK (bKvs bs) (keyT (netK pe.2)) v)) B = some (.dT (bKvs bs')) ∧ bs'.map (·.1) = keysOf ((ps.map (·.2)).take (j + 1)) ∧ ∀ p ∈ bs', CourseV (upd H3 B (.dT (putK (bKvs bs) (keyT (netK pe.2)) v))) p.2 (courseN (es.map (·.2)) p.1) := by
        intro H3 v s3 hv
        obtain ⟨bs', f1, f2, f3⟩ := bKvs_put bs (netK pe.2) v
        have hb3 := s3 _ _ hb2
        have tk : ∀ b xs, H3 b = some (.tup xs) → upd H3 B (.dT (putK (bKvs bs) (keyT (netK pe.2)) v)) b = some (.tup xs) := fun b xs e => by
          rw [upd_ne (ne_of e hb3 fun z => nomatch z)]
          exact e
        refine ⟨_, _, bs', rfl, fun x o e => ?_, by rw [upd_same, f1], by rw [f2, ek, keysOf_more hpe2], fun p hp => ?_⟩
        · rw [upd_ne (ne_of_none e hB)]
          exact s3 _ _ (s2 _ _ e)
        · rcases f3 p hp with h | rfl
          · exact ((hc p h).kept fun b xs e => s3 _ _ e).kept tk
          · exact hv.kept tk
      refine ⟨_, rfl, sa, C.S, dx, _, _, rfl, h1, T.cl, T.n4, rfl, ta, dz, _, rfl, z1, rfl, _, rfl, ta, d, q, es, netK pe.2, rfl, S2.tb, s2 _ _ w2, fun en => ?_, fun e he u hu' => ?_⟩
      · refine ⟨_, rfl, _, rfl, B, _, rfl, DPut.t (k := keyT (netK pe.2)) hb2 (s2 _ _ w2) blen, ?_⟩
        refine next H' .non (Same.refl _) ?_
        have e0 : courseN (es.map (·.2)) (netK pe.2) = none := by
          show (Ra54.routeOf (es.map (·.2)) pe.2.net pe.2.bits).map _ = none
          rw [findE_none.mp en]
          rfl
        rw [e0]
        rfl
      · have s3 := same_new (o := tupC e.2) hu'
        refine ⟨_, rfl, _, rfl, B, _, rfl, DPut.t (k := keyT (netK pe.2)) (s3 _ _ hb2) (s3 _ _ (s2 _ _ w2)) blen, ?_⟩
        refine next _ _ s3 ?_
        have e0 : courseN (es.map (·.2)) (netK pe.2) = some (e.2.dist, e.2.link, e.2.via) := by
          show (Ra54.routeOf (es.map (·.2)) pe.2.net pe.2.bits).map _ = _
          rw [(findE_some he).2.2]
          rfl
        rw [e0]
        exact ⟨u, rfl, upd_same⟩
    rintro σ H2 ⟨v5, v6, bs, rfl, s2, hb2, ek, hc⟩
    rw [List.length_map, List.take_of_length_le (by rw [List.length_map]; exact Nat.le_refl _)] at ek
    have bnd : (bs.map (·.1)).Nodup := by rw [ek]; exact nodup_keysOf _
    have nLF : ¬ SFoot sa pl ta d es L := fun h => by
      rcases h with h | h | h
      · obtain ⟨dx, q⟩ := S.ob
        rw [← h, hL] at q
        cases q
      · exact nL h
      · have q : (1 : Nat) = 11 ∨ (1 : Nat) = 3 ∨ (1 : Nat) = 17 := S.tb.kinds _ _ h hL
        omega
    -- for network, far in offers: self.table.offer(..)
    refine ⟨_, rfl, L, rfl, ⟨_, SqL.of (s2 _ _ hL)⟩, for_list (K := K) (a := L) (xs := ps.map fun x => V.ref x.1) (fun j σ H' => ∃ (v5 v6 : Option V) (es' : Ents), σ = [some (.ref sa), some (.ref L), some (.int i), some (.int y), some (.ref B), v5, v6] ∧
        SesAt C H' sa pl ta d es' b { st with routes := ((ps.map (·.2)).take j).foldl (Ra54.offered st.now i y) st.routes } ∧ es'.map (·.2) = ((ps.map (·.2)).take j).foldl (offU st.now i y) (es.map (·.2)) ∧
        FootIn sa pl ta d es es' H ∧ Kept (SFoot sa pl ta d es) H H' ∧ H' B = some (.dT (bKvs bs)) ∧ ¬ SFoot sa pl ta d es' B ∧ ∀ b xs, H2 b = some (.tup xs) → H' b = some (.tup xs))
      ⟨v5, v6, es, rfl, S.same s2, rfl, FootIn.of fun _ q => .inl q, Kept.same s2, hb2, fun h => nBS B h rfl, fun _ _ q => q⟩ (fun j σ H' _ ⟨_, _, _, _, _, _, _, kp, _⟩ => SqL.of (kp _ _ hL nLF)) ?_ ?_⟩
    · rintro j x σ H' hj ⟨w5, w6, es', rfl, S', er, fi, kp, hb', nB', tk⟩
      obtain ⟨pe, hpe, rfl⟩ : ∃ pe, ps[j]? = some pe ∧ x = V.ref pe.1 := by
        rw [List.getElem?_map] at hj
        cases q : ps[j]? with
        | none => rw [q] at hj; cases hj
        | some e => rw [q] at hj; exact ⟨e, rfl, (Option.some.inj hj).symm⟩
      obtain ⟨⟨q, w1, w2⟩, d1, d16, d32⟩ := hps pe (List.mem_of_getElem? hpe)
      have hpe2 : (ps.map (·.2))[j]? = some pe.2 := by rw [List.getElem?_map, hpe]; rfl
      have etk : (ps.map (·.2)).take (j + 1) = (ps.map (·.2)).take j ++ [pe.2] := by rw [List.take_add_one, hpe2]; rfl
      obtain ⟨dx, h1⟩ := S'.ob
      obtain ⟨dz, z1⟩ := S'.tb.ob
      refine ⟨pe.1, _, rfl, SqT.of (tk _ _ (s2 _ _ w1)), rfl, _, _, rfl, _, _, rfl, rfl, ?_⟩
      refine ⟨_, rfl, sa, C.S, dx, _, _, rfl, h1, T.cl, T.n4, rfl, ta, dz, _, rfl, z1, rfl, _, rfl, _, rfl, _, rfl, _, rfl, _, rfl, sa, C.S, dx, _, _, rfl, h1, T.cl, T.n2, rfl, ?_⟩
      refine ⟨ta, d, q, es', pe.2, i, y, st.now, rfl, S'.tb, tk _ _ (s2 _ _ w2), d1, d16, d32, hy, fun H3 es3 TA3 er3 fo3 k3 => ?_⟩
      have S3 := S'.table (rs' := Ra54.offered st.now i y (((ps.map (·.2)).take j).foldl (Ra54.offered st.now i y) st.routes) pe.2) TA3 (by rw [er3]; exact S'.od.off st.now i y pe.2) k3
      have sub : ∀ z, Foot ta d es' z → SFoot sa pl ta d es' z := fun z hz => .inr (.inr hz)
      refine ⟨_, _, es3, rfl, ?_, ?_, ?_, ?_, k3 _ _ hb' fun z => nB' (sub _ z), ?_, fun c xs e => k3 _ _ (tk _ _ e) fun z => ?_⟩
      · rw [etk, List.foldl_append]
        exact S3
      · rw [etk, List.foldl_append, ← er]
        exact er3
      · intro c o e n m
        have hc' := kp c o e n
        rcases m with m | m | m
        · exact n (.inl m)
        · exact n (.inr (.inl m))
        · rcases fo3 c m with m | m
          · exact fi c o e n (sub _ m)
          · rw [m] at hc'
            cases hc'
      · intro c o e n
        exact k3 c o (kp c o e n) fun z => fi c o e n (sub _ z)
      · rintro (m | m | m)
        · exact nB' (.inl m)
        · exact nB' (.inr (.inl m))
        · rcases fo3 B m with m | m
          · exact nB' (sub _ m)
          · rw [m] at hb'
            cases hb'
      · have q : (2 : Nat) = 11 ∨ (2 : Nat) = 3 ∨ (2 : Nat) = 17 := S'.tb.kinds _ _ z (tk _ _ e)
        omega
    rintro σ H3 ⟨w5, w6, es', rfl, S', er, fi, kp, hb', nB', tk⟩
    rw [List.length_map, List.take_of_length_le (by rw [List.length_map]; exact Nat.le_refl _)] at S' er
    have hc3 : ∀ p ∈ bs, CourseV H3 p.2 (courseN (es.map (·.2)) p.1) := fun p hp => (hc p hp).kept tk
    -- [network for network in before if ..], before locked
    refine ⟨B, _, hb', trivial, fun od => ?_⟩
    have S4 : SesAt C (upd H3 B (.frz od (.dT (bKvs bs)))) sa pl ta d es' b _ := S'.kept (M := (· = B)) Kept.me (fun z hz e => nB' (e ▸ hz)) fun c o e z => by
      rw [e, hb'] at z
      cases z
      exact ⟨(by show (3 : Nat) ≠ 12; decide), (by show (3 : Nat) ≠ 2; decide)⟩
    have tk4 : ∀ c xs, H3 c = some (.tup xs) → upd H3 B (.frz od (.dT (bKvs bs))) c = some (.tup xs) := fun c xs e => by
      rw [upd_ne (ne_of e hb' fun z => nomatch z)]
      exact e
    have hc4 : ∀ p ∈ bs, CourseV (upd H3 B (.frz od (.dT (bKvs bs)))) p.2 (courseN (es.map (·.2)) p.1) := fun p hp => (hc3 p hp).kept tk4
    have hB4 : upd H3 B (.frz od (.dT (bKvs bs))) B = some (.frz od (.dT (bKvs bs))) := upd_same
    generalize hH4 : upd H3 B (.frz od (.dT (bKvs bs))) = H4 at S4 tk4 hc4 hB4 ⊢
    refine ⟨_, rfl, B, od, rfl, .inr ⟨_, hB4, fun D hD => ?_⟩⟩
    have blen : (bKvs bs).length = bs.length := by unfold bKvs; rw [List.length_map]
    refine lc_it (walk_keysT (d := B) (o := od) (kvs := bKvs bs)) (fun j H' => ∃ acc : List V, H' D = some (.lst acc) ∧ acc.length = ((bs.take j).filter fun p => decide (courseN (es'.map (·.2)) p.1 ≠ courseN (es.map (·.2)) p.1)).length ∧ acc.length ≤ j ∧ Same H4 H')
      ⟨[], upd_same, rfl, Nat.le_refl _, same_new hD⟩ (fun j H' _ ⟨_, _, _, _, s⟩ => s _ _ hB4) (fun j x H5 H6 hj ⟨acc, a1, a2, a3, s5⟩ hy => ?_) (fun H5 ⟨acc, a1, a2, a3, s5⟩ => ?_)
    · obtain ⟨rfl, kk, vv, q, hkv, rfl, hq⟩ := hy
      obtain ⟨p, hp, rfl, rfl⟩ : ∃ p, bs[j]? = some p ∧ kk = keyT p.1 ∧ vv = p.2 := by
        unfold bKvs at hkv
        rw [List.getElem?_map] at hkv
        cases z : bs[j]? with
        | none => rw [z] at hkv; cases hkv
        | some p => rw [z] at hkv; cases hkv; exact ⟨p, rfl, rfl, rfl⟩
      have hpm := List.mem_of_getElem? hp
      have S5 := S4.same s5
      obtain ⟨dx, h1⟩ := S5.ob
      obtain ⟨dz, z1⟩ := S5.tb.ob
      have etk : bs.take (j + 1) = bs.take j ++ [p] := by rw [List.take_add_one, hp]; rfl
      -- what stands behind the test
      have next : ∀ (H7 : Hp) (v : V), Same H6 H7 → CourseV H7 v (courseN (es'.map (·.2)) p.1) → ∃ a v2, V.ref B = V.ref a ∧ DGet H7 a (.ref q) (some v2) ∧ rNeD K v v2 H7 fun x H8 => ∃ k, x = .bl k ∧ (if k = true then (∃ v0 : V, (some (some (V.ref q)) : Option (Option V)) = some (some v0) ∧ ∃ acc, H8 D = some (.lst acc) ∧ acc.length < sizeLine ∧ ∃ acc' : List V, upd H8 D (.lst (acc ++ [v0])) D = some (.lst acc') ∧ acc'.length = ((bs.take (j + 1)).filter fun p => decide (courseN (es'.map (·.2)) p.1 ≠ courseN (es.map (·.2)) p.1)).length ∧ acc'.length ≤ j + 1 ∧ Same H4 (upd H8 D (.lst (acc ++ [v0]))))
          else ∃ acc : List V, H8 D = some (.lst acc) ∧ acc.length = ((bs.take (j + 1)).filter fun p => decide (courseN (es'.map (·.2)) p.1 ≠ courseN (es.map (·.2)) p.1)).length ∧ acc.length ≤ j + 1 ∧ Same H4 H8) := by
        intro H7 v s7 hv
        have s47 := s5.trans s7
        have ev := bKvs_val bnd hp
        refine ⟨B, p.2, rfl, .inr ⟨bKvs bs, keyT p.1, q, .inr ⟨od, s47 _ _ hB4⟩, rfl, s7 _ _ hq, ev.symm⟩, ?_⟩
        have hv2 := (hc4 p hpm).kept fun b xs e => s47 _ _ e
        refine ⟨_, _, hv.dp, hv2.dp, cData_shaped _, cData_shaped _, _, rfl, ?_⟩
        rw [cData_eqv]
        have efl : ((bs.take (j + 1)).filter fun p => decide (courseN (es'.map (·.2)) p.1 ≠ courseN (es.map (·.2)) p.1)).length = ((bs.take j).filter fun p => decide (courseN (es'.map (·.2)) p.1 ≠ courseN (es.map (·.2)) p.1)).length + (if courseN (es'.map (·.2)) p.1 = courseN (es.map (·.2)) p.1 then 0 else 1) := by
          rw [etk, List.filter_append, List.length_append]
          refine congrArg (_ + ·) ?_
          by_cases c : courseN (es'.map (·.2)) p.1 = courseN (es.map (·.2)) p.1
          · rw [if_pos c]
            rw [List.filter_cons_of_neg (by simp [c])]
            rfl
          · rw [if_neg c]
            rw [List.filter_cons_of_pos (by simp [c])]
            rfl
        by_cases c : courseN (es'.map (·.2)) p.1 = courseN (es.map (·.2)) p.1
        · rw [decide_eq_true c]
          refine iteF ⟨acc, s7 _ _ a1, ?_, by omega, s47⟩
          rw [efl, if_pos c, a2, Nat.add_zero]
        · rw [decide_eq_false c]
          refine iteT ⟨_, rfl, acc, s7 _ _ a1, ?_, acc ++ [V.ref q], upd_same, ?_, ?_, fun z o e => ?_⟩
          · have : bs.length ≤ 64 := by
              have e1 := congrArg List.length ek
              have e2 := keysOf_len (ps.map (·.2)) []
              rw [List.length_map] at e1 e2
              unfold keysOf at e1
              rw [List.length_nil] at e2
              omega
            exact small1000 (by omega)
          · rw [efl, if_neg c, List.length_append, a2]
            rfl
          · rw [List.length_append]
            show acc.length + 1 ≤ j + 1
            omega
          · rw [upd_ne (ne_of_none e hD)]
            exact s47 _ _ e
      refine ⟨rfl, ?_⟩
      refine ⟨_, rfl, sa, C.S, dx, _, _, rfl, h1, T.cl, T.n4, rfl, ta, dz, _, rfl, z1, rfl, _, rfl, ta, d, q, es', p.1, rfl, S5.tb, hq, fun en => ?_, fun e he u hu' => ?_⟩
      · refine ⟨_, rfl, _, rfl, ?_⟩
        have e0 : courseN (es'.map (·.2)) p.1 = none := by
          show (Ra54.routeOf (es'.map (·.2)) p.1.1 p.1.2).map _ = none
          rw [findE_none.mp en]
          rfl
        exact next H6 .non (Same.refl _) (by rw [e0]; rfl)
      · refine ⟨_, rfl, _, rfl, ?_⟩
        have e0 : courseN (es'.map (·.2)) p.1 = some (e.2.dist, e.2.link, e.2.via) := by
          show (Ra54.routeOf (es'.map (·.2)) p.1.1 p.1.2).map _ = _
          rw [(findE_some he).2.2]
          rfl
        exact next _ (.ref u) (same_new hu') (by rw [e0]; exact ⟨u, rfl, upd_same⟩)
    · -- len of it
      rw [blen] at a2
      refine ⟨s5 _ _ hB4, D, _, rfl, .inl (SqL.of (xs := acc) ?_), ?_⟩
      · rw [upd_ne (fun z => by rw [z, hB4] at hD; cases hD)]
        exact a1
      rw [List.take_of_length_le (Nat.le_refl _)] at a2
      have ecount : acc.length = Ra54.differ st.routes ((ps.map (·.2)).foldl (Ra54.offered st.now i y) st.routes) := by
        rw [hear_count S.od, a2, ← er, ← ek, List.filter_map, List.length_map]
        rfl
      have S5 := S4.same s5
      have hB5 := s5 _ _ hB4
      refine wantV (Q := Q) (congrArg V.int (show (acc.length : Int) = _ by rw [ecount])) (k _ es' (S5.kept (M := (· = B)) Kept.me (fun z hz e => nB' (e ▸ hz)) fun c o e z => ?_) fi fun c o e n => ?_)
      · rw [e, hB5] at z
        cases z
        exact ⟨(by show (0 : Nat) ≠ 12; decide), (by show (0 : Nat) ≠ 2; decide)⟩
      · have nc : c ≠ B := ne_of_none e hB
        rw [upd_ne nc]
        refine s5 _ _ ?_
        rw [← hH4, upd_ne nc]
        exact kp c o e n
end
end NR
end

section
set_option Elab.async false
set_option maxRecDepth 100000
set_option maxHeartbeats 4000000
/-! session.py: hear -/
namespace NR
open PySem PySem.Spec L2
open Ra54 (Route Link)
theorem offersN_ok : ∀ (n : Nat) (l : List Nat) (es : List Ent), offersN n l = some es → es.length = n ∧ ∀ e ∈ es, 1 ≤ e.dist ∧ e.dist ≤ 16 ∧ e.bits ≤ 32
  | 0, _, es, h => by
    cases h
    exact ⟨rfl, fun e he => nomatch he⟩
  | n + 1, l, es, h => by
    have h' : ((offerN (l.take 8)).bind fun e => (offersN n (l.drop 8)).map fun es => e :: es) = some es := h
    cases q : offerN (l.take 8) with
    | none => rw [q] at h'; cases h'
    | some e =>
      rw [q] at h'
      cases q2 : offersN n (l.drop 8) with
      | none =>
        have h2 : ((offersN n (l.drop 8)).map fun es => e :: es) = some es := h'
        rw [q2] at h2
        cases h2
      | some r =>
        have h2 : ((offersN n (l.drop 8)).map fun es => e :: es) = some es := h'
        rw [q2] at h2
        cases h2
        obtain ⟨e1, e2⟩ := offersN_ok n _ r q2
        refine ⟨by rw [List.length_cons, e1], fun x hx => ?_⟩
        rcases List.mem_cons.mp hx with rfl | hx
        · exact ⟨(offerN_ok q).2.2.1, (offerN_ok q).2.2.2, (offerN_ok q).1⟩
        · exact e2 x hx
theorem readN_ok {l : List Nat} {es : List Ent} (h : readN l = some es) : es.length ≤ 64 ∧ ∀ e ∈ es, 1 ≤ e.dist ∧ e.dist ≤ 16 ∧ e.bits ≤ 32 := by
  unfold readN at h
  split at h
  · rename_i c
    obtain ⟨e1, e2⟩ := offersN_ok _ _ _ h
    exact ⟨by omega, e2⟩
  · cases h
def spSHear (C : Cl) (K : PySem.W.Frag) : Sp := fun vs H Q _ => ∃ (sa pl ta d a : Addr) (es : Ents) (b : Bool) (s : St0) (i x : Nat) (ns : List Nat), vs = [.ref sa, .int i, .int x, .ref a] ∧ SesAt C H sa pl ta d es b s ∧ SqL K H a (vN ns) ∧ Small ns ∧ ns.length ≤ 2048 ∧
  After C H sa pl ta d es b s (.hear i x (bytesOf ns)) Q
section
variable {P : Program} {w : World} {K : PySem.W.Frag} {mg : Str → Option Value} {base : Heap} {C : Cl}
theorem scSHear : FnScope ["self", "i", "neighbour", "octets", "port", "offers"] ["self", "i", "neighbour", "octets"] (defScope sSHear) := ⟨rfl, rfl, rfl, by decide +kernel, rfl, by decide +kernel, by decide +kernel⟩
theorem ok_sHear {f : Addr} {fd : FuncData} (F : Fun K "hear" "Session.hear" sSHear f fd) (T : TxtS K mg C) (NI : HasF P w K mg base "is_host" 1 ["address"] spIsHost) (NO : HasF P w K mg base "is_of" 2 ["address", "network"] (spIsOf K)) (NM : HasF P w K mg base "offers_from" 3 ["octets"] (spOffers K))
    (MT : HasM P w K mg base C.S "take_in" 4 ["self", "offers", "i", "neighbour"] (spSTake C)) : FnOk P w K mg base CX0 5 f fd ["self", "i", "neighbour", "octets"] (spSHear C K) := by
  refine F.ok scSHear (fun vs H Q E h => ?_) (fun cdv A outer s H vs Q E hr h => ?_)
  · obtain ⟨sa, pl, ta, d, a, es, b, st, i, x, ns, rfl, _⟩ := h
    rfl
  · obtain ⟨sa, pl, ta, d, a, es, b, st, i, x, ns, rfl, S, hS, hs, hl, k⟩ := h
    obtain ⟨dx, h1⟩ := S.ob
    obtain ⟨vs, hpl, l1, l2, hp⟩ := S.pt
    obtain ⟨g1, gd1, m1, kp1, b1, G1⟩ := NI.ex
    obtain ⟨g2, gd2, m2, kp2, b2, G2⟩ := NO.ex
    obtain ⟨g3, gd3, m3, kp3, b3, G3⟩ := NM.ex
    obtain ⟨g4, gd4, m4, b4, G4⟩ := MT.ex
    have hr1 : Room 1 _ := hr.mono (by decide)
    have hr2 : Room 2 _ := hr.mono (by decide)
    have hr3 : Room 3 _ := hr.mono (by decide)
    refine ⟨_, pss_cons (ps_if (PW.pt (pw_or (pt_cmpR op_gt (pv 1) (pe_gi T.last) (nomark _)) (pw_or1 (pt_not (pt_val (pe_call G1 hr1 (by rfl) m1 kp1 b1 .nil pass0 (pa_cons (pv 2) pa_nil))))))) (pss_one (ps_ret (pe_un un_neg pe_int))) pss_nil)
      (pss_cons (ps_set (i := 4) scSHear.nd rfl (.inl rfl) (pe_ix ix_list (pe_fld (pv 0) rfl) (pv 1) (fun _ _ => rfl)))
      (pss_cons (ps_if (pt_cmp (pc_isN (pv 4))) (pss_one (ps_ret (pe_un un_neg pe_int))) pss_nil)
      (pss_cons (ps_if (PW.pt (pw_or (pt_cmpR op_eq (pv 2) (pe_fld (pv 4) rfl) (nomark _)) (pw_or1 (pt_not (pt_val (pe_call G2 hr2 (by rfl) m2 kp2 b2 .nil pass0 (pa_cons (pv 2) (pa_cons (pe_fld (pv 4) rfl) pa_nil)))))))) (pss_one (ps_ret (pe_un un_neg pe_int))) pss_nil)
      (pss_cons (ps_set (i := 5) scSHear.nd rfl (.inl rfl) (pe_call G3 hr3 (by rfl) m3 kp3 b3 .nil pass0 (pa_cons (pv 3) pa_nil)))
      (pss_cons (ps_if (pt_cmp (pc_isN (pv 5))) (pss_one (ps_ret (pe_un un_neg pe_int))) pss_nil)
      (pss_one (ps_ret (pe_meth (pv 0) T.cl m4 G4 hr b4 .nil pass0 (pa_cons (pv 5) (pa_cons (pv 1) (pa_cons (pv 2) pa_nil))))))))))), ?_⟩
    have hALL : Ra54.ALL = 4294967295 := by decide
    have hstep : Ra54.step (some st) (.hear i x (bytesOf ns)) = if 3 < i ∨ x = 0 ∨ Ra54.ALL ≤ x then (some st, Ra54.only (-1))
        else match Ra54.linkAt st i with
          | none => (some st, Ra54.only (-4))
          | some l =>
            if Ra54.netOf l.bits x ≠ Ra54.netOf l.bits l.address ∨ x = l.address then (some st, Ra54.only (-2))
            else match readN ns with
              | none => (some st, Ra54.only (-3))
              | some es => (some { st with routes := es.foldl (Ra54.offered st.now i x) st.routes }, Ra54.only (Ra54.differ st.routes (es.foldl (Ra54.offered st.now i x) st.routes))) := by
      rw [← read_eq hs]
      rfl
    refine ⟨_, rfl, _, _, rfl, rfl, _, rfl, ?_⟩
    by_cases c1 : 3 < i
    · rw [decide_eq_true (show (3 : Int) < (i : Int) by omega)]
      refine iteT (iteT ⟨_, rfl, k.same ?_ S (Same.refl H)⟩)
      rw [hstep, if_pos (.inl c1)] <;> rfl
    rw [decide_eq_false (show ¬ (3 : Int) < (i : Int) by omega)]
    refine iteF ⟨_, rfl, x, rfl, _, rfl, ?_⟩
    by_cases c2 : 1 ≤ x ∧ x ≤ 4294967294
    case neg =>
      rw [decide_eq_false c2]
      refine iteT ⟨_, rfl, k.same ?_ S (Same.refl H)⟩
      rw [hstep, if_pos (by omega)] <;> rfl
    rw [decide_eq_true c2]
    refine iteF ?_
    replace hstep := hstep.trans (if_neg (by omega))
    have hv : vs[i]? = some vs[i] := List.getElem?_eq_getElem (by omega)
    have ho : st.links[i]? = some st.links[i] := List.getElem?_eq_getElem (by omega)
    have hP := hp i _ _ hv ho
    generalize vs[i] = v at hv hP
    generalize st.links[i] = o at ho hP
    rw [link_at ho] at hstep
    refine ⟨_, rfl, sa, C.S, dx, _, _, rfl, h1, T.cl, T.n3, rfl, _, rfl, pl, _, _, _, rfl, rfl, SqL.of hpl, atI_nat hv, _, rfl, _, rfl, ?_⟩
    cases o with
    | none =>
      rw [show v = V.non from hP]
      refine iteT ⟨_, rfl, k.same ?_ S (Same.refl H)⟩
      rw [hstep]
    | some l =>
      obtain ⟨pa, dy, t, rfl, q1, q2, q3, q4⟩ := hP
      refine iteF ?_
      refine ⟨_, rfl, _, rfl, pa, C.P, dy, _, _, rfl, q1, T.pcl, T.p1, rfl, rfl, _, rfl, ?_⟩
      rw [eqI]
      by_cases c3 : x = l.address
      · rw [decide_eq_true c3]
        refine iteT (iteT ⟨_, rfl, k.same ?_ S (Same.refl H)⟩)
        exact hstep.trans (if_pos (.inr c3))
      rw [decide_eq_false c3]
      refine iteF ⟨_, rfl, _, rfl, pa, C.P, dy, _, _, rfl, q1, T.pcl, T.p2, rfl, x, _, t, rfl, q2, by omega, q3, fun u hu' => ⟨_, rfl, ?_⟩⟩
      have s1 := same_new (o := tupN (Ra54.netOf l.bits x, l.bits)) hu'
      have s1' : Same H (upd H u (tupN (Ra54.netOf (Ra54.netOf l.bits l.address, l.bits).2 x, (Ra54.netOf l.bits l.address, l.bits).2))) := s1
      generalize upd H u (tupN (Ra54.netOf (Ra54.netOf l.bits l.address, l.bits).2 x, (Ra54.netOf l.bits l.address, l.bits).2)) = H1 at s1' ⊢
      by_cases c4 : Ra54.netOf l.bits x = Ra54.netOf l.bits l.address
      case neg =>
        rw [decide_eq_false c4]
        refine iteT ⟨_, rfl, k.same ?_ S s1'⟩
        exact hstep.trans (if_pos (.inl c4))
      rw [decide_eq_true c4]
      refine iteF ?_
      replace hstep := hstep.trans (if_neg fun z => z.elim (fun w => w c4) c3)
      -- offers
      refine ⟨_, rfl, a, ns, rfl, s1'.seq hS, hs, hl, fun en H2 s2 => ?_, fun os eo H2 L ps s2 nL hL e2 hof => ?_⟩
      · refine ⟨_, rfl, _, rfl, ?_⟩
        refine iteT ⟨_, rfl, k.same ?_ S (s1'.trans s2)⟩
        rw [en] at hstep
        exact hstep
      · refine ⟨_, rfl, _, rfl, ?_⟩
        refine iteF ?_
        rw [eo] at hstep
        have s12 := s1'.trans s2
        have S2 := S.same s12
        obtain ⟨dz, z1⟩ := S2.ob
        obtain ⟨ok1, ok2⟩ := readN_ok eo
        refine ⟨_, rfl, sa, dz, _, rfl, z1, rfl, _, rfl, _, rfl, _, rfl, sa, pl, ta, d, L, es, b, st, i, x, ps, rfl, S2, hL, fun z => ?_, ?_, fun y hy => ?_, by omega, fun H3 es3 S3 f3 k3 => ?_⟩
        · rw [z, s1' _ _ hpl] at nL
          cases nL
        · rw [← e2, List.length_map] at ok1
          exact ok1
        · have hm : y.2 ∈ os := by rw [← e2]; exact List.mem_map.mpr ⟨y, hy, rfl⟩
          exact ⟨hof y hy, ok2 _ hm⟩
        · rw [e2] at S3 ⊢
          exact k H3 es3 _ _ hstep S3 (fun c o e n => f3 c o (s12 _ _ e) n) fun c o e n => k3 c o (s12 _ _ e) n
end
end NR
end

section
set_option Elab.async false
set_option maxRecDepth 100000
set_option maxHeartbeats 4000000
/-! links.py: the reader -/
namespace NR
open PySem PySem.Spec L2

abbrev cRd : Stmt := top 44
abbrev sRdInit : Stmt := inClass cRd 0
abbrev sRMore : Stmt := inClass cRd 1
abbrev sRTake : Stmt := inClass cRd 2
abbrev sROne : Stmt := inClass cRd 3
abbrev sRRow : Stmt := inClass cRd 4

structure TxtRd (K : PySem.W.Frag) (mg : Str → Option Value) (CR : Addr) : Prop where
  cl : Cls K CR
  n1 : NoAttr K CR "calls"
  n2 : NoAttr K CR "at"
  mgC : mg "Reader" = some (.ref CR)
  len : mg "len" = none

/-- a reader of the list at ca stands at ra, at the place k -/
def RdAt (CR : Addr) (H : Hp) (ra ca : Addr) (k : Nat) : Prop := ∃ dx, H ra = some (.ins CR dx [("calls", .ref ca), ("at", .int k)])
theorem RdAt.kept {CR ra ca : Addr} {k : Nat} {H H' : Hp} {M : Addr → Prop} (R : RdAt CR H ra ca k) (h : Kept M H H') (n : ¬ M ra) : RdAt CR H' ra ca k := let ⟨dx, e⟩ := R; ⟨dx, h _ _ e n⟩
theorem RdAt.same {CR ra ca : Addr} {k : Nat} {H H' : Hp} (R : RdAt CR H ra ca k) (h : Same H H') : RdAt CR H' ra ca k := let ⟨dx, e⟩ := R; ⟨dx, h _ _ e⟩

def spRdInit (CR : Addr) : Sp := fun vs H Q _ => ∃ (p dx ca : Addr), vs = [.ref p, .ref ca] ∧ H p = some (.ins CR dx []) ∧ ∀ H', RdAt CR H' p ca 0 → Kept (· = p) H H' → Q .non H'
def spRMore (CR : Addr) (K : PySem.W.Frag) : Sp := fun vs H Q _ => ∃ (ra ca : Addr) (k : Nat) (ns : List Nat), vs = [.ref ra] ∧ RdAt CR H ra ca k ∧ SqL K H ca (vN ns) ∧ Q (.bl (decide (k < ns.length))) H
/-- so many numbers are taken: a new list -/
def spRTake (CR : Addr) (K : PySem.W.Frag) : Sp := fun vs H Q _ => ∃ (ra ca : Addr) (k m : Nat) (ns : List Nat), vs = [.ref ra, .int m] ∧ RdAt CR H ra ca k ∧ SqL K H ca (vN ns) ∧
  ∀ H' p, H p = none → H' p = some (.lst (vN ((ns.drop k).take m))) → RdAt CR H' ra ca (k + m) → Kept (· = ra) H H' → Q (.ref p) H'
def spROne (CR : Addr) (K : PySem.W.Frag) : Sp := fun vs H Q _ => ∃ (ra ca : Addr) (k n : Nat) (ns : List Nat), vs = [.ref ra] ∧ RdAt CR H ra ca k ∧ SqL K H ca (vN ns) ∧ ns[k]? = some n ∧
  ∀ H', RdAt CR H' ra ca (k + 1) → Kept (· = ra) H H' → Q (.int n) H'
def spRRow (CR : Addr) (K : PySem.W.Frag) : Sp := fun vs H Q _ => ∃ (ra ca : Addr) (k n : Nat) (ns : List Nat), vs = [.ref ra] ∧ RdAt CR H ra ca k ∧ SqL K H ca (vN ns) ∧ ns[k]? = some n ∧
  ∀ H' p, H p = none → H' p = some (.lst (vN ((ns.drop (k + 1)).take n))) → RdAt CR H' ra ca (k + 1 + n) → Kept (· = ra) H H' → Q (.ref p) H'
section
variable {P : Program} {w : World} {K : PySem.W.Frag} {mg : Str → Option Value} {base : Heap} {CR : Addr}
theorem seq_moved {K : PySem.W.Frag} {CR ra ca : Addr} {k : Nat} {H H' : Hp} {a : Addr} {xs : List V} (h : SqL K H a xs) (R : RdAt CR H ra ca k) (q : Kept (· = ra) H H') : SqL K H' a xs := by
  obtain ⟨dx, z⟩ := R
  rcases h with (h | ⟨o, h⟩) | h
  · exact .inl (.inl (q _ _ h fun e => by rw [e, z] at h; cases h))
  · exact .inl (.inr ⟨o, q _ _ h fun e => by rw [e, z] at h; cases h⟩)
  · exact .inr h
theorem scRdInit : FnScope ["self", "calls"] ["self", "calls"] (defScope sRdInit) := ⟨rfl, rfl, rfl, by decide +kernel, rfl, by decide +kernel, by decide +kernel⟩
theorem ok_rdInit {f : Addr} {fd : FuncData} (F : Fun K "__init__" "Reader.__init__" sRdInit f fd) (T : TxtRd K mg CR) : FnOk P w K mg base CX0 1 f fd ["self", "calls"] (spRdInit CR) := by
  refine F.ok scRdInit (fun vs H Q E h => ?_) (fun cdv A outer s H vs Q E hr h => ?_)
  · obtain ⟨p, dx, ca, rfl, _⟩ := h
    rfl
  · obtain ⟨p, dx, ca, rfl, hp, k⟩ := h
    refine ⟨_, pss_cons (ps_fld (pv 0) (pv 1) rfl) (pss_one (ps_fld (pv 0) pe_int rfl)), ?_⟩
    refine ⟨_, rfl, _, rfl, p, CR, dx, [], rfl, hp, T.cl, T.n1, (by show 0 < 1000; decide), ?_⟩
    refine ⟨_, rfl, p, CR, dx, _, rfl, upd_same, T.cl, T.n2, (by show 1 < 1000; decide), ?_⟩
    simp only [upd_upd]
    exact k _ ⟨dx, upd_same⟩ (Kept.at' rfl)
theorem scRMore : FnScope ["self"] ["self"] (defScope sRMore) := ⟨rfl, rfl, rfl, by decide +kernel, rfl, by decide +kernel, by decide +kernel⟩
theorem ok_rMore {f : Addr} {fd : FuncData} (F : Fun K "has_more" "Reader.has_more" sRMore f fd) (T : TxtRd K mg CR) : FnOk P w K mg base CX0 1 f fd ["self"] (spRMore CR K) := by
  refine F.ok scRMore (fun vs H Q E h => ?_) (fun cdv A outer s H vs Q E hr h => ?_)
  · obtain ⟨ra, ca, k, ns, rfl, _⟩ := h
    rfl
  · obtain ⟨ra, ca, k, ns, rfl, ⟨dx, h1⟩, hS, q⟩ := h
    refine ⟨_, pss_one (ps_ret (pe_cmpR op_lt (pe_fld (pv 0) rfl) (pe_callB call_len_seq (by rfl) T.len PySem.boot_len (pa_cons (pe_fld (pv 0) rfl) pa_nil)) (nomark _))), ?_⟩
    refine ⟨_, rfl, ra, CR, dx, _, _, rfl, h1, T.cl, T.n2, rfl, _, rfl, ra, CR, dx, _, _, rfl, h1, T.cl, T.n1, rfl, ca, _, rfl, .inl hS, _, _, rfl, rfl, ?_⟩
    rw [vN_length]
    refine wantV (congrArg V.bl (decide_eq_decide.mpr ?_)) q
    omega
theorem scRTake : FnScope ["self", "many", "taken"] ["self", "many"] (defScope sRTake) := ⟨rfl, rfl, rfl, by decide +kernel, rfl, by decide +kernel, by decide +kernel⟩
theorem ok_rTake {f : Addr} {fd : FuncData} (F : Fun K "take" "Reader.take" sRTake f fd) (T : TxtRd K mg CR) : FnOk P w K mg base CX0 1 f fd ["self", "many"] (spRTake CR K) := by
  refine F.ok scRTake (fun vs H Q E h => ?_) (fun cdv A outer s H vs Q E hr h => ?_)
  · obtain ⟨ra, ca, k, m, ns, rfl, _⟩ := h
    rfl
  · obtain ⟨ra, ca, k, m, ns, rfl, ⟨dx, h1⟩, hS, q⟩ := h
    refine ⟨_, pss_cons (ps_set (i := 2) scRTake.nd rfl (.inl rfl) (pe_slice sl_list (pe_fld (pv 0) rfl) (po_some (pe_fld (pv 0) rfl)) (po_some (pe_op op_add (pe_fld (pv 0) rfl) (pv 1)))))
      (pss_cons (ps_fld (pv 0) (pe_op op_add (pe_fld (pv 0) rfl) (pv 1)) rfl) (pss_one (ps_ret (pv 2)))), ?_⟩
    refine ⟨_, rfl, ra, CR, dx, _, _, rfl, h1, T.cl, T.n1, rfl, _, rfl, ra, CR, dx, _, _, rfl, h1, T.cl, T.n2, rfl, _, rfl, _, rfl, ra, CR, dx, _, _, rfl, h1, T.cl, T.n2, rfl, _, rfl, _, _, rfl, rfl, _, rfl, ca, _, rfl, hS, fun p hp => ?_⟩
    have e : cutV (vN ns) (some (k : Int)) (some ((k : Int) + (m : Int))) = vN ((ns.drop k).take m) := by
      rw [show ((k : Int) + (m : Int)) = ((k + m : Nat) : Int) by omega, cut_mid, Nat.add_sub_cancel_left]
    rw [e]
    have np : ra ≠ p := ne_of_none h1 hp
    have h2 : upd H p (.lst (vN ((ns.drop k).take m))) ra = some (.ins CR dx [("calls", .ref ca), ("at", .int k)]) := by rw [upd_ne np]; exact h1
    refine ⟨_, rfl, ra, CR, dx, _, _, rfl, h2, T.cl, T.n2, rfl, _, rfl, _, _, rfl, rfl, _, rfl, ra, CR, dx, _, rfl, h2, T.cl, T.n2, (by show 2 < 1000; decide), ?_⟩
    refine ⟨_, rfl, q _ p hp (by rw [upd_ne np.symm, upd_same]) ⟨dx, ?_⟩ ((Kept.new hp).trans (Kept.at' rfl))⟩
    rw [upd_same, show ((k + m : Nat) : Int) = (k : Int) + (m : Int) by omega]
    rfl
theorem scROne : FnScope ["self"] ["self"] (defScope sROne) := ⟨rfl, rfl, rfl, by decide +kernel, rfl, by decide +kernel, by decide +kernel⟩
theorem drop_one {ns : List Nat} {k n : Nat} (h : ns[k]? = some n) : (ns.drop k).take 1 = [n] := by
  have e : (ns.drop k)[0]? = some n := by rw [List.getElem?_drop, Nat.add_zero]; exact h
  cases q : ns.drop k with
  | nil => rw [q] at e; cases e
  | cons x l =>
    rw [q] at e
    cases e
    rfl
theorem ok_rOne {f : Addr} {fd : FuncData} (F : Fun K "take_one" "Reader.take_one" sROne f fd) (T : TxtRd K mg CR) (M : HasM P w K mg base CR "take" 1 ["self", "many"] (spRTake CR K)) : FnOk P w K mg base CX0 2 f fd ["self"] (spROne CR K) := by
  refine F.ok scROne (fun vs H Q E h => ?_) (fun cdv A outer s H vs Q E hr h => ?_)
  · obtain ⟨ra, ca, k, n, ns, rfl, _⟩ := h
    rfl
  · obtain ⟨ra, ca, k, n, ns, rfl, R, hS, hn, q⟩ := h
    obtain ⟨g, gd, m, b, G⟩ := M.ex
    obtain ⟨dx, h1⟩ := R
    refine ⟨_, pss_one (ps_ret (pe_ix ix_list (pe_meth (pv 0) T.cl m G hr b .nil pass0 (pa_cons pe_int pa_nil)) pe_int (fun _ _ => rfl))), ?_⟩
    refine ⟨_, rfl, ra, dx, _, rfl, h1, rfl, ra, ca, k, 1, ns, rfl, ⟨dx, h1⟩, hS, fun H' p hp h2 R2 kp => ?_⟩
    rw [drop_one hn] at h2
    exact ⟨p, _, _, _, rfl, rfl, SqL.of h2, atI_nat (j := 0) rfl, q _ R2 kp⟩
theorem scRRow : FnScope ["self"] ["self"] (defScope sRRow) := ⟨rfl, rfl, rfl, by decide +kernel, rfl, by decide +kernel, by decide +kernel⟩
theorem ok_rRow {f : Addr} {fd : FuncData} (F : Fun K "take_row" "Reader.take_row" sRRow f fd) (T : TxtRd K mg CR) (M : HasM P w K mg base CR "take" 1 ["self", "many"] (spRTake CR K)) (M1 : HasM P w K mg base CR "take_one" 2 ["self"] (spROne CR K)) : FnOk P w K mg base CX0 3 f fd ["self"] (spRRow CR K) := by
  refine F.ok scRRow (fun vs H Q E h => ?_) (fun cdv A outer s H vs Q E hr h => ?_)
  · obtain ⟨ra, ca, k, n, ns, rfl, _⟩ := h
    rfl
  · obtain ⟨ra, ca, k, n, ns, rfl, R, hS, hn, q⟩ := h
    obtain ⟨g, gd, m, b, G⟩ := M.ex
    obtain ⟨g1, gd1, m1, b1, G1⟩ := M1.ex
    have hr1 : Room 1 _ := hr.mono (by decide)
    obtain ⟨dx, h1⟩ := R
    refine ⟨_, pss_one (ps_ret (pe_meth (pv 0) T.cl m G hr1 b .nil pass0 (pa_cons (pe_meth0 (pv 0) T.cl m1 G1 hr b1 .nil pass0) pa_nil))), ?_⟩
    refine ⟨_, rfl, ra, dx, _, rfl, h1, rfl, _, rfl, ra, dx, _, rfl, h1, rfl, ra, ca, k, n, ns, rfl, ⟨dx, h1⟩, hS, hn, fun H1 R1 k1 => ?_⟩
    refine ⟨ra, ca, k + 1, n, ns, rfl, R1, seq_moved hS ⟨dx, h1⟩ k1, fun H2 p hp h2 R2 k2 => q H2 p ?_ h2 R2 (k1.trans k2)⟩
    cases e : H p with
    | none => rfl
    | some o =>
      by_cases c : p = ra
      · obtain ⟨d1, z⟩ := R1
        rw [c, z] at hp
        cases hp
      · rw [k1 _ _ e c] at hp
        cases hp
end
end NR
end

section
set_option Elab.async false
set_option maxRecDepth 100000
set_option maxHeartbeats 4000000
/-! links.py: one call -/
namespace NR
open PySem PySem.Spec L2

abbrev sNext : Stmt := top 45
abbrev sAns : Stmt := top 46

/-- the module's tuple of whole numbers -/
def TupK (K : PySem.W.Frag) (mg : Str → Option Value) (x : Str) (ns : List Nat) : Prop := ∃ t, mg x = some (.ref t) ∧ ∀ H, SqT K H t (vN ns)
structure TxtL (K : PySem.W.Frag) (mg : Str → Option Value) : Prop where
  begin_ : MgI mg "BEGIN" 0
  link : MgI mg "LINK" 1
  down : MgI mg "DOWN" 2
  hear : MgI mg "HEAR" 3
  tick : MgI mg "TICK" 4
  way : MgI mg "WAY" 5
  routes : MgI mg "ROUTES" 6
  nums : TupK K mg "NUMBERS_OF_CALL" [1, 3, 1, 2, 1, 1, 0, 0]
  len : mg "len" = none

def isPort (o : HO) : Prop := ∃ CP dx v w, o = .ins CP dx [("address", v), ("network", w)]
theorem PortV.kept2 {CP : Addr} {H H' : Hp} {M : Addr → Prop} {v : V} {o : Option Ra54.Link} (h : PortV CP H v o) (k : Kept M H H') (n : ∀ b o, M b → H b = some o → ¬ isPort o ∧ kd o ≠ 2) : PortV CP H' v o := by
  cases o with
  | none => exact h
  | some l =>
    obtain ⟨a, dx, t, rfl, h1, h2, h3⟩ := h
    exact ⟨a, dx, t, rfl, k _ _ h1 (fun z => (n _ _ z h1).1 ⟨_, _, _, _, rfl⟩), k _ _ h2 (fun z => (n _ _ z h2).2 rfl), h3⟩
section
variable {C : Cl} {H H' : Hp} {sa pl ta d : Addr} {es : Ents} {b : Bool} {s : St0}
theorem SesAt.kept2 {M : Addr → Prop} (S : SesAt C H sa pl ta d es b s) (k : Kept M H H') (n : ∀ x, SFoot sa pl ta d es x → ¬ M x) (p : ∀ b o, M b → H b = some o → ¬ isPort o ∧ kd o ≠ 2) :
    SesAt C H' sa pl ta d es b s := by
  obtain ⟨dx, z⟩ := S.ob
  obtain ⟨vs, q, l1, l2, hp⟩ := S.pt
  exact ⟨⟨dx, k _ _ z (n _ (.inl rfl))⟩, ⟨vs, k _ _ q (n _ (.inr (.inl rfl))), l1, l2, fun i v o h1 h2 => (hp i v o h1 h2).kept2 k p⟩, S.tb.kept k fun x h => n x (.inr (.inr h)), S.od⟩
/-- what a session's own objects are -/
theorem SesAt.kinds (S : SesAt C H sa pl ta d es b s) {x : Addr} {o : HO} (h : SFoot sa pl ta d es x) (e : H x = some o) : kd o = 16 ∨ (x = pl ∧ kd o = 1) ∨ kd o = 11 ∨ kd o = 3 ∨ kd o = 17 := by
  rcases h with rfl | rfl | h
  · obtain ⟨dx, z⟩ := S.ob
    rw [z] at e
    cases e
    exact .inl rfl
  · obtain ⟨vs, q, _⟩ := S.pt
    rw [q] at e
    cases e
    exact .inr (.inl ⟨rfl, rfl⟩)
  · exact .inr (.inr (S.tb.kinds _ _ h e))
/-- a reader is none of the session's -/
theorem SesAt.no_reader {CR ra ca : Addr} {k : Nat} (S : SesAt C H sa pl ta d es b s) (R : RdAt CR H ra ca k) : ¬ SFoot sa pl ta d es ra := fun h => by
  obtain ⟨dx, z⟩ := R
  rcases S.kinds h z with q | ⟨_, q⟩ | q | q | q
  · exact absurd (show (12 : Nat) = 16 from q) (by decide)
  · exact absurd (show (12 : Nat) = 1 from q) (by decide)
  · exact absurd (show (12 : Nat) = 11 from q) (by decide)
  · exact absurd (show (12 : Nat) = 3 from q) (by decide)
  · exact absurd (show (12 : Nat) = 17 from q) (by decide)
theorem not_port {CR dx : Addr} {v w : V} : ¬ isPort (.ins CR dx [("calls", v), ("at", w)]) := fun ⟨_, _, _, _, e⟩ => by
  injection e with _ _ e
  injection e with e _
  injection e with e _
  exact absurd e (by decide +kernel)
/-- the reader has moved -/
theorem SesAt.moved {CR ra ca : Addr} {k : Nat} (S : SesAt C H sa pl ta d es b s) (R : RdAt CR H ra ca k) (q : Kept (· = ra) H H') : SesAt C H' sa pl ta d es b s := by
  have n := S.no_reader R
  obtain ⟨dx, z⟩ := R
  refine S.kept2 q (fun x hx e => n (e ▸ hx)) fun x o e h => ?_
  rw [e, z] at h
  cases h
  exact ⟨not_port, (by show (12 : Nat) ≠ 2; decide)⟩
end
/-- tracked and not the session's own before: so behind it, too -/
def FootTo (sa pl ta d : Addr) (es : Ents) (pl' ta' d' : Addr) (es' : Ents) (H : Hp) : Prop := ∀ x o, H x = some o → ¬ SFoot sa pl ta d es x → ¬ SFoot sa pl' ta' d' es' x
/-- one call: read to its end, done, answered -/
def NextTo (C : Cl) (CR : Addr) (H : Hp) (sa ra pl ta d ca : Addr) (es : Ents) (b : Bool) (s : St0) (k : Nat) (c : PC) (Q : VK) : Prop :=
  ∀ (H' : Hp) (p pl' ta' d' : Addr) (es' : Ents) (b' : Bool) (s' : St0), (∀ x o, H x = some o → ¬ SFoot sa pl ta d es x → x ≠ ra → x ≠ p) → H' p = some (.lst ((ansL (Ra54.step (oOf b s) c.call).2).map V.int)) → SesAt C H' sa pl' ta' d' es' b' s' → oOf b' s' = (Ra54.step (oOf b s) c.call).1 →
    RdAt CR H' ra ca (k + c.flatN.length) → FootTo sa pl ta d es pl' ta' d' es' H → Kept (fun x => SFoot sa pl ta d es x ∨ x = ra) H H' → Q (.ref p) H'
def spNext (C : Cl) (CR : Addr) (K : PySem.W.Frag) (G : PC → Prop) : Sp := fun vs H Q _ => ∃ (sa ra pl ta d ca : Addr) (es : Ents) (b : Bool) (s : St0) (k : Nat) (ns rest : List Nat) (c : PC), vs = [.ref sa, .ref ra] ∧ SesAt C H sa pl ta d es b s ∧ RdAt CR H ra ca k ∧ SqL K H ca (vN ns) ∧
  ns.drop k = c.flatN ++ rest ∧ c.ok ∧ G c ∧ NextTo C CR H sa ra pl ta d ca es b s k c Q
section
variable {P : Program} {w : World} {K : PySem.W.Frag} {mg : Str → Option Value} {base : Heap} {C : Cl} {CR : Addr}
theorem free_kept {M : Addr → Prop} {H H' : Hp} (k : Kept M H H') (m : ∀ x, M x → ∃ o, H' x = some o) {p : Addr} (h : H' p = none) : H p = none := by
  cases e : H p with
  | none => rfl
  | some o =>
    by_cases c : M p
    · obtain ⟨o', z⟩ := m p c
      rw [z] at h
      cases h
    · rw [k _ _ e c] at h
      cases h
/-- a call of one number, answered -/
theorem NextTo.one {sa ra pl ta d ca : Addr} {es : Ents} {b : Bool} {s : St0} {k : Nat} {c : PC} {H H3 : Hp} {Q : VK} (q : NextTo C CR H sa ra pl ta d ca es b s k c Q) (S3 : SesAt C H3 sa pl ta d es b s) (R3 : RdAt CR H3 ra ca (k + c.flatN.length)) (k3 : Kept (· = ra) H H3)
    {H4 : Hp} {pl' ta' d' : Addr} {es' : Ents} {b' : Bool} {s' : St0} {z : Int} (S4 : SesAt C H4 sa pl' ta' d' es' b' s') (e : Ra54.step (oOf b s) c.call = (oOf b' s', Ra54.only z)) (f4 : FootTo sa pl ta d es pl' ta' d' es' H3) (k4 : Kept (SFoot sa pl ta d es) H3 H4) {l : Addr} (hl : H4 l = none) : Q (.ref l) (upd H4 l (.lst [.int z])) := by
  have s5 := same_new (o := .lst [.int z]) hl
  refine q _ l pl' ta' d' es' b' s' (fun x o h n1 n2 e => ?_) ?_ (S4.same s5) (by rw [e]) ((R3.kept k4 (S3.no_reader R3)).same s5) (fun x o h n => ?_) fun x o h n => ?_
  · have := k4 x o (k3 x o h n2) n1
    rw [e, hl] at this
    cases this
  · rw [upd_same, e]
    rfl
  · by_cases c : x = ra
    · rw [c]
      exact S4.no_reader (R3.kept k4 (S3.no_reader R3))
    · exact f4 x o (k3 x o h c) n
  · exact s5 x o (k4 x o (k3 x o h fun e => n (.inr e)) fun e => n (.inl e))
theorem RdAt.free {ra ca : Addr} {k : Nat} {H H' : Hp} (R : RdAt CR H' ra ca k) (q : Kept (· = ra) H H') {p : Addr} (h : H' p = none) : H p = none := free_kept q (fun x e => let ⟨dx, z⟩ := R; ⟨_, e ▸ z⟩) h
end
end NR
end

section
set_option Elab.async false
set_option maxRecDepth 100000
set_option maxHeartbeats 4000000
/-! route.py: what time does, what is told -/
namespace NR
open PySem PySem.Spec PyProof.Rows L2
open Ra54 (Route)
def spRForg (C : Addr) : Sp := fun vs H Q _ => ∃ (p : Addr) (r : Route) (now : Nat), vs = [.ref p, .int now] ∧ RouteAt C H p r ∧ Dom r ∧ Q (.bl (decide (r.dist = 16 ∧ r.gone ≤ now))) H
def spROutd (C : Addr) : Sp := fun vs H Q _ => ∃ (p : Addr) (r : Route) (now : Nat), vs = [.ref p, .int now] ∧ RouteAt C H p r ∧ Dom r ∧ Q (.bl (decide (0 < r.via ∧ r.dist < 16 ∧ r.good ≤ now))) H
def spREnds (C : Addr) : Sp := fun vs H Q _ => ∃ (p : Addr) (r : Route), vs = [.ref p] ∧ RouteAt C H p r ∧ Dom r ∧ r.dist ≠ 0 ∧ Q (.int (if r.dist < 16 then r.good else r.gone : Nat)) H
def spRTold (C : Addr) : Sp := fun vs H Q _ => ∃ (p : Addr) (r : Route) (i : Nat), vs = [.ref p, .int i] ∧ RouteAt C H p r ∧ Q (.int ((Ra54.toldOn i r).dist : Nat)) H
section
variable {P : Program} {w : World} {K : PySem.W.Frag} {mg : Str → Option Value} {base : Heap} {C : Addr}
theorem scRForg : FnScope ["self", "now"] ["self", "now"] (defScope sRForg) := ⟨rfl, rfl, rfl, by decide +kernel, rfl, by decide +kernel, by decide +kernel⟩
theorem ok_rForg {f : Addr} {fd : FuncData} (F : Fun K "is_forgotten" "Route.is_forgotten" sRForg f fd) (T : TxtR K mg C) (R : HasM P w K mg base C "is_in_reach" 1 ["self"] (spRReach C)) : FnOk P w K mg base CX0 2 f fd ["self", "now"] (spRForg C) := by
  refine F.ok scRForg (fun vs H Q E h => ?_) (fun cdv A outer s H vs Q E hr h => ?_)
  · obtain ⟨p, r, now, rfl, _⟩ := h
    rfl
  · obtain ⟨p, r, now, rfl, R0, D, k⟩ := h
    obtain ⟨dx, g, fr, t, hp, hg, hq⟩ := id R0
    obtain ⟨gR, gdR, mR, bR, GR⟩ := R.ex
    refine ⟨_, pss_one (ps_ret (pe_and (pe_not (pe_meth0 (pv 0) T.cl mR GR hr bR .nil pass0)) (pe_one (pe_cmpR op_ge (pv 1) (pe_fld (pv 0) rfl) (nomark _))))), ?_⟩
    refine ⟨_, rfl, p, dx, _, rfl, hp, rfl, p, r, rfl, R0, _, rfl, ?_⟩
    have D1 := D.1
    by_cases c : r.dist < 16
    · rw [decide_eq_true c]
      refine ⟨_, rfl, iteF (wantV (Q := Q) (congrArg V.bl ?_) k)⟩
      exact (decide_eq_false fun z => by omega).symm
    · rw [decide_eq_false c]
      refine ⟨_, rfl, iteT ⟨_, rfl, _, rfl, p, C, dx, _, _, rfl, hp, T.cl, T.n6, rfl, _, _, rfl, rfl, ?_⟩⟩
      have e := (hq (by omega)).2
      refine wantV (Q := Q) (congrArg V.bl (decide_eq_decide.mpr ?_)) k
      omega
theorem scROutd : FnScope ["self", "now"] ["self", "now"] (defScope sROutd) := ⟨rfl, rfl, rfl, by decide +kernel, rfl, by decide +kernel, by decide +kernel⟩
theorem ok_rOutd {f : Addr} {fd : FuncData} (F : Fun K "is_outdated" "Route.is_outdated" sROutd f fd) (T : TxtR K mg C) (R : HasM P w K mg base C "is_in_reach" 1 ["self"] (spRReach C)) (O : HasM P w K mg base C "is_own" 1 ["self"] (spROwn C)) : FnOk P w K mg base CX0 2 f fd ["self", "now"] (spROutd C) := by
  refine F.ok scROutd (fun vs H Q E h => ?_) (fun cdv A outer s H vs Q E hr h => ?_)
  · obtain ⟨p, r, now, rfl, _⟩ := h
    rfl
  · obtain ⟨p, r, now, rfl, R0, D, k⟩ := h
    obtain ⟨dx, g, fr, t, hp, hg, hq⟩ := id R0
    obtain ⟨gR, gdR, mR, bR, GR⟩ := R.ex
    obtain ⟨gO, gdO, mO, bO, GO⟩ := O.ex
    obtain ⟨D1, D2, D3, _⟩ := D
    refine ⟨_, pss_one (ps_ret (pe_and (pe_meth0 (pv 0) T.cl mR GR hr bR .nil pass0) (pe_and (pe_not (pe_meth0 (pv 0) T.cl mO GO hr bO .nil pass0)) (pe_one (pe_cmpR op_ge (pv 1) (pe_fld (pv 0) rfl) (nomark _)))))), ?_⟩
    refine ⟨_, rfl, p, dx, _, rfl, hp, rfl, p, r, rfl, R0, _, rfl, ?_⟩
    by_cases c : r.dist < 16
    · rw [decide_eq_true c]
      refine iteT ⟨_, rfl, p, dx, _, rfl, hp, rfl, p, r, rfl, R0, _, rfl, ?_⟩
      by_cases c2 : r.dist = 0
      · rw [decide_eq_true c2]
        refine ⟨_, rfl, iteF (wantV (Q := Q) (congrArg V.bl ?_) k)⟩
        have := D2 c2
        exact (decide_eq_false fun z => by omega).symm
      · rw [decide_eq_false c2]
        have hv : 0 < r.via := Nat.pos_of_ne_zero fun z => by have := D3 z; omega
        have e := hg hv c
        refine ⟨_, rfl, iteT ⟨_, rfl, _, rfl, p, C, dx, _, _, rfl, hp, T.cl, T.n4, rfl, _, _, rfl, rfl, ?_⟩⟩
        refine wantV (Q := Q) (congrArg V.bl (decide_eq_decide.mpr ?_)) k
        omega
    · rw [decide_eq_false c]
      refine iteF (wantV (Q := Q) (congrArg V.bl ?_) k)
      exact (decide_eq_false fun z => by omega).symm
theorem scREnds : FnScope ["self"] ["self"] (defScope sREnds) := ⟨rfl, rfl, rfl, by decide +kernel, rfl, by decide +kernel, by decide +kernel⟩
theorem ok_rEnds {f : Addr} {fd : FuncData} (F : Fun K "ends_at" "Route.ends_at" sREnds f fd) (T : TxtR K mg C) (R : HasM P w K mg base C "is_in_reach" 1 ["self"] (spRReach C)) : FnOk P w K mg base CX0 2 f fd ["self"] (spREnds C) := by
  refine F.ok scREnds (fun vs H Q E h => ?_) (fun cdv A outer s H vs Q E hr h => ?_)
  · obtain ⟨p, r, rfl, _⟩ := h
    rfl
  · obtain ⟨p, r, rfl, R0, D, d0, k⟩ := h
    obtain ⟨dx, g, fr, t, hp, hg, hq⟩ := id R0
    obtain ⟨gR, gdR, mR, bR, GR⟩ := R.ex
    obtain ⟨D1, D2, D3, _⟩ := D
    refine ⟨_, pss_one (ps_ret (pe_ifExp (pt_val (pe_meth0 (pv 0) T.cl mR GR hr bR .nil pass0)) (pe_fld (pv 0) rfl) (pe_fld (pv 0) rfl))), ?_⟩
    refine ⟨_, rfl, p, dx, _, rfl, hp, rfl, p, r, rfl, R0, _, rfl, ?_⟩
    by_cases c : r.dist < 16
    · rw [decide_eq_true c]
      have hv : 0 < r.via := Nat.pos_of_ne_zero fun z => by have := D3 z; omega
      have e := hg hv c
      rw [if_pos c] at k
      exact iteT ⟨_, rfl, p, C, dx, _, _, rfl, hp, T.cl, T.n4, rfl, wantV (Q := Q) (by rw [e]) k⟩
    · rw [decide_eq_false c]
      have e := (hq (by omega)).2
      rw [if_neg c] at k
      exact iteF ⟨_, rfl, p, C, dx, _, _, rfl, hp, T.cl, T.n6, rfl, wantV (Q := Q) (by rw [e]) k⟩
theorem scRTold : FnScope ["self", "link"] ["self", "link"] (defScope sRTold) := ⟨rfl, rfl, rfl, by decide +kernel, rfl, by decide +kernel, by decide +kernel⟩
theorem ok_rTold {f : Addr} {fd : FuncData} (F : Fun K "far_told_on" "Route.far_told_on" sRTold f fd) (T : TxtR K mg C) (hm : mg "min" = none) : FnOk P w K mg base CX0 1 f fd ["self", "link"] (spRTold C) := by
  refine F.ok scRTold (fun vs H Q E h => ?_) (fun cdv A outer s H vs Q E hr h => ?_)
  · obtain ⟨p, r, i, rfl, _⟩ := h
    rfl
  · obtain ⟨p, r, i, rfl, R0, k⟩ := h
    obtain ⟨dx, g, fr, t, hp, hg, hq⟩ := id R0
    refine ⟨_, pss_cons (ps_if (pt_cmpR op_eq (pe_fld (pv 0) rfl) (pv 1) (nomark _)) (pss_one (ps_ret (pe_gi T.oor))) pss_nil)
      (pss_one (ps_ret (pe_callB (call_min2 rfl) (by rfl) hm (by decide +kernel) (pa_cons (pe_op op_add (pe_fld (pv 0) rfl) pe_int) (pa_cons (pe_gi T.oor) pa_nil))))), ?_⟩
    refine ⟨_, rfl, p, C, dx, _, _, rfl, hp, T.cl, T.n2, rfl, _, rfl, rfl, _, rfl, ?_⟩
    rw [eqI]
    have hF : Ra54.FAR = 16 := rfl
    have hd : (Ra54.toldOn i r).dist = if r.link = i then Ra54.FAR else min Ra54.FAR (r.dist + 1) := rfl
    by_cases c : r.link = i
    · rw [decide_eq_true c]
      rw [hd, if_pos c] at k
      exact iteT k
    · rw [decide_eq_false c]
      rw [hd, if_neg c] at k
      refine iteF ?_
      refine ⟨_, rfl, p, C, dx, _, _, rfl, hp, T.cl, T.n1, rfl, _, _, rfl, rfl, _, _, rfl, ?_⟩
      refine wantV (Q := Q) (congrArg V.int ?_) k
      split <;> omega
end
end NR
end

section
set_option Elab.async false
set_option maxRecDepth 100000
set_option maxHeartbeats 4000000
/-! message.py: what is written -/
namespace NR
open PySem PySem.Spec PyProof.Rows L2
def spOcts : Sp := fun vs H Q _ => ∃ (n m : Nat), vs = [.int n, .int m] ∧ m ≤ 8 ∧ ∀ p, H p = none → Q (.ref p) (upd H p (.lst (vN (octN n m))))
/-- a list of offers as one message -/
def spMsg : Sp := fun vs H Q _ => ∃ (L : Addr) (ps : List (Addr × Ent)), vs = [.ref L] ∧ H L = some (.lst (ps.map fun x => V.ref x.1)) ∧ ps.length ≤ 64 ∧ (∀ x ∈ ps, OfferAt H x.1 x.2) ∧
  ∀ H' p, Same H H' → H p = none → H' p = some (.lst (vN (msgN (ps.map (·.2))))) → Q (.ref p) H'
/-- a list of offers in messages of 64 -/
def spMsgs : Sp := fun vs H Q _ => ∃ (L : Addr) (ps : List (Addr × Ent)), vs = [.ref L] ∧ H L = some (.lst (ps.map fun x => V.ref x.1)) ∧ ps.length ≤ 256 ∧ (∀ x ∈ ps, OfferAt H x.1 x.2) ∧
  ∀ H' p (qs : List Addr), Same H H' → H p = none → H' p = some (.lst (qs.map V.ref)) → qs.length = (chunksN (ps.map (·.2))).length → (∀ (i : Nat) (q : Addr) (c : List Ent), qs[i]? = some q → (chunksN (ps.map (·.2)))[i]? = some c → H q = none ∧ q ≠ p ∧ H' q = some (.lst (vN (msgN c)))) → Q (.ref p) H'
theorem range64 (n : Nat) (h : n ≤ 256) : RgC 0 (n : Int) 64 ((n + 63) / 64) := by
  have e : Builtin.Range.rangeSize 0 (n : Int) 64 = (((n + 63) / 64 : Nat) : Int) := by
    unfold Builtin.Range.rangeSize
    rw [if_pos (by decide)]
    split <;> omega
  refine ⟨by decide, by decide, ?_, e⟩
  unfold Builtin.Range.small
  rw [e]
  generalize hb : (n : Int) = b
  simp only [Builtin.Range.rangeFitsLong, Bool.and_eq_true, Bool.or_eq_true, decide_eq_true_eq, beq_iff_eq, show ((64 : Int) > 0) by decide, if_true]
  omega
theorem sl_listK {X : Cx} (K : PySem.W.Frag) (hK : X.K = K) : SlR X (rSlL K) := by
  subst hK
  exact sl_list
theorem chunks_get {l : List Ent} {i : Nat} (h : i < (l.length + 63) / 64) : (chunksN l)[i]? = some ((l.drop (64 * i)).take 64) := by
  unfold chunksN
  rw [List.getElem?_map, List.getElem?_range h]
  rfl
theorem oct_int (n m i : Nat) (h : i < m) : Builtin.bitAnd ((n : Int) / 2 ^ ((8 : Int) * ((m : Int) - 1 + (i : Nat) * (-1))).toNat) 255 = ((n / 2 ^ (8 * (m - 1 - i)) % 256 : Nat) : Int) := by
  have e : ((8 : Int) * ((m : Int) - 1 + (i : Nat) * (-1))).toNat = 8 * (m - 1 - i) := by omega
  rw [e, bitAnd_m8]
  simp
theorem octN_take (n m i : Nat) (h : i < m) : (octN n m).take (i + 1) = (octN n m).take i ++ [n / 2 ^ (8 * (m - 1 - i)) % 256] := by
  have hi : (octN n m)[i]? = some (n / 2 ^ (8 * (m - 1 - i)) % 256) := by
    unfold octN
    rw [List.getElem?_map, List.getElem?_range h]
    rfl
  rw [List.take_add_one, hi]
  rfl
section
variable {P : Program} {w : World} {K : PySem.W.Frag} {mg : Str → Option Value} {base : Heap}
theorem scOcts : FnScope ["number", "many", "place"] ["number", "many"] (defScope sOcts) := ⟨rfl, rfl, rfl, by decide +kernel, rfl, by decide +kernel, by decide +kernel⟩
theorem ok_octs {f : Addr} {fd : FuncData} (F : Fun K "octets_of" "octets_of" sOcts f fd) (T : TxtM mg) : FnOk P w K mg base CX0 1 f fd ["number", "many"] spOcts := by
  refine F.ok scOcts (fun vs H Q E h => ?_) (fun cdv A outer s H vs Q E hr h => ?_)
  · obtain ⟨n, m, rfl, _⟩ := h
    rfl
  · obtain ⟨n, m, rfl, hm, k⟩ := h
    refine ⟨_, pss_one (ps_ret (pe_lc (own := [("place", 2)]) (g := gName 2) (tt := tYes) (by rfl) scOcts.nd (pi_range3 (by rfl) T.range (pa_cons (pe_op op_sub (pv 1) pe_int) (pa_cons (pe_un un_neg pe_int) (pa_cons (pe_un un_neg pe_int) pa_nil))))
      (blkOk_by (own := [("place", 2)]) (N := ["number", "many", "place"]) (sc := defScope sOcts) (by decide +kernel)) (fun _ _ _ _ _ => pg_name (i := 2) scOcts.nd rfl (Or.inl rfl)) (fun _ _ _ _ _ => pts_nil)
      (fun _ _ _ _ _ => pe_op op_and (pe_op op_shr (pv 0) (pe_op op_mul pe_int (pv 2))) pe_int))), ?_⟩
    have en : ((m : Int) - 1 - (-1)).toNat = m := by omega
    refine ⟨_, rfl, _, _, rfl, rfl, _, rfl, _, rfl, (m : Int) - 1, -1, -1, ((m : Int) - 1 - (-1)).toNat, rfl, RgC.neg (by omega) (by omega) (by omega) (by omega), fun D hD => ?_⟩
    rw [en]
    refine lc_it walk_rangeC (fun i H' => H' = upd H D (.lst (vN ((octN n m).take i)))) rfl (fun _ _ _ _ => trivial) (fun i x H1 H' hi e1 y => ?_) (fun H' e1 => ?_)
    · obtain ⟨rfl, rfl⟩ := y
      subst e1
      refine ⟨rfl, yes_if ?_⟩
      refine ⟨_, rfl, _, rfl, _, _, rfl, rfl, .inl ⟨by decide, by decide⟩, _, _, rfl, rfl, by omega, _, _, rfl, rfl, _, upd_same, ?_, ?_⟩
      · rw [vN_length, List.length_take]
        exact small1000 (by omega)
      · rw [upd_upd, octN_take n m i hi]
        refine congrArg (fun z => upd H D (.lst z)) ?_
        show vN ((octN n m).take i) ++ [V.int (Builtin.bitAnd ((n : Int) / 2 ^ ((8 : Int) * ((m : Int) - 1 + (i : Nat) * (-1))).toNat) 255)] = _
        rw [oct_int n m i hi]
        unfold vN
        rw [List.map_append]
        rfl
    · rw [e1, List.take_of_length_le (by rw [octN_length]; exact Nat.le_refl _)]
      exact k D hD
theorem scMsg : FnScope ["offers", "octets", "network", "far"] ["offers"] (defScope sMsg) := ⟨rfl, rfl, rfl, by decide +kernel, rfl, by decide +kernel, by decide +kernel⟩
theorem ok_msg {f : Addr} {fd : FuncData} (F : Fun K "message_of" "message_of" sMsg f fd) (T : TxtM mg) (M : HasF P w K mg base "octets_of" 1 ["number", "many"] spOcts) : FnOk P w K mg base CX0 2 f fd ["offers"] spMsg := by
  refine F.ok scMsg (fun vs H Q E h => ?_) (fun cdv A outer s H vs Q E hr h => ?_)
  · obtain ⟨L, ps, rfl, _⟩ := h
    rfl
  · obtain ⟨L, ps, rfl, hL, hl, hps, k⟩ := h
    obtain ⟨g1, gd1, mg1, kp1, b1, G1⟩ := M.ex
    have hr1 : Room 1 _ := hr.mono (by decide)
    refine ⟨_, pss_cons (ps_set (i := 1) scMsg.nd rfl (.inl rfl) (pe_call G1 hr (by rfl) mg1 kp1 b1 .nil pass0 (pa_cons (pe_callB call_len_seq (by rfl) T.len PySem.boot_len (pa_cons (pv 0) pa_nil)) (pa_cons (pe_gi T.head) pa_nil))))
      (pss_cons (ps_for PassesOwn.never rfl (pi_list (pv 0)) (pg_tup rfl (pgs_cons (pg_name (i := 2) scMsg.nd rfl (.inl rfl)) (pgs_cons (pg_name (i := 3) scMsg.nd rfl (.inl rfl)) pgs_nil)))
        (pss_cons (ps_expr (pe_bm PySem.F.plainAttrs_list PySem.F.slot_list_extend PySem.F.type_list_extend mt_extend (pv 1) (pa_cons (pe_call G1 hr (by rfl) mg1 kp1 b1 .nil pass0 (pa_cons (pe_ix ix_tup (pv 2) pe_int (fun _ _ => rfl)) (pa_cons pe_int pa_nil))) pa_nil)))
        (pss_one (ps_expr (pe_bm PySem.F.plainAttrs_list PySem.F.slot_list_extend PySem.F.type_list_extend mt_extend (pv 1) (pa_cons (pe_lst (pa_cons (pe_ix ix_tup (pv 2) pe_int (fun _ _ => rfl)) (pa_cons (pv 3) (pa_cons pe_int (pa_cons pe_int pa_nil))))) pa_nil))))))
      (pss_one (ps_ret (pv 1)))), ?_⟩
    refine ⟨_, rfl, L, _, rfl, .inl (SqL.of hL), ps.length, 2, by rw [List.length_map]; rfl, by decide, fun O hO => ?_⟩
    have sO := same_new (o := .lst (vN (octN ps.length 2))) hO
    have hO1 : upd H O (.lst (vN (octN ps.length 2))) O = some (.lst (vN (octN ps.length 2))) := upd_same
    generalize upd H O (.lst (vN (octN ps.length 2))) = H1 at sO hO1 ⊢
    refine ⟨_, rfl, L, rfl, ⟨_, SqL.of (sO _ _ hL)⟩, for_list (K := K) (a := L) (xs := ps.map fun x => V.ref x.1) (fun j σ H' => ∃ (v2 v3 : Option V), σ = [some (.ref L), some (.ref O), v2, v3] ∧ Same H H' ∧
        H' O = some (.lst (vN (octN ps.length 2 ++ ((ps.map (·.2)).take j).flatMap entN))))
      ⟨none, none, rfl, sO, by rw [List.take_zero, List.flatMap_nil, List.append_nil]; exact hO1⟩ (fun j σ H' _ ⟨_, _, _, s, _⟩ => SqL.of (s _ _ hL)) ?_ ?_⟩
    · rintro j x σ H' hj ⟨v2, v3, rfl, s2, hO2⟩
      obtain ⟨pe, hpe, rfl⟩ : ∃ pe, ps[j]? = some pe ∧ x = V.ref pe.1 := by
        rw [List.getElem?_map] at hj
        cases q : ps[j]? with
        | none => rw [q] at hj; cases hj
        | some e => rw [q] at hj; exact ⟨e, rfl, (Option.some.inj hj).symm⟩
      obtain ⟨q, w1, w2⟩ := hps pe (List.mem_of_getElem? hpe)
      have hpe2 : (ps.map (·.2))[j]? = some pe.2 := by rw [List.getElem?_map, hpe]; rfl
      have hjl : j < ps.length := (List.getElem?_eq_some_iff.mp hpe).1
      have etk : (ps.map (·.2)).take (j + 1) = (ps.map (·.2)).take j ++ [pe.2] := by rw [List.take_add_one, hpe2]; rfl
      have elen : (vN (octN ps.length 2 ++ ((ps.map (·.2)).take j).flatMap entN)).length = 2 + 8 * j := by
        have e := msgN_length ((ps.map (·.2)).take j)
        unfold msgN at e
        rw [vN_length, List.length_append, octN_length]
        rw [List.length_append, octN_length, List.length_take, List.length_map, Nat.min_eq_left (Nat.le_of_lt hjl)] at e
        omega
      have zl := sizeLine_eq
      have nO : ∀ {b o}, H b = some o → b ≠ O := fun e => ne_of_none e hO
      refine ⟨pe.1, _, rfl, SqT.of (s2 _ _ w1), rfl, _, _, rfl, _, _, rfl, rfl, ?_⟩
      -- octets.extend(octets_of(network[0], 4))
      refine ⟨_, rfl, .inl ⟨rfl, _, SqL.of hO2⟩, _, rfl, q, _, _, _, rfl, rfl, SqT.of (s2 _ _ w2), rfl, pe.2.net, 4, rfl, by decide, fun p hp => ?_⟩
      have np : O ≠ p := ne_of_none hO2 hp
      refine ⟨O, p, _, _, rfl, rfl, (by rw [upd_ne np]; exact hO2), upd_same, ?_, ?_⟩
      · rw [elen, vN_length, octN_length]
        omega
      have s3 : Same H (upd (upd H' p (.lst (vN (octN pe.2.net 4)))) O (.lst (vN (octN ps.length 2 ++ ((ps.map (·.2)).take j).flatMap entN) ++ vN (octN pe.2.net 4)))) := fun b o e => by
        rw [upd_ne (nO e), upd_ne (ne_of_none (s2 _ _ e) hp)]
        exact s2 _ _ e
      have hO3 : upd (upd H' p (.lst (vN (octN pe.2.net 4)))) O (.lst (vN (octN ps.length 2 ++ ((ps.map (·.2)).take j).flatMap entN) ++ vN (octN pe.2.net 4))) O = some (.lst (vN (octN ps.length 2 ++ ((ps.map (·.2)).take j).flatMap entN) ++ vN (octN pe.2.net 4))) := upd_same
      generalize upd (upd H' p (.lst (vN (octN pe.2.net 4)))) O (.lst (vN (octN ps.length 2 ++ ((ps.map (·.2)).take j).flatMap entN) ++ vN (octN pe.2.net 4))) = H3 at s3 hO3 ⊢
      -- octets.extend([network[1], far, 0, 0])
      refine ⟨_, rfl, .inl ⟨rfl, _, SqL.of hO3⟩, _, rfl, q, _, _, _, rfl, rfl, SqT.of (s3 _ _ w2), rfl, _, rfl, (by show 4 ≤ sizeLine; decide), fun u hu' => ?_⟩
      have nu : O ≠ u := ne_of_none hO3 hu'
      refine ⟨O, u, _, _, rfl, rfl, (by rw [upd_ne nu]; exact hO3), upd_same, ?_, ?_⟩
      · rw [List.length_append, elen, vN_length, octN_length]
        show 2 + 8 * j + 4 + 4 ≤ sizeLine
        omega
      refine ⟨_, _, rfl, fun b o e => ?_, ?_⟩
      · rw [upd_ne (nO e), upd_ne (ne_of_none (s3 _ _ e) hu')]
        exact s3 _ _ e
      · rw [upd_same, etk, List.flatMap_append, List.flatMap_singleton]
        unfold vN entN
        simp only [List.map_append, List.append_assoc]
        rfl
    · rintro σ H' ⟨v2, v3, rfl, s2, hO2⟩
      refine ⟨_, rfl, k H' O s2 hO ?_⟩
      rw [hO2, List.length_map, List.take_of_length_le (by rw [List.length_map]; exact Nat.le_refl _)]
      unfold msgN
      rw [List.length_map]
theorem scMsgs : FnScope ["offers", "at"] ["offers"] (defScope sMsgs) := ⟨rfl, rfl, rfl, by decide +kernel, rfl, by decide +kernel, by decide +kernel⟩
theorem ok_msgs {f : Addr} {fd : FuncData} (F : Fun K "messages_of" "messages_of" sMsgs f fd) (T : TxtM mg) (M : HasF P w K mg base "message_of" 2 ["offers"] spMsg) : FnOk P w K mg base CX0 3 f fd ["offers"] spMsgs := by
  refine F.ok scMsgs (fun vs H Q E h => ?_) (fun cdv A outer s H vs Q E hr h => ?_)
  · obtain ⟨L, ps, rfl, _⟩ := h
    rfl
  · obtain ⟨L, ps, rfl, hL, hl, hps, k⟩ := h
    obtain ⟨g1, gd1, mg1, kp1, b1, G1⟩ := M.ex
    refine ⟨_, pss_one (ps_ret (pe_lc (own := [("at", 1)]) (g := gName 1) (tt := tYes) (by rfl) scMsgs.nd (pi_range3 (by rfl) T.range (pa_cons pe_int (pa_cons (pe_callB call_len_seq (by rfl) T.len PySem.boot_len (pa_cons (pv 0) pa_nil)) (pa_cons (pe_gi T.most) pa_nil))))
      (blkOk_by (own := [("at", 1)]) (N := ["offers", "at"]) (sc := defScope sMsgs) (by decide +kernel)) (fun _ _ _ _ _ => pg_name (i := 1) scMsgs.nd rfl (Or.inl rfl)) (fun _ _ _ _ _ => pts_nil)
      (fun _ _ _ _ _ => pe_call G1 hr (by rfl) mg1 kp1 b1 .nil pass0 (pa_cons (pe_slice (sl_listK K rfl) (pv 0) (po_some (pv 1)) (po_some (pe_op op_add (pv 1) (pe_gi T.most)))) pa_nil)))), ?_⟩
    refine ⟨_, rfl, L, _, rfl, .inl (SqL.of hL), 0, (ps.length : Int), 64, (ps.length + 63) / 64, by rw [List.length_map], range64 _ hl, fun D hD => ?_⟩
    have sD := same_new (o := .lst []) hD
    refine lc_it walk_rangeC (fun i H' => ∃ qs : List Addr, H' D = some (.lst (qs.map V.ref)) ∧ qs.length = i ∧ Same H H' ∧ ∀ (j : Nat) (q : Addr), qs[j]? = some q → H q = none ∧ q ≠ D ∧ H' q = some (.lst (vN (msgN (((ps.map (·.2)).drop (64 * j)).take 64)))))
      ⟨[], upd_same, rfl, sD, fun j q e => nomatch e⟩ (fun _ _ _ _ => trivial) (fun i x H0 H1 hi ⟨qs, e1, e2, e3, e4⟩ y => ?_) (fun H' ⟨qs, e1, e2, e3, e4⟩ => ?_)
    · obtain ⟨rfl, ex⟩ := y
      have e8 : x = V.int ((64 * i : Nat) : Int) := ex.trans (congrArg V.int (by omega))
      subst e8
      refine ⟨rfl, yes_if ?_⟩
      refine ⟨_, rfl, _, rfl, _, rfl, _, rfl, _, _, rfl, rfl, _, rfl, L, _, rfl, SqL.of (e3 _ _ hL), fun u hu' => ?_⟩
      have ec : cutV (ps.map fun x => V.ref x.1) (some ((64 * i : Nat) : Int)) (some (((64 * i : Nat) : Int) + 64)) = ((ps.drop (64 * i)).take 64).map fun x => V.ref x.1 := by
        have q := cut_nn (ps.map fun x => V.ref x.1) (64 * i) (64 * i + 64)
        rw [show 64 * i + 64 - 64 * i = 64 by omega] at q
        rw [List.map_take, List.map_drop]
        exact q
      have s3 : Same H (upd H1 u (.lst (((ps.drop (64 * i)).take 64).map fun x => V.ref x.1))) := e3.trans (same_new hu')
      have hu1 : upd H1 u (.lst (((ps.drop (64 * i)).take 64).map fun x => V.ref x.1)) u = some (.lst (((ps.drop (64 * i)).take 64).map fun x => V.ref x.1)) := upd_same
      have s4 : Same H1 (upd H1 u (.lst (((ps.drop (64 * i)).take 64).map fun x => V.ref x.1))) := same_new hu'
      rw [ec]
      generalize upd H1 u (.lst (((ps.drop (64 * i)).take 64).map fun x => V.ref x.1)) = H2 at s3 hu1 s4 ⊢
      refine ⟨u, (ps.drop (64 * i)).take 64, rfl, hu1, List.length_take_le _ _, fun x hx => ?_, fun H3 p s5 hp h3 => ?_⟩
      · exact (hps x (List.mem_of_mem_drop (List.mem_of_mem_take hx))).kept fun b xs e => s3 _ _ e
      · have s15 := s4.trans s5
        have hD3 := s15 _ _ e1
        have p1 : H1 p = none := s4.free hp
        have nD : p ≠ D := fun z => by rw [z, e1] at p1; cases p1
        refine ⟨_, hD3, ?_, qs ++ [p], by rw [upd_same, List.map_append]; rfl, by rw [List.length_append, e2]; rfl, fun b o e => ?_, fun j q hj => ?_⟩
        · rw [List.length_map, e2]
          exact small1000 (by omega)
        · rw [upd_ne (ne_of_none e hD)]
          exact s15 _ _ (e3 _ _ e)
        · by_cases c : j < qs.length
          · rw [List.getElem?_append_left c] at hj
            obtain ⟨f1, f2, f3⟩ := e4 j q hj
            exact ⟨f1, f2, by rw [upd_ne f2]; exact s15 _ _ f3⟩
          · have ej : j = qs.length := by
              have := (List.getElem?_eq_some_iff.mp hj).1
              rw [List.length_append] at this
              have : j < qs.length + 1 := this
              omega
            subst ej
            have eq : p = q := by
              rw [List.getElem?_append_right (Nat.le_refl _), Nat.sub_self] at hj
              exact Option.some.inj hj
            subst eq
            refine ⟨e3.free p1, nD, ?_⟩
            rw [upd_ne nD, h3, e2, List.map_take, List.map_drop]
    · have el : (chunksN (ps.map (·.2))).length = (ps.length + 63) / 64 := by unfold chunksN; rw [List.length_map, List.length_range, List.length_map]
      refine k H' D qs e3 hD e1 (by rw [el, e2]) fun j q c h1 h2 => ?_
      obtain ⟨f1, f2, f3⟩ := e4 j q h1
      have hj : j < (ps.length + 63) / 64 := by
        rw [← e2]
        exact (List.getElem?_eq_some_iff.mp h1).1
      rw [chunks_get (by rw [List.length_map]; exact hj)] at h2
      cases h2
      exact ⟨f1, f2, f3⟩
end
end NR
end

section
set_option Elab.async false
set_option maxRecDepth 100000
set_option maxHeartbeats 4000000
/-! table.py: the routes in their order; what time does -/
namespace NR
open PySem PySem.Spec L2
open Ra54 (Route)
/-- a tuple of a network's tuple and the route to it -/
def RowAt (H : Hp) (t : Addr) (e : Addr × Route) : Prop := ∃ q, H t = some (.tup [.ref q, .ref e.1]) ∧ H q = some (tupN (e.2.net, e.2.bits))
theorem RowAt.kept {H H' : Hp} {t : Addr} {e : Addr × Route} (h : RowAt H t e) (k : ∀ b xs, H b = some (.tup xs) → H' b = some (.tup xs)) : RowAt H' t e := by
  obtain ⟨q, h1, h2⟩ := h
  exact ⟨q, k _ _ h1, k _ _ h2⟩
abbrev RowL := List (Addr × (Addr × Route))
theorem pg_tupK {X : Cx} (K : PySem.W.Frag) {es : List Expr} {k n : Nat} {t : TGs} {pos : Pos} (hK : X.K = K) (hc : X.calm = true) (h : PGs X es t)
    (hn : (assignEach es X.env).length = n := by rfl) (hst : (assignEach es X.env).findIdx? (·.1) = none := by rfl) : PG X (.Tuple es k pos) (gTup K n t) := by
  subst hK
  exact pg_tup hc h hn hst
/-- behind a lock and its end -/
theorem unlock_same {H H' : Hp} {d : Addr} {od : Obj} {u : HO} (hd : H d = some u) (s : Same (upd H d (.frz od u)) H') : Same H (upd H' d u) := fun b o e => by
  by_cases c : b = d
  · rw [c] at e ⊢
    rw [upd_same, ← e, hd]
  · rw [upd_ne c]
    exact s b o (by rw [upd_ne c]; exact e)
theorem unlock_kept {M : Addr → Prop} {H H' : Hp} {d : Addr} {od : Obj} {u : HO} (hd : H d = some u) (s : Kept M (upd H d (.frz od u)) H') : Kept M H (upd H' d u) := fun b o e n => by
  by_cases c : b = d
  · rw [c] at e ⊢
    rw [upd_same, ← e, hd]
  · rw [upd_ne c]
    exact s b o (by rw [upd_ne c]; exact e) n
theorem perm_lift {α β : Type} {f : α → β} {l' k : List β} (h : l'.Perm k) : ∀ {l : List α}, k = l.map f → ∃ m : List α, m.Perm l ∧ m.map f = l' := by
  induction h with
  | nil =>
    intro l e
    exact ⟨[], by rw [List.map_eq_nil_iff.mp e.symm], rfl⟩
  | cons x _ ih =>
    intro l e
    cases l with
    | nil => cases e
    | cons y l =>
      injection e with e1 e2
      obtain ⟨m, h1, h2⟩ := ih e2
      exact ⟨y :: m, h1.cons y, by rw [List.map_cons, h2, e1]⟩
  | swap x y _ =>
    intro l e
    match l, e with
    | a :: b :: l, e =>
      injection e with e1 e2
      injection e2 with e2 e3
      exact ⟨b :: a :: l, List.Perm.swap a b l, by rw [List.map_cons, List.map_cons, ← e1, ← e2, ← e3]⟩
  | trans _ _ ih1 ih2 =>
    intro l e
    obtain ⟨m, h1, h2⟩ := ih2 e
    obtain ⟨m', h3, h4⟩ := ih1 h2.symm
    exact ⟨m', h3.trans h1, h4⟩
theorem findE_mem {es : Ents} (nk : NK (es.map (·.2))) {e : Addr × Route} (h : e ∈ es) : findE es (key e.2) = some e := by
  induction es with
  | nil => cases h
  | cons x l ih =>
    have k' := List.pairwise_cons.mp nk
    unfold findE
    rcases List.mem_cons.mp h with rfl | h
    · rw [List.find?_cons_of_pos (by simp)]
    · have n : key x.2 ≠ key e.2 := k'.1 e.2 (List.mem_map.mpr ⟨e, h, rfl⟩)
      rw [List.find?_cons_of_neg (by simpa using n)]
      exact ih k'.2 h
def spTOrder (CT CR : Addr) : Sp := fun vs H Q _ => ∃ (ta d : Addr) (es : Ents), vs = [.ref ta] ∧ TabAt CT CR H ta d es ∧
  ∀ H' p (xs : RowL), Same H H' → H p = none → H' p = some (.lst (xs.map fun x => V.ref x.1)) → (∀ x ∈ xs, RowAt H' x.1 x.2) → (xs.map (·.2)).Perm es → Sorted (xs.map (·.2.2)) → Q (.ref p) H'
def spTChOrd (CT CR : Addr) : Sp := fun vs H Q _ => ∃ (ta d : Addr) (es : Ents), vs = [.ref ta] ∧ TabAt CT CR H ta d es ∧
  ∀ H' p (xs : RowL) (ys : Ents), Same H H' → H p = none → H' p = some (.lst (xs.map fun x => V.ref x.1)) → (∀ x ∈ xs, RowAt H' x.1 x.2) → xs.map (·.2) = ys.filter (fun e => e.2.changed) → ys.Perm es → Sorted (ys.map (·.2)) → Q (.ref p) H'
def spTHasCh (CT CR : Addr) : Sp := fun vs H Q _ => ∃ (ta d : Addr) (es : Ents), vs = [.ref ta] ∧ TabAt CT CR H ta d es ∧ ∀ H', Same H H' → Q (.bl (es.any fun e => e.2.changed)) H'
def spTEnds (CT CR : Addr) : Sp := fun vs H Q _ => ∃ (ta d : Addr) (es : Ents), vs = [.ref ta] ∧ TabAt CT CR H ta d es ∧
  ∀ H' p, Same H H' → H p = none → H' p = some (.lst (vN (endsL (es.map (·.2))))) → Q (.ref p) H'
section
variable {P : Program} {w : World} {K : PySem.W.Frag} {mg : Str → Option Value} {base : Heap} {CT CR : Addr}
theorem keys_pairs (es : Ents) : ∀ x ∈ kvsOf es, ∃ i j : Int, x.1 = [.inl i, .inl j] := fun x hx => by
  obtain ⟨e, _, rfl⟩ := List.mem_map.mp hx
  exact ⟨_, _, rfl⟩
/-- the keys of the dict, beside the entries -/
theorem isKeys_zip {H : Hp} : ∀ {es : Ents} {bs : List Addr}, IsKeys H (kvsOf es) bs → bs.length = es.length ∧ ∀ x ∈ bs.zip es, H x.1 = some (tupN (x.2.2.net, x.2.2.bits))
  | [], [], _ => ⟨rfl, fun x hx => nomatch hx⟩
  | e :: es, b :: bs, h => by
    cases h with
    | cons h1 h2 =>
      obtain ⟨e1, e2⟩ := isKeys_zip h2
      refine ⟨by rw [List.length_cons, List.length_cons, e1], fun x hx => ?_⟩
      rcases List.mem_cons.mp hx with rfl | hx
      · exact h1
      · exact e2 x hx
theorem kOf_net {H : Hp} {t : Addr} {n : Nat × Nat} (h : H t = some (tupN n)) : kOf H (.ref t) = ((n.1 : Int), (n.2 : Int)) := kOf_at h
/-- the sorted keys, beside the entries -/
theorem sorted_rows {H : Hp} {es : Ents} {bs : List Addr} {ys : List V} (nk : NK (es.map (·.2))) (h : IsKeys H (kvsOf es) bs) (hs : SrtO.Srtd (ltP (kOf H)) ys) (hb : ys.Perm (bs.map V.ref)) :
    ∃ zs : RowL, ys = zs.map (fun x => V.ref x.1) ∧ (zs.map (·.2)).Perm es ∧ Sorted (zs.map (·.2.2)) ∧ ∀ x ∈ zs, H x.1 = some (tupN (x.2.2.net, x.2.2.bits)) := by
  obtain ⟨el, hz⟩ := isKeys_zip h
  have e1 : bs.map V.ref = (bs.zip es).map fun x => V.ref x.1 := by
    have q : (bs.zip es).map (·.1) = bs := by rw [List.map_fst_zip (by omega)]
    have q2 : ((bs.zip es).map (·.1)).map V.ref = bs.map V.ref := by rw [q]
    rw [← q2, List.map_map]
    rfl
  obtain ⟨zs, p1, p2⟩ := perm_lift hb e1
  have p3 : (zs.map (·.2)).Perm es := by
    have q := p1.map (fun x => x.2)
    rwa [List.map_snd_zip (by omega)] at q
  have hz' : ∀ x ∈ zs, H x.1 = some (tupN (x.2.2.net, x.2.2.bits)) := fun x hx => hz x (p1.mem_iff.mp hx)
  refine ⟨zs, p2.symm, p3, ?_, hz'⟩
  have nk2 : NK (zs.map (·.2.2)) := by
    have q := p3.map (fun e => e.2)
    rw [List.map_map] at q
    exact NK.perm q.symm nk
  rw [← p2] at hs
  have hs' : zs.Pairwise fun a b => ltP (kOf H) (V.ref b.1) (V.ref a.1) = false := List.pairwise_map.mp hs
  have nk' : zs.Pairwise fun a b => key a.2.2 ≠ key b.2.2 := (List.pairwise_map (f := fun z : Addr × Addr × Route => z.2.2) (R := fun a b => key a ≠ key b)).mp nk2
  refine List.pairwise_map.mpr ?_
  refine (hs'.and nk').imp_of_mem fun {a b} ha hb ⟨h1, h2⟩ => ?_
  have q := SrtO.lexB_no.mp h1
  rw [kOf_net (hz' a ha), kOf_net (hz' b hb)] at q
  unfold key at h2
  unfold klt key
  simp only [ne_eq, Prod.mk.injEq] at h2
  omega
theorem scTOrder : FnScope ["self", "network"] ["self"] (defScope sTOrder) := ⟨rfl, rfl, rfl, by decide +kernel, rfl, by decide +kernel, by decide +kernel⟩
theorem ok_tOrder {f : Addr} {fd : FuncData} (F : Fun K "in_order" "Table.in_order" sTOrder f fd) (T : TxtT K mg CT) (hm : mg "sorted" = none) : FnOk P w K mg base CX0 1 f fd ["self"] (spTOrder CT CR) := by
  refine F.ok scTOrder (fun vs H Q E h => ?_) (fun cdv A outer s H vs Q E hr h => ?_)
  · obtain ⟨ta, d, es, rfl, _⟩ := h
    rfl
  · obtain ⟨ta, d, es, rfl, TA, k⟩ := h
    obtain ⟨dx, h1⟩ := TA.ob
    have hu := hu_of hr
    refine ⟨_, pss_one (ps_ret (pe_lc (own := [("network", 1)]) (g := gName 1) (tt := tYes) (by rfl) scTOrder.nd (pi_list (pe_callB (cr_sortedDT rfl) (by rfl) hm (by decide +kernel) (pa_cons (pe_fld (pv 0) rfl) pa_nil))) (blkOk_by (own := [("network", 1)]) (N := ["self", "network"]) (sc := defScope sTOrder) (by decide +kernel))
      (fun _ _ _ _ _ => pg_name (i := 1) scTOrder.nd rfl (Or.inl rfl)) (fun _ _ _ _ _ => pts_nil)
      (fun _ _ _ _ _ => pe_tup (pa_cons (pv 1) (pa_cons (pe_dget hu (pe_fldK K (pv 0) rfl rfl) (pv 1) (fun _ _ => rfl)) pa_nil))))), ?_⟩
    refine ⟨_, rfl, ta, CT, dx, _, _, rfl, h1, T.cl, T.n1, rfl, d, _, rfl, .inl TA.dc, keys_pairs es, fun bs ys p isk hs hb hp => ?_⟩
    obtain ⟨zs, rfl, zp, zso, zq⟩ := sorted_rows TA.nk isk hs hb.perm
    have s1 := same_new (o := .lst (zs.map fun x => V.ref x.1)) hp
    have hp1 : upd H p (.lst (zs.map fun x => V.ref x.1)) p = some (.lst (zs.map fun x => V.ref x.1)) := upd_same
    generalize upd H p (.lst (zs.map fun x => V.ref x.1)) = H1 at s1 hp1 ⊢
    refine ⟨p, rfl, ⟨_, SqL.of hp1⟩, fun D hD => ?_⟩
    have sD := same_new (o := .lst []) hD
    refine lc_list (K := K) (a := p) (xs := zs.map fun x => V.ref x.1) (fun i H' => ∃ xs : RowL, H' D = some (.lst (xs.map fun x => V.ref x.1)) ∧ xs.map (·.2) = (zs.map (·.2)).take i ∧ Same H1 H' ∧ ∀ x ∈ xs, RowAt H' x.1 x.2)
      ⟨[], upd_same, rfl, sD, fun x hx => nomatch hx⟩ (fun i H' _ ⟨_, _, _, s, _⟩ => SqL.of (s _ _ hp1)) (fun i x H' hi ⟨xs, e1, e2, s2, hx⟩ => ?_) (fun H' ⟨xs, e1, e2, s2, hx⟩ => ?_)
    · obtain ⟨z, hz, rfl⟩ : ∃ z, zs[i]? = some z ∧ x = V.ref z.1 := by
        rw [List.getElem?_map] at hi
        cases q : zs[i]? with
        | none => rw [q] at hi; cases hi
        | some e => rw [q] at hi; exact ⟨e, rfl, (Option.some.inj hi).symm⟩
      have hzm := List.mem_of_getElem? hz
      have hil : i < zs.length := (List.getElem?_eq_some_iff.mp hz).1
      have s12 := s1.trans s2
      have TA2 := TA.same s12
      obtain ⟨dy, z1⟩ := TA2.ob
      have hq := s12 _ _ (zq z hzm)
      have hem : z.2 ∈ es := zp.mem_iff.mp (List.mem_map.mpr ⟨z, hzm, rfl⟩)
      have ev : valV (kvsOf es) (keyT (z.2.2.net, z.2.2.bits)) = some (V.ref z.2.1) := by
        rw [kvs_val, show (z.2.2.net, z.2.2.bits) = key z.2.2 from rfl, findE_mem TA.nk hem]
        rfl
      have etk : (zs.map (·.2)).take (i + 1) = (zs.map (·.2)).take i ++ [z.2] := by rw [List.take_add_one, List.getElem?_map, hz]; rfl
      refine ⟨rfl, yes_if ?_⟩
      refine ⟨_, rfl, _, rfl, ta, CT, dy, _, _, rfl, z1, T.cl, T.n1, rfl, _, rfl, d, V.ref z.2.1, rfl, ev ▸ DGet.t (k := keyT (z.2.2.net, z.2.2.bits)) TA2.dc hq, (by show 2 ≤ sizeLine; decide), fun t ht => ?_⟩
      have s3 := same_new (o := .tup [.ref z.1, .ref z.2.1]) ht
      have hD3 := s3 _ _ e1
      have elen : xs.length = i := by
        have q := congrArg List.length e2
        rw [List.length_map, List.length_take, List.length_map, Nat.min_eq_left (Nat.le_of_lt hil)] at q
        exact q
      have zle : zs.length ≤ 256 := by
        have q := zp.length_eq
        rw [List.length_map] at q
        have := TA.le
        omega
      have tk : ∀ b ys, H' b = some (.tup ys) → upd (upd H' t (.tup [.ref z.1, .ref z.2.1])) D (.lst (xs.map (fun x => V.ref x.1) ++ [V.ref t])) b = some (.tup ys) := fun b ys e => by
        rw [upd_ne (ne_of e e1 fun z => nomatch z)]
        exact s3 _ _ e
      refine ⟨_, hD3, ?_, xs ++ [(t, z.2)], by rw [upd_same, List.map_append]; rfl, by rw [List.map_append, e2, etk]; rfl, fun b o e => ?_, fun x hx' => ?_⟩
      · rw [List.length_map, elen]
        exact small1000 (by omega)
      · rw [upd_ne (ne_of_none e hD)]
        exact s3 _ _ (s2 _ _ e)
      · rcases List.mem_append.mp hx' with hx' | hx'
        · exact (hx x hx').kept tk
        · rw [List.mem_singleton.mp hx']
          refine ⟨z.1, ?_, tk _ _ hq⟩
          have nt : t ≠ D := fun w => by rw [w, e1] at ht; cases ht
          exact (upd_ne nt).trans upd_same
    · rw [List.length_map, List.take_of_length_le (by rw [List.length_map]; exact Nat.le_refl _)] at e2
      refine k H' D xs (s1.trans s2) (s1.free hD) e1 hx (by rw [e2]; exact zp) ?_
      have q : xs.map (fun x => x.2.2) = zs.map (fun x => x.2.2) := by
        have q := congrArg (List.map fun e : Addr × Route => e.2) e2
        rw [List.map_map, List.map_map] at q
        exact q
      rw [q]
      exact zso
end
end NR
end

section
set_option Elab.async false
set_option maxRecDepth 100000
set_option maxHeartbeats 4000000
/-! table.py: what has changed, when routes end -/
namespace NR
open PySem PySem.Spec L2
open Ra54 (Route)
section
variable {P : Program} {w : World} {K : PySem.W.Frag} {mg : Str → Option Value} {base : Heap} {CT CR : Addr}
theorem val_at {es : Ents} {j : Nat} {k : List Key} {x : V} (hj : (kvsOf es)[j]? = some (k, x)) : ∃ e, es[j]? = some e ∧ k = keyL e.2 ∧ x = V.ref e.1 := by
  unfold kvsOf at hj
  rw [List.getElem?_map] at hj
  cases q : es[j]? with
  | none => rw [q] at hj; cases hj
  | some e => rw [q] at hj; cases hj; exact ⟨e, rfl, rfl, rfl⟩
theorem take_next {α : Type} {l : List α} {j : Nat} {x : α} (h : l[j]? = some x) : l.take (j + 1) = l.take j ++ [x] := by rw [List.take_add_one, h]; rfl
theorem scTChOrd : FnScope ["self", "network", "route"] ["self"] (defScope sTChOrd) := ⟨rfl, rfl, rfl, by decide +kernel, rfl, by decide +kernel, by decide +kernel⟩
theorem ok_tChOrd {f : Addr} {fd : FuncData} (F : Fun K "changed_in_order" "Table.changed_in_order" sTChOrd f fd) (T : TxtT K mg CT) (TR : TxtR K mg CR) (M : HasM P w K mg base CT "in_order" 1 ["self"] (spTOrder CT CR)) : FnOk P w K mg base CX0 2 f fd ["self"] (spTChOrd CT CR) := by
  refine F.ok scTChOrd (fun vs H Q E h => ?_) (fun cdv A outer s H vs Q E hr h => ?_)
  · obtain ⟨ta, d, es, rfl, _⟩ := h
    rfl
  · obtain ⟨ta, d, es, rfl, TA, k⟩ := h
    obtain ⟨dx, h1⟩ := TA.ob
    obtain ⟨g, gd, m, b, G⟩ := M.ex
    refine ⟨_, pss_one (ps_ret (pe_lc (own := [("network", 1), ("route", 2)]) (g := gTup K 2 (gCons (gName 1) (gCons (gName 2) gNil))) (by rfl) scTChOrd.nd (pi_list (pe_meth0 (pv 0) T.cl m G hr b .nil pass0)) (blkOk_by (own := [("network", 1), ("route", 2)]) (N := ["self", "network", "route"]) (sc := defScope sTChOrd) (by decide +kernel))
      (fun _ _ _ _ _ => pg_tupK K rfl rfl (pgs_cons (pg_name (i := 1) scTChOrd.nd rfl (Or.inl rfl)) (pgs_cons (pg_name (i := 2) scTChOrd.nd rfl (Or.inl rfl)) pgs_nil))) (fun _ _ _ _ _ => pts_one (pt_val (pe_fldK K (pv 2) rfl rfl)))
      (fun _ _ _ _ _ => pe_tup (pa_cons (pv 1) (pa_cons (pv 2) pa_nil))))), ?_⟩
    refine ⟨_, rfl, ta, dx, _, rfl, h1, rfl, ta, d, es, rfl, TA, fun H1 p zs s1 hp hp1 hz zp zso => ?_⟩
    refine ⟨p, rfl, ⟨_, SqL.of hp1⟩, fun D hD => ?_⟩
    have sD := same_new (o := .lst []) hD
    refine lc_list (K := K) (a := p) (xs := zs.map fun x => V.ref x.1) (fun i H' => ∃ xs : RowL, H' D = some (.lst (xs.map fun x => V.ref x.1)) ∧ xs.map (·.2) = ((zs.map (·.2)).take i).filter (fun e => e.2.changed) ∧ Same H1 H' ∧ ∀ x ∈ xs, RowAt H' x.1 x.2)
      ⟨[], upd_same, rfl, sD, fun x hx => nomatch hx⟩ (fun i H' _ ⟨_, _, _, s, _⟩ => SqL.of (s _ _ hp1)) (fun i x H' hi ⟨xs, e1, e2, s2, hx⟩ => ?_) (fun H' ⟨xs, e1, e2, s2, hx⟩ => ?_)
    · obtain ⟨z, hz', rfl⟩ : ∃ z, zs[i]? = some z ∧ x = V.ref z.1 := by
        rw [List.getElem?_map] at hi
        cases q : zs[i]? with
        | none => rw [q] at hi; cases hi
        | some e => rw [q] at hi; exact ⟨e, rfl, (Option.some.inj hi).symm⟩
      have hzm := List.mem_of_getElem? hz'
      have hil : i < zs.length := (List.getElem?_eq_some_iff.mp hz').1
      have s12 := s1.trans s2
      have hem : z.2 ∈ es := zp.mem_iff.mp (List.mem_map.mpr ⟨z, hzm, rfl⟩)
      obtain ⟨q, w1, w2⟩ := (hz z hzm).kept (H' := H') fun b xs e => s2 _ _ e
      obtain ⟨dy, gg, fr, t2, q1, q2⟩ := (TA.same s12).rt _ hem
      have etk : (zs.map (·.2)).take (i + 1) = (zs.map (·.2)).take i ++ [z.2] := take_next (by rw [List.getElem?_map, hz']; rfl)
      refine ⟨z.1, _, rfl, SqT.of w1, rfl, _, _, rfl, _, _, rfl, rfl, rfl, ?_⟩
      refine ⟨_, rfl, z.2.1, CR, dy, _, _, rfl, q1, TR.cl, TR.n7, rfl, z.2.2.changed, rfl, ?_⟩
      cases ec : z.2.2.changed with
      | false =>
        refine iteF ⟨xs, e1, ?_, s2, hx⟩
        rw [e2, etk, List.filter_append, List.filter_cons_of_neg (by rw [ec]; decide), List.filter_nil, List.append_nil]
      | true =>
        refine iteT ⟨_, rfl, _, rfl, (by show 2 ≤ sizeLine; decide), fun t ht => ?_⟩
        have s3 := same_new (o := .tup [.ref q, .ref z.2.1]) ht
        have hD3 := s3 _ _ e1
        have elen : xs.length ≤ i := by
          have q := congrArg List.length e2
          rw [List.length_map] at q
          rw [q]
          exact Nat.le_trans (List.length_filter_le _ _) (List.length_take_le _ _)
        have zle : zs.length ≤ 256 := by
          have q := zp.length_eq
          rw [List.length_map] at q
          have := TA.le
          omega
        have tk : ∀ b ys, H' b = some (.tup ys) → upd (upd H' t (.tup [.ref q, .ref z.2.1])) D (.lst (xs.map (fun x => V.ref x.1) ++ [V.ref t])) b = some (.tup ys) := fun b ys e => by
          rw [upd_ne (ne_of e e1 fun z => nomatch z)]
          exact s3 _ _ e
        refine ⟨_, hD3, ?_, xs ++ [(t, z.2)], by rw [upd_same, List.map_append]; rfl, ?_, fun b o e => ?_, fun x hx' => ?_⟩
        · rw [List.length_map]
          exact small1000 (by omega)
        · rw [List.map_append, e2, etk, List.filter_append, List.filter_cons_of_pos (by rw [ec])]
          rfl
        · rw [upd_ne (ne_of_none e hD)]
          exact s3 _ _ (s2 _ _ e)
        · rcases List.mem_append.mp hx' with hx' | hx'
          · exact (hx x hx').kept tk
          · rw [List.mem_singleton.mp hx']
            have nt : t ≠ D := fun w => by rw [w, e1] at ht; cases ht
            exact ⟨q, (upd_ne nt).trans upd_same, tk _ _ w2⟩
    · rw [List.length_map, List.take_of_length_le (by rw [List.length_map]; exact Nat.le_refl _)] at e2
      refine k H' D xs (zs.map (·.2)) (s1.trans s2) (s1.free hD) e1 hx e2 zp ?_
      rw [List.map_map]
      exact zso
theorem scTHasCh : FnScope ["self", "route"] ["self"] (defScope sTHasCh) := ⟨rfl, rfl, rfl, by decide +kernel, rfl, by decide +kernel, by decide +kernel⟩
theorem ok_tHasCh {f : Addr} {fd : FuncData} (F : Fun K "has_changed" "Table.has_changed" sTHasCh f fd) (T : TxtT K mg CT) (TR : TxtR K mg CR) (hm : mg "any" = none) : FnOk P w K mg base CX0 1 f fd ["self"] (spTHasCh CT CR) := by
  refine F.ok scTHasCh (fun vs H Q E h => ?_) (fun cdv A outer s H vs Q E hr h => ?_)
  · obtain ⟨ta, d, es, rfl, _⟩ := h
    rfl
  · obtain ⟨ta, d, es, rfl, TA, k⟩ := h
    obtain ⟨dx, h1⟩ := TA.ob
    refine ⟨_, pss_one (ps_ret (pe_callB (cr_any rfl) (by rfl) hm (by decide +kernel) (pa_cons (pe_lock (pe_lc (own := [("route", 1)]) (g := gName 1) (tt := tYes) (by rfl) scTHasCh.nd (pi_valuesT (pe_fld (pv 0) rfl)) (blkOk_by (own := [("route", 1)]) (N := ["self", "route"]) (sc := defScope sTHasCh) (by decide +kernel))
      (fun _ _ _ _ _ => pg_name (i := 1) scTHasCh.nd rfl (Or.inl rfl)) (fun _ _ _ _ _ => pts_nil)
      (fun _ _ _ _ _ => pe_fldK K (pv 1) rfl rfl))) pa_nil))), ?_⟩
    refine ⟨d, _, TA.dc, trivial, fun od => ?_⟩
    have hd0 : upd H d (.frz od (.dT (kvsOf es))) ta = some (.ins CT dx [("by_network", .ref d)]) := by rw [upd_ne TA.tad]; exact h1
    have hR : ∀ e ∈ es, RouteAt CR (upd H d (.frz od (.dT (kvsOf es)))) e.1 e.2 := fun e he => (TA.rt e he).of (upd_ne (TA.ne_d he))
    have hd1 : upd H d (.frz od (.dT (kvsOf es))) d = some (.frz od (.dT (kvsOf es))) := upd_same
    have un : ∀ H', Same (upd H d (.frz od (.dT (kvsOf es)))) H' → Same H (upd H' d (.dT (kvsOf es))) := fun H' s => unlock_same TA.dc s
    generalize upd H d (.frz od (.dT (kvsOf es))) = H0 at hd0 hR hd1 un ⊢
    refine ⟨_, rfl, ta, CT, dx, _, _, rfl, hd0, T.cl, T.n1, rfl, d, od, _, rfl, hd1, fun D hD => ?_⟩
    have sD := same_new (o := .lst []) hD
    refine lc_it (walk_valuesT (d := d) (o := od) (kvs := kvsOf es)) (fun i H' => ∃ bs : List Bool, H' D = some (.lst (bs.map V.bl)) ∧ bs = (es.take i).map (fun e => e.2.changed) ∧ Same H0 H')
      ⟨[], upd_same, rfl, sD⟩ (fun i H' _ ⟨_, _, _, s⟩ => s _ _ hd1) (fun i x Ha Hb hi ⟨bs, e1, e2, s2⟩ y => ?_) (fun H' ⟨bs, e1, e2, s2⟩ => ?_)
    · obtain ⟨rfl, kk, hk⟩ := y
      obtain ⟨e, he, _, rfl⟩ := val_at hk
      have hil : i < es.length := (List.getElem?_eq_some_iff.mp he).1
      have TL := TA.le
      obtain ⟨dy, gg, fr, t2, q1, q2⟩ := hR e (List.mem_of_getElem? he)
      have q1' := s2 _ _ q1
      refine ⟨rfl, yes_if ?_⟩
      refine ⟨_, rfl, e.1, CR, dy, _, _, rfl, q1', TR.cl, TR.n7, rfl, _, e1, ?_, bs ++ [e.2.changed], by rw [upd_same, List.map_append]; rfl, by rw [e2, take_next he, List.map_append]; rfl, fun b o z => ?_⟩
      · rw [List.length_map, e2, List.length_map]
        exact small1000 (Nat.le_trans (List.length_take_le _ _) (by omega))
      · rw [upd_ne (ne_of_none z hD)]
        exact s2 _ _ z
    · refine ⟨s2 _ _ hd1, D, bs, rfl, SqL.of ?_, ?_⟩
      · rw [upd_ne (fun z => by rw [z, hd1] at hD; cases hD)]
        exact e1
      · have ea : bs.any id = es.any fun e => e.2.changed := by
          rw [e2, kvs_len, List.take_length, List.any_map]
          rfl
        rw [ea]
        exact k _ (un H' s2)
theorem scTEnds : FnScope ["self", "route"] ["self"] (defScope sTEnds) := ⟨rfl, rfl, rfl, by decide +kernel, rfl, by decide +kernel, by decide +kernel⟩
theorem ok_tEnds {f : Addr} {fd : FuncData} (F : Fun K "ends" "Table.ends" sTEnds f fd) (T : TxtT K mg CT) (TR : TxtR K mg CR) (MO : HasM P w K mg base CR "is_own" 1 ["self"] (spROwn CR)) (ME : HasM P w K mg base CR "ends_at" 2 ["self"] (spREnds CR)) : FnOk P w K mg base CX0 3 f fd ["self"] (spTEnds CT CR) := by
  refine F.ok scTEnds (fun vs H Q E h => ?_) (fun cdv A outer s H vs Q E hr h => ?_)
  · obtain ⟨ta, d, es, rfl, _⟩ := h
    rfl
  · obtain ⟨ta, d, es, rfl, TA, k⟩ := h
    obtain ⟨dx, h1⟩ := TA.ob
    obtain ⟨g1, gd1, m1, b1, G1⟩ := MO.ex
    obtain ⟨g2, gd2, m2, b2, G2⟩ := ME.ex
    have hr1 : Room 1 _ := hr.mono (by decide)
    refine ⟨_, pss_one (ps_ret (pe_lock (pe_lc (own := [("route", 1)]) (g := gName 1) (by rfl) scTEnds.nd (pi_valuesT (pe_fld (pv 0) rfl)) (blkOk_by (own := [("route", 1)]) (N := ["self", "route"]) (sc := defScope sTEnds) (by decide +kernel))
      (fun _ _ _ _ _ => pg_name (i := 1) scTEnds.nd rfl (Or.inl rfl)) (fun _ _ _ _ _ => pts_one (pt_not (pt_val (pe_meth0 (pv 1) TR.cl m1 G1 hr1 b1 .nil pass0))))
      (fun _ _ _ _ _ => pe_meth0 (pv 1) TR.cl m2 G2 hr b2 .nil pass0)))), ?_⟩
    refine ⟨d, _, TA.dc, trivial, fun od => ?_⟩
    have hd0 : upd H d (.frz od (.dT (kvsOf es))) ta = some (.ins CT dx [("by_network", .ref d)]) := by rw [upd_ne TA.tad]; exact h1
    have hR : ∀ e ∈ es, RouteAt CR (upd H d (.frz od (.dT (kvsOf es)))) e.1 e.2 := fun e he => (TA.rt e he).of (upd_ne (TA.ne_d he))
    have hd1 : upd H d (.frz od (.dT (kvsOf es))) d = some (.frz od (.dT (kvsOf es))) := upd_same
    have un : ∀ H', Same (upd H d (.frz od (.dT (kvsOf es)))) H' → Same H (upd H' d (.dT (kvsOf es))) := fun H' s => unlock_same TA.dc s
    have fr0 : ∀ b, upd H d (.frz od (.dT (kvsOf es))) b = none → H b = none := fun b e => by
      by_cases c : b = d
      · rw [c, upd_same] at e; cases e
      · rwa [upd_ne c] at e
    generalize upd H d (.frz od (.dT (kvsOf es))) = H0 at hd0 hR hd1 un fr0 ⊢
    refine ⟨_, rfl, ta, CT, dx, _, _, rfl, hd0, T.cl, T.n1, rfl, d, od, _, rfl, hd1, fun D hD => ?_⟩
    have sD := same_new (o := .lst []) hD
    refine lc_it (walk_valuesT (d := d) (o := od) (kvs := kvsOf es)) (fun i H' => H' D = some (.lst (vN (endsL ((es.take i).map (·.2))))) ∧ (endsL ((es.take i).map (·.2))).length ≤ i ∧ Same H0 H')
      ⟨upd_same, Nat.le_refl _, sD⟩ (fun i H' _ ⟨_, _, s⟩ => s _ _ hd1) (fun i x Ha Hb hi ⟨e1, e2, s2⟩ y => ?_) (fun H' ⟨e1, e2, s2⟩ => ?_)
    · obtain ⟨rfl, kk, hk⟩ := y
      obtain ⟨e, he, _, rfl⟩ := val_at hk
      have hem := List.mem_of_getElem? he
      have hil : i < es.length := (List.getElem?_eq_some_iff.mp he).1
      have TL := TA.le
      have R := (hR e hem).kept (M := fun _ => False) (Kept.same s2) fun z => z
      obtain ⟨dy, gg, fr, t2, q1, q2⟩ := id R
      have ee : endsL ((es.take (i + 1)).map (·.2)) = endsL ((es.take i).map (·.2)) ++ endsL [e.2] := by
        rw [take_next he, List.map_append]
        unfold endsL
        rw [List.filter_append, List.map_append]
        rfl
      refine ⟨rfl, _, rfl, e.1, dy, _, rfl, q1, rfl, e.1, e.2, rfl, R, _, rfl, ?_⟩
      by_cases c : e.2.dist = 0
      · rw [decide_eq_true c]
        have en : endsL [e.2] = [] := by
          unfold endsL
          rw [List.filter_cons_of_neg (by rw [decide_eq_true c]; decide)]
          rfl
        refine iteF ⟨?_, ?_, s2⟩
        · rw [ee, en, List.append_nil]; exact e1
        · rw [ee, en, List.append_nil]; omega
      · rw [decide_eq_false c]
        have en : endsL [e.2] = [if e.2.dist < 16 then e.2.good else e.2.gone] := by
          unfold endsL
          rw [List.filter_cons_of_pos (by rw [decide_eq_false c]; rfl)]
          rfl
        refine iteT ⟨_, rfl, e.1, dy, _, rfl, q1, rfl, e.1, e.2, rfl, R, TA.dom e hem, c, _, e1, ?_, ?_, ?_, fun b o z => ?_⟩
        · rw [vN_length]
          exact small1000 (by omega)
        · rw [upd_same, ee, en]
          unfold vN
          rw [List.map_append]
          rfl
        · rw [ee, en, List.length_append]
          show _ + 1 ≤ i + 1
          omega
        · rw [upd_ne (ne_of_none z hD)]
          exact s2 _ _ z
    · rw [kvs_len, List.take_length] at e1
      refine ⟨s2 _ _ hd1, k _ D (un H' s2) ?_ ?_⟩
      · exact fr0 D hD
      · rw [upd_ne (fun z => by rw [z, hd1] at hD; cases hD)]
        exact e1
end
end NR
end

section
set_option Elab.async false
set_option maxRecDepth 100000
set_option maxHeartbeats 4000000
/-! table.py: what time does to the routes; the route to an address -/
namespace NR
open PySem PySem.Spec L2
open Ra54 (Route)
def agedR (now : Nat) (r : Route) : Route := if 0 < r.via ∧ r.dist < 16 ∧ r.good ≤ now then Ra54.lost now r else r
def quietR (r : Route) : Route := { r with changed := false }
def keepR (now : Nat) (r : Route) : Bool := !decide (r.dist = 16 ∧ r.gone ≤ now)
def spTOutd (CT CR : Addr) : Sp := fun vs H Q _ => ∃ (ta d : Addr) (es : Ents) (now : Nat), vs = [.ref ta, .int now] ∧ TabAt CT CR H ta d es ∧
  ∀ H', TabAt CT CR H' ta d (es.map fun e => (e.1, agedR now e.2)) → Kept (· ∈ es.map (·.1)) H H' → Q .non H'
def spTMark (CT CR : Addr) : Sp := fun vs H Q _ => ∃ (ta d : Addr) (es : Ents), vs = [.ref ta] ∧ TabAt CT CR H ta d es ∧
  ∀ H', TabAt CT CR H' ta d (es.map fun e => (e.1, quietR e.2)) → Kept (· ∈ es.map (·.1)) H H' → Q .non H'
def spTForget (CT CR : Addr) : Sp := fun vs H Q _ => ∃ (ta d : Addr) (es : Ents) (now : Nat), vs = [.ref ta, .int now] ∧ TabAt CT CR H ta d es ∧
  ∀ H' d', H d' = none → TabAt CT CR H' ta d' (es.filter fun e => keepR now e.2) → Kept (· = ta) H H' → Q .non H'
def spTRouteTo (CT CR : Addr) : Sp := fun vs H Q _ => ∃ (ta d : Addr) (es : Ents) (a : Nat), vs = [.ref ta, .int a] ∧ TabAt CT CR H ta d es ∧ a < 2 ^ 64 ∧
  (Ra54.best (es.map (·.2)) a = none → ∀ H', Same H H' → Q .non H') ∧ ∀ e ∈ es, Ra54.best (es.map (·.2)) a = some e.2 → ∀ H', Same H H' → Q (.ref e.1) H'
theorem agedR_key (now : Nat) (r : Route) : key (agedR now r) = key r := by
  unfold agedR
  split <;> rfl
theorem agedR_dom (now : Nat) (r : Route) (h : Dom r) : Dom (agedR now r) := by
  unfold agedR
  split
  · exact lost_dom now h.2.2.2
  · exact h
section
variable {P : Program} {w : World} {K : PySem.W.Frag} {mg : Str → Option Value} {base : Heap} {CT CR : Addr}
theorem TabAt.each {H H' : Hp} {ta d : Addr} {es : Ents} {fR : Route → Route} (hk : ∀ r, key (fR r) = key r) (hd : ∀ r, Dom r → Dom (fR r)) (TA : TabAt CT CR H ta d es) (ho : ∃ dx, H' ta = some (.ins CT dx [("by_network", .ref d)])) (hc : H' d = some (.dT (kvsOf es)))
    (hR : ∀ e ∈ es, RouteAt CR H' e.1 (fR e.2)) : TabAt CT CR H' ta d (es.map fun e => (e.1, fR e.2)) := by
  have ek : kvsOf (es.map fun e => (e.1, fR e.2)) = kvsOf es := by
    unfold kvsOf
    rw [List.map_map]
    exact List.map_congr_left fun e _ => by
      show (keyL (fR e.2), V.ref e.1) = (keyL e.2, V.ref e.1)
      rw [keyLL.mpr (hk e.2)]
  have er : (es.map fun e => (e.1, fR e.2)).map (·.2) = (es.map (·.2)).map fR := by
    rw [List.map_map, List.map_map]
    rfl
  refine ⟨ho, by rw [hc, ek], fun e he => ?_, by rw [List.map_map]; exact TA.ad, ?_, by rw [List.length_map]; exact TA.le, fun e he => ?_⟩
  · obtain ⟨y, hy, rfl⟩ := List.mem_map.mp he
    exact hR y hy
  · rw [er]
    exact List.pairwise_map.mpr (TA.nk.imp fun z => by rw [hk, hk]; exact z)
  · obtain ⟨y, hy, rfl⟩ := List.mem_map.mp he
    exact hd _ (TA.dom y hy)
/-- one route is done, the others stand as they were -/
theorem each_next {H' H2 : Hp} {es : Ents} {fR : Route → Route} {j : Nat} {e : Addr × Route} (ad : (es.map (·.1)).Nodup) (he : es[j]? = some e) (hR : ∀ m e, es[m]? = some e → RouteAt CR H' e.1 (if m < j then fR e.2 else e.2)) (R2 : RouteAt CR H2 e.1 (fR e.2)) (k2 : Kept (· = e.1) H' H2) :
    ∀ m e, es[m]? = some e → RouteAt CR H2 e.1 (if m < j + 1 then fR e.2 else e.2) := by
  intro m e' hm
  by_cases c : m = j
  · subst c
    rw [he] at hm
    cases hm
    rw [if_pos (Nat.lt_succ_self m)]
    exact R2
  · have n : e'.1 ≠ e.1 := fun z => c (by
      have a1 : (es.map (·.1))[m]? = some e'.1 := by rw [List.getElem?_map, hm]; rfl
      have a2 : (es.map (·.1))[j]? = some e.1 := by rw [List.getElem?_map, he]; rfl
      rw [← z] at a2
      obtain ⟨b1, c1⟩ := List.getElem?_eq_some_iff.mp a1
      obtain ⟨b2, c2⟩ := List.getElem?_eq_some_iff.mp a2
      exact (List.getElem_inj ad).mp (c1.trans c2.symm))
    have q := (hR m e' hm).kept k2 n
    have e3 : (m < j + 1) ↔ (m < j) := by omega
    simp only [e3]
    exact q
theorem scTOutd : FnScope ["self", "now", "route"] ["self", "now"] (defScope sTOutd) := ⟨rfl, rfl, rfl, by decide +kernel, rfl, by decide +kernel, by decide +kernel⟩
theorem ok_tOutd {f : Addr} {fd : FuncData} (F : Fun K "lose_outdated" "Table.lose_outdated" sTOutd f fd) (T : TxtT K mg CT) (TR : TxtR K mg CR) (MR : HasM P w K mg base CR "is_outdated" 2 ["self", "now"] (spROutd CR)) (ML : HasM P w K mg base CR "lose" 1 ["self", "now"] (spRLose CR)) :
    FnOk P w K mg base CX0 3 f fd ["self", "now"] (spTOutd CT CR) := by
  refine F.ok scTOutd (fun vs H Q E h => ?_) (fun cdv A outer s H vs Q E hr h => ?_)
  · obtain ⟨ta, d, es, now, rfl, _⟩ := h
    rfl
  · obtain ⟨ta, d, es, now, rfl, TA, k⟩ := h
    obtain ⟨g1, gd1, m1, b1, G1⟩ := MR.ex
    obtain ⟨g2, gd2, m2, b2, G2⟩ := ML.ex
    obtain ⟨dx, h1⟩ := TA.ob
    have hr1 : Room 1 _ := hr.mono (by decide)
    refine ⟨_, pss_one (ps_lock (ps_for PassesOwn.never rfl (pi_valuesT (pe_fld (pv 0) rfl)) (pg_name (i := 2) scTOutd.nd rfl (.inl rfl))
      (pss_one (ps_if (pt_val (pe_meth (pv 2) TR.cl m1 G1 hr b1 .nil pass0 (pa_cons (pv 1) pa_nil)))
        (pss_one (ps_expr (pe_meth (pv 2) TR.cl m2 G2 hr1 b2 .nil pass0 (pa_cons (pv 1) pa_nil)))) pss_nil)))), ?_⟩
    refine ⟨d, _, TA.dc, trivial, fun od => ?_⟩
    have hd0 : upd H d (.frz od (.dT (kvsOf es))) ta = some (.ins CT dx [("by_network", .ref d)]) := by rw [upd_ne TA.tad]; exact h1
    refine ⟨_, rfl, ta, CT, dx, _, _, rfl, hd0, T.cl, T.n1, rfl, d, od, _, rfl, upd_same, ?_⟩
    refine for_valsT (kvs := kvsOf es) (fun j σ H' => ∃ v : Option V, σ = [some (.ref ta), some (.int now), v] ∧ H' d = some (.frz od (.dT (kvsOf es))) ∧ Kept (· ∈ es.map (·.1)) (upd H d (.frz od (.dT (kvsOf es)))) H' ∧
        (∀ m e, es[m]? = some e → RouteAt CR H' e.1 (if m < j then agedR now e.2 else e.2))) ⟨none, rfl, upd_same, Kept.refl _ _, fun m e hm => ?_⟩ (fun j σ H' _ ⟨_, _, z, _⟩ => z) ?_ ?_
    · rw [if_neg (Nat.not_lt_zero _)]
      exact (TA.rt e (List.mem_of_getElem? hm)).of (upd_ne (TA.ne_d (List.mem_of_getElem? hm)))
    · rintro j kk x σ H' hj ⟨v, rfl, hfz, hk, hR⟩
      obtain ⟨e, he, _, rfl⟩ := val_at hj
      have hme := List.mem_of_getElem? he
      have R := hR j e he
      rw [if_neg (Nat.lt_irrefl j)] at R
      obtain ⟨dy, g, fr, t, q1, q2⟩ := id R
      have next : ∀ H2, RouteAt CR H2 e.1 (agedR now e.2) → Kept (· = e.1) H' H2 → ∃ v : Option V, ([some (V.ref ta), some (V.int now), some (V.ref e.1)] : L2.St) = [some (.ref ta), some (.int now), v] ∧ H2 d = some (.frz od (.dT (kvsOf es))) ∧
          Kept (· ∈ es.map (·.1)) (upd H d (.frz od (.dT (kvsOf es)))) H2 ∧ (∀ m e, es[m]? = some e → RouteAt CR H2 e.1 (if m < j + 1 then agedR now e.2 else e.2)) := fun H2 R2 k2 =>
        ⟨_, rfl, k2 _ _ hfz (TA.ne_d hme).symm, hk.trans (k2.mono fun b z => by rw [z]; exact List.mem_map.mpr ⟨e, hme, rfl⟩), each_next TA.ad he hR R2 k2⟩
      refine ⟨_, rfl, e.1, dy, _, rfl, q1, rfl, _, rfl, e.1, e.2, now, rfl, R, TA.dom e hme, _, rfl, ?_⟩
      by_cases c : 0 < e.2.via ∧ e.2.dist < 16 ∧ e.2.good ≤ now
      · rw [decide_eq_true c]
        refine iteT ⟨_, rfl, e.1, dy, _, rfl, q1, rfl, _, rfl, e.1, e.2, now, rfl, R, fun H2 R2 k2 => next H2 ?_ k2⟩
        unfold agedR
        rw [if_pos c]
        exact R2
      · rw [decide_eq_false c]
        refine iteF (next H' ?_ (Kept.refl _ _))
        unfold agedR
        rw [if_neg c]
        exact R
    · rintro σ H' ⟨v, rfl, hfz, hk, hR⟩
      rw [kvs_len] at hR
      refine ⟨hfz, k _ (TA.each (agedR_key now) (agedR_dom now) ⟨dx, ?_⟩ upd_same fun e he => ?_) (unlock_kept TA.dc hk)⟩
      · rw [upd_ne TA.tad]
        refine hk _ _ hd0 fun z => ?_
        obtain ⟨y, hy, q⟩ := List.mem_map.mp z
        exact TA.ne_ta hy q
      · obtain ⟨m, hm⟩ := List.mem_iff_getElem?.mp he
        have q := hR m e hm
        rw [if_pos (List.getElem?_eq_some_iff.mp hm).1] at q
        exact q.of (upd_ne (TA.ne_d he))
theorem scTMark : FnScope ["self", "route"] ["self"] (defScope sTMark) := ⟨rfl, rfl, rfl, by decide +kernel, rfl, by decide +kernel, by decide +kernel⟩
theorem ok_tMark {f : Addr} {fd : FuncData} (F : Fun K "mark_unchanged" "Table.mark_unchanged" sTMark f fd) (T : TxtT K mg CT) (TR : TxtR K mg CR) : FnOk P w K mg base CX0 1 f fd ["self"] (spTMark CT CR) := by
  refine F.ok scTMark (fun vs H Q E h => ?_) (fun cdv A outer s H vs Q E hr h => ?_)
  · obtain ⟨ta, d, es, rfl, _⟩ := h
    rfl
  · obtain ⟨ta, d, es, rfl, TA, k⟩ := h
    obtain ⟨dx, h1⟩ := TA.ob
    refine ⟨_, pss_one (ps_lock (ps_for PassesOwn.never rfl (pi_valuesT (pe_fld (pv 0) rfl)) (pg_name (i := 1) scTMark.nd rfl (.inl rfl))
      (pss_one (ps_fld (pv 1) pe_bl rfl)))), ?_⟩
    refine ⟨d, _, TA.dc, trivial, fun od => ?_⟩
    have hd0 : upd H d (.frz od (.dT (kvsOf es))) ta = some (.ins CT dx [("by_network", .ref d)]) := by rw [upd_ne TA.tad]; exact h1
    refine ⟨_, rfl, ta, CT, dx, _, _, rfl, hd0, T.cl, T.n1, rfl, d, od, _, rfl, upd_same, ?_⟩
    refine for_valsT (kvs := kvsOf es) (fun j σ H' => ∃ v : Option V, σ = [some (.ref ta), v] ∧ H' d = some (.frz od (.dT (kvsOf es))) ∧ Kept (· ∈ es.map (·.1)) (upd H d (.frz od (.dT (kvsOf es)))) H' ∧
        (∀ m e, es[m]? = some e → RouteAt CR H' e.1 (if m < j then quietR e.2 else e.2))) ⟨none, rfl, upd_same, Kept.refl _ _, fun m e hm => ?_⟩ (fun j σ H' _ ⟨_, _, z, _⟩ => z) ?_ ?_
    · rw [if_neg (Nat.not_lt_zero _)]
      exact (TA.rt e (List.mem_of_getElem? hm)).of (upd_ne (TA.ne_d (List.mem_of_getElem? hm)))
    · rintro j kk x σ H' hj ⟨v, rfl, hfz, hk, hR⟩
      obtain ⟨e, he, _, rfl⟩ := val_at hj
      have hme := List.mem_of_getElem? he
      have R := hR j e he
      rw [if_neg (Nat.lt_irrefl j)] at R
      obtain ⟨dy, g, fr, t, q1, q2⟩ := id R
      refine ⟨_, rfl, e.1, CR, dy, _, rfl, q1, TR.cl, TR.n7, (by show 7 < 1000; decide), ?_⟩
      have k2 : Kept (· = e.1) H' (upd H' e.1 (.ins CR dy (putF "changed" (.bl false) (rF e.2.dist e.2.link e.2.via g fr t e.2.changed)))) := Kept.at' rfl
      exact ⟨_, rfl, k2 _ _ hfz (TA.ne_d hme).symm, hk.trans (k2.mono fun b z => by rw [z]; exact List.mem_map.mpr ⟨e, hme, rfl⟩), each_next TA.ad he hR ⟨dy, g, fr, t, upd_same, q2⟩ k2⟩
    · rintro σ H' ⟨v, rfl, hfz, hk, hR⟩
      rw [kvs_len] at hR
      refine ⟨hfz, k _ (TA.each (fR := quietR) (fun _ => rfl) (fun _ h => h) ⟨dx, ?_⟩ upd_same fun e he => ?_) (unlock_kept TA.dc hk)⟩
      · rw [upd_ne TA.tad]
        refine hk _ _ hd0 fun z => ?_
        obtain ⟨y, hy, q⟩ := List.mem_map.mp z
        exact TA.ne_ta hy q
      · obtain ⟨m, hm⟩ := List.mem_iff_getElem?.mp he
        have q := hR m e hm
        rw [if_pos (List.getElem?_eq_some_iff.mp hm).1] at q
        exact q.of (upd_ne (TA.ne_d he))
theorem putE_new {x : Addr × Route} : ∀ {es : Ents}, (∀ e ∈ es, key e.2 ≠ key x.2) → putE x es = es ++ [x]
  | [], _ => rfl
  | e :: l, h => by
    unfold putE
    rw [if_neg (h e List.mem_cons_self), putE_new fun y hy => h y (List.mem_cons_of_mem _ hy)]
    rfl
theorem scTForget : FnScope ["self", "now", "kept", "network", "route"] ["self", "now"] (defScope sTForget) := ⟨rfl, rfl, rfl, by decide +kernel, rfl, by decide +kernel, by decide +kernel⟩
theorem ok_tForget {f : Addr} {fd : FuncData} (F : Fun K "forget_old" "Table.forget_old" sTForget f fd) (T : TxtT K mg CT) (TR : TxtR K mg CR) (MF : HasM P w K mg base CR "is_forgotten" 2 ["self", "now"] (spRForg CR)) :
    FnOk P w K mg base CX0 3 f fd ["self", "now"] (spTForget CT CR) := by
  refine F.ok scTForget (fun vs H Q E h => ?_) (fun cdv A outer s H vs Q E hr h => ?_)
  · obtain ⟨ta, d, es, now, rfl, _⟩ := h
    rfl
  · obtain ⟨ta, d, es, now, rfl, TA, k⟩ := h
    obtain ⟨g1, gd1, m1, b1, G1⟩ := MF.ex
    obtain ⟨dx, h1⟩ := TA.ob
    have hu := hu_of hr
    refine ⟨_, pss_cons (ps_set (i := 2) scTForget.nd rfl (.inl rfl) pe_dnewT)
      (pss_cons (ps_lock (ps_for PassesOwn.never rfl (pi_itemsT (pe_fld (pv 0) rfl)) (pg_tup rfl (pgs_cons (pg_name (i := 3) scTForget.nd rfl (.inl rfl)) (pgs_cons (pg_name (i := 4) scTForget.nd rfl (.inl rfl)) pgs_nil)))
        (pss_one (ps_if (pt_not (pt_val (pe_meth (pv 4) TR.cl m1 G1 hr b1 .nil pass0 (pa_cons (pv 1) pa_nil))))
          (pss_one (ps_dput hu (pv 2) (pv 3) (pv 4) rfl)) pss_nil))))
      (pss_one (ps_fld (pv 0) (pv 2) rfl))), ?_⟩
    -- kept = {}
    intro B hB
    have sB := same_new (o := .dT []) hB
    have hB1 : upd H B (.dT []) B = some (.dT (kvsOf [])) := upd_same
    have fB : ∀ b, upd H B (.dT []) b = none → H b = none := fun b e => sB.free e
    generalize upd H B (.dT []) = H1 at sB hB1 fB ⊢
    have TA1 := TA.same sB
    have ndB : d ≠ B := fun e => by
      have w := TA.dc
      rw [e, hB] at w
      cases w
    have ntB : ta ≠ B := fun e => by rw [e, hB] at h1; cases h1
    refine ⟨d, _, TA1.dc, trivial, fun od => ?_⟩
    have h11 := sB _ _ h1
    have hd0 : upd H1 d (.frz od (.dT (kvsOf es))) ta = some (.ins CT dx [("by_network", .ref d)]) := by rw [upd_ne TA.tad]; exact h11
    have hB2 : upd H1 d (.frz od (.dT (kvsOf es))) B = some (.dT (kvsOf [])) := by rw [upd_ne ndB.symm]; exact hB1
    have hd1 : upd H1 d (.frz od (.dT (kvsOf es))) d = some (.frz od (.dT (kvsOf es))) := upd_same
    have hR : ∀ e ∈ es, RouteAt CR (upd H1 d (.frz od (.dT (kvsOf es)))) e.1 e.2 := fun e he => (TA1.rt e he).of (upd_ne (TA.ne_d he))
    have un : ∀ H', Kept (· = B) (upd H1 d (.frz od (.dT (kvsOf es)))) H' → Kept (· = B) H1 (upd H' d (.dT (kvsOf es))) := fun H' s => unlock_kept TA1.dc s
    generalize upd H1 d (.frz od (.dT (kvsOf es))) = H2 at hd0 hB2 hd1 hR un ⊢
    have hRk : ∀ {H'}, Kept (· = B) H2 H' → ∀ e ∈ es, RouteAt CR H' e.1 e.2 := fun kp e he => (hR e he).kept kp fun z => by
      obtain ⟨dy, gg, fr, t2, q1, _⟩ := TA.rt e he
      rw [show e.1 = B from z, hB] at q1
      cases q1
    refine ⟨_, rfl, ta, CT, dx, _, _, rfl, hd0, T.cl, T.n1, rfl, d, od, _, rfl, hd1, ?_⟩
    refine for_it walk_itemsT (fun j σ H' => ∃ v3 v4 : Option V, σ = [some (.ref ta), some (.int now), some (.ref B), v3, v4] ∧ Kept (· = B) H2 H' ∧ H' B = some (.dT (kvsOf ((es.take j).filter fun e => keepR now e.2))))
      ⟨none, none, rfl, Kept.refl _ _, hB2⟩ (fun j σ H' _ ⟨_, _, _, s, _⟩ => s _ _ hd1 ndB) ?_ ?_
    · rintro j x σ H' H'' hj ⟨v3, v4, rfl, kp, hb⟩ ⟨t, q, kk, v, hkv, hq, rfl, ht, rfl⟩
      obtain ⟨e, he, rfl, rfl⟩ := val_at hkv
      have hme := List.mem_of_getElem? he
      have hil : j < es.length := (List.getElem?_eq_some_iff.mp he).1
      have TL := TA.le
      have s3 := same_new (o := .tup [.ref q, .ref e.1]) ht
      have kp3 : Kept (· = B) H2 (upd H' t (.tup [.ref q, .ref e.1])) := kp.trans (Kept.same s3)
      have hb3 := s3 _ _ hb
      have hq3 := s3 _ _ hq
      have R := hRk kp3 e hme
      obtain ⟨dy, gg, fr, t2, q1, q2⟩ := id R
      refine ⟨t, _, rfl, SqT.of upd_same, rfl, _, _, rfl, _, _, rfl, rfl, ?_⟩
      have etk : (es.take (j + 1)).filter (fun e => keepR now e.2) = (es.take j).filter (fun e => keepR now e.2) ++ [e].filter fun e => keepR now e.2 := by rw [take_next he, List.filter_append]
      refine ⟨_, rfl, e.1, dy, _, rfl, q1, rfl, _, rfl, e.1, e.2, now, rfl, R, TA.dom e hme, _, rfl, ?_⟩
      by_cases c : e.2.dist = 16 ∧ e.2.gone ≤ now
      · rw [decide_eq_true c]
        refine iteF ⟨_, _, rfl, kp3, ?_⟩
        rw [etk, List.filter_cons_of_neg (by unfold keepR; rw [decide_eq_true c]; decide), List.filter_nil, List.append_nil]
        exact hb3
      · rw [decide_eq_false c]
        have hlen : ((es.take j).filter fun e => keepR now e.2).length ≤ j := Nat.le_trans (List.length_filter_le _ _) (List.length_take_le _ _)
        refine iteT ⟨_, rfl, _, rfl, _, rfl, B, _, rfl, DPut.t (k := keyL e.2) hb3 hq3 (by rw [kvs_len]; exact small1000 (by omega)), ?_⟩
        refine ⟨_, _, rfl, kp3.trans (Kept.at' rfl), ?_⟩
        have nkt : NK ((((es.take j).filter fun e => keepR now e.2)).map (·.2)) := by
          have q : (((es.take j).filter fun e => keepR now e.2)).Sublist es := List.filter_sublist.trans (List.take_sublist _ _)
          exact List.Pairwise.sublist (q.map _) TA.nk
        have nw : ∀ y ∈ (es.take j).filter (fun e => keepR now e.2), key y.2 ≠ key e.2 := fun y hy => by
          have hy' := (List.mem_filter.mp hy).1
          have nk2 : NK ((es.take (j + 1)).map (·.2)) := List.Pairwise.sublist ((List.take_sublist _ _).map _) TA.nk
          rw [take_next he, List.map_append] at nk2
          exact (List.pairwise_append.mp nk2).2.2 y.2 (List.mem_map.mpr ⟨y, hy', rfl⟩) e.2 (by simp)
        rw [upd_same, kvs_put (x := e) nkt, putE_new nw, etk, List.filter_cons_of_pos (by unfold keepR; rw [decide_eq_false c]; rfl), List.filter_nil]
    · rintro σ H' ⟨v3, v4, rfl, kp, hb⟩
      rw [kvs_len, List.take_length] at hb
      refine ⟨kp _ _ hd1 ndB, ?_⟩
      have kp1 := un H' kp
      have hta : upd H' d (.dT (kvsOf es)) ta = some (.ins CT dx [("by_network", .ref d)]) := kp1 _ _ h11 ntB
      have hbB : upd H' d (.dT (kvsOf es)) B = some (.dT (kvsOf (es.filter fun e => keepR now e.2))) := by rw [upd_ne ndB.symm]; exact hb
      have hR3 : ∀ e ∈ es, RouteAt CR (upd H' d (.dT (kvsOf es))) e.1 e.2 := fun e he => (hRk kp e he).of (upd_ne (TA.ne_d he))
      have kp0 : Kept (· = B) H (upd H' d (.dT (kvsOf es))) := (Kept.same sB).trans kp1
      generalize upd H' d (.dT (kvsOf es)) = H3 at kp1 hta hbB hR3 kp0 ⊢
      refine ⟨_, rfl, _, rfl, ta, CT, dx, _, rfl, hta, T.cl, T.n1, (by show 1 < 1000; decide), ?_⟩
      have sub : (es.filter fun e => keepR now e.2).Sublist es := List.filter_sublist
      refine k _ B hB ⟨⟨dx, upd_same⟩, by rw [upd_ne ntB.symm]; exact hbB, fun e he => ?_, List.Pairwise.sublist (sub.map _) TA.ad, List.Pairwise.sublist (sub.map _) TA.nk, Nat.le_trans sub.length_le TA.le, fun e he => TA.dom e (sub.subset he)⟩ fun b o e n => ?_
      · exact (hR3 e (sub.subset he)).of (upd_ne (TA.ne_ta (sub.subset he)))
      · rw [upd_ne n]
        exact kp0 b o e (ne_of_none e hB)
end
end NR
end

section
set_option Elab.async false
set_option maxRecDepth 100000
set_option maxHeartbeats 4000000
/-! table.py: the route to an address -/
namespace NR
open PySem PySem.Spec L2
open Ra54 (Route)
/-- the narrowest so far: its object and how many bits -/
def BestV (m : Option (Addr × Route)) (v b : V) : Prop := match m with
  | none => v = .non ∧ b = .int (-1)
  | some e => v = .ref e.1 ∧ b = .int e.2.bits
section
variable {P : Program} {w : World} {K : PySem.W.Frag} {mg : Str → Option Value} {base : Heap} {CT CR : Addr}
theorem scTRouteTo : FnScope ["self", "address", "narrowest", "most_bits", "network", "route"] ["self", "address"] (defScope sTRouteTo) := ⟨rfl, rfl, rfl, by decide +kernel, rfl, by decide +kernel, by decide +kernel⟩
theorem ok_tRouteTo {f : Addr} {fd : FuncData} (F : Fun K "route_to" "Table.route_to" sTRouteTo f fd) (T : TxtT K mg CT) (TR : TxtR K mg CR) (MR : HasM P w K mg base CR "is_in_reach" 1 ["self"] (spRReach CR)) (NO : HasF P w K mg base "is_of" 2 ["address", "network"] (spIsOf K)) :
    FnOk P w K mg base CX0 3 f fd ["self", "address"] (spTRouteTo CT CR) := by
  refine F.ok scTRouteTo (fun vs H Q E h => ?_) (fun cdv A outer s H vs Q E hr h => ?_)
  · obtain ⟨ta, d, es, a, rfl, _⟩ := h
    rfl
  · obtain ⟨ta, d, es, a, rfl, TA, ha, kN, kS⟩ := h
    obtain ⟨g1, gd1, m1, b1, G1⟩ := MR.ex
    obtain ⟨g2, gd2, m2, kp2, b2, G2⟩ := NO.ex
    obtain ⟨dx, h1⟩ := TA.ob
    have hr1 : Room 1 _ := hr.mono (by decide)
    refine ⟨_, pss_cons (ps_set (i := 2) scTRouteTo.nd rfl (.inl rfl) pe_non)
      (pss_cons (ps_set (i := 3) scTRouteTo.nd rfl (.inl rfl) (pe_un un_neg pe_int))
      (pss_cons (ps_lock (ps_for PassesOwn.never rfl (pi_itemsT (pe_fld (pv 0) rfl)) (pg_tup rfl (pgs_cons (pg_name (i := 4) scTRouteTo.nd rfl (.inl rfl)) (pgs_cons (pg_name (i := 5) scTRouteTo.nd rfl (.inl rfl)) pgs_nil)))
        (pss_one (ps_if (PW.pt (pw_and (pt_val (pe_meth0 (pv 5) TR.cl m1 G1 hr1 b1 .nil pass0)) (pw_and (pt_cmpR op_gt (pe_ix ix_tup (pv 4) pe_int (fun _ _ => rfl)) (pv 3) (nomark _)) (pw_and1 (pt_val (pe_call G2 hr (by rfl) m2 kp2 b2 .nil pass0 (pa_cons (pv 1) (pa_cons (pv 4) pa_nil))))))))
          (pss_cons (ps_set (i := 2) scTRouteTo.nd rfl (.inl rfl) (pv 5)) (pss_one (ps_set (i := 3) scTRouteTo.nd rfl (.inl rfl) (pe_ix ix_tup (pv 4) pe_int (fun _ _ => rfl))))) pss_nil))))
      (pss_one (ps_ret (pv 2))))), ?_⟩
    refine ⟨_, rfl, d, _, TA.dc, trivial, fun od => ?_⟩
    have hd0 : upd H d (.frz od (.dT (kvsOf es))) ta = some (.ins CT dx [("by_network", .ref d)]) := by rw [upd_ne TA.tad]; exact h1
    have hd1 : upd H d (.frz od (.dT (kvsOf es))) d = some (.frz od (.dT (kvsOf es))) := upd_same
    have hR : ∀ e ∈ es, RouteAt CR (upd H d (.frz od (.dT (kvsOf es)))) e.1 e.2 := fun e he => (TA.rt e he).of (upd_ne (TA.ne_d he))
    have un : ∀ H', Same (upd H d (.frz od (.dT (kvsOf es)))) H' → Same H (upd H' d (.dT (kvsOf es))) := fun H' s => unlock_same TA.dc s
    generalize upd H d (.frz od (.dT (kvsOf es))) = H0 at hd0 hd1 hR un ⊢
    refine ⟨_, rfl, ta, CT, dx, _, _, rfl, hd0, T.cl, T.n1, rfl, d, od, _, rfl, hd1, ?_⟩
    refine for_it walk_itemsT (fun j σ H' => ∃ (m : Option (Addr × Route)) (v b : V) (v4 v5 : Option V), σ = [some (.ref ta), some (.int a), some v, some b, v4, v5] ∧ Same H0 H' ∧ BestV m v b ∧ m.map (·.2) = ((es.take j).map (·.2)).foldl (bestStep a) none ∧ ∀ e, m = some e → e ∈ es)
      ⟨none, _, _, none, none, rfl, Same.refl _, ⟨rfl, rfl⟩, rfl, fun e z => nomatch z⟩ (fun j σ H' _ ⟨_, _, _, _, _, _, s, _⟩ => s _ _ hd1) ?_ ?_
    · rintro j x σ H' H'' hj ⟨m, v, b, v4, v5, rfl, s2, hb, hm, hin⟩ ⟨t, q, kk, vv, hkv, hq, rfl, ht, rfl⟩
      obtain ⟨e, he, rfl, rfl⟩ := val_at hkv
      have hme := List.mem_of_getElem? he
      have s3 := same_new (o := .tup [.ref q, .ref e.1]) ht
      have s23 := s2.trans s3
      have hq3 : upd H' t (.tup [.ref q, .ref e.1]) q = some (tupN (e.2.net, e.2.bits)) := s3 _ _ hq
      have ht3 : upd H' t (.tup [.ref q, .ref e.1]) t = some (.tup [.ref q, .ref e.1]) := upd_same
      generalize upd H' t (.tup [.ref q, .ref e.1]) = H3 at s3 s23 hq3 ht3 ⊢
      have R := (hR e hme).kept (M := fun _ => False) (Kept.same s23) fun z => z
      obtain ⟨dy, gg, fr, t2, q1, q2⟩ := id R
      have D := TA.dom e hme
      have etk : ((es.take (j + 1)).map (·.2)).foldl (bestStep a) none = bestStep a (((es.take j).map (·.2)).foldl (bestStep a) none) e.2 := by
        rw [take_next he, List.map_append, List.foldl_append]
        rfl
      have hF : Ra54.FAR = 16 := rfl
      -- nothing is taken
      have stay : ∀ H4, Same H3 H4 → bestStep a (m.map (·.2)) e.2 = m.map (·.2) → ∃ (m' : Option (Addr × Route)) (v' b' : V) (v4 v5 : Option V), ([some (V.ref ta), some (V.int a), some v, some b, some (V.ref q), some (V.ref e.1)] : L2.St) = [some (.ref ta), some (.int a), some v', some b', v4, v5] ∧ Same H0 H4 ∧ BestV m' v' b' ∧ m'.map (·.2) = ((es.take (j + 1)).map (·.2)).foldl (bestStep a) none ∧ ∀ e, m' = some e → e ∈ es :=
        fun H4 s4 hst => ⟨m, v, b, _, _, rfl, s23.trans s4, hb, by rw [etk, ← hm, hst], hin⟩
      refine ⟨t, _, rfl, SqT.of ht3, rfl, _, _, rfl, _, _, rfl, rfl, ?_⟩
      refine ⟨_, rfl, e.1, dy, _, rfl, q1, rfl, e.1, e.2, rfl, R, _, rfl, ?_⟩
      by_cases c1 : e.2.dist < 16
      case neg =>
        rw [decide_eq_false c1]
        refine iteF (iteF (stay H3 (Same.refl _) ?_))
        unfold bestStep
        rw [if_neg fun z => c1 (by have := z.1; omega)]
      rw [decide_eq_true c1]
      refine iteT ⟨_, rfl, q, _, _, _, rfl, rfl, SqT.of hq3, rfl, _, rfl, ?_⟩
      -- how many bits
      have bits : ∃ n : Int, b = .int n ∧ (n < (e.2.bits : Int) ↔ ∀ q, m.map (·.2) = some q → q.bits < e.2.bits) := by
        cases m with
        | none => exact ⟨-1, hb.2, ⟨fun _ q z => (nomatch z), fun _ => by omega⟩⟩
        | some f =>
          refine ⟨_, hb.2, fun z q w => ?_, fun z => ?_⟩
          · have w' : f.2 = q := Option.some.inj w
            subst w'
            omega
          · have z' : f.2.bits < e.2.bits := z f.2 rfl
            omega
      obtain ⟨n, rfl, hn⟩ := bits
      refine ⟨_, _, rfl, rfl, _, rfl, ?_⟩
      by_cases c2 : n < (e.2.bits : Int)
      case neg =>
        rw [decide_eq_false c2]
        refine iteF (iteF (stay H3 (Same.refl _) ?_))
        cases m with
        | none => exact absurd (hn.mpr fun q z => nomatch z) c2
        | some f =>
          unfold bestStep
          by_cases c : fits a e.2
          · rw [if_pos c]
            show (if f.2.bits < e.2.bits then some e.2 else some f.2) = some f.2
            exact if_neg fun z => c2 (hn.mpr fun q w => by cases w; exact z)
          · rw [if_neg c]
      rw [decide_eq_true c2]
      refine iteT ⟨_, rfl, _, rfl, a, (e.2.net, e.2.bits), q, rfl, hq3, ha, D.2.2.2, fun u hu' => ⟨_, rfl, ?_⟩⟩
      have s4 := same_new (o := tupN (Ra54.netOf (e.2.net, e.2.bits).2 a, (e.2.net, e.2.bits).2)) hu'
      have hq4 := s4 _ _ hq3
      generalize upd H3 u (tupN (Ra54.netOf (e.2.net, e.2.bits).2 a, (e.2.net, e.2.bits).2)) = H4 at s4 hq4 ⊢
      by_cases c3 : Ra54.netOf e.2.bits a = e.2.net
      case neg =>
        rw [decide_eq_false c3]
        refine iteF (stay H4 s4 ?_)
        unfold bestStep
        rw [if_neg fun z => c3 z.2]
      rw [decide_eq_true c3]
      refine iteT ⟨_, rfl, _, rfl, q, _, _, _, rfl, rfl, SqT.of hq4, rfl, ?_⟩
      refine ⟨some e, _, _, _, _, rfl, s23.trans s4, ⟨rfl, rfl⟩, ?_, fun f z => by cases z; exact hme⟩
      rw [etk, ← hm]
      unfold bestStep
      rw [if_pos (show fits a e.2 from ⟨by omega, c3⟩)]
      cases m with
      | none => rfl
      | some f =>
        show some e.2 = if f.2.bits < e.2.bits then some e.2 else some f.2
        rw [if_pos (hn.mp c2 f.2 rfl)]
    · rintro σ H' ⟨m, v, b, v4, v5, rfl, s2, hb, hm, hin⟩
      rw [kvs_len, List.take_length] at hm
      refine ⟨s2 _ _ hd1, _, rfl, ?_⟩
      have s := un H' s2
      have hbe : Ra54.best (es.map (·.2)) a = m.map (·.2) := hm.symm
      cases m with
      | none =>
        rw [show v = V.non from hb.1]
        exact kN hbe _ s
      | some e =>
        rw [show v = V.ref e.1 from hb.1]
        exact kS e (hin e rfl) hbe _ s
end
end NR
end

section
set_option Elab.async false
set_option maxRecDepth 100000
set_option maxHeartbeats 4000000
/-! session.py: way, routes, due -/
namespace NR
open PySem PySem.Spec L2
open Ra54 (Route Link)
/-- a call that answers a new list -/
def AfterL (C : Cl) (H : Hp) (sa pl ta d : Addr) (es : Ents) (b : Bool) (s : St0) (c : Ra54.Call) (Q : VK) : Prop :=
  ∀ (H' : Hp) (p d' : Addr) (es' : Ents) (s' : St0) (z : Ra54.Ans), Ra54.step (some s) c = (some s', z) → H p = none → H' p = some (.lst ((ansL z).map V.int)) → SesAt C H' sa pl ta d' es' b s' → FootTo sa pl ta d es pl ta d' es' H → Kept (SFoot sa pl ta d es) H H' → Q (.ref p) H'
theorem AfterL.same {C : Cl} {H H1 H' : Hp} {sa pl ta d : Addr} {es : Ents} {b : Bool} {s : St0} {c : Ra54.Call} {Q : VK} (k : AfterL C H sa pl ta d es b s c Q) (S : SesAt C H sa pl ta d es b s) {z : Ra54.Ans} (e : Ra54.step (some s) c = (some s, z)) (s1 : Same H H') {p : Addr} (hp : H p = none) (h : H' p = some (.lst ((ansL z).map V.int))) : Q (.ref p) H' :=
  k H' p d es s z e hp h (S.same s1) (fun _ _ _ n => n) (Kept.same s1)
theorem AfterL.only {C : Cl} {H : Hp} {sa pl ta d : Addr} {es : Ents} {b : Bool} {s : St0} {c : Ra54.Call} {Q : VK} (k : AfterL C H sa pl ta d es b s c Q) (S : SesAt C H sa pl ta d es b s) {z : Int} (e : Ra54.step (some s) c = (some s, Ra54.only z)) {H1 : Hp} (s1 : Same H H1) {p : Addr} (hp : H1 p = none) : Q (.ref p) (upd H1 p (.lst [.int z])) :=
  k.same (H1 := H) S e (s1.trans (same_new hp)) (s1.free hp) (by rw [upd_same]; rfl)
theorem ans_vN (n : Nat) (l : List Nat) : (((n : Int)) :: Ra54Neutral.ints l).map V.int = vN (n :: l) := by
  unfold Ra54Neutral.ints vN
  rw [List.map_cons, List.map_map, List.map_cons]
  rfl
theorem SesAt.best {C : Cl} {H : Hp} {sa pl ta d : Addr} {es : Ents} {b : Bool} {s : St0} (S : SesAt C H sa pl ta d es b s) (a : Nat) : Ra54.best s.routes a = Ra54.best (es.map (·.2)) a := best_perm S.od.pm S.od.nk a
def spSWay (C : Cl) : Sp := fun vs H Q _ => ∃ (sa pl ta d : Addr) (es : Ents) (b : Bool) (s : St0) (a : Nat), vs = [.ref sa, .int a] ∧ SesAt C H sa pl ta d es b s ∧ AfterL C H sa pl ta d es b s (.way a) Q
def spSRoutes (C : Cl) : Sp := fun vs H Q _ => ∃ (sa pl ta d : Addr) (es : Ents) (b : Bool) (s : St0), vs = [.ref sa] ∧ SesAt C H sa pl ta d es b s ∧ AfterL C H sa pl ta d es b s .routes Q
def spSDue (C : Cl) : Sp := fun vs H Q _ => ∃ (sa pl ta d : Addr) (es : Ents) (b : Bool) (s : St0), vs = [.ref sa] ∧ SesAt C H sa pl ta d es b s ∧ AfterL C H sa pl ta d es b s .due Q
section
variable {P : Program} {w : World} {K : PySem.W.Frag} {mg : Str → Option Value} {base : Heap} {C : Cl}
theorem scSWay : FnScope ["self", "address", "route", "neighbour"] ["self", "address"] (defScope sSWay) := ⟨rfl, rfl, rfl, by decide +kernel, rfl, by decide +kernel, by decide +kernel⟩
theorem ok_sWay {f : Addr} {fd : FuncData} (F : Fun K "way" "Session.way" sSWay f fd) (T : TxtS K mg C) (TT : TxtT K mg C.T) (TR : TxtR K mg C.R) (M : HasM P w K mg base C.T "route_to" 3 ["self", "address"] (spTRouteTo C.T C.R)) : FnOk P w K mg base CX0 4 f fd ["self", "address"] (spSWay C) := by
  refine F.ok scSWay (fun vs H Q E h => ?_) (fun cdv A outer s H vs Q E hr h => ?_)
  · obtain ⟨sa, pl, ta, d, es, b, st, a, rfl, _⟩ := h
    rfl
  · obtain ⟨sa, pl, ta, d, es, b, st, a, rfl, S, k⟩ := h
    obtain ⟨dx, h1⟩ := S.ob
    obtain ⟨dy, z1⟩ := S.tb.ob
    obtain ⟨g, gd, m, bb, G⟩ := M.ex
    refine ⟨_, pss_cons (ps_if (pt_cmpR op_gt (pv 1) (pe_gi T.lastA) (nomark _)) (pss_one (ps_ret (pe_lst (pa_cons (pe_un un_neg pe_int) pa_nil)))) pss_nil)
      (pss_cons (ps_set (i := 2) scSWay.nd rfl (.inl rfl) (pe_meth (pe_fld (pv 0) rfl) TT.cl m G hr bb .nil pass0 (pa_cons (pv 1) pa_nil)))
      (pss_cons (ps_if (pt_cmp (pc_isN (pv 2))) (pss_one (ps_ret (pe_lst (pa_cons (pe_un un_neg pe_int) pa_nil)))) pss_nil)
      (pss_cons (ps_set (i := 3) scSWay.nd rfl (.inl rfl) (pe_ifExp (pt_cmpR op_eq (pe_fld (pv 2) rfl) (pe_gi T.nonb) (nomark _)) (pv 1) (pe_fld (pv 2) rfl)))
      (pss_one (ps_ret (pe_lst (pa_cons (pe_fld (pv 2) rfl) (pa_cons (pe_fld (pv 2) rfl) (pa_cons (pv 3) pa_nil))))))))), ?_⟩
    have hALL : Ra54.ALL = 4294967295 := by decide
    have hstep : Ra54.step (some st) (.way a) = if Ra54.ALL < a then (some st, Ra54.only (-1)) else match Ra54.best (es.map (·.2)) a with
        | none => (some st, Ra54.only (-2))
        | some r => (some st, { value := r.dist, more := [r.link, if r.via = 0 then a else r.via] }) := by
      rw [← S.best]
      rfl
    refine ⟨_, rfl, _, _, rfl, rfl, _, rfl, ?_⟩
    by_cases c : 4294967295 < a
    · rw [decide_eq_true (show (4294967295 : Int) < (a : Int) by omega)]
      refine iteT ⟨_, rfl, (by show 1 ≤ sizeLine; decide), fun p hp => k.only S ?_ (Same.refl H) hp⟩
      rw [hstep, if_pos (by omega)] <;> rfl
    rw [decide_eq_false (show ¬ (4294967295 : Int) < (a : Int) by omega)]
    replace hstep := hstep.trans (if_neg (by omega))
    refine iteF ⟨_, rfl, sa, C.S, dx, _, _, rfl, h1, T.cl, T.n4, rfl, ta, dy, _, rfl, z1, rfl, _, rfl, ta, d, es, a, rfl, S.tb, by omega, fun en H' s' => ?_, fun e hem ee H' s' => ?_⟩
    · rw [en] at hstep
      exact ⟨_, rfl, _, rfl, iteT ⟨_, rfl, (by show 1 ≤ sizeLine; decide), fun p hp => k.only S hstep s' hp⟩⟩
    · rw [ee] at hstep
      replace hstep : Ra54.step (some st) (.way a) = (some st, { value := e.2.dist, more := [e.2.link, if e.2.via = 0 then a else e.2.via] }) := hstep
      obtain ⟨dz, gg, fr, t2, q1, q2⟩ := (S.tb.same s').rt e hem
      refine ⟨_, rfl, _, rfl, iteF ?_⟩
      refine ⟨_, rfl, e.1, C.R, dz, _, _, rfl, q1, TR.cl, TR.n3, rfl, rfl, _, rfl, ?_⟩
      rw [show decide (V.int (e.2.via : Int) = V.int 0) = decide (e.2.via = 0) from eqI _ 0]
      by_cases cv : e.2.via = 0
      · rw [decide_eq_true cv]
        rw [if_pos cv] at hstep
        refine iteT ⟨_, rfl, ?_⟩
        refine ⟨_, rfl, e.1, C.R, dz, _, _, rfl, q1, TR.cl, TR.n1, rfl, _, rfl, e.1, C.R, dz, _, _, rfl, q1, TR.cl, TR.n2, rfl, _, rfl, (by show 3 ≤ sizeLine; decide), fun p hp => ?_⟩
        exact k.same (H1 := H) S hstep (s'.trans (same_new hp)) (s'.free hp) (upd_same.trans rfl)
      · rw [decide_eq_false cv]
        rw [if_neg cv] at hstep
        refine iteF ⟨_, rfl, e.1, C.R, dz, _, _, rfl, q1, TR.cl, TR.n3, rfl, ?_⟩
        refine ⟨_, rfl, e.1, C.R, dz, _, _, rfl, q1, TR.cl, TR.n1, rfl, _, rfl, e.1, C.R, dz, _, _, rfl, q1, TR.cl, TR.n2, rfl, _, rfl, (by show 3 ≤ sizeLine; decide), fun p hp => ?_⟩
        exact k.same (H1 := H) S hstep (s'.trans (same_new hp)) (s'.free hp) (upd_same.trans rfl)
theorem sorted_rows_of {es : Ents} {rs : List Route} (o : Ord (es.map (·.2)) rs) {xs : RowL} (p : (xs.map (·.2)).Perm es) (so : Sorted (xs.map (·.2.2))) : xs.map (·.2.2) = rs := by
  refine o.uniq so ?_
  have q := p.map (fun e : Addr × Route => e.2)
  rw [List.map_map] at q
  exact q
def rowN2 (r : Route) : List Nat := [r.net, r.bits, r.dist, r.link, r.via]
theorem scSRoutes : FnScope ["self", "in_order", "listed", "network", "route"] ["self"] (defScope sSRoutes) := ⟨rfl, rfl, rfl, by decide +kernel, rfl, by decide +kernel, by decide +kernel⟩
theorem ok_sRoutes {f : Addr} {fd : FuncData} (F : Fun K "routes" "Session.routes" sSRoutes f fd) (T : TxtS K mg C) (TT : TxtT K mg C.T) (TR : TxtR K mg C.R) (M : HasM P w K mg base C.T "in_order" 1 ["self"] (spTOrder C.T C.R)) : FnOk P w K mg base CX0 2 f fd ["self"] (spSRoutes C) := by
  refine F.ok scSRoutes (fun vs H Q E h => ?_) (fun cdv A outer s H vs Q E hr h => ?_)
  · obtain ⟨sa, pl, ta, d, es, b, st, rfl, _⟩ := h
    rfl
  · obtain ⟨sa, pl, ta, d, es, b, st, rfl, S, k⟩ := h
    obtain ⟨dx, h1⟩ := S.ob
    obtain ⟨dy, z1⟩ := S.tb.ob
    obtain ⟨g, gd, m, bb, G⟩ := M.ex
    refine ⟨_, pss_cons (ps_set (i := 1) scSRoutes.nd rfl (.inl rfl) (pe_meth0 (pe_fld (pv 0) rfl) TT.cl m G hr bb .nil pass0))
      (pss_cons (ps_set (i := 2) scSRoutes.nd rfl (.inl rfl) (pe_lst (pa_cons (pe_callB call_len_seq (by rfl) T.len PySem.boot_len (pa_cons (pv 1) pa_nil)) pa_nil)))
      (pss_cons (ps_for PassesOwn.never rfl (pi_list (pv 1)) (pg_tup rfl (pgs_cons (pg_name (i := 3) scSRoutes.nd rfl (.inl rfl)) (pgs_cons (pg_name (i := 4) scSRoutes.nd rfl (.inl rfl)) pgs_nil)))
        (pss_one (ps_expr (pe_bm PySem.F.plainAttrs_list PySem.F.slot_list_extend PySem.F.type_list_extend mt_extend (pv 2) (pa_cons (pe_lst (pa_cons (pe_ix ix_tup (pv 3) pe_int (fun _ _ => rfl)) (pa_cons (pe_ix ix_tup (pv 3) pe_int (fun _ _ => rfl)) (pa_cons (pe_fld (pv 4) rfl) (pa_cons (pe_fld (pv 4) rfl) (pa_cons (pe_fld (pv 4) rfl) pa_nil)))))) pa_nil)))))
      (pss_one (ps_ret (pv 2))))), ?_⟩
    refine ⟨_, rfl, sa, C.S, dx, _, _, rfl, h1, T.cl, T.n4, rfl, ta, dy, _, rfl, z1, rfl, ta, d, es, rfl, S.tb, fun H1 L xs s1 hL0 hL hx xp xso => ?_⟩
    have exs := sorted_rows_of S.od xp xso
    have elen : xs.length = st.routes.length := by rw [← exs, List.length_map]
    have hle : xs.length ≤ 256 := by
      have q := xp.length_eq
      rw [List.length_map] at q
      have := S.tb.le
      omega
    refine ⟨_, rfl, L, _, rfl, .inl (SqL.of hL), (by show 1 ≤ sizeLine; decide), fun O hO => ?_⟩
    have sO := s1.trans (same_new (o := .lst [V.int (xs.map fun x => V.ref x.1).length]) hO)
    have hL2 : upd H1 O (.lst [V.int (xs.map fun x => V.ref x.1).length]) L = some (.lst (xs.map fun x => V.ref x.1)) := by rw [upd_ne (ne_of_none hL hO)]; exact hL
    have hO2 : upd H1 O (.lst [V.int (xs.map fun x => V.ref x.1).length]) O = some (.lst (vN (xs.length :: ((xs.map (·.2.2)).take 0).flatMap rowN2))) := by rw [upd_same, List.length_map]; rfl
    have hx2 : ∀ x ∈ xs, RowAt (upd H1 O (.lst [V.int (xs.map fun x => V.ref x.1).length])) x.1 x.2 := fun x h => (hx x h).kept fun b ys e => by rw [upd_ne (ne_of_none e hO)]; exact e
    have nO : ∀ {b o}, H b = some o → b ≠ O := fun e => ne_of_none (s1 _ _ e) hO
    have hO0 : H O = none := s1.free hO
    have nOL : O ≠ L := (ne_of_none hL hO).symm
    generalize upd H1 O (.lst [V.int (xs.map fun x => V.ref x.1).length]) = H2 at sO hL2 hO2 hx2 ⊢
    refine ⟨_, rfl, L, rfl, ⟨_, SqL.of hL2⟩, for_list (K := K) (a := L) (xs := xs.map fun x => V.ref x.1) (fun j σ H' => ∃ (v3 v4 : Option V), σ = [some (.ref sa), some (.ref L), some (.ref O), v3, v4] ∧ Kept (· = O) H2 H' ∧
        H' O = some (.lst (vN (xs.length :: ((xs.map (·.2.2)).take j).flatMap rowN2))))
      ⟨none, none, rfl, Kept.refl _ _, hO2⟩ (fun j σ H' _ ⟨_, _, _, s, _⟩ => SqL.of (s _ _ hL2 nOL.symm)) ?_ ?_⟩
    · rintro j x σ H' hj ⟨v3, v4, rfl, kp, hb⟩
      obtain ⟨z, hz, rfl⟩ : ∃ z, xs[j]? = some z ∧ x = V.ref z.1 := by
        rw [List.getElem?_map] at hj
        cases q : xs[j]? with
        | none => rw [q] at hj; cases hj
        | some e => rw [q] at hj; exact ⟨e, rfl, (Option.some.inj hj).symm⟩
      have hzm := List.mem_of_getElem? hz
      have hem : z.2 ∈ es := xp.mem_iff.mp (List.mem_map.mpr ⟨z, hzm, rfl⟩)
      obtain ⟨q, w1, w2⟩ := hx2 z hzm
      have w1' := kp _ _ w1 (ne_of w1 hO2 fun z => nomatch z)
      have w2' := kp _ _ w2 (ne_of w2 hO2 fun z => nomatch z)
      obtain ⟨dz, gg, fr, t2, q1, q2⟩ := S.tb.rt _ hem
      have q1' := kp _ _ (sO _ _ q1) (nO q1)
      have etk : (xs.map (·.2.2)).take (j + 1) = (xs.map (·.2.2)).take j ++ [z.2.2] := take_next (by rw [List.getElem?_map, hz]; rfl)
      have hjl : j < xs.length := (List.getElem?_eq_some_iff.mp hz).1
      have el : (((xs.map (·.2.2)).take j).flatMap rowN2).length = 5 * j := by
        have e1 : ∀ l : List Route, (l.flatMap rowN2).length = 5 * l.length := fun l => by
          induction l with
          | nil => rfl
          | cons a l ih => rw [List.flatMap_cons, List.length_append, ih, List.length_cons]; show 5 + 5 * l.length = _; omega
        rw [e1, List.length_take, List.length_map, Nat.min_eq_left (Nat.le_of_lt hjl)]
      refine ⟨z.1, _, rfl, SqT.of w1', rfl, _, _, rfl, _, _, rfl, rfl, ?_⟩
      refine ⟨_, rfl, .inl ⟨rfl, _, SqL.of hb⟩, _, rfl, q, _, _, _, rfl, rfl, SqT.of w2', rfl, _, rfl, q, _, _, _, rfl, rfl, SqT.of w2', rfl, _, rfl, z.2.1, C.R, dz, _, _, rfl, q1', TR.cl, TR.n1, rfl, _, rfl, z.2.1, C.R, dz, _, _, rfl, q1', TR.cl, TR.n2, rfl, _, rfl, z.2.1, C.R, dz, _, _, rfl, q1', TR.cl, TR.n3, rfl, (by show 5 ≤ sizeLine; decide), fun u hu' => ?_⟩
      have nu : O ≠ u := ne_of_none hb hu'
      refine ⟨O, u, _, _, rfl, rfl, (by rw [upd_ne nu]; exact hb), upd_same, ?_, ?_⟩
      · rw [vN_length, List.length_cons, el]
        have zl := sizeLine_eq
        show 5 * j + 1 + 5 ≤ sizeLine
        omega
      refine ⟨_, _, rfl, fun b o e n => ?_, ?_⟩
      · rw [upd_ne n, upd_ne (ne_of_none (kp _ _ e n) hu')]
        exact kp _ _ e n
      · rw [upd_same, etk, List.flatMap_append, List.flatMap_singleton]
        unfold vN rowN2
        rw [← List.cons_append, List.map_append]
        rfl
    · rintro σ H' ⟨v3, v4, rfl, kp, hb⟩
      refine ⟨_, rfl, ?_⟩
      rw [List.length_map, List.take_of_length_le (by rw [List.length_map]; exact Nat.le_refl _), exs, elen] at hb
      have s2 : Same H H' := fun c o e => kp _ _ (sO _ _ e) (nO e)
      refine k.same (H1 := H) S (z := { value := st.routes.length, more := st.routes.flatMap fun r => [r.net, r.bits, r.dist, r.link, r.via] }) rfl s2 hO0 (hb.trans ?_)
      show _ = some (HO.lst ((((st.routes.length : Nat) : Int) :: Ra54Neutral.ints ((st.routes.flatMap fun r => [r.net, r.bits, r.dist, r.link, r.via]) ++ [])).map V.int))
      rw [ans_vN, List.append_nil]
      rfl
theorem scSDue : FnScope ["self", "times"] ["self"] (defScope sSDue) := ⟨rfl, rfl, rfl, by decide +kernel, rfl, by decide +kernel, by decide +kernel⟩
theorem Dom.dd {r : Route} (h : Dom r) : DomD r := ⟨h.1, h.2.1, h.2.2.1⟩
theorem ok_sDue {f : Addr} {fd : FuncData} (F : Fun K "due" "Session.due" sSDue f fd) (T : TxtS K mg C) (TT : TxtT K mg C.T) (ME : HasM P w K mg base C.T "ends" 3 ["self"] (spTEnds C.T C.R)) (MC : HasM P w K mg base C.T "has_changed" 1 ["self"] (spTHasCh C.T C.R)) : FnOk P w K mg base CX0 4 f fd ["self"] (spSDue C) := by
  refine F.ok scSDue (fun vs H Q E h => ?_) (fun cdv A outer s H vs Q E hr h => ?_)
  · obtain ⟨sa, pl, ta, d, es, b, st, rfl, _⟩ := h
    rfl
  · obtain ⟨sa, pl, ta, d, es, b, st, rfl, S, k⟩ := h
    obtain ⟨dx, h1⟩ := S.ob
    obtain ⟨dy, z1⟩ := S.tb.ob
    obtain ⟨g1, gd1, m1, b1, G1⟩ := ME.ex
    obtain ⟨g2, gd2, m2, b2, G2⟩ := MC.ex
    have hr1 : Room 1 _ := hr.mono (by decide)
    refine ⟨_, pss_cons (ps_set (i := 1) scSDue.nd rfl (.inl rfl) (pe_op op_cat (pe_meth0 (pe_fld (pv 0) rfl) TT.cl m1 G1 hr b1 .nil pass0) (pe_lst (pa_cons (pe_fld (pv 0) rfl) pa_nil))))
      (pss_cons (ps_if (pt_val (pe_meth0 (pe_fld (pv 0) rfl) TT.cl m2 G2 hr1 b2 .nil pass0))
        (pss_one (ps_expr (pe_bm PySem.F.plainAttrs_list PySem.F.slot_list_append PySem.F.type_list_append mt_append (pv 1) (pa_cons (pe_callB (call_max2 rfl) (by rfl) T.max (by decide +kernel) (pa_cons (pe_fld (pv 0) rfl) (pa_cons (pe_fld (pv 0) rfl) pa_nil))) pa_nil)))) pss_nil)
      (pss_one (ps_ret (pe_lst (pa_cons pe_int (pa_cons (pe_callB (cr_min rfl) (by rfl) T.min (by decide +kernel) (pa_cons (pv 1) pa_nil)) pa_nil)))))), ?_⟩
    refine ⟨_, rfl, sa, C.S, dx, _, _, rfl, h1, T.cl, T.n4, rfl, ta, dy, _, rfl, z1, rfl, ta, d, es, rfl, S.tb, fun H1 E1 s1 hE0 hE => ?_⟩
    refine ⟨_, rfl, sa, C.S, dx, _, _, rfl, s1 _ _ h1, T.cl, T.n5, rfl, (by show 1 ≤ sizeLine; decide), fun u hu' => ?_⟩
    have s2 := s1.trans (same_new (o := .lst [V.int (st.full : Int)]) hu')
    have nEu : E1 ≠ u := ne_of_none hE hu'
    have hlen : (endsL (es.map (·.2))).length ≤ 256 := by
      unfold endsL
      rw [List.length_map]
      refine Nat.le_trans (List.length_filter_le _ _) ?_
      rw [List.length_map]
      exact S.tb.le
    refine ⟨E1, u, _, _, rfl, rfl, (by rw [upd_ne nEu]; exact hE), upd_same, ?_, fun O hO => ?_⟩
    · rw [vN_length]
      have zl := sizeLine_eq
      show _ + 1 ≤ sizeLine
      omega
    have s3 := s2.trans (same_new (o := .lst (vN (endsL (es.map (·.2))) ++ [V.int (st.full : Int)])) hO)
    have hO3 : upd (upd H1 u (.lst [V.int (st.full : Int)])) O (.lst (vN (endsL (es.map (·.2))) ++ [V.int (st.full : Int)])) O = some (.lst (vN (endsL (es.map (·.2)) ++ [st.full]))) := by
      rw [upd_same]
      unfold vN
      rw [List.map_append]
      rfl
    have hO0 : H O = none := s2.free hO
    generalize upd (upd H1 u (.lst [V.int (st.full : Int)])) O (.lst (vN (endsL (es.map (·.2))) ++ [V.int (st.full : Int)])) = H3 at s3 hO3 ⊢
    have S3 := S.same s3
    obtain ⟨dx3, h13⟩ := S3.ob
    obtain ⟨dy3, z13⟩ := S3.tb.ob
    -- what comes of the least of them
    have fin : ∀ H4 : Hp, Same H H4 → H4 O = some (.lst (vN (dueL st (es.map (·.2))))) → ∃ x, ([some (V.ref sa), some (V.ref O)] : L2.St)[1]? = some (some x) ∧ rMin K [x] H4 fun x H2 => 2 ≤ sizeLine ∧ ∀ p, H2 p = none → Q (.ref p) (upd H2 p (.lst [V.int 0, x])) := by
      intro H4 s4 h4
      refine ⟨_, rfl, O, (dueL st (es.map (·.2))).map fun n : Nat => (n : Int), rfl, SqL.of (h4.trans (congrArg (fun z => some (HO.lst z)) ?_)), ?_, fun m hm hle => ⟨by decide, fun p hp => ?_⟩⟩
      · unfold vN
        rw [List.map_map]
        rfl
      · rw [List.length_map]
        unfold dueL
        rw [List.length_append, List.length_append]
        show 0 < _ + 1 + _
        omega
      · obtain ⟨n, hn, rfl⟩ := List.mem_map.mp hm
        have e : n = Ra54.dueAt st := due_min S.od.pm (fun r hr => by
          obtain ⟨e, he, rfl⟩ := List.mem_map.mp hr
          exact (S.tb.dom e he).dd) hn fun y hy => by
            have q := hle (y : Int) (List.mem_map.mpr ⟨y, hy, rfl⟩)
            omega
        refine k.same (H1 := H) S (z := { value := 0, more := [Ra54.dueAt st] }) rfl (s4.trans (same_new hp)) (s4.free hp) (upd_same.trans ?_)
        rw [e]
        rfl
    refine ⟨_, rfl, sa, C.S, dx3, _, _, rfl, h13, T.cl, T.n4, rfl, ta, dy3, _, rfl, z13, rfl, ta, d, es, rfl, S3.tb, fun H4 s4 => ⟨_, rfl, ?_⟩⟩
    have s34 := s3.trans s4
    have hO4 := s4 _ _ hO3
    have ea : (es.any fun e => e.2.changed) = ((es.map (·.2)).any fun r => r.changed) := by rw [List.any_map]; rfl
    by_cases c : (es.any fun e => e.2.changed) = true
    · rw [c]
      refine iteT ⟨_, rfl, .inl ⟨rfl, _, SqL.of hO4⟩, _, rfl, sa, C.S, dx3, _, _, rfl, s4 _ _ h13, T.cl, T.n6, rfl, _, rfl, sa, C.S, dx3, _, _, rfl, s4 _ _ h13, T.cl, T.n2, rfl, _, _, rfl, O, _, _, rfl, rfl, hO4, ?_, ?_⟩
      · rw [vN_length, List.length_append]
        have zl := sizeLine_eq
        show _ + 1 < sizeLine
        omega
      refine fin _ (fun x o e => ?_) ?_
      · rw [upd_ne (ne_of_none e hO0)]
        exact s34 _ _ e
      · rw [upd_same]
        unfold dueL
        rw [ea] at c
        rw [if_pos c]
        have em : (if (st.now : Int) > (st.soon : Int) then (st.now : Int) else (st.soon : Int)) = ((max st.soon st.now : Nat) : Int) := by
          split <;> omega
        rw [em]
        unfold vN
        simp only [List.map_append, List.append_assoc, List.map_cons, List.map_nil]
    · rw [Bool.eq_false_iff.mpr c]
      refine iteF (fin H4 s34 ?_)
      rw [hO4]
      unfold dueL
      rw [ea] at c
      rw [if_neg c, List.append_nil]
end
end NR
end

section
set_option Elab.async false
set_option maxRecDepth 100000
set_option maxHeartbeats 4000000
/-! session.py: what is told -/
namespace NR
open PySem PySem.Spec L2
open Ra54 (Route Link)
/-- the session's own numbers change -/
theorem SesAt.renew {C : Cl} {H : Hp} {sa pl ta d dx : Addr} {es : Ents} {b : Bool} {s s' : St0} (S : SesAt C H sa pl ta d es b s) (hl : s'.links = s.links) (hr : s'.routes = s.routes) : SesAt C (upd H sa (.ins C.S dx (sF b s'.now pl ta s'.full s'.soon))) sa pl ta d es b s' := by
  obtain ⟨dx0, z⟩ := S.ob
  obtain ⟨vs, q, l1, l2, hp⟩ := S.pt
  have kp : Kept (· = sa) H (upd H sa (.ins C.S dx (sF b s'.now pl ta s'.full s'.soon))) := Kept.at' rfl
  have n : ∀ b o, b = sa → H b = some o → kd o ≠ 12 ∧ kd o ≠ 2 := fun b o e h => by
    rw [e, z] at h
    cases h
    exact ⟨(by show (16 : Nat) ≠ 12; decide), (by show (16 : Nat) ≠ 2; decide)⟩
  refine ⟨⟨dx, upd_same⟩, ⟨vs, kp _ _ q S.sa_pl.symm, l1, by rw [hl]; exact l2, fun i v o h1 h2 => ?_⟩, S.tb.kept kp fun x hx e => S.sa_foot (e ▸ hx), by rw [hr]; exact S.od⟩
  rw [hl] at h2
  exact (hp i v o h1 h2).kept kp n
def toldS (s : St0) : St0 := { s with routes := s.routes.map quietR, soon := s.now + 1000 }
def spSTell (C : Cl) : Sp := fun vs H Q _ => ∃ (sa pl ta d L : Addr) (es : Ents) (b : Bool) (s : St0) (xs : RowL), vs = [.ref sa, .ref L] ∧ SesAt C H sa pl ta d es b s ∧ H L = some (.lst (xs.map fun x => V.ref x.1)) ∧ L ≠ pl ∧ xs.length ≤ 256 ∧
  (∀ x ∈ xs, RowAt H x.1 x.2 ∧ x.2 ∈ es) ∧
  ∀ H' p, H p = none → H' p = some (.lst (vN ((tellN s (xs.map (·.2.2)) 4).length :: sentN (tellN s (xs.map (·.2.2)) 4)))) → SesAt C H' sa pl ta d (es.map fun e => (e.1, quietR e.2)) b (toldS s) → Kept (SFoot sa pl ta d es) H H' → Q (.ref p) H'
theorem toldN_len (s : St0) {l : List Route} (h : l.length ≤ 256) (i : Nat) : (toldN s l i).length ≤ 4 := by
  unfold toldN
  split
  · rw [List.length_map]
    exact chunks_len (by rw [List.length_map]; exact h)
  · exact Nat.zero_le _
theorem tellN_len (s : St0) {l : List Route} (h : l.length ≤ 256) : ∀ n, (tellN s l n).length ≤ 4 * n
  | 0 => Nat.le_refl _
  | n + 1 => by
    have := tellN_len s h n
    have := toldN_len s h n
    rw [tellN_succ, List.length_append]
    omega
theorem toldN_one (s : St0) (l : List Route) (i : Nat) : ∀ m ∈ toldN s l i, m.2.length ≤ 514 := by
  intro m hm
  unfold toldN at hm
  split at hm
  · obtain ⟨c, hc, rfl⟩ := List.mem_map.mp hm
    have := chunk_len hc
    show (msgN c).length ≤ 514
    rw [msgN_length]
    omega
  · cases hm
theorem tellN_one (s : St0) (l : List Route) (n : Nat) : ∀ m ∈ tellN s l n, m.2.length ≤ 514 := by
  intro m hm
  obtain ⟨i, _, h⟩ := List.mem_flatMap.mp hm
  exact toldN_one s l i m h
theorem sentN_len : ∀ {ms : List (Nat × List Nat)}, (∀ m ∈ ms, m.2.length ≤ 514) → (sentN ms).length ≤ 516 * ms.length
  | [], _ => Nat.le_refl _
  | m :: ms, h => by
    have ih := sentN_len fun x hx => h x (List.mem_cons_of_mem m hx)
    have := h m List.mem_cons_self
    unfold sentN at ih ⊢
    rw [List.flatMap_cons, List.length_append, List.length_cons]
    show m.2.length + 1 + 1 + _ ≤ 516 * (ms.length + 1)
    omega
section
variable {P : Program} {w : World} {K : PySem.W.Frag} {mg : Str → Option Value} {base : Heap} {C : Cl}
theorem scSTell : FnScope ["self", "routes_told", "many", "sent", "i", "port", "octets", "network", "route"] ["self", "routes_told"] (defScope sSTell) := ⟨rfl, rfl, rfl, by decide +kernel, rfl, by decide +kernel, by decide +kernel⟩
theorem ok_sTell {f : Addr} {fd : FuncData} (F : Fun K "tell" "Session.tell" sSTell f fd) (T : TxtS K mg C) (TT : TxtT K mg C.T) (TR : TxtR K mg C.R) (NM : HasF P w K mg base "messages_of" 3 ["offers"] spMsgs) (MF : HasM P w K mg base C.R "far_told_on" 1 ["self", "link"] (spRTold C.R))
    (MM : HasM P w K mg base C.T "mark_unchanged" 1 ["self"] (spTMark C.T C.R)) : FnOk P w K mg base CX0 4 f fd ["self", "routes_told"] (spSTell C) := by
  refine F.ok scSTell (fun vs H Q E h => ?_) (fun cdv A outer s H vs Q E hr h => ?_)
  · obtain ⟨sa, pl, ta, d, L, es, b, st, xs, rfl, _⟩ := h
    rfl
  · obtain ⟨sa, pl, ta, d, L, es, b, st, xs, rfl, S, hL, nLp, hlen, hxs, k⟩ := h
    obtain ⟨dx, h1⟩ := S.ob
    obtain ⟨vs, hpl, l1, l2, hp⟩ := S.pt
    obtain ⟨g1, gd1, m1, kp1, b1, G1⟩ := NM.ex
    obtain ⟨g2, gd2, m2, b2, G2⟩ := MF.ex
    obtain ⟨g3, gd3, m3, b3, G3⟩ := MM.ex
    have hr1 : Room 1 _ := hr.mono (by decide)
    refine ⟨_, pss_cons (ps_set (i := 2) scSTell.nd rfl (.inl rfl) pe_int)
      (pss_cons (ps_set (i := 3) scSTell.nd rfl (.inl rfl) (pe_lst pa_nil))
      (pss_cons (ps_for PassesOwn.never rfl (pi_enum (by rfl) T.enum (pa_cons (pe_fld (pv 0) rfl) pa_nil)) (pg_tup rfl (pgs_cons (pg_name (i := 4) scSTell.nd rfl (.inr rfl)) (pgs_cons (pg_name (i := 5) scSTell.nd rfl (.inl rfl)) pgs_nil)))
        (pss_one (ps_if (pt_cmp (pc_notN (pv 5)))
          (pss_one (ps_for PassesOwn.never rfl (pi_list (pe_call G1 hr (by rfl) m1 kp1 b1 .nil pass0 (pa_cons (pe_lc (own := [("network", 7), ("route", 8)]) (g := gTup K 2 (gCons (gName 7) (gCons (gName 8) gNil))) (tt := tYes) (by rfl) scSTell.nd (pi_list (pv 1))
              (blkOk_by (own := [("network", 7), ("route", 8)]) (N := ["self", "routes_told", "many", "sent", "i", "port", "octets", "network", "route"]) (sc := defScope sSTell) (by decide +kernel))
              (fun _ _ _ _ _ => pg_tupK K rfl rfl (pgs_cons (pg_name (i := 7) scSTell.nd rfl (Or.inl rfl)) (pgs_cons (pg_name (i := 8) scSTell.nd rfl (Or.inl rfl)) pgs_nil))) (fun _ _ _ _ _ => pts_nil)
              (fun _ _ _ _ _ => pe_tup (pa_cons (pv 7) (pa_cons (pe_meth (pv 8) TR.cl m2 G2 hr1 b2 .nil pass0 (pa_cons (pv 4) pa_nil)) pa_nil)))) pa_nil))) (pg_name (i := 6) scSTell.nd rfl (.inl rfl))
            (pss_cons (ps_set (i := 2) scSTell.nd rfl (.inl rfl) (pe_op op_add (pv 2) pe_int))
            (pss_one (ps_expr (pe_bm PySem.F.plainAttrs_list PySem.F.slot_list_extend PySem.F.type_list_extend mt_extend (pv 3) (pa_cons (pe_op op_cat (pe_lst (pa_cons (pv 4) (pa_cons (pe_callB call_len_seq (by rfl) T.len PySem.boot_len (pa_cons (pv 6) pa_nil)) pa_nil))) (pv 6)) pa_nil)))))))
          pss_nil)))
      (pss_cons (ps_expr (pe_meth0 (pe_fld (pv 0) rfl) TT.cl m3 G3 hr1 b3 .nil pass0))
      (pss_cons (ps_fld (pv 0) (pe_op op_add (pe_fld (pv 0) rfl) (pe_gi T.soon)) rfl)
      (pss_one (ps_ret (pe_op op_cat (pe_lst (pa_cons (pv 2) pa_nil)) (pv 3)))))))), ?_⟩
    generalize hrs : xs.map (·.2.2) = rs at k
    have rlen : rs.length ≤ 256 := by rw [← hrs, List.length_map]; exact hlen
    refine ⟨Nat.zero_le _, fun O hO => ?_⟩
    have sO := same_new (o := .lst []) hO
    have hO1 : upd H O (.lst []) O = some (.lst (vN (sentN (tellN st rs 0)))) := upd_same
    generalize upd H O (.lst []) = H1 at sO hO1 ⊢
    have zl := sizeLine_eq
    refine ⟨_, rfl, sa, C.S, dx, _, _, rfl, sO _ _ h1, T.cl, T.n3, rfl, pl, vs, rfl, SqL.of (sO _ _ hpl), for_it walk_enum (fun n σ H' => ∃ v4 v5 v6 v7 v8 : Option V, σ = [some (.ref sa), some (.ref L), some (.int (tellN st rs n).length), some (.ref O), v4, v5, v6, v7, v8] ∧ Same H H' ∧
        H' O = some (.lst (vN (sentN (tellN st rs n)))))
      ⟨none, none, none, none, none, rfl, sO, hO1⟩ (fun n σ H' _ ⟨_, _, _, _, _, _, s, _⟩ => SqL.of (s _ _ hpl)) ?_ ?_⟩
    · rintro n x σ H' H'' hn ⟨v4, v5, v6, v7, v8, rfl, s2, hb⟩ ⟨t, x1, y1, rfl, ht, rfl, ex1, ey1⟩
      have ex1' : x1 = V.int (n : Nat) := (Option.some.inj ex1).symm
      subst ex1'
      have s3 : Same H (upd H' t (.tup [V.int (n : Nat), y1])) := s2.trans (same_new ht)
      have ht3 : upd H' t (.tup [V.int (n : Nat), y1]) t = some (.tup [V.int (n : Nat), y1]) := upd_same
      have hb3 : upd H' t (.tup [V.int (n : Nat), y1]) O = some (.lst (vN (sentN (tellN st rs n)))) := (same_new ht) _ _ hb
      generalize upd H' t (.tup [V.int (n : Nat), y1]) = H3 at s3 ht3 hb3 ⊢
      refine ⟨t, _, rfl, SqT.of ht3, rfl, _, _, rfl, _, _, rfl, rfl, ?_⟩
      have ho : st.links[n]? = some st.links[n] := List.getElem?_eq_getElem (by omega)
      have hP := hp n _ _ ey1 ho
      generalize st.links[n] = o at ho hP
      have hla := link_at ho
      refine ⟨_, rfl, _, rfl, ?_⟩
      cases o with
      | none =>
        have ey : y1 = V.non := hP
        subst ey
        have e0 : toldN st rs n = [] := by unfold toldN; rw [hla]
        exact iteF ⟨_, _, _, _, _, by rw [tellN_succ, e0, List.append_nil]; rfl, s3, by rw [tellN_succ, e0, List.append_nil]; exact hb3⟩
      | some l =>
        obtain ⟨pa, dy, pt, rfl, _⟩ := hP
        have e0 : toldN st rs n = (chunksN (rs.map (Ra54.toldOn n))).map fun c => (n, msgN c) := by unfold toldN; rw [hla]
        refine iteT ?_
        -- [(network, route.far_told_on(i)) for network, route in routes_told]
        refine ⟨_, rfl, L, rfl, ⟨_, SqL.of (s3 _ _ hL)⟩, fun D hD => ?_⟩
        have sD := same_new (o := .lst []) hD
        refine lc_list (K := K) (a := L) (xs := xs.map fun x => V.ref x.1) (fun i H' => ∃ ps : List (Addr × Ent), H' D = some (.lst (ps.map fun x => V.ref x.1)) ∧ ps.map (·.2) = (rs.take i).map (Ra54.toldOn n) ∧ Same H3 H' ∧ ∀ x ∈ ps, OfferAt H' x.1 x.2)
          ⟨[], upd_same, rfl, sD, fun x hx => nomatch hx⟩ (fun i H' _ ⟨_, _, _, s, _⟩ => SqL.of (s _ _ (s3 _ _ hL))) (fun i x H4 hi ⟨ps, e1, e2, s4, hx⟩ => ?_) (fun H4 ⟨ps, e1, e2, s4, hx⟩ => ?_)
        · obtain ⟨z, hz, rfl⟩ : ∃ z, xs[i]? = some z ∧ x = V.ref z.1 := by
            rw [List.getElem?_map] at hi
            cases q : xs[i]? with
            | none => rw [q] at hi; cases hi
            | some e => rw [q] at hi; exact ⟨e, rfl, (Option.some.inj hi).symm⟩
          have hzm := List.mem_of_getElem? hz
          have hil : i < xs.length := (List.getElem?_eq_some_iff.mp hz).1
          obtain ⟨⟨q, w1, w2⟩, hem⟩ := hxs z hzm
          have s34 := s3.trans s4
          have R := (S.tb.same s34).rt _ hem
          obtain ⟨dz, gg, fr, t2, q1, q2⟩ := id R
          have etk : (rs.take (i + 1)).map (Ra54.toldOn n) = (rs.take i).map (Ra54.toldOn n) ++ [Ra54.toldOn n z.2.2] := by
            rw [take_next (x := z.2.2) (by rw [← hrs, List.getElem?_map, hz]; rfl), List.map_append]
            rfl
          refine ⟨z.1, _, rfl, SqT.of (s34 _ _ w1), rfl, _, _, rfl, _, _, rfl, rfl, rfl, yes_if ?_⟩
          refine ⟨_, rfl, _, rfl, z.2.1, dz, _, rfl, q1, rfl, _, rfl, z.2.1, z.2.2, n, rfl, R, (by show 2 ≤ sizeLine; decide), fun u hu' => ?_⟩
          have s5 := same_new (o := .tup [.ref q, .int ((Ra54.toldOn n z.2.2).dist : Nat)]) hu'
          have elen : ps.length ≤ i := by
            have q := congrArg List.length e2
            rw [List.length_map, List.length_map] at q
            rw [q]
            exact List.length_take_le _ _
          have tk : ∀ b ys, H4 b = some (.tup ys) → upd (upd H4 u (.tup [.ref q, .int ((Ra54.toldOn n z.2.2).dist : Nat)])) D (.lst (ps.map (fun x => V.ref x.1) ++ [V.ref u])) b = some (.tup ys) := fun b ys e => by
            rw [upd_ne (ne_of e e1 fun z => nomatch z)]
            exact s5 _ _ e
          have nu : u ≠ D := fun w => by rw [w, e1] at hu'; cases hu'
          refine ⟨_, s5 _ _ e1, ?_, ps ++ [(u, Ra54.toldOn n z.2.2)], by rw [upd_same, List.map_append]; rfl, by rw [List.map_append, e2, etk]; rfl, fun b o e => ?_, fun x hx' => ?_⟩
          · rw [List.length_map]
            exact small1000 (by omega)
          · rw [upd_ne (ne_of_none e hD)]
            exact s5 _ _ (s4 _ _ e)
          · rcases List.mem_append.mp hx' with hx' | hx'
            · exact (hx x hx').kept tk
            · rw [List.mem_singleton.mp hx']
              exact ⟨q, (upd_ne nu).trans upd_same, tk _ _ (s34 _ _ w2)⟩
        -- messages_of(..)
        rw [List.length_map, List.take_of_length_le (by rw [← hrs, List.length_map]; exact Nat.le_refl _)] at e2
        have pslen : ps.length = rs.length := by
          have q := congrArg List.length e2
          rw [List.length_map, List.length_map] at q
          exact q
        refine ⟨D, ps, rfl, e1, by omega, hx, fun H5 M qs s5 hM0 hM ql hq => ?_⟩
        rw [e2] at ql hq
        have s35 := s4.trans s5
        have s05 := s3.trans s35
        have hb5 := s35 _ _ hb3
        have tl := toldN_len st rlen n
        have tel := tellN_len st rlen n
        have nMO : M ≠ O := fun z => by rw [z, s4 _ _ hb3] at hM0; cases hM0
        have tlen : (toldN st rs n).length = qs.length := by rw [e0, List.length_map, ql]
        have hn4 : n < 4 := by rw [← l1]; exact hn
        -- for octets in ..
        refine ⟨M, rfl, ⟨_, SqL.of hM⟩, for_list (K := K) (a := M) (xs := qs.map V.ref) (fun j σ H' => ∃ v6 v7 v8 : Option V, σ = [some (.ref sa), some (.ref L), some (.int (tellN st rs n ++ (toldN st rs n).take j).length), some (.ref O), some (.int (n : Nat)), some (.ref pa), v6, v7, v8] ∧ Kept (· = O) H5 H' ∧
            H' O = some (.lst (vN (sentN (tellN st rs n ++ (toldN st rs n).take j)))))
          ⟨v6, _, _, by rw [List.take_zero, List.append_nil]; rfl, Kept.refl _ _, by rw [List.take_zero, List.append_nil]; exact hb5⟩ (fun j σ H' _ ⟨_, _, _, _, s, _⟩ => SqL.of (s _ _ hM nMO)) ?_ ?_⟩
        · rintro j x σ H6 hj ⟨v6', v7', v8', rfl, kp6, hb6⟩
          obtain ⟨q, hqj, rfl⟩ : ∃ q, qs[j]? = some q ∧ x = V.ref q := by
            rw [List.getElem?_map] at hj
            cases z : qs[j]? with
            | none => rw [z] at hj; cases hj
            | some e => rw [z] at hj; exact ⟨e, rfl, (Option.some.inj hj).symm⟩
          have hjl : j < qs.length := (List.getElem?_eq_some_iff.mp hqj).1
          obtain ⟨c, hc⟩ : ∃ c, (chunksN (rs.map (Ra54.toldOn n)))[j]? = some c := ⟨_, List.getElem?_eq_getElem (by rw [← ql]; exact hjl)⟩
          obtain ⟨f1, f2, f3⟩ := hq j q c hqj hc
          have nqO : q ≠ O := fun z => by rw [z, s4 _ _ hb3] at f1; cases f1
          have f6 := kp6 _ _ f3 nqO
          have et : (toldN st rs n)[j]? = some (n, msgN c) := by rw [e0, List.getElem?_map, hc]; rfl
          have etk : (toldN st rs n).take (j + 1) = (toldN st rs n).take j ++ [(n, msgN c)] := take_next et
          have cl : (msgN c).length ≤ 514 := toldN_one st rs n _ (List.mem_of_getElem? et)
          have bound : (sentN (tellN st rs n ++ (toldN st rs n).take j)).length ≤ 516 * 20 := by
            refine Nat.le_trans (sentN_len fun m hm => ?_) ?_
            · rcases List.mem_append.mp hm with hm | hm
              · exact tellN_one st rs n m hm
              · exact toldN_one st rs n m (List.mem_of_mem_take hm)
            · rw [List.length_append]
              have := List.length_take_le j (toldN st rs n)
              omega
          refine ⟨_, rfl, _, _, rfl, rfl, ?_⟩
          refine ⟨_, rfl, .inl ⟨rfl, _, SqL.of hb6⟩, _, rfl, _, rfl, q, _, rfl, .inl (SqL.of f6), (by show 2 ≤ sizeLine; decide), fun u hu' => ?_⟩
          have nqu : q ≠ u := ne_of_none f6 hu'
          refine ⟨_, rfl, u, q, _, _, rfl, rfl, upd_same, (by rw [upd_ne nqu]; exact f6), ?_, fun y hy => ?_⟩
          · rw [vN_length]
            show 2 + _ ≤ sizeLine
            omega
          have nOu : O ≠ u := ne_of_none hb6 hu'
          have nOy : O ≠ y := fun z => by rw [← z, upd_ne nOu, hb6] at hy; cases hy
          refine ⟨O, y, _, _, rfl, rfl, (by rw [upd_ne nOy, upd_ne nOu]; exact hb6), upd_same, ?_, ?_⟩
          · rw [vN_length, List.length_append, vN_length]
            show _ + (2 + _) ≤ sizeLine
            omega
          refine ⟨some (.ref q), v7', v8', ?_, fun b o e nb => ?_, ?_⟩
          · have el : ((tellN st rs n ++ (toldN st rs n).take (j + 1)).length : Int) = ((tellN st rs n ++ (toldN st rs n).take j).length : Int) + 1 := by
              rw [etk, ← List.append_assoc, List.length_append (bs := [(n, msgN c)])]
              rfl
            rw [el]
            rfl
          · have e6 := kp6 _ _ e nb
            have e7 : upd H6 u (.lst [V.int (n : Nat), V.int (vN (msgN c)).length]) b = some o := (same_new hu') _ _ e6
            rw [upd_ne nb, upd_ne (ne_of_none e7 hy)]
            exact e7
          · have esn : sentN (tellN st rs n ++ (toldN st rs n).take (j + 1)) = sentN (tellN st rs n ++ (toldN st rs n).take j) ++ (n :: (msgN c).length :: msgN c) := by
              rw [etk, ← List.append_assoc, sentN_append]
              unfold sentN
              rw [List.flatMap_singleton]
            rw [upd_same, esn]
            refine congrArg (fun z => some (HO.lst z)) ?_
            rw [vN_length]
            generalize sentN (tellN st rs n ++ (toldN st rs n).take j) = l0
            unfold vN
            rw [List.map_append]
            rfl
        · rintro σ H6 ⟨v6', v7', v8', rfl, kp6, hb6⟩
          have ea : tellN st rs n ++ (toldN st rs n).take (qs.map V.ref).length = tellN st rs (n + 1) := by
            rw [List.length_map, ← tlen, List.take_length, tellN_succ]
          rw [ea] at hb6 ⊢
          exact ⟨_, _, _, _, _, rfl, fun b o e => kp6 _ _ (s05 _ _ e) (ne_of_none e hO), hb6⟩
    · rintro σ H2 ⟨v4, v5, v6, v7, v8, rfl, s2, hb⟩
      rw [l1] at hb ⊢
      have S2 := S.same s2
      obtain ⟨dy, z1⟩ := S2.tb.ob
      have h12 := s2 _ _ h1
      -- self.table.mark_unchanged()
      refine ⟨_, rfl, sa, C.S, dx, _, _, rfl, h12, T.cl, T.n4, rfl, ta, dy, _, rfl, z1, rfl, ta, d, es, rfl, S2.tb, fun H3 TA3 kp3 => ?_⟩
      have nOf : ∀ x, SFoot sa pl ta d es x → x ≠ O := fun x hx e => by
        obtain ⟨o, q⟩ := S.foot_some hx
        rw [e, hO] at q
        cases q
      have er : (es.map fun e => (e.1, quietR e.2)).map (·.2) = (es.map (·.2)).map quietR := by
        rw [List.map_map, List.map_map]
        rfl
      have kp3' : Kept (Foot ta d es) H2 H3 := kp3.mono fun x q => .inr (.inr q)
      have S3 := S2.table (rs' := st.routes.map quietR) TA3 (by rw [er]; exact S.od.map fun _ => rfl) kp3'
      have hb3 : H3 O = some (.lst (vN (sentN (tellN st rs 4)))) := kp3' _ _ hb fun q => nOf O (.inr (.inr q)) rfl
      obtain ⟨dx3, h13⟩ := S3.ob
      -- self.changes_told_from = self.now + CHANGES_TOLD_EVERY
      refine ⟨_, rfl, sa, C.S, dx3, _, _, rfl, h13, T.cl, T.n2, rfl, _, _, rfl, rfl, _, rfl, sa, C.S, dx3, _, rfl, h13, T.cl, T.n6, (by show 6 < 1000; decide), ?_⟩
      have S4 := S3.renew (dx := dx3) (s' := toldS st) rfl rfl
      have eh : upd H3 sa (.ins C.S dx3 (putF "changes_told_from" (.int ((st.now : Int) + 1000)) (sF b st.now pl ta st.full st.soon))) = upd H3 sa (.ins C.S dx3 (sF b (toldS st).now pl ta (toldS st).full (toldS st).soon)) := rfl
      have nsO : O ≠ sa := fun e => nOf sa (.inl rfl) e.symm
      have hb4 : upd H3 sa (.ins C.S dx3 (sF b (toldS st).now pl ta (toldS st).full (toldS st).soon)) O = some (.lst (vN (sentN (tellN st rs 4)))) := by rw [upd_ne nsO]; exact hb3
      have kp4 : Kept (SFoot sa pl ta d es) H (upd H3 sa (.ins C.S dx3 (sF b (toldS st).now pl ta (toldS st).full (toldS st).soon))) := (Kept.same s2).trans ((kp3'.mono fun x q => .inr (.inr q)).trans (Kept.at' (.inl rfl)))
      -- return [many] + sent
      rw [eh]
      generalize upd H3 sa (.ins C.S dx3 (sF b (toldS st).now pl ta (toldS st).full (toldS st).soon)) = H4 at S4 hb4 kp4 ⊢
      refine ⟨_, rfl, (by show 1 ≤ sizeLine; decide), fun u hu' => ?_⟩
      have nOu : O ≠ u := ne_of_none hb4 hu'
      have tel := tellN_len st rlen 4
      have sel : (sentN (tellN st rs 4)).length ≤ 516 * 16 := Nat.le_trans (sentN_len (tellN_one st rs 4)) (by omega)
      have kp5 : Kept (SFoot sa pl ta d es) H (upd H4 u (.lst [V.int (tellN st rs 4).length])) := kp4.trans (Kept.new hu')
      have fr : ∀ {x}, H4 x = none → H x = none := fun {x} hx => by
        refine free_kept kp4 (fun y hy => ?_) hx
        have hy' : SFoot sa pl ta d (es.map fun e => (e.1, quietR e.2)) y := by
          rcases hy with h | h | h
          · exact .inl h
          · exact .inr (.inl h)
          · refine .inr (.inr ?_)
            unfold Foot at h ⊢
            rw [List.map_map]
            exact h
        exact S4.foot_some hy'
      refine ⟨_, rfl, u, O, _, _, rfl, rfl, upd_same, (by rw [upd_ne nOu]; exact hb4), ?_, fun p hp => ?_⟩
      · rw [vN_length]
        show 1 + _ ≤ sizeLine
        omega
      refine k _ p ?_ (upd_same.trans rfl) ((S4.same (same_new hu')).same (same_new hp)) (kp5.trans (Kept.new hp))
      refine fr ?_
      by_cases c : p = u
      · rw [c, upd_same] at hp
        cases hp
      · rwa [upd_ne c] at hp
end
end NR
end

section
set_option Elab.async false
set_option maxRecDepth 100000
set_option maxHeartbeats 4000000
/-! session.py: tick -/
namespace NR
open PySem PySem.Spec L2
open Ra54 (Route Link)
theorem SesAt.table2 {C : Cl} {H H' : Hp} {sa pl ta d d' : Addr} {es es' : Ents} {b : Bool} {s : St0} {rs' : List Route} (S : SesAt C H sa pl ta d es b s) (T : TabAt C.T C.R H' ta d' es') (o : Ord (es'.map (·.2)) rs') (k : Kept (Foot ta d es) H H') : SesAt C H' sa pl ta d' es' b { s with routes := rs' } := by
  obtain ⟨dx, z⟩ := S.ob
  obtain ⟨vs, q, l1, l2, hp⟩ := S.pt
  exact ⟨⟨dx, k _ _ z S.sa_foot⟩, ⟨vs, k _ _ q S.pl_foot, l1, l2, fun i v o h1 h2 => (hp i v o h1 h2).kept k fun b o m e => by have q := S.tb.kinds b o m e; omega⟩, T, o⟩
/-- what is tracked stays so -/
def Tr (H H' : Hp) : Prop := ∀ x o, H x = some o → ∃ o', H' x = some o'
theorem Tr.trans {H H1 H2 : Hp} (a : Tr H H1) (b : Tr H1 H2) : Tr H H2 := fun x o e => let ⟨o', e'⟩ := a x o e; b x o' e'
theorem Tr.kept {M : Addr → Prop} {H H' : Hp} (k : Kept M H H') (m : ∀ x, M x → ∃ o, H' x = some o) : Tr H H' := fun x o e => by
  by_cases c : M x
  · exact m x c
  · exact ⟨o, k x o e c⟩
theorem Tr.same {H H' : Hp} (s : Same H H') : Tr H H' := fun x o e => ⟨o, s x o e⟩
theorem Tr.free {H H' : Hp} (t : Tr H H') {p : Addr} (h : H' p = none) : H p = none := by
  cases e : H p with
  | none => rfl
  | some o =>
    obtain ⟨o', e'⟩ := t p o e
    rw [e'] at h
    cases h
theorem aged_eq (now : Nat) (l : List Route) : Ra54.aged now l = (l.filter (keepR now)).map (agedR now) := by
  unfold Ra54.aged
  have hF : Ra54.FAR = 16 := rfl
  congr 1
  congr 1
  funext r
  unfold keepR
  rw [hF]
  by_cases c1 : r.dist = 16 <;> by_cases c2 : r.gone ≤ now <;> simp [c1, c2]
def agedE (now : Nat) (es : Ents) : Ents := (es.filter fun e => keepR now e.2).map fun e => (e.1, agedR now e.2)
theorem agedE_routes (now : Nat) (es : Ents) : (agedE now es).map (·.2) = ((es.map (·.2)).filter (keepR now)).map (agedR now) := by
  unfold agedE
  rw [List.map_map, List.filter_map, List.map_map]
  rfl
theorem agedE_addr {now : Nat} {es : Ents} {x : Addr} (h : x ∈ (agedE now es).map (·.1)) : x ∈ es.map (·.1) := by
  unfold agedE at h
  rw [List.map_map] at h
  obtain ⟨e, he, rfl⟩ := List.mem_map.mp h
  exact List.mem_map.mpr ⟨e, (List.mem_filter.mp he).1, rfl⟩
theorem told_ans {s : St0} {l : List Route} (h : ∀ r ∈ l, r.bits ≤ 32) : (ansL { value := (Ra54.telling s l).length, sent := Ra54.telling s l }).map V.int = vN ((tellN s l 4).length :: sentN (tellN s l 4)) := by
  unfold ansL
  show ((((Ra54.telling s l).length : Nat) : Int) :: Ra54Neutral.ints ([] ++ (Ra54.telling s l).flatMap fun m => m.1 :: m.2.length :: m.2.map UInt8.toNat)).map V.int = _
  rw [ans_vN, List.nil_append, tell_sent h, tell_len h]
theorem all_routes {es : Ents} {rs : List Route} (o : Ord (es.map (·.2)) rs) (d : ∀ e ∈ es, Dom e.2) : ∀ r ∈ rs, r.bits ≤ 32 := fun r hr => by
  obtain ⟨e, he, rfl⟩ := List.mem_map.mp ((o.mem r).mp hr)
  exact (d e he).2.2.2
def spSTick (C : Cl) : Sp := fun vs H Q _ => ∃ (sa pl ta d : Addr) (es : Ents) (b : Bool) (s : St0) (now : Nat), vs = [.ref sa, .int now] ∧ SesAt C H sa pl ta d es b s ∧ AfterL C H sa pl ta d es b s (.tick now) Q
section
variable {P : Program} {w : World} {K : PySem.W.Frag} {mg : Str → Option Value} {base : Heap} {C : Cl}
theorem scSTick : FnScope ["self", "now"] ["self", "now"] (defScope sSTick) := ⟨rfl, rfl, rfl, by decide +kernel, rfl, by decide +kernel, by decide +kernel⟩
theorem ok_sTick {f : Addr} {fd : FuncData} (F : Fun K "tick" "Session.tick" sSTick f fd) (T : TxtS K mg C) (TT : TxtT K mg C.T) (M1 : HasM P w K mg base C.T "forget_old" 3 ["self", "now"] (spTForget C.T C.R)) (M2 : HasM P w K mg base C.T "lose_outdated" 3 ["self", "now"] (spTOutd C.T C.R))
    (M3 : HasM P w K mg base C.T "in_order" 1 ["self"] (spTOrder C.T C.R)) (M4 : HasM P w K mg base C.T "has_changed" 1 ["self"] (spTHasCh C.T C.R)) (M5 : HasM P w K mg base C.T "changed_in_order" 2 ["self"] (spTChOrd C.T C.R)) (MT : HasM P w K mg base C.S "tell" 4 ["self", "routes_told"] (spSTell C)) :
    FnOk P w K mg base CX0 5 f fd ["self", "now"] (spSTick C) := by
  refine F.ok scSTick (fun vs H Q E h => ?_) (fun cdv A outer s H vs Q E hr h => ?_)
  · obtain ⟨sa, pl, ta, d, es, b, st, now, rfl, _⟩ := h
    rfl
  · obtain ⟨sa, pl, ta, d, es, b, st, now, rfl, S, k⟩ := h
    obtain ⟨dx, h1⟩ := S.ob
    obtain ⟨g1, gd1, m1, b1, G1⟩ := M1.ex
    obtain ⟨g2, gd2, m2, b2, G2⟩ := M2.ex
    obtain ⟨g3, gd3, m3, b3, G3⟩ := M3.ex
    obtain ⟨g4, gd4, m4, b4, G4⟩ := M4.ex
    obtain ⟨g5, gd5, m5, b5, G5⟩ := M5.ex
    obtain ⟨g6, gd6, m6, b6, G6⟩ := MT.ex
    have hr1 : Room 1 _ := hr.mono (by decide)
    have hr2 : Room 2 _ := hr.mono (by decide)
    have hr3 : Room 3 _ := hr.mono (by decide)
    refine ⟨_, pss_cons (ps_if (PW.pt (pw_or (pt_cmpR op_lt (pv 1) (pe_fld (pv 0) rfl) (nomark _)) (pw_or1 (pt_cmpR op_ge (pv 1) (pe_gi T.tend) (nomark _))))) (pss_one (ps_ret (pe_lst (pa_cons (pe_un un_neg pe_int) pa_nil)))) pss_nil)
      (pss_cons (ps_fld (pv 0) (pv 1) rfl)
      (pss_cons (ps_expr (pe_meth (pe_fld (pv 0) rfl) TT.cl m1 G1 hr3 b1 .nil pass0 (pa_cons (pv 1) pa_nil)))
      (pss_cons (ps_expr (pe_meth (pe_fld (pv 0) rfl) TT.cl m2 G2 hr3 b2 .nil pass0 (pa_cons (pv 1) pa_nil)))
      (pss_cons (ps_if (pt_cmpR op_ge (pv 1) (pe_fld (pv 0) rfl) (nomark _)) (pss_cons (ps_fld (pv 0) (pe_op op_add (pv 1) (pe_gi T.every)) rfl) (pss_one (ps_ret (pe_meth (pv 0) T.cl m6 G6 hr b6 .nil pass0 (pa_cons (pe_meth0 (pe_fld (pv 0) rfl) TT.cl m3 G3 hr1 b3 .nil pass0) pa_nil))))) pss_nil)
      (pss_cons (ps_if (PW.pt (pw_and (pt_cmpR op_ge (pv 1) (pe_fld (pv 0) rfl) (nomark _)) (pw_and1 (pt_val (pe_meth0 (pe_fld (pv 0) rfl) TT.cl m4 G4 hr1 b4 .nil pass0))))) (pss_one (ps_ret (pe_meth (pv 0) T.cl m6 G6 hr b6 .nil pass0 (pa_cons (pe_meth0 (pe_fld (pv 0) rfl) TT.cl m5 G5 hr2 b5 .nil pass0) pa_nil)))) pss_nil)
      (pss_one (ps_ret (pe_lst (pa_cons pe_int pa_nil))))))))), ?_⟩
    -- what the document says
    generalize hrs : Ra54.aged now st.routes = rs
    have hstep : Ra54.step (some st) (.tick now) = if now < st.now ∨ 2 ^ 62 ≤ now then (some st, Ra54.only (-1))
        else if st.full ≤ now then (some { st with now := now, routes := rs.map quietR, full := now + 30000, soon := now + 1000 }, { value := (Ra54.telling { st with now := now, routes := rs } rs).length, sent := Ra54.telling { st with now := now, routes := rs } rs })
        else if st.soon ≤ now ∧ (rs.any fun r => r.changed) = true then (some { st with now := now, routes := rs.map quietR, soon := now + 1000 }, { value := (Ra54.telling { st with now := now, routes := rs } (rs.filter fun r => r.changed)).length, sent := Ra54.telling { st with now := now, routes := rs } (rs.filter fun r => r.changed) })
        else (some { st with now := now, routes := rs }, Ra54.only 0) := by
      rw [← hrs]
      rfl
    have p62 : (2 : Nat) ^ 62 = 4611686018427387904 := by decide
    have orT : ∀ {A B : Prop}, A → (if true = true then A else B) := fun h => h
    refine ⟨_, rfl, _, rfl, sa, C.S, dx, _, _, rfl, h1, T.cl, T.n2, rfl, _, _, rfl, rfl, _, rfl, ?_⟩
    by_cases c1 : now < st.now
    · rw [decide_eq_true (show (now : Int) < (st.now : Int) by omega)]
      refine iteT (iteT ⟨_, rfl, (by show 1 ≤ sizeLine; decide), fun p hp => k.only S ?_ (Same.refl H) hp⟩)
      rw [hstep, if_pos (.inl c1)] <;> rfl
    rw [decide_eq_false (show ¬ (now : Int) < (st.now : Int) by omega)]
    refine iteF ⟨_, rfl, _, _, rfl, rfl, _, rfl, ?_⟩
    by_cases c2 : 2 ^ 62 ≤ now
    · rw [decide_eq_true (show (4611686018427387904 : Int) ≤ (now : Int) by omega)]
      refine iteT ⟨_, rfl, (by show 1 ≤ sizeLine; decide), fun p hp => k.only S ?_ (Same.refl H) hp⟩
      rw [hstep, if_pos (.inr c2)] <;> rfl
    rw [decide_eq_false (show ¬ (4611686018427387904 : Int) ≤ (now : Int) by omega)]
    replace hstep := hstep.trans (if_neg (by omega))
    refine iteF ?_
    -- self.now = now
    refine ⟨_, rfl, _, rfl, sa, C.S, dx, _, rfl, h1, T.cl, T.n2, (by show 6 < 1000; decide), ?_⟩
    have S1 := S.renew (dx := dx) (s' := { st with now := now }) rfl rfl
    have k1 : Kept (· = sa) H (upd H sa (.ins C.S dx (sF b now pl ta st.full st.soon))) := Kept.at' rfl
    have t1 : Tr H (upd H sa (.ins C.S dx (sF b now pl ta st.full st.soon))) := Tr.kept k1 fun x e => by rw [e]; exact ⟨_, upd_same⟩
    have S1' : SesAt C (upd H sa (.ins C.S dx (sF b now pl ta st.full st.soon))) sa pl ta d es b { st with now := now } := S1
    have eh : upd H sa (.ins C.S dx (putF "now" (.int now) (sF b st.now pl ta st.full st.soon))) = upd H sa (.ins C.S dx (sF b now pl ta st.full st.soon)) := rfl
    rw [eh]
    clear S1
    generalize upd H sa (.ins C.S dx (sF b now pl ta st.full st.soon)) = H1 at S1' k1 t1 ⊢
    obtain ⟨dx1, h11⟩ := S1'.ob
    obtain ⟨dy1, z11⟩ := S1'.tb.ob
    -- self.table.forget_old(now)
    refine ⟨_, rfl, sa, C.S, dx1, _, _, rfl, h11, T.cl, T.n4, rfl, ta, dy1, _, rfl, z11, rfl, _, rfl, ta, d, es, now, rfl, S1'.tb, fun H2 d2 hd2 TA2 k2 => ?_⟩
    have er2 : (es.filter fun e => keepR now e.2).map (·.2) = (es.map (·.2)).filter (keepR now) := by rw [List.filter_map]; rfl
    have S2 := S1'.table2 (rs' := st.routes.filter (keepR now)) TA2 (by rw [er2]; exact S.od.filter _) (k2.mono fun x e => .inl e)
    have t2 : Tr H1 H2 := Tr.kept k2 fun x e => let ⟨dz, z⟩ := TA2.ob; ⟨_, e ▸ z⟩
    obtain ⟨dx2, h12⟩ := S2.ob
    obtain ⟨dy2, z12⟩ := S2.tb.ob
    -- self.table.lose_outdated(now)
    refine ⟨_, rfl, sa, C.S, dx2, _, _, rfl, h12, T.cl, T.n4, rfl, ta, dy2, _, rfl, z12, rfl, _, rfl, ta, d2, _, now, rfl, S2.tb, fun H3 TA3 k3 => ?_⟩
    have TA3' : TabAt C.T C.R H3 ta d2 (agedE now es) := TA3
    have o3 : Ord ((agedE now es).map (·.2)) rs := by
      rw [agedE_routes, ← hrs, aged_eq]
      exact (S.od.filter _).map (agedR_key now)
    have S3 : SesAt C H3 sa pl ta d2 (agedE now es) b { st with now := now, routes := rs } := S2.table2 (rs' := rs) TA3' o3 (k3.mono fun x e => .inr (.inr e))
    have t3 : Tr H2 H3 := Tr.kept k3 fun x e => by
      obtain ⟨y, hy, rfl⟩ := List.mem_map.mp e
      obtain ⟨dz, gg, fr, tt, z, _⟩ := TA3.rt (y.1, agedR now y.2) (List.mem_map.mpr ⟨y, hy, rfl⟩)
      exact ⟨_, z⟩
    have t03 : Tr H H3 := t1.trans (t2.trans t3)
    have k03 : Kept (SFoot sa pl ta d es) H H3 := (k1.mono fun x e => .inl e).trans ((k2.mono fun x e => .inr (.inr (.inl e))).trans (k3.mono fun x e => .inr (.inr (.inr (.inr (by
      obtain ⟨y, hy, rfl⟩ := List.mem_map.mp e
      exact List.mem_map.mpr ⟨y, (List.mem_filter.mp hy).1, rfl⟩))))))
    have f3 : FootTo sa pl ta d es pl ta d2 (agedE now es) H := fun x o e n m => by
      rcases m with m | m | m | m | m
      · exact n (.inl m)
      · exact n (.inr (.inl m))
      · exact n (.inr (.inr (.inl m)))
      · have q := t1.free hd2
        rw [← m, e] at q
        cases q
      · exact n (.inr (.inr (.inr (.inr (agedE_addr m)))))
    have fq : ∀ {fR : Route → Route}, FootTo sa pl ta d es pl ta d2 ((agedE now es).map fun e => (e.1, fR e.2)) H := fun {fR} x o e n m => f3 x o e n (by
      rcases m with m | m | m | m | m
      · exact .inl m
      · exact .inr (.inl m)
      · exact .inr (.inr (.inl m))
      · exact .inr (.inr (.inr (.inl m)))
      · refine .inr (.inr (.inr (.inr ?_)))
        rw [List.map_map] at m
        exact m)
    have kAll : ∀ {H5 H' : Hp}, Kept (SFoot sa pl ta d es) H H5 → Kept (SFoot sa pl ta d2 (agedE now es)) H5 H' → Kept (SFoot sa pl ta d es) H H' := fun k5 k6 x o e n => k6 x o (k5 x o e n) (f3 x o e n)
    have bits := all_routes o3 S3.tb.dom
    obtain ⟨dx3, h13⟩ := S3.ob
    obtain ⟨dy3, z13⟩ := S3.tb.ob
    refine ⟨_, rfl, _, rfl, sa, C.S, dx3, _, _, rfl, h13, T.cl, T.n5, rfl, _, _, rfl, rfl, _, rfl, ?_⟩
    by_cases c3 : st.full ≤ now
    · rw [decide_eq_true (show (st.full : Int) ≤ (now : Int) by omega)]
      rw [if_pos c3] at hstep
      refine iteT ?_
      -- self.all_told_at = now + ALL_TOLD_EVERY
      refine ⟨_, rfl, _, _, rfl, rfl, _, rfl, sa, C.S, dx3, _, rfl, h13, T.cl, T.n5, (by show 6 < 1000; decide), ?_⟩
      have S4 : SesAt C (upd H3 sa (.ins C.S dx3 (sF b now pl ta (now + 30000) st.soon))) sa pl ta d2 (agedE now es) b { st with now := now, routes := rs, full := now + 30000 } := S3.renew (dx := dx3) (s' := { st with now := now, routes := rs, full := now + 30000 }) rfl rfl
      have k4 : Kept (· = sa) H3 (upd H3 sa (.ins C.S dx3 (sF b now pl ta (now + 30000) st.soon))) := Kept.at' rfl
      have t4 : Tr H3 (upd H3 sa (.ins C.S dx3 (sF b now pl ta (now + 30000) st.soon))) := Tr.kept k4 fun x e => by rw [e]; exact ⟨_, upd_same⟩
      have eh4 : upd H3 sa (.ins C.S dx3 (putF "all_told_at" (.int ((now : Int) + 30000)) (sF b now pl ta st.full st.soon))) = upd H3 sa (.ins C.S dx3 (sF b now pl ta (now + 30000) st.soon)) := rfl
      rw [eh4]
      generalize upd H3 sa (.ins C.S dx3 (sF b now pl ta (now + 30000) st.soon)) = H4 at S4 k4 t4 ⊢
      obtain ⟨dx4, h14⟩ := S4.ob
      obtain ⟨dy4, z14⟩ := S4.tb.ob
      refine ⟨_, rfl, sa, dx4, _, rfl, h14, rfl, _, rfl, sa, C.S, dx4, _, _, rfl, h14, T.cl, T.n4, rfl, ta, dy4, _, rfl, z14, rfl, ta, d2, _, rfl, S4.tb, fun H5 L xs s5 hL0 hL hx xp xso => ?_⟩
      have S5 := S4.same s5
      have exs := sorted_rows_of o3 xp xso
      have hle : xs.length ≤ 256 := by
        have q := xp.length_eq
        rw [List.length_map] at q
        have := S3.tb.le
        omega
      have nLp : L ≠ pl := fun z => by
        obtain ⟨vs, q, _⟩ := S4.pt
        rw [z, q] at hL0
        cases hL0
      refine ⟨sa, pl, ta, d2, L, _, b, _, xs, rfl, S5, hL, nLp, hle, fun x hx' => ⟨hx x hx', xp.mem_iff.mp (List.mem_map.mpr ⟨x, hx', rfl⟩)⟩, fun H' p hp h' S' k' => ?_⟩
      rw [exs] at h'
      have k05 : Kept (SFoot sa pl ta d es) H H5 := k03.trans ((k4.mono fun x e => .inl e).trans (Kept.same s5))
      refine k H' p d2 _ _ _ hstep ((t03.trans (t4.trans (Tr.same s5))).free hp) (h'.trans ?_) S' fq (kAll k05 k')
      rw [told_ans bits]
      rfl
    rw [decide_eq_false (show ¬ (st.full : Int) ≤ (now : Int) by omega)]
    rw [if_neg c3] at hstep
    refine iteF ?_
    -- nothing is told
    have quiet : ∀ H4, Same H3 H4 → ¬ (st.soon ≤ now ∧ (rs.any fun r => r.changed) = true) → 1 ≤ sizeLine ∧ ∀ p, H4 p = none → Q (.ref p) (upd H4 p (.lst [.int 0])) := fun H4 s4 hc => by
      rw [if_neg hc] at hstep
      refine ⟨by decide, fun p hp => ?_⟩
      have s5 := s4.trans (same_new (o := .lst [.int 0]) hp)
      exact k _ p d2 _ _ _ hstep ((t03.trans (Tr.same s4)).free hp) (upd_same.trans rfl) (S3.same s5) f3 (k03.trans (Kept.same s5))
    have ea : ((agedE now es).any fun e => e.2.changed) = (rs.any fun r => r.changed) := by
      have q : ((agedE now es).map (·.2)).any (fun r => r.changed) = rs.any fun r => r.changed := o3.pm.symm.any_eq
      rw [← q, List.any_map]
      rfl
    refine ⟨_, rfl, _, rfl, sa, C.S, dx3, _, _, rfl, h13, T.cl, T.n6, rfl, _, _, rfl, rfl, _, rfl, ?_⟩
    by_cases c4 : st.soon ≤ now
    case neg =>
      rw [decide_eq_false (show ¬ (st.soon : Int) ≤ (now : Int) by omega)]
      exact iteF (iteF (quiet H3 (Same.refl _) fun z => c4 z.1))
    rw [decide_eq_true (show (st.soon : Int) ≤ (now : Int) by omega)]
    refine iteT ⟨_, rfl, sa, C.S, dx3, _, _, rfl, h13, T.cl, T.n4, rfl, ta, dy3, _, rfl, z13, rfl, ta, d2, _, rfl, S3.tb, fun H4 s4 => ⟨_, rfl, ?_⟩⟩
    rw [ea]
    by_cases c5 : (rs.any fun r => r.changed) = true
    case neg =>
      rw [Bool.eq_false_iff.mpr c5]
      exact iteF (quiet H4 s4 fun z => c5 z.2)
    rw [c5]
    rw [if_pos ⟨c4, c5⟩] at hstep
    have S4 := S3.same s4
    obtain ⟨dx4, h14⟩ := S4.ob
    obtain ⟨dy4, z14⟩ := S4.tb.ob
    refine iteT ?_
    refine ⟨_, rfl, sa, dx4, _, rfl, h14, rfl, _, rfl, sa, C.S, dx4, _, _, rfl, h14, T.cl, T.n4, rfl, ta, dy4, _, rfl, z14, rfl, ta, d2, _, rfl, S4.tb, fun H5 L xs ys s5 hL0 hL hx exy yp yso => ?_⟩
    have S5 := S4.same s5
    have eys : ys.map (·.2) = rs := o3.uniq yso (yp.map _)
    have exs : xs.map (·.2.2) = rs.filter fun r => r.changed := by
      rw [← eys, List.filter_map]
      have q := congrArg (List.map fun e : Addr × Route => e.2) exy
      rw [List.map_map] at q
      exact q
    have hle : xs.length ≤ 256 := by
      have q := congrArg List.length exy
      rw [List.length_map] at q
      have q2 := List.length_filter_le (fun e : Addr × Route => e.2.changed) ys
      have q3 := yp.length_eq
      have := S3.tb.le
      omega
    have nLp : L ≠ pl := fun z => by
      obtain ⟨vs, q, _⟩ := S4.pt
      rw [z, q] at hL0
      cases hL0
    refine ⟨sa, pl, ta, d2, L, _, b, _, xs, rfl, S5, hL, nLp, hle, fun x hx' => ⟨hx x hx', ?_⟩, fun H' p hp h' S' k' => ?_⟩
    · have q : x.2 ∈ xs.map (·.2) := List.mem_map.mpr ⟨x, hx', rfl⟩
      rw [exy] at q
      exact yp.mem_iff.mp (List.mem_filter.mp q).1
    rw [exs] at h'
    have k05 : Kept (SFoot sa pl ta d es) H H5 := k03.trans (Kept.same (s4.trans s5))
    refine k H' p d2 _ _ _ hstep ((t03.trans (Tr.same (s4.trans s5))).free hp) (h'.trans ?_) S' fq (kAll k05 k')
    rw [told_ans fun r hr => bits r (List.mem_filter.mp hr).1]
end
end NR
end

section
set_option Elab.async false
set_option maxRecDepth 100000
set_option maxHeartbeats 4000000
namespace NR
open PySem PySem.Spec L2
section
variable {P : Program} {w : World} {K : PySem.W.Frag} {mg : Str → Option Value} {base : Heap} {C : Cl} {CR : Addr}
theorem scNext : FnScope ["session", "reader", "which", "numbers", "octets"] ["session", "reader"] (defScope sNext) := ⟨rfl, rfl, rfl, by decide +kernel, rfl, by decide +kernel, by decide +kernel⟩
/-- a call of a list, answered -/
theorem NextTo.lst {sa ra pl ta d ca : Addr} {es : Ents} {s : St0} {k : Nat} {c : PC} {H H3 : Hp} {Q : VK} (q : NextTo C CR H sa ra pl ta d ca es true s k c Q) (S3 : SesAt C H3 sa pl ta d es true s) (R3 : RdAt CR H3 ra ca (k + c.flatN.length)) (k3 : Kept (· = ra) H H3) : AfterL C H3 sa pl ta d es true s c.call Q := by
  intro H' p d' es' s' z e hp h S' f k4
  have e' : Ra54.step (oOf true s) c.call = (some s', z) := e
  refine q H' p pl ta d' es' true s' (fun x o h n1 n2 ex => ?_) (by rw [e']; exact h) S' (by rw [e']; rfl) (R3.kept k4 (S3.no_reader R3)) (fun x o h n => ?_) fun x o h n => ?_
  · have := k3 x o h n2
    rw [ex, hp] at this
    cases this
  · by_cases c : x = ra
    · rw [c]
      exact S'.no_reader (R3.kept k4 (S3.no_reader R3))
    · exact f x o (k3 x o h c) n
  · exact k4 x o (k3 x o h fun e => n (.inr e)) fun e => n (.inl e)
theorem ok_next {f : Addr} {fd : FuncData} (F : Fun K "answer_next" "answer_next" sNext f fd) (T : TxtS K mg C) (TR : TxtRd K mg CR) (TL : TxtL K mg)
    (MB : HasM P w K mg base C.S "begin" 4 ["self", "now"] (spSBegin C)) (MU : HasM P w K mg base C.S "bring_up" 4 ["self", "i", "address", "bits"] (spSUp C)) (MD : HasM P w K mg base C.S "take_down" 3 ["self", "i"] (spSDown C)) (MH : HasM P w K mg base C.S "hear" 5 ["self", "i", "neighbour", "octets"] (spSHear C K))
    (MT : HasM P w K mg base C.S "tick" 5 ["self", "now"] (spSTick C)) (MW : HasM P w K mg base C.S "way" 4 ["self", "address"] (spSWay C)) (MR : HasM P w K mg base C.S "routes" 2 ["self"] (spSRoutes C)) (ME : HasM P w K mg base C.S "due" 4 ["self"] (spSDue C))
    (R1 : HasM P w K mg base CR "take" 1 ["self", "many"] (spRTake CR K)) (R2 : HasM P w K mg base CR "take_one" 2 ["self"] (spROne CR K)) (R3 : HasM P w K mg base CR "take_row" 3 ["self"] (spRRow CR K)) :
    FnOk P w K mg base CX0 6 f fd ["session", "reader"] (spNext C CR K fun _ => True) := by
  refine F.ok scNext (fun vs H Q E h => ?_) (fun cdv A outer s H vs Q E hr h => ?_)
  · obtain ⟨sa, ra, pl, ta, d, ca, es, b, st, k, ns, rest, c, rfl, _⟩ := h
    rfl
  · obtain ⟨sa, ra, pl, ta, d, ca, es, b, st, k, ns, rest, c, rfl, S, R, hS, hd, ok, ec, q⟩ := h
    obtain ⟨g1, gd1, m1, b1, G1⟩ := MB.ex
    obtain ⟨g2, gd2, m2, b2, G2⟩ := MU.ex
    obtain ⟨g3, gd3, m3, b3, G3⟩ := MD.ex
    obtain ⟨g4, gd4, m4, b4, G4⟩ := MH.ex
    obtain ⟨g5, gd5, m5, b5, G5⟩ := R1.ex
    obtain ⟨g6, gd6, m6, b6, G6⟩ := R2.ex
    obtain ⟨g7, gd7, m7, b7, G7⟩ := R3.ex
    obtain ⟨h1', hd1', n1', c1', J1⟩ := MT.ex
    obtain ⟨h2', hd2', n2', c2', J2⟩ := MW.ex
    obtain ⟨h3', hd3', n3', c3', J3⟩ := MR.ex
    obtain ⟨h4', hd4', n4', c4', J4⟩ := ME.ex
    obtain ⟨tt, et, TT⟩ := TL.nums
    have r1 : Room 1 _ := hr.mono (by decide)
    have r2 : Room 2 _ := hr.mono (by decide)
    have r3 : Room 3 _ := hr.mono (by decide)
    have r4 : Room 4 _ := hr.mono (by decide)
    refine ⟨_, pss_cons (ps_set (i := 2) scNext.nd rfl (.inl rfl) (pe_meth0 (pv 1) TR.cl m6 G6 r2 b6 .nil pass0))
      (pss_cons (ps_set (i := 3) scNext.nd rfl (.inl rfl) (pe_meth (pv 1) TR.cl m5 G5 r1 b5 .nil pass0 (pa_cons (pe_ix ix_tup (pe_glob rfl et (v := .ref tt) rfl) (pv 2) (fun _ _ => rfl)) pa_nil)))
      (pss_cons (ps_set (i := 4) scNext.nd rfl (.inl rfl) (pe_ifExp (pt_cmpR op_eq (pv 2) (pe_gi TL.hear) (nomark _)) (pe_meth0 (pv 1) TR.cl m7 G7 r3 b7 .nil pass0) (pe_lst pa_nil)))
      (pss_cons (ps_if (pt_cmpR op_eq (pv 2) (pe_gi TL.begin_) (nomark _)) (pss_one (ps_ret (pe_lst (pa_cons (pe_meth (pv 0) T.cl m1 G1 r4 b1 .nil pass0 (pa_cons (pe_ix ix_list (pv 3) pe_int (fun _ _ => rfl)) pa_nil)) pa_nil)))) pss_nil)
      (pss_cons (ps_if (pt_not (pt_val (pe_fld (pv 0) rfl))) (pss_one (ps_ret (pe_lst (pa_cons (pe_un un_neg pe_int) pa_nil)))) pss_nil)
      (pss_cons (ps_if (pt_cmpR op_eq (pv 2) (pe_gi TL.link) (nomark _)) (pss_one (ps_ret (pe_lst (pa_cons (pe_meth (pv 0) T.cl m2 G2 r4 b2 .nil pass0 (pa_cons (pe_ix ix_list (pv 3) pe_int (fun _ _ => rfl)) (pa_cons (pe_ix ix_list (pv 3) pe_int (fun _ _ => rfl)) (pa_cons (pe_ix ix_list (pv 3) pe_int (fun _ _ => rfl)) pa_nil)))) pa_nil)))) pss_nil)
      (pss_cons (ps_if (pt_cmpR op_eq (pv 2) (pe_gi TL.down) (nomark _)) (pss_one (ps_ret (pe_lst (pa_cons (pe_meth (pv 0) T.cl m3 G3 r3 b3 .nil pass0 (pa_cons (pe_ix ix_list (pv 3) pe_int (fun _ _ => rfl)) pa_nil)) pa_nil)))) pss_nil)
      (pss_cons (ps_if (pt_cmpR op_eq (pv 2) (pe_gi TL.hear) (nomark _)) (pss_one (ps_ret (pe_lst (pa_cons (pe_meth (pv 0) T.cl m4 G4 hr b4 .nil pass0 (pa_cons (pe_ix ix_list (pv 3) pe_int (fun _ _ => rfl)) (pa_cons (pe_ix ix_list (pv 3) pe_int (fun _ _ => rfl)) (pa_cons (pv 4) pa_nil)))) pa_nil)))) pss_nil)
      (pss_cons (ps_if (pt_cmpR op_eq (pv 2) (pe_gi TL.tick) (nomark _)) (pss_one (ps_ret (pe_meth (pv 0) T.cl n1' J1 hr c1' .nil pass0 (pa_cons (pe_ix ix_list (pv 3) pe_int (fun _ _ => rfl)) pa_nil)))) pss_nil)
      (pss_cons (ps_if (pt_cmpR op_eq (pv 2) (pe_gi TL.way) (nomark _)) (pss_one (ps_ret (pe_meth (pv 0) T.cl n2' J2 r4 c2' .nil pass0 (pa_cons (pe_ix ix_list (pv 3) pe_int (fun _ _ => rfl)) pa_nil)))) pss_nil)
      (pss_cons (ps_if (pt_cmpR op_eq (pv 2) (pe_gi TL.routes) (nomark _)) (pss_one (ps_ret (pe_meth0 (pv 0) T.cl n3' J3 r2 c3' .nil pass0))) pss_nil)
      (pss_one (ps_ret (pe_meth0 (pv 0) T.cl n4' J4 r4 c4' .nil pass0))))))))))))), ?_⟩
    have hp0 := c.flat_parts
    rw [hp0] at hd
    have hd1 : ns.drop k = [c.which] ++ (c.nums ++ (rowN c.row ++ rest)) := by rw [hd, List.append_assoc, List.append_assoc]
    have hd2 : ns.drop (k + 1) = c.nums ++ (rowN c.row ++ rest) := drop_next hd1
    have hd3 : ns.drop (k + 1 + c.nums.length) = rowN c.row ++ rest := drop_next hd2
    have hk : k + c.flatN.length = k + 1 + c.nums.length + (rowN c.row).length := by rw [hp0, List.length_append, List.length_append, List.length_singleton]; omega
    obtain ⟨dx, h1⟩ := R
    refine ⟨_, rfl, ra, dx, _, rfl, h1, rfl, ra, ca, k, c.which, ns, rfl, ⟨dx, h1⟩, hS, drop_get (j := 0) hd1 rfl, fun H1 R1 k1 => ?_⟩
    have hS1 := seq_moved hS ⟨dx, h1⟩ k1
    have S1 := S.moved ⟨dx, h1⟩ k1
    obtain ⟨dx1, h11⟩ := R1
    refine ⟨_, rfl, ra, dx1, _, rfl, h11, rfl, _, rfl, tt, _, _, _, rfl, rfl, TT H1, atI_nat (j := c.which) (vN_get (n := c.nums.length) ?_), ra, ca, k + 1, c.nums.length, ns, rfl, ⟨dx1, h11⟩, hS1, fun H2 p hp h2 R2 k2 => ?_⟩
    · exact c.nums_of
    rw [hd2, List.take_left] at h2
    have R1 : RdAt CR H1 ra ca (k + 1) := ⟨dx1, h11⟩
    have hS2 := seq_moved hS1 R1 k2
    have S2 := S1.moved R1 k2
    have k12 := k1.trans k2
    clear S1 hS1
    have nothing : ∀ {z : Int} {H3 : Hp}, SesAt C H3 sa pl ta d es b st → RdAt CR H3 ra ca (k + c.flatN.length) → Kept (· = ra) H H3 → Ra54.step (oOf b st) c.call = (oOf b st, Ra54.only z) → ∀ l, H3 l = none → Q (.ref l) (upd H3 l (.lst [.int z])) := fun S3 R3 k3 e l hl => q.one S3 R3 k3 S3 e (fun _ _ _ n => n) (Kept.refl _ _) hl
    cases c with
    | begin_ n =>
      refine ⟨_, rfl, rfl, _, rfl, iteF ⟨(by decide), fun po hpo => ?_⟩⟩
      have so := same_new (o := .lst []) hpo
      have S3 := S2.same so
      have R3 : RdAt CR (upd H2 po (.lst [])) ra ca (k + (PC.begin_ n).flatN.length) := R2.same so
      have k3 := k12.trans (Kept.same so)
      have h3 := so _ _ h2
      generalize upd H2 po (.lst []) = H3 at S3 R3 k3 h3 ⊢
      refine ⟨_, rfl, rfl, _, rfl, iteT ?_⟩
      obtain ⟨ds, z3⟩ := S3.ob
      have hstep : Ra54.step (oOf b st) (.begin_ n) = if n < 2 ^ 62 then (some (Ra54.begun n), Ra54.only 0) else (oOf b st, Ra54.only (-1)) := by cases b <;> rfl
      refine ⟨_, rfl, sa, ds, _, rfl, z3, rfl, _, rfl, p, _, _, _, rfl, rfl, SqL.of h3, atI_nat (j := 0) (vN_get (n := n) rfl), sa, pl, ta, d, es, b, st, n, rfl, S3, fun c => ⟨(by show 1 ≤ sizeLine; decide), fun l hl => ?_⟩, fun c H4 pl' ta' d' e1 e2 e3 S4 k4 => ⟨(by show 1 ≤ sizeLine; decide), fun l hl => ?_⟩⟩
      · exact nothing S3 R3 k3 (hstep.trans (if_neg c)) l hl
      · refine q.one S3 R3 k3 S4 (hstep.trans (if_pos c)) (fun x o e n m => ?_) (k4.mono fun x e => .inl e) hl
        rcases m with m | m | m | m | m
        · exact n (.inl m)
        · rw [m, e1] at e
          cases e
        · rw [m, e2] at e
          cases e
        · rw [m, e3] at e
          cases e
        · cases m
    | link i a n =>
      refine ⟨_, rfl, rfl, _, rfl, iteF ⟨(by decide), fun po hpo => ?_⟩⟩
      have so := same_new (o := .lst []) hpo
      have S3 := S2.same so
      have R3 : RdAt CR (upd H2 po (.lst [])) ra ca (k + (PC.link i a n).flatN.length) := R2.same so
      have k3 := k12.trans (Kept.same so)
      have h3 := so _ _ h2
      generalize upd H2 po (.lst []) = H3 at S3 R3 k3 h3 ⊢
      obtain ⟨ds, z3⟩ := S3.ob
      refine ⟨_, rfl, rfl, _, rfl, iteF ⟨_, rfl, sa, C.S, ds, _, _, rfl, z3, T.cl, T.n1, rfl, b, rfl, ?_⟩⟩
      cases b with
      | false => exact iteT ⟨_, rfl, (by show 1 ≤ sizeLine; decide), fun l hl => nothing S3 R3 k3 rfl l hl⟩
      | true =>
        refine iteF ⟨_, rfl, rfl, _, rfl, iteT ?_⟩
        refine ⟨_, rfl, sa, ds, _, rfl, z3, rfl, _, rfl, p, _, _, _, rfl, rfl, SqL.of h3, atI_nat (j := 0) (vN_get (n := i) rfl), _, rfl, p, _, _, _, rfl, rfl, SqL.of h3, atI_nat (j := 1) (vN_get (n := a) rfl), _, rfl, p, _, _, _, rfl, rfl, SqL.of h3, atI_nat (j := 2) (vN_get (n := n) rfl), ?_⟩
        exact ⟨sa, pl, ta, d, es, true, st, i, a, n, rfl, S3, fun H4 es' s' z e S4 f4 k4 => ⟨(by show 1 ≤ sizeLine; decide), fun l hl => q.one S3 R3 k3 S4 e f4 k4 hl⟩⟩
    | down i =>
      refine ⟨_, rfl, rfl, _, rfl, iteF ⟨(by decide), fun po hpo => ?_⟩⟩
      have so := same_new (o := .lst []) hpo
      have S3 := S2.same so
      have R3 : RdAt CR (upd H2 po (.lst [])) ra ca (k + (PC.down i).flatN.length) := R2.same so
      have k3 := k12.trans (Kept.same so)
      have h3 := so _ _ h2
      generalize upd H2 po (.lst []) = H3 at S3 R3 k3 h3 ⊢
      obtain ⟨ds, z3⟩ := S3.ob
      refine ⟨_, rfl, rfl, _, rfl, iteF ⟨_, rfl, sa, C.S, ds, _, _, rfl, z3, T.cl, T.n1, rfl, b, rfl, ?_⟩⟩
      cases b with
      | false => exact iteT ⟨_, rfl, (by show 1 ≤ sizeLine; decide), fun l hl => nothing S3 R3 k3 rfl l hl⟩
      | true =>
        refine iteF ⟨_, rfl, rfl, _, rfl, iteF ⟨_, rfl, rfl, _, rfl, iteT ?_⟩⟩
        refine ⟨_, rfl, sa, ds, _, rfl, z3, rfl, _, rfl, p, _, _, _, rfl, rfl, SqL.of h3, atI_nat (j := 0) (vN_get (n := i) rfl), ?_⟩
        exact ⟨sa, pl, ta, d, es, true, st, i, rfl, S3, fun H4 es' s' z e S4 f4 k4 => ⟨(by show 1 ≤ sizeLine; decide), fun l hl => q.one S3 R3 k3 S4 e f4 k4 hl⟩⟩
    | hear i x bs =>
      obtain ⟨hs, hl⟩ := ok
      obtain ⟨dx2, h12⟩ := R2
      have hn : ns[k + 1 + 2]? = some bs.length := drop_get (j := 0) (a := rowN (some bs)) hd3 rfl
      have hd4 : (ns.drop (k + 1 + 2 + 1)).take bs.length = bs := drop_part (a := [bs.length]) hd3 rfl
      refine ⟨_, rfl, rfl, _, rfl, iteT ⟨_, rfl, ra, dx2, _, rfl, h12, rfl, ra, ca, k + 1 + 2, bs.length, ns, rfl, ⟨dx2, h12⟩, hS2, hn, fun H3 po hpo h4 R3' kp3 => ?_⟩⟩
      rw [hd4] at h4
      have S3 := S2.moved ⟨dx2, h12⟩ kp3
      have h3 := kp3 _ _ h2 fun e => by rw [e, h12] at h2; cases h2
      have R3 : RdAt CR H3 ra ca (k + (PC.hear i x bs).flatN.length) := by
        have ek : k + (PC.hear i x bs).flatN.length = k + 1 + 2 + 1 + bs.length := by
          show k + (bs.length + 1 + 1 + 1 + 1) = _
          omega
        rw [ek]
        exact R3'
      have k3 := k12.trans kp3
      obtain ⟨ds, z3⟩ := S3.ob
      refine ⟨_, rfl, rfl, _, rfl, iteF ⟨_, rfl, sa, C.S, ds, _, _, rfl, z3, T.cl, T.n1, rfl, b, rfl, ?_⟩⟩
      cases b with
      | false => exact iteT ⟨_, rfl, (by show 1 ≤ sizeLine; decide), fun l hl => nothing S3 R3 k3 rfl l hl⟩
      | true =>
        refine iteF ⟨_, rfl, rfl, _, rfl, iteF ⟨_, rfl, rfl, _, rfl, iteF ⟨_, rfl, rfl, _, rfl, iteT ?_⟩⟩⟩
        refine ⟨_, rfl, sa, ds, _, rfl, z3, rfl, _, rfl, p, _, _, _, rfl, rfl, SqL.of h3, atI_nat (j := 0) (vN_get (n := i) rfl), _, rfl, p, _, _, _, rfl, rfl, SqL.of h3, atI_nat (j := 1) (vN_get (n := x) rfl), _, rfl, ?_⟩
        exact ⟨sa, pl, ta, d, po, es, true, st, i, x, bs, rfl, S3, SqL.of h4, hs, hl, fun H4 es' s' z e S4 f4 k4 => ⟨(by show 1 ≤ sizeLine; decide), fun l hl => q.one S3 R3 k3 S4 e f4 k4 hl⟩⟩
    | tick n =>
      refine ⟨_, rfl, rfl, _, rfl, iteF ⟨(by decide), fun po hpo => ?_⟩⟩
      have so := same_new (o := .lst []) hpo
      have S3 := S2.same so
      have R3 : RdAt CR (upd H2 po (.lst [])) ra ca (k + (PC.tick n).flatN.length) := R2.same so
      have k3 := k12.trans (Kept.same so)
      have h3 := so _ _ h2
      generalize upd H2 po (.lst []) = H3 at S3 R3 k3 h3 ⊢
      obtain ⟨ds, z3⟩ := S3.ob
      refine ⟨_, rfl, rfl, _, rfl, iteF ⟨_, rfl, sa, C.S, ds, _, _, rfl, z3, T.cl, T.n1, rfl, b, rfl, ?_⟩⟩
      cases b with
      | false => exact iteT ⟨_, rfl, (by show 1 ≤ sizeLine; decide), fun l hl => nothing S3 R3 k3 rfl l hl⟩
      | true =>
        refine iteF ?_
        refine ⟨_, rfl, rfl, _, rfl, iteF ?_⟩
        refine ⟨_, rfl, rfl, _, rfl, iteF ?_⟩
        refine ⟨_, rfl, rfl, _, rfl, iteF ?_⟩
        refine ⟨_, rfl, rfl, _, rfl, iteT ⟨_, rfl, sa, ds, _, rfl, z3, rfl, _, rfl, p, _, _, _, rfl, rfl, SqL.of h3, atI_nat (j := 0) (vN_get (n := n) rfl), sa, pl, ta, d, es, true, st, n, rfl, S3, q.lst S3 R3 k3⟩⟩
    | way n =>
      refine ⟨_, rfl, rfl, _, rfl, iteF ⟨(by decide), fun po hpo => ?_⟩⟩
      have so := same_new (o := .lst []) hpo
      have S3 := S2.same so
      have R3 : RdAt CR (upd H2 po (.lst [])) ra ca (k + (PC.way n).flatN.length) := R2.same so
      have k3 := k12.trans (Kept.same so)
      have h3 := so _ _ h2
      generalize upd H2 po (.lst []) = H3 at S3 R3 k3 h3 ⊢
      obtain ⟨ds, z3⟩ := S3.ob
      refine ⟨_, rfl, rfl, _, rfl, iteF ⟨_, rfl, sa, C.S, ds, _, _, rfl, z3, T.cl, T.n1, rfl, b, rfl, ?_⟩⟩
      cases b with
      | false => exact iteT ⟨_, rfl, (by show 1 ≤ sizeLine; decide), fun l hl => nothing S3 R3 k3 rfl l hl⟩
      | true =>
        refine iteF ?_
        refine ⟨_, rfl, rfl, _, rfl, iteF ?_⟩
        refine ⟨_, rfl, rfl, _, rfl, iteF ?_⟩
        refine ⟨_, rfl, rfl, _, rfl, iteF ?_⟩
        refine ⟨_, rfl, rfl, _, rfl, iteF ?_⟩
        refine ⟨_, rfl, rfl, _, rfl, iteT ⟨_, rfl, sa, ds, _, rfl, z3, rfl, _, rfl, p, _, _, _, rfl, rfl, SqL.of h3, atI_nat (j := 0) (vN_get (n := n) rfl), sa, pl, ta, d, es, true, st, n, rfl, S3, q.lst S3 R3 k3⟩⟩
    | routes =>
      refine ⟨_, rfl, rfl, _, rfl, iteF ⟨(by decide), fun po hpo => ?_⟩⟩
      have so := same_new (o := .lst []) hpo
      have S3 := S2.same so
      have R3 : RdAt CR (upd H2 po (.lst [])) ra ca (k + (PC.routes).flatN.length) := R2.same so
      have k3 := k12.trans (Kept.same so)
      have h3 := so _ _ h2
      generalize upd H2 po (.lst []) = H3 at S3 R3 k3 h3 ⊢
      obtain ⟨ds, z3⟩ := S3.ob
      refine ⟨_, rfl, rfl, _, rfl, iteF ⟨_, rfl, sa, C.S, ds, _, _, rfl, z3, T.cl, T.n1, rfl, b, rfl, ?_⟩⟩
      cases b with
      | false => exact iteT ⟨_, rfl, (by show 1 ≤ sizeLine; decide), fun l hl => nothing S3 R3 k3 rfl l hl⟩
      | true =>
        refine iteF ?_
        refine ⟨_, rfl, rfl, _, rfl, iteF ?_⟩
        refine ⟨_, rfl, rfl, _, rfl, iteF ?_⟩
        refine ⟨_, rfl, rfl, _, rfl, iteF ?_⟩
        refine ⟨_, rfl, rfl, _, rfl, iteF ?_⟩
        refine ⟨_, rfl, rfl, _, rfl, iteF ?_⟩
        refine ⟨_, rfl, rfl, _, rfl, iteT ⟨_, rfl, sa, ds, _, rfl, z3, rfl, sa, pl, ta, d, es, true, st, rfl, S3, q.lst S3 R3 k3⟩⟩
    | due =>
      refine ⟨_, rfl, rfl, _, rfl, iteF ⟨(by decide), fun po hpo => ?_⟩⟩
      have so := same_new (o := .lst []) hpo
      have S3 := S2.same so
      have R3 : RdAt CR (upd H2 po (.lst [])) ra ca (k + (PC.due).flatN.length) := R2.same so
      have k3 := k12.trans (Kept.same so)
      have h3 := so _ _ h2
      generalize upd H2 po (.lst []) = H3 at S3 R3 k3 h3 ⊢
      obtain ⟨ds, z3⟩ := S3.ob
      refine ⟨_, rfl, rfl, _, rfl, iteF ⟨_, rfl, sa, C.S, ds, _, _, rfl, z3, T.cl, T.n1, rfl, b, rfl, ?_⟩⟩
      cases b with
      | false => exact iteT ⟨_, rfl, (by show 1 ≤ sizeLine; decide), fun l hl => nothing S3 R3 k3 rfl l hl⟩
      | true =>
        refine iteF ?_
        refine ⟨_, rfl, rfl, _, rfl, iteF ?_⟩
        refine ⟨_, rfl, rfl, _, rfl, iteF ?_⟩
        refine ⟨_, rfl, rfl, _, rfl, iteF ?_⟩
        refine ⟨_, rfl, rfl, _, rfl, iteF ?_⟩
        refine ⟨_, rfl, rfl, _, rfl, iteF ?_⟩
        refine ⟨_, rfl, rfl, _, rfl, iteF ⟨_, rfl, sa, ds, _, rfl, z3, rfl, sa, pl, ta, d, es, true, st, rfl, S3, q.lst S3 R3 k3⟩⟩
end
end NR
end

section
set_option Elab.async false
set_option maxRecDepth 100000
set_option maxHeartbeats 4000000
/-! links.py: answers -/
namespace NR
open PySem PySem.Spec L2
def spAns (K : PySem.W.Frag) : Sp := fun vs H Q _ => ∃ (ca : Addr) (ns : List Nat) (cs : List PC), vs = [.ref ca] ∧ SqL K H ca (vN ns) ∧ ns = cs.flatMap PC.flatN ∧ (∀ c ∈ cs, c.ok) ∧ (due none cs).length ≤ 10000000 ∧
  ∀ H' p, Same H H' → H p = none → H' p = some (.lst ((due none cs).map V.int)) → Q (.ref p) H'
section
variable {P : Program} {w : World} {K : PySem.W.Frag} {mg : Str → Option Value} {base : Heap} {C : Cl} {CR : Addr}
theorem scAns : FnScope ["calls", "session", "reader", "answered", "answer"] ["calls"] (defScope sAns) := ⟨rfl, rfl, rfl, by decide +kernel, rfl, by decide +kernel, by decide +kernel⟩
theorem ok_ans {f : Addr} {fd : FuncData} (F : Fun K "answers" "answers" sAns f fd) (T : TxtS K mg C) (TR : TxtRd K mg CR) (TL : TxtL K mg)
    (hS : ∃ fI fdI, Mk K C.S fI ∧ Binds K fdI ["self"] [] ∧ FnOk P w K mg base CX0 4 fI fdI ["self"] (spSInit C)) (hR : ∃ fI fdI, Mk K CR fI ∧ Binds K fdI ["self", "calls"] [] ∧ FnOk P w K mg base CX0 1 fI fdI ["self", "calls"] (spRdInit CR))
    (MM : HasM P w K mg base CR "has_more" 1 ["self"] (spRMore CR K)) (MN : HasF P w K mg base "answer_next" 6 ["session", "reader"] (spNext C CR K fun _ => True)) : FnOk P w K mg base CX0 7 f fd ["calls"] (spAns K) := by
  refine F.ok scAns (fun vs H Q E h => ?_) (fun cdv A outer s H vs Q E hr h => ?_)
  · obtain ⟨ca, ns, cs, rfl, _⟩ := h
    rfl
  · obtain ⟨ca, ns, cs, rfl, hS0, ens, hok, hlen, q⟩ := h
    obtain ⟨fS, fdS, KS, bS, GS⟩ := hS
    obtain ⟨fR, fdR, KR, bR, GR⟩ := hR
    obtain ⟨g1, gd1, m1, b1, G1⟩ := MM.ex
    obtain ⟨g2, gd2, m2, kp2, b2, G2⟩ := MN.ex
    have r1 : Room 1 _ := hr.mono (by decide)
    have r2 : Room 2 _ := hr.mono (by decide)
    have r5 : Room 5 _ := hr.mono (by decide)
    have zl := sizeLine_eq
    refine ⟨_, pss_cons (ps_set (i := 1) scAns.nd rfl (.inl rfl) (pe_make0 KS GS r5 (by rfl) T.mgC bS .nil pass0))
      (pss_cons (ps_set (i := 2) scAns.nd rfl (.inl rfl) (pe_make KR GR r2 (by rfl) TR.mgC bR .nil pass0 (pa_cons (pv 0) pa_nil)))
      (pss_cons (ps_set (i := 3) scAns.nd rfl (.inl rfl) (pe_lst pa_nil))
      (pss_cons (ps_while PassesOwn.never (pt_val (pe_meth0 (pv 2) TR.cl m1 G1 r1 b1 .nil pass0))
        (pss_cons (ps_set (i := 4) scAns.nd rfl (.inl rfl) (pe_call G2 hr (by rfl) m2 kp2 b2 .nil pass0 (pa_cons (pv 1) (pa_cons (pv 2) pa_nil))))
        (pss_cons (ps_expr (pe_bm PySem.F.plainAttrs_list PySem.F.slot_list_append PySem.F.type_list_append mt_append (pv 3) (pa_cons (pe_callB call_len_seq (by rfl) TL.len PySem.boot_len (pa_cons (pv 4) pa_nil)) pa_nil)))
        (pss_one (ps_expr (pe_bm PySem.F.plainAttrs_list PySem.F.slot_list_extend PySem.F.type_list_extend mt_extend (pv 3) (pa_cons (pv 4) pa_nil)))))))
      (pss_one (ps_ret (pv 3)))))), ?_⟩
    -- session = Session()
    intro sa dx nsa ndx nex
    refine ⟨sa, dx, rfl, upd_same, fun H1 pl ta d e1 e2 e3 S1 kp1 => ⟨rfl, ?_⟩⟩
    have s1 := new_route nsa ndx kp1
    have fr1 : ∀ {x}, upd (upd H dx (.own sa)) sa (.ins C.S dx []) x = none → H x = none := fun {x} hx => by
      have n1 : x ≠ sa := fun z => by rw [z, upd_same] at hx; cases hx
      rw [upd_ne n1] at hx
      have n2 : x ≠ dx := fun z => by rw [z, upd_same] at hx; cases hx
      rwa [upd_ne n2] at hx
    have ff : ∀ x, SFoot sa pl ta d [] x → H x = none := fun x hx => by
      rcases hx with h | h | h | h | h
      · rw [h]; exact nsa
      · rw [h]; exact fr1 e1
      · rw [h]; exact fr1 e2
      · rw [h]; exact fr1 e3
      · cases h
    -- reader = Reader(calls)
    refine ⟨_, rfl, fun ra dx2 nra ndx2 nex2 => ⟨ra, dx2, ca, rfl, upd_same, fun H2 R2 kp2' => ⟨rfl, ?_⟩⟩⟩
    have s2 := new_route nra ndx2 kp2'
    have S2 := S1.same s2
    have hra0 : H ra = none := s1.free nra
    -- answered = []
    refine ⟨Nat.zero_le _, fun oa hoa => ?_⟩
    have s3 := same_new (o := .lst []) hoa
    have hoa0 : H oa = none := s1.free (s2.free hoa)
    have nof : ¬ SFoot sa pl ta d [] oa := fun h => by
      obtain ⟨o, z⟩ := S2.foot_some h
      rw [hoa] at z
      cases z
    have nor : oa ≠ ra := fun e => by
      obtain ⟨dz, z⟩ := R2
      rw [← e, hoa] at z
      cases z
    have S3 := S2.same s3
    have R3 := R2.same s3
    have h3 : upd H2 oa (.lst []) oa = some (.lst (([] : List Int).map V.int)) := upd_same
    have s03 := s1.trans (s2.trans s3)
    generalize upd H2 oa (.lst []) = H3 at S3 R3 h3 s03 ⊢
    -- while reader.has_more()
    refine ⟨fun m σ H' => ∃ (k : Nat) (rest : List PC) (out : List Int) (pl ta d : Addr) (es : Ents) (b : Bool) (s : St0) (v : Option V), m = ns.length - k ∧ σ = [some (.ref ca), some (.ref sa), some (.ref ra), some (.ref oa), v] ∧
        out ++ due (oOf b s) rest = due none cs ∧ ns.drop k = rest.flatMap PC.flatN ∧ (∀ c ∈ rest, c.ok) ∧ SesAt C H' sa pl ta d es b s ∧ RdAt CR H' ra ca k ∧ H' oa = some (.lst (out.map V.int)) ∧ Same H H' ∧ (∀ x, SFoot sa pl ta d es x → H x = none) ∧ ¬ SFoot sa pl ta d es oa,
      ⟨_, 0, cs, [], pl, ta, d, [], false, _, none, rfl, rfl, rfl, ens, hok, S3, R3, h3, s03, ff, nof⟩, ?_⟩
    rintro m σ H' ⟨k, rest, out, pl, ta, d, es, b, st, v, rfl, rfl, eo, ed, hrest, S, R, ho, sH, ff, nof⟩
    have hS' := sH.seq hS0
    obtain ⟨dz, hz⟩ := id R
    refine ⟨_, rfl, ra, dz, _, rfl, hz, rfl, ra, ca, k, ns, rfl, R, hS', _, rfl, ?_⟩
    cases rest with
    | nil =>
      have hk : ¬ k < ns.length := fun c => by
        have e := congrArg List.length ed
        rw [List.length_drop, List.flatMap_nil, List.length_nil] at e
        omega
      rw [decide_eq_false hk]
      refine iteF ⟨_, rfl, q H' oa sH hoa0 ?_⟩
      rw [← eo]
      show _ = some (HO.lst ((out ++ []).map V.int))
      rw [List.append_nil]
      exact ho
    | cons c rest =>
      have hc : 0 < c.flatN.length := c.flatN_pos
      have ed' : ns.drop k = c.flatN ++ rest.flatMap PC.flatN := by rw [ed, List.flatMap_cons]
      have hk : k < ns.length := by
        have e := congrArg List.length ed'
        rw [List.length_drop, List.length_append] at e
        omega
      rw [decide_eq_true hk]
      refine iteT ⟨_, fun σ' H' w => w, ?_⟩
      refine ⟨_, rfl, _, rfl, sa, ra, pl, ta, d, ca, es, b, st, k, ns, rest.flatMap PC.flatN, c, rfl, S, R, hS', ed', hrest c List.mem_cons_self, trivial, fun H4 p pl' ta' d' es' b' s' hp h4 S4 e4 R4 f4 k4 => ?_⟩
      have npo : oa ≠ p := hp oa _ ho nof nor
      have h4oa : H4 oa = some (.lst (out.map V.int)) := k4 _ _ ho fun z => z.elim nof nor
      have e5 : due (oOf b st) (c :: rest) = (((ansL (Ra54.step (oOf b st) c.call).2).length : Int) :: ansL (Ra54.step (oOf b st) c.call).2) ++ due (oOf b' s') rest := by rw [due_cons, e4]
      generalize ansL (Ra54.step (oOf b st) c.call).2 = an at h4 e5
      have eo' : (out ++ ((an.length : Int) :: an)) ++ due (oOf b' s') rest = due none cs := by rw [List.append_assoc, ← e5, eo]
      have hsz : out.length + (an.length + 1) ≤ 10000000 := by
        have e := congrArg List.length eo'
        rw [List.length_append, List.length_append, List.length_cons] at e
        omega
      -- answered.append(len(answer))
      refine ⟨_, rfl, .inl ⟨rfl, _, SqL.of h4oa⟩, _, rfl, p, _, rfl, .inl (SqL.of h4), oa, _, _, rfl, rfl, h4oa, ?_, ?_⟩
      · rw [List.length_map]
        omega
      have h5oa : upd H4 oa (.lst (out.map V.int ++ [V.int (an.map V.int).length])) oa = some (.lst (out.map V.int ++ [V.int (an.map V.int).length])) := upd_same
      have h5p : upd H4 oa (.lst (out.map V.int ++ [V.int (an.map V.int).length])) p = some (.lst (an.map V.int)) := by rw [upd_ne npo.symm]; exact h4
      -- answered.extend(answer)
      refine ⟨_, rfl, .inl ⟨rfl, _, SqL.of h5oa⟩, _, rfl, oa, p, _, _, rfl, rfl, h5oa, h5p, ?_, ?_⟩
      · rw [List.length_append, List.length_map, List.length_map]
        show out.length + 1 + an.length ≤ sizeLine
        omega
      rw [upd_upd]
      have ev : out.map V.int ++ [V.int (an.map V.int).length] ++ an.map V.int = (out ++ ((an.length : Int) :: an)).map V.int := by
        rw [List.map_append, List.length_map, List.append_assoc]
        rfl
      rw [ev]
      have k6 : Kept (· = oa) H4 (upd H4 oa (.lst ((out ++ ((an.length : Int) :: an)).map V.int))) := Kept.at' rfl
      have nof' : ¬ SFoot sa pl' ta' d' es' oa := f4 oa _ ho nof
      have S6 := S4.kept k6 (fun x hx e => nof' (e ▸ hx)) fun x o e h => by
        rw [e, h4oa] at h
        cases h
        exact ⟨(by show (1 : Nat) ≠ 12; decide), (by show (1 : Nat) ≠ 2; decide)⟩
      have R6 := R4.kept k6 nor.symm
      have s6 : Same H (upd H4 oa (.lst ((out ++ ((an.length : Int) :: an)).map V.int))) := fun x o e => by
        refine k6 x o (k4 x o (sH x o e) fun z => ?_) (ne_of_none e hoa0)
        rcases z with z | z
        · rw [ff x z] at e
          cases e
        · rw [z, hra0] at e
          cases e
      refine ⟨ns.length - (k + c.flatN.length), by omega, k + c.flatN.length, rest, out ++ ((an.length : Int) :: an), pl', ta', d', es', b', s', some (.ref p), rfl, rfl, eo', drop_next ed', fun x hx => hrest x (List.mem_cons_of_mem _ hx), S6, R6, upd_same, s6, fun x hx => ?_, nof'⟩
      cases e : H x with
      | none => rfl
      | some o => exact absurd hx (f4 x o (sH x o e) fun z => by rw [ff x z] at e; cases e)
end
end NR
end

section
set_option Elab.async false
set_option maxRecDepth 100000
set_option maxHeartbeats 4000000
namespace NR
open PySem PySem.Spec L2
theorem mk_init {P : Program} {w : World} {K : PySem.W.Frag} {mg : Str → Option Value} {base : Heap} {A f : Addr} {fd : FuncData} {ps : List Str} {k : Nat} {sp : Sp} (M : Mk K A f) (b : Binds K fd ps []) (G : FnOk P w K mg base CX0 k f fd ps sp) : ∃ fI fdI, Mk K A fI ∧ Binds K fdI ps [] ∧ FnOk P w K mg base CX0 k fI fdI ps sp := ⟨f, fd, M, b, G⟩
theorem bnd {K : PySem.W.Frag} {mg : Str → Option Value} {x : Str} {n : Int} {t : Tok} {h : Heap} (X : K.In h) (G : h.Ns mainGlobals mg) (a : PySem.W.nsIn K mainGlobals x = some (some (.int n t))) : MgI mg x n := ⟨t, PySem.W.mg_of X G a⟩
set_option maxHeartbeats 8000000 in
theorem all_mk {P : Program} {w : World} {K : PySem.W.Frag} {h : Heap} {mg : Str → Option Value} {fa : Addr} {AR AT AP AS AD : Addr} {f_netOf f_isHost f_isOf f_rInit f_rReach f_rOwn f_rBy f_rCourse f_rConfirm f_rLose f_rYields f_rForg f_rOutd f_rEnds f_rTold f_num f_octs f_offer f_offers f_msg f_msgs f_tInit f_tFull f_tHas f_tCourse f_tOrder f_tChOrd f_tHasCh f_tEnds f_tRouteTo f_tOwn f_tLose f_tForget f_tOutd f_tMark f_tAgain f_tOffer f_pInit f_sStart f_sInit f_sBegin f_sHas f_sUp f_sDown f_sTake f_sHear f_sTell f_sTick f_sWay f_sRoutes f_sDue f_rdInit f_rMore f_rTake f_rOne f_rRow f_next f_ans : Addr} (X : K.In h) (G : h.Ns mainGlobals mg) (hfa : mg "answers" = some (.ref fa))
    {od_netOf an_netOf : Option Addr} {sl_netOf : Array (Option Value)} {oc_netOf kV_netOf dc_netOf pm_netOf cd_netOf ct_netOf : Value}
    {od_isHost an_isHost : Option Addr} {sl_isHost : Array (Option Value)} {oc_isHost kV_isHost dc_isHost pm_isHost cd_isHost ct_isHost : Value}
    {od_isOf an_isOf : Option Addr} {sl_isOf : Array (Option Value)} {oc_isOf kV_isOf dc_isOf pm_isOf cd_isOf ct_isOf : Value}
    {od_rInit an_rInit : Option Addr} {sl_rInit : Array (Option Value)} {oc_rInit kV_rInit dc_rInit pm_rInit cd_rInit ct_rInit : Value}
    {od_rReach an_rReach : Option Addr} {sl_rReach : Array (Option Value)} {oc_rReach kV_rReach dc_rReach pm_rReach cd_rReach ct_rReach : Value}
    {od_rOwn an_rOwn : Option Addr} {sl_rOwn : Array (Option Value)} {oc_rOwn kV_rOwn dc_rOwn pm_rOwn cd_rOwn ct_rOwn : Value}
    {od_rBy an_rBy : Option Addr} {sl_rBy : Array (Option Value)} {oc_rBy kV_rBy dc_rBy pm_rBy cd_rBy ct_rBy : Value}
    {od_rCourse an_rCourse : Option Addr} {sl_rCourse : Array (Option Value)} {oc_rCourse kV_rCourse dc_rCourse pm_rCourse cd_rCourse ct_rCourse : Value}
    {od_rConfirm an_rConfirm : Option Addr} {sl_rConfirm : Array (Option Value)} {oc_rConfirm kV_rConfirm dc_rConfirm pm_rConfirm cd_rConfirm ct_rConfirm : Value}
    {od_rLose an_rLose : Option Addr} {sl_rLose : Array (Option Value)} {oc_rLose kV_rLose dc_rLose pm_rLose cd_rLose ct_rLose : Value}
    {od_rYields an_rYields : Option Addr} {sl_rYields : Array (Option Value)} {oc_rYields kV_rYields dc_rYields pm_rYields cd_rYields ct_rYields : Value}
    {od_rForg an_rForg : Option Addr} {sl_rForg : Array (Option Value)} {oc_rForg kV_rForg dc_rForg pm_rForg cd_rForg ct_rForg : Value}
    {od_rOutd an_rOutd : Option Addr} {sl_rOutd : Array (Option Value)} {oc_rOutd kV_rOutd dc_rOutd pm_rOutd cd_rOutd ct_rOutd : Value}
    {od_rEnds an_rEnds : Option Addr} {sl_rEnds : Array (Option Value)} {oc_rEnds kV_rEnds dc_rEnds pm_rEnds cd_rEnds ct_rEnds : Value}
    {od_rTold an_rTold : Option Addr} {sl_rTold : Array (Option Value)} {oc_rTold kV_rTold dc_rTold pm_rTold cd_rTold ct_rTold : Value}
    {od_num an_num : Option Addr} {sl_num : Array (Option Value)} {oc_num kV_num dc_num pm_num cd_num ct_num : Value}
    {od_octs an_octs : Option Addr} {sl_octs : Array (Option Value)} {oc_octs kV_octs dc_octs pm_octs cd_octs ct_octs : Value}
    {od_offer an_offer : Option Addr} {sl_offer : Array (Option Value)} {oc_offer kV_offer dc_offer pm_offer cd_offer ct_offer : Value}
    {od_offers an_offers : Option Addr} {sl_offers : Array (Option Value)} {oc_offers kV_offers dc_offers pm_offers cd_offers ct_offers : Value}
    {od_msg an_msg : Option Addr} {sl_msg : Array (Option Value)} {oc_msg kV_msg dc_msg pm_msg cd_msg ct_msg : Value}
    {od_msgs an_msgs : Option Addr} {sl_msgs : Array (Option Value)} {oc_msgs kV_msgs dc_msgs pm_msgs cd_msgs ct_msgs : Value}
    {od_tInit an_tInit : Option Addr} {sl_tInit : Array (Option Value)} {oc_tInit kV_tInit dc_tInit pm_tInit cd_tInit ct_tInit : Value}
    {od_tFull an_tFull : Option Addr} {sl_tFull : Array (Option Value)} {oc_tFull kV_tFull dc_tFull pm_tFull cd_tFull ct_tFull : Value}
    {od_tHas an_tHas : Option Addr} {sl_tHas : Array (Option Value)} {oc_tHas kV_tHas dc_tHas pm_tHas cd_tHas ct_tHas : Value}
    {od_tCourse an_tCourse : Option Addr} {sl_tCourse : Array (Option Value)} {oc_tCourse kV_tCourse dc_tCourse pm_tCourse cd_tCourse ct_tCourse : Value}
    {od_tOrder an_tOrder : Option Addr} {sl_tOrder : Array (Option Value)} {oc_tOrder kV_tOrder dc_tOrder pm_tOrder cd_tOrder ct_tOrder : Value}
    {od_tChOrd an_tChOrd : Option Addr} {sl_tChOrd : Array (Option Value)} {oc_tChOrd kV_tChOrd dc_tChOrd pm_tChOrd cd_tChOrd ct_tChOrd : Value}
    {od_tHasCh an_tHasCh : Option Addr} {sl_tHasCh : Array (Option Value)} {oc_tHasCh kV_tHasCh dc_tHasCh pm_tHasCh cd_tHasCh ct_tHasCh : Value}
    {od_tEnds an_tEnds : Option Addr} {sl_tEnds : Array (Option Value)} {oc_tEnds kV_tEnds dc_tEnds pm_tEnds cd_tEnds ct_tEnds : Value}
    {od_tRouteTo an_tRouteTo : Option Addr} {sl_tRouteTo : Array (Option Value)} {oc_tRouteTo kV_tRouteTo dc_tRouteTo pm_tRouteTo cd_tRouteTo ct_tRouteTo : Value}
    {od_tOwn an_tOwn : Option Addr} {sl_tOwn : Array (Option Value)} {oc_tOwn kV_tOwn dc_tOwn pm_tOwn cd_tOwn ct_tOwn : Value}
    {od_tLose an_tLose : Option Addr} {sl_tLose : Array (Option Value)} {oc_tLose kV_tLose dc_tLose pm_tLose cd_tLose ct_tLose : Value}
    {od_tForget an_tForget : Option Addr} {sl_tForget : Array (Option Value)} {oc_tForget kV_tForget dc_tForget pm_tForget cd_tForget ct_tForget : Value}
    {od_tOutd an_tOutd : Option Addr} {sl_tOutd : Array (Option Value)} {oc_tOutd kV_tOutd dc_tOutd pm_tOutd cd_tOutd ct_tOutd : Value}
    {od_tMark an_tMark : Option Addr} {sl_tMark : Array (Option Value)} {oc_tMark kV_tMark dc_tMark pm_tMark cd_tMark ct_tMark : Value}
    {od_tAgain an_tAgain : Option Addr} {sl_tAgain : Array (Option Value)} {oc_tAgain kV_tAgain dc_tAgain pm_tAgain cd_tAgain ct_tAgain : Value}
    {od_tOffer an_tOffer : Option Addr} {sl_tOffer : Array (Option Value)} {oc_tOffer kV_tOffer dc_tOffer pm_tOffer cd_tOffer ct_tOffer : Value}
    {od_pInit an_pInit : Option Addr} {sl_pInit : Array (Option Value)} {oc_pInit kV_pInit dc_pInit pm_pInit cd_pInit ct_pInit : Value}
    {od_sStart an_sStart : Option Addr} {sl_sStart : Array (Option Value)} {oc_sStart kV_sStart dc_sStart pm_sStart cd_sStart ct_sStart : Value}
    {od_sInit an_sInit : Option Addr} {sl_sInit : Array (Option Value)} {oc_sInit kV_sInit dc_sInit pm_sInit cd_sInit ct_sInit : Value}
    {od_sBegin an_sBegin : Option Addr} {sl_sBegin : Array (Option Value)} {oc_sBegin kV_sBegin dc_sBegin pm_sBegin cd_sBegin ct_sBegin : Value}
    {od_sHas an_sHas : Option Addr} {sl_sHas : Array (Option Value)} {oc_sHas kV_sHas dc_sHas pm_sHas cd_sHas ct_sHas : Value}
    {od_sUp an_sUp : Option Addr} {sl_sUp : Array (Option Value)} {oc_sUp kV_sUp dc_sUp pm_sUp cd_sUp ct_sUp : Value}
    {od_sDown an_sDown : Option Addr} {sl_sDown : Array (Option Value)} {oc_sDown kV_sDown dc_sDown pm_sDown cd_sDown ct_sDown : Value}
    {od_sTake an_sTake : Option Addr} {sl_sTake : Array (Option Value)} {oc_sTake kV_sTake dc_sTake pm_sTake cd_sTake ct_sTake : Value}
    {od_sHear an_sHear : Option Addr} {sl_sHear : Array (Option Value)} {oc_sHear kV_sHear dc_sHear pm_sHear cd_sHear ct_sHear : Value}
    {od_sTell an_sTell : Option Addr} {sl_sTell : Array (Option Value)} {oc_sTell kV_sTell dc_sTell pm_sTell cd_sTell ct_sTell : Value}
    {od_sTick an_sTick : Option Addr} {sl_sTick : Array (Option Value)} {oc_sTick kV_sTick dc_sTick pm_sTick cd_sTick ct_sTick : Value}
    {od_sWay an_sWay : Option Addr} {sl_sWay : Array (Option Value)} {oc_sWay kV_sWay dc_sWay pm_sWay cd_sWay ct_sWay : Value}
    {od_sRoutes an_sRoutes : Option Addr} {sl_sRoutes : Array (Option Value)} {oc_sRoutes kV_sRoutes dc_sRoutes pm_sRoutes cd_sRoutes ct_sRoutes : Value}
    {od_sDue an_sDue : Option Addr} {sl_sDue : Array (Option Value)} {oc_sDue kV_sDue dc_sDue pm_sDue cd_sDue ct_sDue : Value}
    {od_rdInit an_rdInit : Option Addr} {sl_rdInit : Array (Option Value)} {oc_rdInit kV_rdInit dc_rdInit pm_rdInit cd_rdInit ct_rdInit : Value}
    {od_rMore an_rMore : Option Addr} {sl_rMore : Array (Option Value)} {oc_rMore kV_rMore dc_rMore pm_rMore cd_rMore ct_rMore : Value}
    {od_rTake an_rTake : Option Addr} {sl_rTake : Array (Option Value)} {oc_rTake kV_rTake dc_rTake pm_rTake cd_rTake ct_rTake : Value}
    {od_rOne an_rOne : Option Addr} {sl_rOne : Array (Option Value)} {oc_rOne kV_rOne dc_rOne pm_rOne cd_rOne ct_rOne : Value}
    {od_rRow an_rRow : Option Addr} {sl_rRow : Array (Option Value)} {oc_rRow kV_rRow dc_rRow pm_rRow cd_rRow ct_rRow : Value}
    {od_next an_next : Option Addr} {sl_next : Array (Option Value)} {oc_next kV_next dc_next pm_next cd_next ct_next : Value}
    {od_ans an_ans : Option Addr} {sl_ans : Array (Option Value)} {oc_ans kV_ans dc_ans pm_ans cd_ans ct_ans : Value}
    (g_R : PySem.W.nsIn K mainGlobals "Route" = some (some (.ref AR)))
    (g_T : PySem.W.nsIn K mainGlobals "Table" = some (some (.ref AT)))
    (g_P : PySem.W.nsIn K mainGlobals "Port" = some (some (.ref AP)))
    (g_S : PySem.W.nsIn K mainGlobals "Session" = some (some (.ref AS)))
    (g_D : PySem.W.nsIn K mainGlobals "Reader" = some (some (.ref AD)))
    (a_netOf : PySem.W.nsIn K mainGlobals "network_of" = some (some (.ref f_netOf)))
    (l_netOf : K.lookup f_netOf = some ⟨oc_netOf, od_netOf, .func (PySem.W.fnOf "network_of" "network_of" (defArgs sNetOf) (defBody sNetOf) (defScope sNetOf) .none kV_netOf dc_netOf pm_netOf an_netOf cd_netOf ct_netOf), sl_netOf⟩)
    (c_netOf : PySem.W.codeIn K cd_netOf "network_of" = true)
    (k_netOf : PySem.W.keepIn K (.ref f_netOf) = true)
    (a_isHost : PySem.W.nsIn K mainGlobals "is_host" = some (some (.ref f_isHost)))
    (l_isHost : K.lookup f_isHost = some ⟨oc_isHost, od_isHost, .func (PySem.W.fnOf "is_host" "is_host" (defArgs sIsHost) (defBody sIsHost) (defScope sIsHost) .none kV_isHost dc_isHost pm_isHost an_isHost cd_isHost ct_isHost), sl_isHost⟩)
    (c_isHost : PySem.W.codeIn K cd_isHost "is_host" = true)
    (k_isHost : PySem.W.keepIn K (.ref f_isHost) = true)
    (a_isOf : PySem.W.nsIn K mainGlobals "is_of" = some (some (.ref f_isOf)))
    (l_isOf : K.lookup f_isOf = some ⟨oc_isOf, od_isOf, .func (PySem.W.fnOf "is_of" "is_of" (defArgs sIsOf) (defBody sIsOf) (defScope sIsOf) .none kV_isOf dc_isOf pm_isOf an_isOf cd_isOf ct_isOf), sl_isOf⟩)
    (c_isOf : PySem.W.codeIn K cd_isOf "is_of" = true)
    (k_isOf : PySem.W.keepIn K (.ref f_isOf) = true)
    (a_rInit : PySem.W.findIn K (.ref AR) "__init__" = some (some (.ref f_rInit)))
    (i_rInit : PySem.W.isFn K (.ref f_rInit) = true)
    (l_rInit : K.lookup f_rInit = some ⟨oc_rInit, od_rInit, .func (PySem.W.fnOf "__init__" "Route.__init__" (defArgs sRInit) (defBody sRInit) (defScope sRInit) .none kV_rInit dc_rInit pm_rInit an_rInit cd_rInit ct_rInit), sl_rInit⟩)
    (c_rInit : PySem.W.codeIn K cd_rInit "Route.__init__" = true)
    (k_rInit : PySem.W.keepIn K (.ref f_rInit) = true)
    (a_rReach : PySem.W.findIn K (.ref AR) "is_in_reach" = some (some (.ref f_rReach)))
    (i_rReach : PySem.W.isFn K (.ref f_rReach) = true)
    (l_rReach : K.lookup f_rReach = some ⟨oc_rReach, od_rReach, .func (PySem.W.fnOf "is_in_reach" "Route.is_in_reach" (defArgs sRReach) (defBody sRReach) (defScope sRReach) .none kV_rReach dc_rReach pm_rReach an_rReach cd_rReach ct_rReach), sl_rReach⟩)
    (c_rReach : PySem.W.codeIn K cd_rReach "Route.is_in_reach" = true)
    (k_rReach : PySem.W.keepIn K (.ref f_rReach) = true)
    (a_rOwn : PySem.W.findIn K (.ref AR) "is_own" = some (some (.ref f_rOwn)))
    (i_rOwn : PySem.W.isFn K (.ref f_rOwn) = true)
    (l_rOwn : K.lookup f_rOwn = some ⟨oc_rOwn, od_rOwn, .func (PySem.W.fnOf "is_own" "Route.is_own" (defArgs sROwn) (defBody sROwn) (defScope sROwn) .none kV_rOwn dc_rOwn pm_rOwn an_rOwn cd_rOwn ct_rOwn), sl_rOwn⟩)
    (c_rOwn : PySem.W.codeIn K cd_rOwn "Route.is_own" = true)
    (k_rOwn : PySem.W.keepIn K (.ref f_rOwn) = true)
    (a_rBy : PySem.W.findIn K (.ref AR) "is_by" = some (some (.ref f_rBy)))
    (i_rBy : PySem.W.isFn K (.ref f_rBy) = true)
    (l_rBy : K.lookup f_rBy = some ⟨oc_rBy, od_rBy, .func (PySem.W.fnOf "is_by" "Route.is_by" (defArgs sRBy) (defBody sRBy) (defScope sRBy) .none kV_rBy dc_rBy pm_rBy an_rBy cd_rBy ct_rBy), sl_rBy⟩)
    (c_rBy : PySem.W.codeIn K cd_rBy "Route.is_by" = true)
    (k_rBy : PySem.W.keepIn K (.ref f_rBy) = true)
    (a_rCourse : PySem.W.findIn K (.ref AR) "course" = some (some (.ref f_rCourse)))
    (i_rCourse : PySem.W.isFn K (.ref f_rCourse) = true)
    (l_rCourse : K.lookup f_rCourse = some ⟨oc_rCourse, od_rCourse, .func (PySem.W.fnOf "course" "Route.course" (defArgs sRCourse) (defBody sRCourse) (defScope sRCourse) .none kV_rCourse dc_rCourse pm_rCourse an_rCourse cd_rCourse ct_rCourse), sl_rCourse⟩)
    (c_rCourse : PySem.W.codeIn K cd_rCourse "Route.course" = true)
    (k_rCourse : PySem.W.keepIn K (.ref f_rCourse) = true)
    (a_rConfirm : PySem.W.findIn K (.ref AR) "confirm" = some (some (.ref f_rConfirm)))
    (i_rConfirm : PySem.W.isFn K (.ref f_rConfirm) = true)
    (l_rConfirm : K.lookup f_rConfirm = some ⟨oc_rConfirm, od_rConfirm, .func (PySem.W.fnOf "confirm" "Route.confirm" (defArgs sRConfirm) (defBody sRConfirm) (defScope sRConfirm) .none kV_rConfirm dc_rConfirm pm_rConfirm an_rConfirm cd_rConfirm ct_rConfirm), sl_rConfirm⟩)
    (c_rConfirm : PySem.W.codeIn K cd_rConfirm "Route.confirm" = true)
    (k_rConfirm : PySem.W.keepIn K (.ref f_rConfirm) = true)
    (a_rLose : PySem.W.findIn K (.ref AR) "lose" = some (some (.ref f_rLose)))
    (i_rLose : PySem.W.isFn K (.ref f_rLose) = true)
    (l_rLose : K.lookup f_rLose = some ⟨oc_rLose, od_rLose, .func (PySem.W.fnOf "lose" "Route.lose" (defArgs sRLose) (defBody sRLose) (defScope sRLose) .none kV_rLose dc_rLose pm_rLose an_rLose cd_rLose ct_rLose), sl_rLose⟩)
    (c_rLose : PySem.W.codeIn K cd_rLose "Route.lose" = true)
    (k_rLose : PySem.W.keepIn K (.ref f_rLose) = true)
    (a_rYields : PySem.W.findIn K (.ref AR) "yields_to" = some (some (.ref f_rYields)))
    (i_rYields : PySem.W.isFn K (.ref f_rYields) = true)
    (l_rYields : K.lookup f_rYields = some ⟨oc_rYields, od_rYields, .func (PySem.W.fnOf "yields_to" "Route.yields_to" (defArgs sRYields) (defBody sRYields) (defScope sRYields) .none kV_rYields dc_rYields pm_rYields an_rYields cd_rYields ct_rYields), sl_rYields⟩)
    (c_rYields : PySem.W.codeIn K cd_rYields "Route.yields_to" = true)
    (k_rYields : PySem.W.keepIn K (.ref f_rYields) = true)
    (a_rForg : PySem.W.findIn K (.ref AR) "is_forgotten" = some (some (.ref f_rForg)))
    (i_rForg : PySem.W.isFn K (.ref f_rForg) = true)
    (l_rForg : K.lookup f_rForg = some ⟨oc_rForg, od_rForg, .func (PySem.W.fnOf "is_forgotten" "Route.is_forgotten" (defArgs sRForg) (defBody sRForg) (defScope sRForg) .none kV_rForg dc_rForg pm_rForg an_rForg cd_rForg ct_rForg), sl_rForg⟩)
    (c_rForg : PySem.W.codeIn K cd_rForg "Route.is_forgotten" = true)
    (k_rForg : PySem.W.keepIn K (.ref f_rForg) = true)
    (a_rOutd : PySem.W.findIn K (.ref AR) "is_outdated" = some (some (.ref f_rOutd)))
    (i_rOutd : PySem.W.isFn K (.ref f_rOutd) = true)
    (l_rOutd : K.lookup f_rOutd = some ⟨oc_rOutd, od_rOutd, .func (PySem.W.fnOf "is_outdated" "Route.is_outdated" (defArgs sROutd) (defBody sROutd) (defScope sROutd) .none kV_rOutd dc_rOutd pm_rOutd an_rOutd cd_rOutd ct_rOutd), sl_rOutd⟩)
    (c_rOutd : PySem.W.codeIn K cd_rOutd "Route.is_outdated" = true)
    (k_rOutd : PySem.W.keepIn K (.ref f_rOutd) = true)
    (a_rEnds : PySem.W.findIn K (.ref AR) "ends_at" = some (some (.ref f_rEnds)))
    (i_rEnds : PySem.W.isFn K (.ref f_rEnds) = true)
    (l_rEnds : K.lookup f_rEnds = some ⟨oc_rEnds, od_rEnds, .func (PySem.W.fnOf "ends_at" "Route.ends_at" (defArgs sREnds) (defBody sREnds) (defScope sREnds) .none kV_rEnds dc_rEnds pm_rEnds an_rEnds cd_rEnds ct_rEnds), sl_rEnds⟩)
    (c_rEnds : PySem.W.codeIn K cd_rEnds "Route.ends_at" = true)
    (k_rEnds : PySem.W.keepIn K (.ref f_rEnds) = true)
    (a_rTold : PySem.W.findIn K (.ref AR) "far_told_on" = some (some (.ref f_rTold)))
    (i_rTold : PySem.W.isFn K (.ref f_rTold) = true)
    (l_rTold : K.lookup f_rTold = some ⟨oc_rTold, od_rTold, .func (PySem.W.fnOf "far_told_on" "Route.far_told_on" (defArgs sRTold) (defBody sRTold) (defScope sRTold) .none kV_rTold dc_rTold pm_rTold an_rTold cd_rTold ct_rTold), sl_rTold⟩)
    (c_rTold : PySem.W.codeIn K cd_rTold "Route.far_told_on" = true)
    (k_rTold : PySem.W.keepIn K (.ref f_rTold) = true)
    (a_num : PySem.W.nsIn K mainGlobals "number_from" = some (some (.ref f_num)))
    (l_num : K.lookup f_num = some ⟨oc_num, od_num, .func (PySem.W.fnOf "number_from" "number_from" (defArgs sNum) (defBody sNum) (defScope sNum) .none kV_num dc_num pm_num an_num cd_num ct_num), sl_num⟩)
    (c_num : PySem.W.codeIn K cd_num "number_from" = true)
    (k_num : PySem.W.keepIn K (.ref f_num) = true)
    (a_octs : PySem.W.nsIn K mainGlobals "octets_of" = some (some (.ref f_octs)))
    (l_octs : K.lookup f_octs = some ⟨oc_octs, od_octs, .func (PySem.W.fnOf "octets_of" "octets_of" (defArgs sOcts) (defBody sOcts) (defScope sOcts) .none kV_octs dc_octs pm_octs an_octs cd_octs ct_octs), sl_octs⟩)
    (c_octs : PySem.W.codeIn K cd_octs "octets_of" = true)
    (k_octs : PySem.W.keepIn K (.ref f_octs) = true)
    (a_offer : PySem.W.nsIn K mainGlobals "offer_from" = some (some (.ref f_offer)))
    (l_offer : K.lookup f_offer = some ⟨oc_offer, od_offer, .func (PySem.W.fnOf "offer_from" "offer_from" (defArgs sOffer) (defBody sOffer) (defScope sOffer) .none kV_offer dc_offer pm_offer an_offer cd_offer ct_offer), sl_offer⟩)
    (c_offer : PySem.W.codeIn K cd_offer "offer_from" = true)
    (k_offer : PySem.W.keepIn K (.ref f_offer) = true)
    (a_offers : PySem.W.nsIn K mainGlobals "offers_from" = some (some (.ref f_offers)))
    (l_offers : K.lookup f_offers = some ⟨oc_offers, od_offers, .func (PySem.W.fnOf "offers_from" "offers_from" (defArgs sOffers) (defBody sOffers) (defScope sOffers) .none kV_offers dc_offers pm_offers an_offers cd_offers ct_offers), sl_offers⟩)
    (c_offers : PySem.W.codeIn K cd_offers "offers_from" = true)
    (k_offers : PySem.W.keepIn K (.ref f_offers) = true)
    (a_msg : PySem.W.nsIn K mainGlobals "message_of" = some (some (.ref f_msg)))
    (l_msg : K.lookup f_msg = some ⟨oc_msg, od_msg, .func (PySem.W.fnOf "message_of" "message_of" (defArgs sMsg) (defBody sMsg) (defScope sMsg) .none kV_msg dc_msg pm_msg an_msg cd_msg ct_msg), sl_msg⟩)
    (c_msg : PySem.W.codeIn K cd_msg "message_of" = true)
    (k_msg : PySem.W.keepIn K (.ref f_msg) = true)
    (a_msgs : PySem.W.nsIn K mainGlobals "messages_of" = some (some (.ref f_msgs)))
    (l_msgs : K.lookup f_msgs = some ⟨oc_msgs, od_msgs, .func (PySem.W.fnOf "messages_of" "messages_of" (defArgs sMsgs) (defBody sMsgs) (defScope sMsgs) .none kV_msgs dc_msgs pm_msgs an_msgs cd_msgs ct_msgs), sl_msgs⟩)
    (c_msgs : PySem.W.codeIn K cd_msgs "messages_of" = true)
    (k_msgs : PySem.W.keepIn K (.ref f_msgs) = true)
    (a_tInit : PySem.W.findIn K (.ref AT) "__init__" = some (some (.ref f_tInit)))
    (i_tInit : PySem.W.isFn K (.ref f_tInit) = true)
    (l_tInit : K.lookup f_tInit = some ⟨oc_tInit, od_tInit, .func (PySem.W.fnOf "__init__" "Table.__init__" (defArgs sTInit) (defBody sTInit) (defScope sTInit) .none kV_tInit dc_tInit pm_tInit an_tInit cd_tInit ct_tInit), sl_tInit⟩)
    (c_tInit : PySem.W.codeIn K cd_tInit "Table.__init__" = true)
    (k_tInit : PySem.W.keepIn K (.ref f_tInit) = true)
    (a_tFull : PySem.W.findIn K (.ref AT) "is_full" = some (some (.ref f_tFull)))
    (i_tFull : PySem.W.isFn K (.ref f_tFull) = true)
    (l_tFull : K.lookup f_tFull = some ⟨oc_tFull, od_tFull, .func (PySem.W.fnOf "is_full" "Table.is_full" (defArgs sTFull) (defBody sTFull) (defScope sTFull) .none kV_tFull dc_tFull pm_tFull an_tFull cd_tFull ct_tFull), sl_tFull⟩)
    (c_tFull : PySem.W.codeIn K cd_tFull "Table.is_full" = true)
    (k_tFull : PySem.W.keepIn K (.ref f_tFull) = true)
    (a_tHas : PySem.W.findIn K (.ref AT) "has_place_for" = some (some (.ref f_tHas)))
    (i_tHas : PySem.W.isFn K (.ref f_tHas) = true)
    (l_tHas : K.lookup f_tHas = some ⟨oc_tHas, od_tHas, .func (PySem.W.fnOf "has_place_for" "Table.has_place_for" (defArgs sTHas) (defBody sTHas) (defScope sTHas) .none kV_tHas dc_tHas pm_tHas an_tHas cd_tHas ct_tHas), sl_tHas⟩)
    (c_tHas : PySem.W.codeIn K cd_tHas "Table.has_place_for" = true)
    (k_tHas : PySem.W.keepIn K (.ref f_tHas) = true)
    (a_tCourse : PySem.W.findIn K (.ref AT) "course_to" = some (some (.ref f_tCourse)))
    (i_tCourse : PySem.W.isFn K (.ref f_tCourse) = true)
    (l_tCourse : K.lookup f_tCourse = some ⟨oc_tCourse, od_tCourse, .func (PySem.W.fnOf "course_to" "Table.course_to" (defArgs sTCourse) (defBody sTCourse) (defScope sTCourse) .none kV_tCourse dc_tCourse pm_tCourse an_tCourse cd_tCourse ct_tCourse), sl_tCourse⟩)
    (c_tCourse : PySem.W.codeIn K cd_tCourse "Table.course_to" = true)
    (k_tCourse : PySem.W.keepIn K (.ref f_tCourse) = true)
    (a_tOrder : PySem.W.findIn K (.ref AT) "in_order" = some (some (.ref f_tOrder)))
    (i_tOrder : PySem.W.isFn K (.ref f_tOrder) = true)
    (l_tOrder : K.lookup f_tOrder = some ⟨oc_tOrder, od_tOrder, .func (PySem.W.fnOf "in_order" "Table.in_order" (defArgs sTOrder) (defBody sTOrder) (defScope sTOrder) .none kV_tOrder dc_tOrder pm_tOrder an_tOrder cd_tOrder ct_tOrder), sl_tOrder⟩)
    (c_tOrder : PySem.W.codeIn K cd_tOrder "Table.in_order" = true)
    (k_tOrder : PySem.W.keepIn K (.ref f_tOrder) = true)
    (a_tChOrd : PySem.W.findIn K (.ref AT) "changed_in_order" = some (some (.ref f_tChOrd)))
    (i_tChOrd : PySem.W.isFn K (.ref f_tChOrd) = true)
    (l_tChOrd : K.lookup f_tChOrd = some ⟨oc_tChOrd, od_tChOrd, .func (PySem.W.fnOf "changed_in_order" "Table.changed_in_order" (defArgs sTChOrd) (defBody sTChOrd) (defScope sTChOrd) .none kV_tChOrd dc_tChOrd pm_tChOrd an_tChOrd cd_tChOrd ct_tChOrd), sl_tChOrd⟩)
    (c_tChOrd : PySem.W.codeIn K cd_tChOrd "Table.changed_in_order" = true)
    (k_tChOrd : PySem.W.keepIn K (.ref f_tChOrd) = true)
    (a_tHasCh : PySem.W.findIn K (.ref AT) "has_changed" = some (some (.ref f_tHasCh)))
    (i_tHasCh : PySem.W.isFn K (.ref f_tHasCh) = true)
    (l_tHasCh : K.lookup f_tHasCh = some ⟨oc_tHasCh, od_tHasCh, .func (PySem.W.fnOf "has_changed" "Table.has_changed" (defArgs sTHasCh) (defBody sTHasCh) (defScope sTHasCh) .none kV_tHasCh dc_tHasCh pm_tHasCh an_tHasCh cd_tHasCh ct_tHasCh), sl_tHasCh⟩)
    (c_tHasCh : PySem.W.codeIn K cd_tHasCh "Table.has_changed" = true)
    (k_tHasCh : PySem.W.keepIn K (.ref f_tHasCh) = true)
    (a_tEnds : PySem.W.findIn K (.ref AT) "ends" = some (some (.ref f_tEnds)))
    (i_tEnds : PySem.W.isFn K (.ref f_tEnds) = true)
    (l_tEnds : K.lookup f_tEnds = some ⟨oc_tEnds, od_tEnds, .func (PySem.W.fnOf "ends" "Table.ends" (defArgs sTEnds) (defBody sTEnds) (defScope sTEnds) .none kV_tEnds dc_tEnds pm_tEnds an_tEnds cd_tEnds ct_tEnds), sl_tEnds⟩)
    (c_tEnds : PySem.W.codeIn K cd_tEnds "Table.ends" = true)
    (k_tEnds : PySem.W.keepIn K (.ref f_tEnds) = true)
    (a_tRouteTo : PySem.W.findIn K (.ref AT) "route_to" = some (some (.ref f_tRouteTo)))
    (i_tRouteTo : PySem.W.isFn K (.ref f_tRouteTo) = true)
    (l_tRouteTo : K.lookup f_tRouteTo = some ⟨oc_tRouteTo, od_tRouteTo, .func (PySem.W.fnOf "route_to" "Table.route_to" (defArgs sTRouteTo) (defBody sTRouteTo) (defScope sTRouteTo) .none kV_tRouteTo dc_tRouteTo pm_tRouteTo an_tRouteTo cd_tRouteTo ct_tRouteTo), sl_tRouteTo⟩)
    (c_tRouteTo : PySem.W.codeIn K cd_tRouteTo "Table.route_to" = true)
    (k_tRouteTo : PySem.W.keepIn K (.ref f_tRouteTo) = true)
    (a_tOwn : PySem.W.findIn K (.ref AT) "put_own" = some (some (.ref f_tOwn)))
    (i_tOwn : PySem.W.isFn K (.ref f_tOwn) = true)
    (l_tOwn : K.lookup f_tOwn = some ⟨oc_tOwn, od_tOwn, .func (PySem.W.fnOf "put_own" "Table.put_own" (defArgs sTOwn) (defBody sTOwn) (defScope sTOwn) .none kV_tOwn dc_tOwn pm_tOwn an_tOwn cd_tOwn ct_tOwn), sl_tOwn⟩)
    (c_tOwn : PySem.W.codeIn K cd_tOwn "Table.put_own" = true)
    (k_tOwn : PySem.W.keepIn K (.ref f_tOwn) = true)
    (a_tLose : PySem.W.findIn K (.ref AT) "lose_all_by" = some (some (.ref f_tLose)))
    (i_tLose : PySem.W.isFn K (.ref f_tLose) = true)
    (l_tLose : K.lookup f_tLose = some ⟨oc_tLose, od_tLose, .func (PySem.W.fnOf "lose_all_by" "Table.lose_all_by" (defArgs sTLose) (defBody sTLose) (defScope sTLose) .none kV_tLose dc_tLose pm_tLose an_tLose cd_tLose ct_tLose), sl_tLose⟩)
    (c_tLose : PySem.W.codeIn K cd_tLose "Table.lose_all_by" = true)
    (k_tLose : PySem.W.keepIn K (.ref f_tLose) = true)
    (a_tForget : PySem.W.findIn K (.ref AT) "forget_old" = some (some (.ref f_tForget)))
    (i_tForget : PySem.W.isFn K (.ref f_tForget) = true)
    (l_tForget : K.lookup f_tForget = some ⟨oc_tForget, od_tForget, .func (PySem.W.fnOf "forget_old" "Table.forget_old" (defArgs sTForget) (defBody sTForget) (defScope sTForget) .none kV_tForget dc_tForget pm_tForget an_tForget cd_tForget ct_tForget), sl_tForget⟩)
    (c_tForget : PySem.W.codeIn K cd_tForget "Table.forget_old" = true)
    (k_tForget : PySem.W.keepIn K (.ref f_tForget) = true)
    (a_tOutd : PySem.W.findIn K (.ref AT) "lose_outdated" = some (some (.ref f_tOutd)))
    (i_tOutd : PySem.W.isFn K (.ref f_tOutd) = true)
    (l_tOutd : K.lookup f_tOutd = some ⟨oc_tOutd, od_tOutd, .func (PySem.W.fnOf "lose_outdated" "Table.lose_outdated" (defArgs sTOutd) (defBody sTOutd) (defScope sTOutd) .none kV_tOutd dc_tOutd pm_tOutd an_tOutd cd_tOutd ct_tOutd), sl_tOutd⟩)
    (c_tOutd : PySem.W.codeIn K cd_tOutd "Table.lose_outdated" = true)
    (k_tOutd : PySem.W.keepIn K (.ref f_tOutd) = true)
    (a_tMark : PySem.W.findIn K (.ref AT) "mark_unchanged" = some (some (.ref f_tMark)))
    (i_tMark : PySem.W.isFn K (.ref f_tMark) = true)
    (l_tMark : K.lookup f_tMark = some ⟨oc_tMark, od_tMark, .func (PySem.W.fnOf "mark_unchanged" "Table.mark_unchanged" (defArgs sTMark) (defBody sTMark) (defScope sTMark) .none kV_tMark dc_tMark pm_tMark an_tMark cd_tMark ct_tMark), sl_tMark⟩)
    (c_tMark : PySem.W.codeIn K cd_tMark "Table.mark_unchanged" = true)
    (k_tMark : PySem.W.keepIn K (.ref f_tMark) = true)
    (a_tAgain : PySem.W.findIn K (.ref AT) "hear_again" = some (some (.ref f_tAgain)))
    (i_tAgain : PySem.W.isFn K (.ref f_tAgain) = true)
    (l_tAgain : K.lookup f_tAgain = some ⟨oc_tAgain, od_tAgain, .func (PySem.W.fnOf "hear_again" "Table.hear_again" (defArgs sTAgain) (defBody sTAgain) (defScope sTAgain) .none kV_tAgain dc_tAgain pm_tAgain an_tAgain cd_tAgain ct_tAgain), sl_tAgain⟩)
    (c_tAgain : PySem.W.codeIn K cd_tAgain "Table.hear_again" = true)
    (k_tAgain : PySem.W.keepIn K (.ref f_tAgain) = true)
    (a_tOffer : PySem.W.findIn K (.ref AT) "offer" = some (some (.ref f_tOffer)))
    (i_tOffer : PySem.W.isFn K (.ref f_tOffer) = true)
    (l_tOffer : K.lookup f_tOffer = some ⟨oc_tOffer, od_tOffer, .func (PySem.W.fnOf "offer" "Table.offer" (defArgs sTOffer) (defBody sTOffer) (defScope sTOffer) .none kV_tOffer dc_tOffer pm_tOffer an_tOffer cd_tOffer ct_tOffer), sl_tOffer⟩)
    (c_tOffer : PySem.W.codeIn K cd_tOffer "Table.offer" = true)
    (k_tOffer : PySem.W.keepIn K (.ref f_tOffer) = true)
    (a_pInit : PySem.W.findIn K (.ref AP) "__init__" = some (some (.ref f_pInit)))
    (i_pInit : PySem.W.isFn K (.ref f_pInit) = true)
    (l_pInit : K.lookup f_pInit = some ⟨oc_pInit, od_pInit, .func (PySem.W.fnOf "__init__" "Port.__init__" (defArgs sPInit) (defBody sPInit) (defScope sPInit) .none kV_pInit dc_pInit pm_pInit an_pInit cd_pInit ct_pInit), sl_pInit⟩)
    (c_pInit : PySem.W.codeIn K cd_pInit "Port.__init__" = true)
    (k_pInit : PySem.W.keepIn K (.ref f_pInit) = true)
    (a_sStart : PySem.W.findIn K (.ref AS) "start_at" = some (some (.ref f_sStart)))
    (i_sStart : PySem.W.isFn K (.ref f_sStart) = true)
    (l_sStart : K.lookup f_sStart = some ⟨oc_sStart, od_sStart, .func (PySem.W.fnOf "start_at" "Session.start_at" (defArgs sSStart) (defBody sSStart) (defScope sSStart) .none kV_sStart dc_sStart pm_sStart an_sStart cd_sStart ct_sStart), sl_sStart⟩)
    (c_sStart : PySem.W.codeIn K cd_sStart "Session.start_at" = true)
    (k_sStart : PySem.W.keepIn K (.ref f_sStart) = true)
    (a_sInit : PySem.W.findIn K (.ref AS) "__init__" = some (some (.ref f_sInit)))
    (i_sInit : PySem.W.isFn K (.ref f_sInit) = true)
    (l_sInit : K.lookup f_sInit = some ⟨oc_sInit, od_sInit, .func (PySem.W.fnOf "__init__" "Session.__init__" (defArgs sSInit) (defBody sSInit) (defScope sSInit) .none kV_sInit dc_sInit pm_sInit an_sInit cd_sInit ct_sInit), sl_sInit⟩)
    (c_sInit : PySem.W.codeIn K cd_sInit "Session.__init__" = true)
    (k_sInit : PySem.W.keepIn K (.ref f_sInit) = true)
    (a_sBegin : PySem.W.findIn K (.ref AS) "begin" = some (some (.ref f_sBegin)))
    (i_sBegin : PySem.W.isFn K (.ref f_sBegin) = true)
    (l_sBegin : K.lookup f_sBegin = some ⟨oc_sBegin, od_sBegin, .func (PySem.W.fnOf "begin" "Session.begin" (defArgs sSBegin) (defBody sSBegin) (defScope sSBegin) .none kV_sBegin dc_sBegin pm_sBegin an_sBegin cd_sBegin ct_sBegin), sl_sBegin⟩)
    (c_sBegin : PySem.W.codeIn K cd_sBegin "Session.begin" = true)
    (k_sBegin : PySem.W.keepIn K (.ref f_sBegin) = true)
    (a_sHas : PySem.W.findIn K (.ref AS) "has_port_on" = some (some (.ref f_sHas)))
    (i_sHas : PySem.W.isFn K (.ref f_sHas) = true)
    (l_sHas : K.lookup f_sHas = some ⟨oc_sHas, od_sHas, .func (PySem.W.fnOf "has_port_on" "Session.has_port_on" (defArgs sSHas) (defBody sSHas) (defScope sSHas) .none kV_sHas dc_sHas pm_sHas an_sHas cd_sHas ct_sHas), sl_sHas⟩)
    (c_sHas : PySem.W.codeIn K cd_sHas "Session.has_port_on" = true)
    (k_sHas : PySem.W.keepIn K (.ref f_sHas) = true)
    (a_sUp : PySem.W.findIn K (.ref AS) "bring_up" = some (some (.ref f_sUp)))
    (i_sUp : PySem.W.isFn K (.ref f_sUp) = true)
    (l_sUp : K.lookup f_sUp = some ⟨oc_sUp, od_sUp, .func (PySem.W.fnOf "bring_up" "Session.bring_up" (defArgs sSUp) (defBody sSUp) (defScope sSUp) .none kV_sUp dc_sUp pm_sUp an_sUp cd_sUp ct_sUp), sl_sUp⟩)
    (c_sUp : PySem.W.codeIn K cd_sUp "Session.bring_up" = true)
    (k_sUp : PySem.W.keepIn K (.ref f_sUp) = true)
    (a_sDown : PySem.W.findIn K (.ref AS) "take_down" = some (some (.ref f_sDown)))
    (i_sDown : PySem.W.isFn K (.ref f_sDown) = true)
    (l_sDown : K.lookup f_sDown = some ⟨oc_sDown, od_sDown, .func (PySem.W.fnOf "take_down" "Session.take_down" (defArgs sSDown) (defBody sSDown) (defScope sSDown) .none kV_sDown dc_sDown pm_sDown an_sDown cd_sDown ct_sDown), sl_sDown⟩)
    (c_sDown : PySem.W.codeIn K cd_sDown "Session.take_down" = true)
    (k_sDown : PySem.W.keepIn K (.ref f_sDown) = true)
    (a_sTake : PySem.W.findIn K (.ref AS) "take_in" = some (some (.ref f_sTake)))
    (i_sTake : PySem.W.isFn K (.ref f_sTake) = true)
    (l_sTake : K.lookup f_sTake = some ⟨oc_sTake, od_sTake, .func (PySem.W.fnOf "take_in" "Session.take_in" (defArgs sSTake) (defBody sSTake) (defScope sSTake) .none kV_sTake dc_sTake pm_sTake an_sTake cd_sTake ct_sTake), sl_sTake⟩)
    (c_sTake : PySem.W.codeIn K cd_sTake "Session.take_in" = true)
    (k_sTake : PySem.W.keepIn K (.ref f_sTake) = true)
    (a_sHear : PySem.W.findIn K (.ref AS) "hear" = some (some (.ref f_sHear)))
    (i_sHear : PySem.W.isFn K (.ref f_sHear) = true)
    (l_sHear : K.lookup f_sHear = some ⟨oc_sHear, od_sHear, .func (PySem.W.fnOf "hear" "Session.hear" (defArgs sSHear) (defBody sSHear) (defScope sSHear) .none kV_sHear dc_sHear pm_sHear an_sHear cd_sHear ct_sHear), sl_sHear⟩)
    (c_sHear : PySem.W.codeIn K cd_sHear "Session.hear" = true)
    (k_sHear : PySem.W.keepIn K (.ref f_sHear) = true)
    (a_sTell : PySem.W.findIn K (.ref AS) "tell" = some (some (.ref f_sTell)))
    (i_sTell : PySem.W.isFn K (.ref f_sTell) = true)
    (l_sTell : K.lookup f_sTell = some ⟨oc_sTell, od_sTell, .func (PySem.W.fnOf "tell" "Session.tell" (defArgs sSTell) (defBody sSTell) (defScope sSTell) .none kV_sTell dc_sTell pm_sTell an_sTell cd_sTell ct_sTell), sl_sTell⟩)
    (c_sTell : PySem.W.codeIn K cd_sTell "Session.tell" = true)
    (k_sTell : PySem.W.keepIn K (.ref f_sTell) = true)
    (a_sTick : PySem.W.findIn K (.ref AS) "tick" = some (some (.ref f_sTick)))
    (i_sTick : PySem.W.isFn K (.ref f_sTick) = true)
    (l_sTick : K.lookup f_sTick = some ⟨oc_sTick, od_sTick, .func (PySem.W.fnOf "tick" "Session.tick" (defArgs sSTick) (defBody sSTick) (defScope sSTick) .none kV_sTick dc_sTick pm_sTick an_sTick cd_sTick ct_sTick), sl_sTick⟩)
    (c_sTick : PySem.W.codeIn K cd_sTick "Session.tick" = true)
    (k_sTick : PySem.W.keepIn K (.ref f_sTick) = true)
    (a_sWay : PySem.W.findIn K (.ref AS) "way" = some (some (.ref f_sWay)))
    (i_sWay : PySem.W.isFn K (.ref f_sWay) = true)
    (l_sWay : K.lookup f_sWay = some ⟨oc_sWay, od_sWay, .func (PySem.W.fnOf "way" "Session.way" (defArgs sSWay) (defBody sSWay) (defScope sSWay) .none kV_sWay dc_sWay pm_sWay an_sWay cd_sWay ct_sWay), sl_sWay⟩)
    (c_sWay : PySem.W.codeIn K cd_sWay "Session.way" = true)
    (k_sWay : PySem.W.keepIn K (.ref f_sWay) = true)
    (a_sRoutes : PySem.W.findIn K (.ref AS) "routes" = some (some (.ref f_sRoutes)))
    (i_sRoutes : PySem.W.isFn K (.ref f_sRoutes) = true)
    (l_sRoutes : K.lookup f_sRoutes = some ⟨oc_sRoutes, od_sRoutes, .func (PySem.W.fnOf "routes" "Session.routes" (defArgs sSRoutes) (defBody sSRoutes) (defScope sSRoutes) .none kV_sRoutes dc_sRoutes pm_sRoutes an_sRoutes cd_sRoutes ct_sRoutes), sl_sRoutes⟩)
    (c_sRoutes : PySem.W.codeIn K cd_sRoutes "Session.routes" = true)
    (k_sRoutes : PySem.W.keepIn K (.ref f_sRoutes) = true)
    (a_sDue : PySem.W.findIn K (.ref AS) "due" = some (some (.ref f_sDue)))
    (i_sDue : PySem.W.isFn K (.ref f_sDue) = true)
    (l_sDue : K.lookup f_sDue = some ⟨oc_sDue, od_sDue, .func (PySem.W.fnOf "due" "Session.due" (defArgs sSDue) (defBody sSDue) (defScope sSDue) .none kV_sDue dc_sDue pm_sDue an_sDue cd_sDue ct_sDue), sl_sDue⟩)
    (c_sDue : PySem.W.codeIn K cd_sDue "Session.due" = true)
    (k_sDue : PySem.W.keepIn K (.ref f_sDue) = true)
    (a_rdInit : PySem.W.findIn K (.ref AD) "__init__" = some (some (.ref f_rdInit)))
    (i_rdInit : PySem.W.isFn K (.ref f_rdInit) = true)
    (l_rdInit : K.lookup f_rdInit = some ⟨oc_rdInit, od_rdInit, .func (PySem.W.fnOf "__init__" "Reader.__init__" (defArgs sRdInit) (defBody sRdInit) (defScope sRdInit) .none kV_rdInit dc_rdInit pm_rdInit an_rdInit cd_rdInit ct_rdInit), sl_rdInit⟩)
    (c_rdInit : PySem.W.codeIn K cd_rdInit "Reader.__init__" = true)
    (k_rdInit : PySem.W.keepIn K (.ref f_rdInit) = true)
    (a_rMore : PySem.W.findIn K (.ref AD) "has_more" = some (some (.ref f_rMore)))
    (i_rMore : PySem.W.isFn K (.ref f_rMore) = true)
    (l_rMore : K.lookup f_rMore = some ⟨oc_rMore, od_rMore, .func (PySem.W.fnOf "has_more" "Reader.has_more" (defArgs sRMore) (defBody sRMore) (defScope sRMore) .none kV_rMore dc_rMore pm_rMore an_rMore cd_rMore ct_rMore), sl_rMore⟩)
    (c_rMore : PySem.W.codeIn K cd_rMore "Reader.has_more" = true)
    (k_rMore : PySem.W.keepIn K (.ref f_rMore) = true)
    (a_rTake : PySem.W.findIn K (.ref AD) "take" = some (some (.ref f_rTake)))
    (i_rTake : PySem.W.isFn K (.ref f_rTake) = true)
    (l_rTake : K.lookup f_rTake = some ⟨oc_rTake, od_rTake, .func (PySem.W.fnOf "take" "Reader.take" (defArgs sRTake) (defBody sRTake) (defScope sRTake) .none kV_rTake dc_rTake pm_rTake an_rTake cd_rTake ct_rTake), sl_rTake⟩)
    (c_rTake : PySem.W.codeIn K cd_rTake "Reader.take" = true)
    (k_rTake : PySem.W.keepIn K (.ref f_rTake) = true)
    (a_rOne : PySem.W.findIn K (.ref AD) "take_one" = some (some (.ref f_rOne)))
    (i_rOne : PySem.W.isFn K (.ref f_rOne) = true)
    (l_rOne : K.lookup f_rOne = some ⟨oc_rOne, od_rOne, .func (PySem.W.fnOf "take_one" "Reader.take_one" (defArgs sROne) (defBody sROne) (defScope sROne) .none kV_rOne dc_rOne pm_rOne an_rOne cd_rOne ct_rOne), sl_rOne⟩)
    (c_rOne : PySem.W.codeIn K cd_rOne "Reader.take_one" = true)
    (k_rOne : PySem.W.keepIn K (.ref f_rOne) = true)
    (a_rRow : PySem.W.findIn K (.ref AD) "take_row" = some (some (.ref f_rRow)))
    (i_rRow : PySem.W.isFn K (.ref f_rRow) = true)
    (l_rRow : K.lookup f_rRow = some ⟨oc_rRow, od_rRow, .func (PySem.W.fnOf "take_row" "Reader.take_row" (defArgs sRRow) (defBody sRRow) (defScope sRRow) .none kV_rRow dc_rRow pm_rRow an_rRow cd_rRow ct_rRow), sl_rRow⟩)
    (c_rRow : PySem.W.codeIn K cd_rRow "Reader.take_row" = true)
    (k_rRow : PySem.W.keepIn K (.ref f_rRow) = true)
    (a_next : PySem.W.nsIn K mainGlobals "answer_next" = some (some (.ref f_next)))
    (l_next : K.lookup f_next = some ⟨oc_next, od_next, .func (PySem.W.fnOf "answer_next" "answer_next" (defArgs sNext) (defBody sNext) (defScope sNext) .none kV_next dc_next pm_next an_next cd_next ct_next), sl_next⟩)
    (c_next : PySem.W.codeIn K cd_next "answer_next" = true)
    (k_next : PySem.W.keepIn K (.ref f_next) = true)
    (a_ans : PySem.W.nsIn K mainGlobals "answers" = some (some (.ref f_ans)))
    (l_ans : K.lookup f_ans = some ⟨oc_ans, od_ans, .func (PySem.W.fnOf "answers" "answers" (defArgs sAns) (defBody sAns) (defScope sAns) .none kV_ans dc_ans pm_ans an_ans cd_ans ct_ans), sl_ans⟩)
    (c_ans : PySem.W.codeIn K cd_ans "answers" = true)
    (k_ans : PySem.W.keepIn K (.ref f_ans) = true)
    (pg_R : PySem.W.plainGet K AR Str.empty = true)
    (hd_R : PySem.W.hasDictIn K AR = true)
    (po_R : PySem.W.plainOver K AR = true)
    (sa_R : PySem.W.findIn K (.ref AR) "__setattr__" = some (some (.builtin "object.__setattr__")))
    (mk_R : PySem.W.makesIn K AR = true)
    (kc_R : PySem.W.keepIn K (.ref AR) = true)
    (no_R_far : PySem.W.findIn K (.ref AR) "far" = some none)
    (no_R_link : PySem.W.findIn K (.ref AR) "link" = some none)
    (no_R_neighbour : PySem.W.findIn K (.ref AR) "neighbour" = some none)
    (no_R_good_till : PySem.W.findIn K (.ref AR) "good_till" = some none)
    (no_R_free_from : PySem.W.findIn K (.ref AR) "free_from" = some none)
    (no_R_forgotten_at : PySem.W.findIn K (.ref AR) "forgotten_at" = some none)
    (no_R_changed : PySem.W.findIn K (.ref AR) "changed" = some none)
    (pg_T : PySem.W.plainGet K AT Str.empty = true)
    (hd_T : PySem.W.hasDictIn K AT = true)
    (po_T : PySem.W.plainOver K AT = true)
    (sa_T : PySem.W.findIn K (.ref AT) "__setattr__" = some (some (.builtin "object.__setattr__")))
    (mk_T : PySem.W.makesIn K AT = true)
    (kc_T : PySem.W.keepIn K (.ref AT) = true)
    (no_T_by_network : PySem.W.findIn K (.ref AT) "by_network" = some none)
    (pg_P : PySem.W.plainGet K AP Str.empty = true)
    (hd_P : PySem.W.hasDictIn K AP = true)
    (po_P : PySem.W.plainOver K AP = true)
    (sa_P : PySem.W.findIn K (.ref AP) "__setattr__" = some (some (.builtin "object.__setattr__")))
    (mk_P : PySem.W.makesIn K AP = true)
    (kc_P : PySem.W.keepIn K (.ref AP) = true)
    (no_P_address : PySem.W.findIn K (.ref AP) "address" = some none)
    (no_P_network : PySem.W.findIn K (.ref AP) "network" = some none)
    (pg_S : PySem.W.plainGet K AS Str.empty = true)
    (hd_S : PySem.W.hasDictIn K AS = true)
    (po_S : PySem.W.plainOver K AS = true)
    (sa_S : PySem.W.findIn K (.ref AS) "__setattr__" = some (some (.builtin "object.__setattr__")))
    (mk_S : PySem.W.makesIn K AS = true)
    (kc_S : PySem.W.keepIn K (.ref AS) = true)
    (no_S_begun : PySem.W.findIn K (.ref AS) "begun" = some none)
    (no_S_now : PySem.W.findIn K (.ref AS) "now" = some none)
    (no_S_ports : PySem.W.findIn K (.ref AS) "ports" = some none)
    (no_S_table : PySem.W.findIn K (.ref AS) "table" = some none)
    (no_S_all_told_at : PySem.W.findIn K (.ref AS) "all_told_at" = some none)
    (no_S_changes_told_from : PySem.W.findIn K (.ref AS) "changes_told_from" = some none)
    (pg_D : PySem.W.plainGet K AD Str.empty = true)
    (hd_D : PySem.W.hasDictIn K AD = true)
    (po_D : PySem.W.plainOver K AD = true)
    (sa_D : PySem.W.findIn K (.ref AD) "__setattr__" = some (some (.builtin "object.__setattr__")))
    (mk_D : PySem.W.makesIn K AD = true)
    (kc_D : PySem.W.keepIn K (.ref AD) = true)
    (no_D_calls : PySem.W.findIn K (.ref AD) "calls" = some none)
    (no_D_at : PySem.W.findIn K (.ref AD) "at" = some none)
    {t_ADDRESS_BITS t_LAST_ADDRESS t_LAST_HOST t_OUT_OF_REACH t_NO_NEIGHBOUR t_GOOD_FOR t_HELD_FOR t_KEPT_FOR t_HEAD_SIZE t_OFFER_SIZE t_MOST_OFFERS t_MOST_ROUTES t_LAST_LINK t_MOST_LINK_BITS t_TIME_END t_ALL_TOLD_EVERY t_CHANGES_TOLD_EVERY t_BEGIN t_LINK t_DOWN t_HEAR t_TICK t_WAY t_ROUTES : Tok}
    (v_ADDRESS_BITS : PySem.W.nsIn K mainGlobals "ADDRESS_BITS" = some (some (.int 32 t_ADDRESS_BITS)))
    (v_LAST_ADDRESS : PySem.W.nsIn K mainGlobals "LAST_ADDRESS" = some (some (.int 4294967295 t_LAST_ADDRESS)))
    (v_LAST_HOST : PySem.W.nsIn K mainGlobals "LAST_HOST" = some (some (.int 4294967294 t_LAST_HOST)))
    (v_OUT_OF_REACH : PySem.W.nsIn K mainGlobals "OUT_OF_REACH" = some (some (.int 16 t_OUT_OF_REACH)))
    (v_NO_NEIGHBOUR : PySem.W.nsIn K mainGlobals "NO_NEIGHBOUR" = some (some (.int 0 t_NO_NEIGHBOUR)))
    (v_GOOD_FOR : PySem.W.nsIn K mainGlobals "GOOD_FOR" = some (some (.int 180000 t_GOOD_FOR)))
    (v_HELD_FOR : PySem.W.nsIn K mainGlobals "HELD_FOR" = some (some (.int 60000 t_HELD_FOR)))
    (v_KEPT_FOR : PySem.W.nsIn K mainGlobals "KEPT_FOR" = some (some (.int 120000 t_KEPT_FOR)))
    (v_HEAD_SIZE : PySem.W.nsIn K mainGlobals "HEAD_SIZE" = some (some (.int 2 t_HEAD_SIZE)))
    (v_OFFER_SIZE : PySem.W.nsIn K mainGlobals "OFFER_SIZE" = some (some (.int 8 t_OFFER_SIZE)))
    (v_MOST_OFFERS : PySem.W.nsIn K mainGlobals "MOST_OFFERS" = some (some (.int 64 t_MOST_OFFERS)))
    (v_MOST_ROUTES : PySem.W.nsIn K mainGlobals "MOST_ROUTES" = some (some (.int 256 t_MOST_ROUTES)))
    (v_LAST_LINK : PySem.W.nsIn K mainGlobals "LAST_LINK" = some (some (.int 3 t_LAST_LINK)))
    (v_MOST_LINK_BITS : PySem.W.nsIn K mainGlobals "MOST_LINK_BITS" = some (some (.int 31 t_MOST_LINK_BITS)))
    (v_TIME_END : PySem.W.nsIn K mainGlobals "TIME_END" = some (some (.int 4611686018427387904 t_TIME_END)))
    (v_ALL_TOLD_EVERY : PySem.W.nsIn K mainGlobals "ALL_TOLD_EVERY" = some (some (.int 30000 t_ALL_TOLD_EVERY)))
    (v_CHANGES_TOLD_EVERY : PySem.W.nsIn K mainGlobals "CHANGES_TOLD_EVERY" = some (some (.int 1000 t_CHANGES_TOLD_EVERY)))
    (v_BEGIN : PySem.W.nsIn K mainGlobals "BEGIN" = some (some (.int 0 t_BEGIN)))
    (v_LINK : PySem.W.nsIn K mainGlobals "LINK" = some (some (.int 1 t_LINK)))
    (v_DOWN : PySem.W.nsIn K mainGlobals "DOWN" = some (some (.int 2 t_DOWN)))
    (v_HEAR : PySem.W.nsIn K mainGlobals "HEAR" = some (some (.int 3 t_HEAR)))
    (v_TICK : PySem.W.nsIn K mainGlobals "TICK" = some (some (.int 4 t_TICK)))
    (v_WAY : PySem.W.nsIn K mainGlobals "WAY" = some (some (.int 5 t_WAY)))
    (v_ROUTES : PySem.W.nsIn K mainGlobals "ROUTES" = some (some (.int 6 t_ROUTES)))
    (fr_len : PySem.W.nsIn K mainGlobals "len" = some none)
    (fr_range : PySem.W.nsIn K mainGlobals "range" = some none)
    (fr_any : PySem.W.nsIn K mainGlobals "any" = some none)
    (fr_min : PySem.W.nsIn K mainGlobals "min" = some none)
    (fr_max : PySem.W.nsIn K mainGlobals "max" = some none)
    (fr_enumerate : PySem.W.nsIn K mainGlobals "enumerate" = some none)
    (fr_sorted : PySem.W.nsIn K mainGlobals "sorted" = some none)
    {tN : Addr} {u0 u1 u2 u3 u4 u5 u6 u7 : Tok} {odN : Option Addr} {slN : Array (Option Value)} {nN : Nat}
    (v_NUMS : PySem.W.nsIn K mainGlobals "NUMBERS_OF_CALL" = some (some (.ref tN)))
    (l_NUMS : K.lookup tN = some ⟨.type "tuple", odN, .seq #[.int 1 u0, .int 3 u1, .int 1 u2, .int 2 u3, .int 1 u4, .int 1 u5, .int 0 u6, .int 0 u7] nN, slN⟩)
    : ∃ fd : FuncData, (∀ (s : Shared) (us : List Value), us.length = (["calls"] : List Str).length → BindsTo s fd ⟨us, []⟩ ((["calls"] : List Str).zip us)) ∧ ∀ base : Heap, K.In base → base.Ns mainGlobals mg → FnOk P w K mg base CX0 7 fa fd ["calls"] (spAns K) := by
  have e := hfa.symm.trans (PySem.W.mg_of X G a_ans)
  cases e
  have n_len := PySem.W.mg_none_of X G fr_len
  have n_range := PySem.W.mg_none_of X G fr_range
  have n_any := PySem.W.mg_none_of X G fr_any
  have n_min := PySem.W.mg_none_of X G fr_min
  have n_max := PySem.W.mg_none_of X G fr_max
  have n_enumerate := PySem.W.mg_none_of X G fr_enumerate
  have n_sorted := PySem.W.mg_none_of X G fr_sorted
  have cl_R : Cls K AR := ⟨pg_R, hd_R, po_R, sa_R⟩
  have cl_T : Cls K AT := ⟨pg_T, hd_T, po_T, sa_T⟩
  have cl_P : Cls K AP := ⟨pg_P, hd_P, po_P, sa_P⟩
  have cl_S : Cls K AS := ⟨pg_S, hd_S, po_S, sa_S⟩
  have cl_D : Cls K AD := ⟨pg_D, hd_D, po_D, sa_D⟩
  have TA : TxtA mg := ⟨bnd X G v_ADDRESS_BITS, bnd X G v_LAST_HOST⟩
  have TR : TxtR K mg AR := ⟨cl_R, no_R_far, no_R_link, no_R_neighbour, no_R_good_till, no_R_free_from, no_R_forgotten_at, no_R_changed, PySem.W.mg_of X G g_R, bnd X G v_OUT_OF_REACH, bnd X G v_NO_NEIGHBOUR, bnd X G v_GOOD_FOR, bnd X G v_HELD_FOR, bnd X G v_KEPT_FOR⟩
  have TM : TxtM mg := ⟨bnd X G v_ADDRESS_BITS, bnd X G v_OUT_OF_REACH, bnd X G v_HEAD_SIZE, bnd X G v_OFFER_SIZE, bnd X G v_MOST_OFFERS, n_len, n_range⟩
  have TT : TxtT K mg AT := ⟨cl_T, no_T_by_network, PySem.W.mg_of X G g_T, bnd X G v_MOST_ROUTES, bnd X G v_OUT_OF_REACH, bnd X G v_NO_NEIGHBOUR, n_len⟩
  have TS : TxtS K mg ⟨AR, AT, AP, AS⟩ := { cl := cl_S, n1 := no_S_begun, n2 := no_S_now, n3 := no_S_ports, n4 := no_S_table, n5 := no_S_all_told_at, n6 := no_S_changes_told_from, mgC := PySem.W.mg_of X G g_S, pcl := cl_P, p1 := no_P_address, p2 := no_P_network, mgP := PySem.W.mg_of X G g_P, last := bnd X G v_LAST_LINK, most := bnd X G v_MOST_LINK_BITS, tend := bnd X G v_TIME_END, every := bnd X G v_ALL_TOLD_EVERY, soon := bnd X G v_CHANGES_TOLD_EVERY, lastA := bnd X G v_LAST_ADDRESS, nonb := bnd X G v_NO_NEIGHBOUR, any := n_any, min := n_min, max := n_max, enum := n_enumerate, len := n_len }
  have TD : TxtRd K mg AD := ⟨cl_D, no_D_calls, no_D_at, PySem.W.mg_of X G g_D, n_len⟩
  have TL : TxtL K mg := { begin_ := bnd X G v_BEGIN, link := bnd X G v_LINK, down := bnd X G v_DOWN, hear := bnd X G v_HEAR, tick := bnd X G v_TICK, way := bnd X G v_WAY, routes := bnd X G v_ROUTES, nums := ⟨tN, PySem.W.mg_of X G v_NUMS, fun H => .inr ⟨_, _, _, l_NUMS, rfl, rfl, (by show 8 ≤ sizeLine; decide), .cons ⟨_, rfl⟩ (.cons ⟨_, rfl⟩ (.cons ⟨_, rfl⟩ (.cons ⟨_, rfl⟩ (.cons ⟨_, rfl⟩ (.cons ⟨_, rfl⟩ (.cons ⟨_, rfl⟩ (.cons ⟨_, rfl⟩ (.nil))))))))⟩⟩, len := n_len }
  have F_netOf := fun_mk (st := sNetOf) l_netOf c_netOf k_netOf
  have b_netOf := F_netOf.binds (ps := ["address", "bits"]) fun _ _ _ _ _ _ us hl => match us, hl with | [_, _], _ => rfl
  have F_isHost := fun_mk (st := sIsHost) l_isHost c_isHost k_isHost
  have b_isHost := F_isHost.binds (ps := ["address"]) fun _ _ _ _ _ _ us hl => match us, hl with | [_], _ => rfl
  have F_isOf := fun_mk (st := sIsOf) l_isOf c_isOf k_isOf
  have b_isOf := F_isOf.binds (ps := ["address", "network"]) fun _ _ _ _ _ _ us hl => match us, hl with | [_, _], _ => rfl
  have F_rInit := fun_mk (st := sRInit) l_rInit c_rInit k_rInit
  have b_rInit := F_rInit.binds (ps := ["self", "far", "link", "neighbour", "now"]) fun _ _ _ _ _ _ us hl => match us, hl with | [_, _, _, _, _], _ => rfl
  have F_rReach := fun_mk (st := sRReach) l_rReach c_rReach k_rReach
  have b_rReach := F_rReach.binds (ps := ["self"]) fun _ _ _ _ _ _ us hl => match us, hl with | [_], _ => rfl
  have F_rOwn := fun_mk (st := sROwn) l_rOwn c_rOwn k_rOwn
  have b_rOwn := F_rOwn.binds (ps := ["self"]) fun _ _ _ _ _ _ us hl => match us, hl with | [_], _ => rfl
  have F_rBy := fun_mk (st := sRBy) l_rBy c_rBy k_rBy
  have b_rBy := F_rBy.binds (ps := ["self", "link", "neighbour"]) fun _ _ _ _ _ _ us hl => match us, hl with | [_, _, _], _ => rfl
  have F_rCourse := fun_mk (st := sRCourse) l_rCourse c_rCourse k_rCourse
  have b_rCourse := F_rCourse.binds (ps := ["self"]) fun _ _ _ _ _ _ us hl => match us, hl with | [_], _ => rfl
  have F_rConfirm := fun_mk (st := sRConfirm) l_rConfirm c_rConfirm k_rConfirm
  have b_rConfirm := F_rConfirm.binds (ps := ["self", "now"]) fun _ _ _ _ _ _ us hl => match us, hl with | [_, _], _ => rfl
  have F_rLose := fun_mk (st := sRLose) l_rLose c_rLose k_rLose
  have b_rLose := F_rLose.binds (ps := ["self", "now"]) fun _ _ _ _ _ _ us hl => match us, hl with | [_, _], _ => rfl
  have F_rYields := fun_mk (st := sRYields) l_rYields c_rYields k_rYields
  have b_rYields := F_rYields.binds (ps := ["self", "far", "now"]) fun _ _ _ _ _ _ us hl => match us, hl with | [_, _, _], _ => rfl
  have F_rForg := fun_mk (st := sRForg) l_rForg c_rForg k_rForg
  have b_rForg := F_rForg.binds (ps := ["self", "now"]) fun _ _ _ _ _ _ us hl => match us, hl with | [_, _], _ => rfl
  have F_rOutd := fun_mk (st := sROutd) l_rOutd c_rOutd k_rOutd
  have b_rOutd := F_rOutd.binds (ps := ["self", "now"]) fun _ _ _ _ _ _ us hl => match us, hl with | [_, _], _ => rfl
  have F_rEnds := fun_mk (st := sREnds) l_rEnds c_rEnds k_rEnds
  have b_rEnds := F_rEnds.binds (ps := ["self"]) fun _ _ _ _ _ _ us hl => match us, hl with | [_], _ => rfl
  have F_rTold := fun_mk (st := sRTold) l_rTold c_rTold k_rTold
  have b_rTold := F_rTold.binds (ps := ["self", "link"]) fun _ _ _ _ _ _ us hl => match us, hl with | [_, _], _ => rfl
  have F_num := fun_mk (st := sNum) l_num c_num k_num
  have b_num := F_num.binds (ps := ["octets"]) fun _ _ _ _ _ _ us hl => match us, hl with | [_], _ => rfl
  have F_octs := fun_mk (st := sOcts) l_octs c_octs k_octs
  have b_octs := F_octs.binds (ps := ["number", "many"]) fun _ _ _ _ _ _ us hl => match us, hl with | [_, _], _ => rfl
  have F_offer := fun_mk (st := sOffer) l_offer c_offer k_offer
  have b_offer := F_offer.binds (ps := ["octets"]) fun _ _ _ _ _ _ us hl => match us, hl with | [_], _ => rfl
  have F_offers := fun_mk (st := sOffers) l_offers c_offers k_offers
  have b_offers := F_offers.binds (ps := ["octets"]) fun _ _ _ _ _ _ us hl => match us, hl with | [_], _ => rfl
  have F_msg := fun_mk (st := sMsg) l_msg c_msg k_msg
  have b_msg := F_msg.binds (ps := ["offers"]) fun _ _ _ _ _ _ us hl => match us, hl with | [_], _ => rfl
  have F_msgs := fun_mk (st := sMsgs) l_msgs c_msgs k_msgs
  have b_msgs := F_msgs.binds (ps := ["offers"]) fun _ _ _ _ _ _ us hl => match us, hl with | [_], _ => rfl
  have F_tInit := fun_mk (st := sTInit) l_tInit c_tInit k_tInit
  have b_tInit := F_tInit.binds (ps := ["self"]) fun _ _ _ _ _ _ us hl => match us, hl with | [_], _ => rfl
  have F_tFull := fun_mk (st := sTFull) l_tFull c_tFull k_tFull
  have b_tFull := F_tFull.binds (ps := ["self"]) fun _ _ _ _ _ _ us hl => match us, hl with | [_], _ => rfl
  have F_tHas := fun_mk (st := sTHas) l_tHas c_tHas k_tHas
  have b_tHas := F_tHas.binds (ps := ["self", "network"]) fun _ _ _ _ _ _ us hl => match us, hl with | [_, _], _ => rfl
  have F_tCourse := fun_mk (st := sTCourse) l_tCourse c_tCourse k_tCourse
  have b_tCourse := F_tCourse.binds (ps := ["self", "network"]) fun _ _ _ _ _ _ us hl => match us, hl with | [_, _], _ => rfl
  have F_tOrder := fun_mk (st := sTOrder) l_tOrder c_tOrder k_tOrder
  have b_tOrder := F_tOrder.binds (ps := ["self"]) fun _ _ _ _ _ _ us hl => match us, hl with | [_], _ => rfl
  have F_tChOrd := fun_mk (st := sTChOrd) l_tChOrd c_tChOrd k_tChOrd
  have b_tChOrd := F_tChOrd.binds (ps := ["self"]) fun _ _ _ _ _ _ us hl => match us, hl with | [_], _ => rfl
  have F_tHasCh := fun_mk (st := sTHasCh) l_tHasCh c_tHasCh k_tHasCh
  have b_tHasCh := F_tHasCh.binds (ps := ["self"]) fun _ _ _ _ _ _ us hl => match us, hl with | [_], _ => rfl
  have F_tEnds := fun_mk (st := sTEnds) l_tEnds c_tEnds k_tEnds
  have b_tEnds := F_tEnds.binds (ps := ["self"]) fun _ _ _ _ _ _ us hl => match us, hl with | [_], _ => rfl
  have F_tRouteTo := fun_mk (st := sTRouteTo) l_tRouteTo c_tRouteTo k_tRouteTo
  have b_tRouteTo := F_tRouteTo.binds (ps := ["self", "address"]) fun _ _ _ _ _ _ us hl => match us, hl with | [_, _], _ => rfl
  have F_tOwn := fun_mk (st := sTOwn) l_tOwn c_tOwn k_tOwn
  have b_tOwn := F_tOwn.binds (ps := ["self", "network", "link", "now"]) fun _ _ _ _ _ _ us hl => match us, hl with | [_, _, _, _], _ => rfl
  have F_tLose := fun_mk (st := sTLose) l_tLose c_tLose k_tLose
  have b_tLose := F_tLose.binds (ps := ["self", "link", "now"]) fun _ _ _ _ _ _ us hl => match us, hl with | [_, _, _], _ => rfl
  have F_tForget := fun_mk (st := sTForget) l_tForget c_tForget k_tForget
  have b_tForget := F_tForget.binds (ps := ["self", "now"]) fun _ _ _ _ _ _ us hl => match us, hl with | [_, _], _ => rfl
  have F_tOutd := fun_mk (st := sTOutd) l_tOutd c_tOutd k_tOutd
  have b_tOutd := F_tOutd.binds (ps := ["self", "now"]) fun _ _ _ _ _ _ us hl => match us, hl with | [_, _], _ => rfl
  have F_tMark := fun_mk (st := sTMark) l_tMark c_tMark k_tMark
  have b_tMark := F_tMark.binds (ps := ["self"]) fun _ _ _ _ _ _ us hl => match us, hl with | [_], _ => rfl
  have F_tAgain := fun_mk (st := sTAgain) l_tAgain c_tAgain k_tAgain
  have b_tAgain := F_tAgain.binds (ps := ["self", "route", "far", "now"]) fun _ _ _ _ _ _ us hl => match us, hl with | [_, _, _, _], _ => rfl
  have F_tOffer := fun_mk (st := sTOffer) l_tOffer c_tOffer k_tOffer
  have b_tOffer := F_tOffer.binds (ps := ["self", "network", "far", "link", "neighbour", "now"]) fun _ _ _ _ _ _ us hl => match us, hl with | [_, _, _, _, _, _], _ => rfl
  have F_pInit := fun_mk (st := sPInit) l_pInit c_pInit k_pInit
  have b_pInit := F_pInit.binds (ps := ["self", "address", "network"]) fun _ _ _ _ _ _ us hl => match us, hl with | [_, _, _], _ => rfl
  have F_sStart := fun_mk (st := sSStart) l_sStart c_sStart k_sStart
  have b_sStart := F_sStart.binds (ps := ["self", "now"]) fun _ _ _ _ _ _ us hl => match us, hl with | [_, _], _ => rfl
  have F_sInit := fun_mk (st := sSInit) l_sInit c_sInit k_sInit
  have b_sInit := F_sInit.binds (ps := ["self"]) fun _ _ _ _ _ _ us hl => match us, hl with | [_], _ => rfl
  have F_sBegin := fun_mk (st := sSBegin) l_sBegin c_sBegin k_sBegin
  have b_sBegin := F_sBegin.binds (ps := ["self", "now"]) fun _ _ _ _ _ _ us hl => match us, hl with | [_, _], _ => rfl
  have F_sHas := fun_mk (st := sSHas) l_sHas c_sHas k_sHas
  have b_sHas := F_sHas.binds (ps := ["self", "network"]) fun _ _ _ _ _ _ us hl => match us, hl with | [_, _], _ => rfl
  have F_sUp := fun_mk (st := sSUp) l_sUp c_sUp k_sUp
  have b_sUp := F_sUp.binds (ps := ["self", "i", "address", "bits"]) fun _ _ _ _ _ _ us hl => match us, hl with | [_, _, _, _], _ => rfl
  have F_sDown := fun_mk (st := sSDown) l_sDown c_sDown k_sDown
  have b_sDown := F_sDown.binds (ps := ["self", "i"]) fun _ _ _ _ _ _ us hl => match us, hl with | [_, _], _ => rfl
  have F_sTake := fun_mk (st := sSTake) l_sTake c_sTake k_sTake
  have b_sTake := F_sTake.binds (ps := ["self", "offers", "i", "neighbour"]) fun _ _ _ _ _ _ us hl => match us, hl with | [_, _, _, _], _ => rfl
  have F_sHear := fun_mk (st := sSHear) l_sHear c_sHear k_sHear
  have b_sHear := F_sHear.binds (ps := ["self", "i", "neighbour", "octets"]) fun _ _ _ _ _ _ us hl => match us, hl with | [_, _, _, _], _ => rfl
  have F_sTell := fun_mk (st := sSTell) l_sTell c_sTell k_sTell
  have b_sTell := F_sTell.binds (ps := ["self", "routes_told"]) fun _ _ _ _ _ _ us hl => match us, hl with | [_, _], _ => rfl
  have F_sTick := fun_mk (st := sSTick) l_sTick c_sTick k_sTick
  have b_sTick := F_sTick.binds (ps := ["self", "now"]) fun _ _ _ _ _ _ us hl => match us, hl with | [_, _], _ => rfl
  have F_sWay := fun_mk (st := sSWay) l_sWay c_sWay k_sWay
  have b_sWay := F_sWay.binds (ps := ["self", "address"]) fun _ _ _ _ _ _ us hl => match us, hl with | [_, _], _ => rfl
  have F_sRoutes := fun_mk (st := sSRoutes) l_sRoutes c_sRoutes k_sRoutes
  have b_sRoutes := F_sRoutes.binds (ps := ["self"]) fun _ _ _ _ _ _ us hl => match us, hl with | [_], _ => rfl
  have F_sDue := fun_mk (st := sSDue) l_sDue c_sDue k_sDue
  have b_sDue := F_sDue.binds (ps := ["self"]) fun _ _ _ _ _ _ us hl => match us, hl with | [_], _ => rfl
  have F_rdInit := fun_mk (st := sRdInit) l_rdInit c_rdInit k_rdInit
  have b_rdInit := F_rdInit.binds (ps := ["self", "calls"]) fun _ _ _ _ _ _ us hl => match us, hl with | [_, _], _ => rfl
  have F_rMore := fun_mk (st := sRMore) l_rMore c_rMore k_rMore
  have b_rMore := F_rMore.binds (ps := ["self"]) fun _ _ _ _ _ _ us hl => match us, hl with | [_], _ => rfl
  have F_rTake := fun_mk (st := sRTake) l_rTake c_rTake k_rTake
  have b_rTake := F_rTake.binds (ps := ["self", "many"]) fun _ _ _ _ _ _ us hl => match us, hl with | [_, _], _ => rfl
  have F_rOne := fun_mk (st := sROne) l_rOne c_rOne k_rOne
  have b_rOne := F_rOne.binds (ps := ["self"]) fun _ _ _ _ _ _ us hl => match us, hl with | [_], _ => rfl
  have F_rRow := fun_mk (st := sRRow) l_rRow c_rRow k_rRow
  have b_rRow := F_rRow.binds (ps := ["self"]) fun _ _ _ _ _ _ us hl => match us, hl with | [_], _ => rfl
  have F_next := fun_mk (st := sNext) l_next c_next k_next
  have b_next := F_next.binds (ps := ["session", "reader"]) fun _ _ _ _ _ _ us hl => match us, hl with | [_, _], _ => rfl
  have F_ans := fun_mk (st := sAns) l_ans c_ans k_ans
  have b_ans := F_ans.binds (ps := ["calls"]) fun _ _ _ _ _ _ us hl => match us, hl with | [_], _ => rfl
  refine ⟨PySem.W.fnOf "answers" "answers" (defArgs sAns) (defBody sAns) (defScope sAns) .none kV_ans dc_ans pm_ans an_ans cd_ans ct_ans, fun s us hu => match us, hu with | [_], _ => .of_eq rfl, fun base _ _ => ?_⟩
  have h_netOf := HasF.mk ⟨_, _, PySem.W.mg_of X G a_netOf, k_netOf, b_netOf, ok_netOf (P := P) (w := w) (base := base) F_netOf TA⟩
  have h_isHost := HasF.mk ⟨_, _, PySem.W.mg_of X G a_isHost, k_isHost, b_isHost, ok_isHost (P := P) (w := w) (base := base) F_isHost TA⟩
  have h_isOf := HasF.mk ⟨_, _, PySem.W.mg_of X G a_isOf, k_isOf, b_isOf, ok_isOf (P := P) (w := w) (base := base) F_isOf h_netOf⟩
  have h_rInit := mk_init ⟨mk_R, a_rInit, i_rInit, kc_R⟩ b_rInit (ok_rInit (P := P) (w := w) (base := base) F_rInit TR)
  have h_rReach := HasM.mk ⟨_, _, ⟨a_rReach, i_rReach, k_rReach⟩, b_rReach, ok_rReach (P := P) (w := w) (base := base) F_rReach TR⟩
  have h_rOwn := HasM.mk ⟨_, _, ⟨a_rOwn, i_rOwn, k_rOwn⟩, b_rOwn, ok_rOwn (P := P) (w := w) (base := base) F_rOwn TR⟩
  have h_rBy := HasM.mk ⟨_, _, ⟨a_rBy, i_rBy, k_rBy⟩, b_rBy, ok_rBy (P := P) (w := w) (base := base) F_rBy TR⟩
  have h_rCourse := HasM.mk ⟨_, _, ⟨a_rCourse, i_rCourse, k_rCourse⟩, b_rCourse, ok_rCourse (P := P) (w := w) (base := base) F_rCourse TR⟩
  have h_rConfirm := HasM.mk ⟨_, _, ⟨a_rConfirm, i_rConfirm, k_rConfirm⟩, b_rConfirm, ok_rConfirm (P := P) (w := w) (base := base) F_rConfirm TR⟩
  have h_rLose := HasM.mk ⟨_, _, ⟨a_rLose, i_rLose, k_rLose⟩, b_rLose, ok_rLose (P := P) (w := w) (base := base) F_rLose TR⟩
  have h_rYields := HasM.mk ⟨_, _, ⟨a_rYields, i_rYields, k_rYields⟩, b_rYields, ok_rYields (P := P) (w := w) (base := base) F_rYields TR h_rReach⟩
  have h_rForg := HasM.mk ⟨_, _, ⟨a_rForg, i_rForg, k_rForg⟩, b_rForg, ok_rForg (P := P) (w := w) (base := base) F_rForg TR h_rReach⟩
  have h_rOutd := HasM.mk ⟨_, _, ⟨a_rOutd, i_rOutd, k_rOutd⟩, b_rOutd, ok_rOutd (P := P) (w := w) (base := base) F_rOutd TR h_rReach h_rOwn⟩
  have h_rEnds := HasM.mk ⟨_, _, ⟨a_rEnds, i_rEnds, k_rEnds⟩, b_rEnds, ok_rEnds (P := P) (w := w) (base := base) F_rEnds TR h_rReach⟩
  have h_rTold := HasM.mk ⟨_, _, ⟨a_rTold, i_rTold, k_rTold⟩, b_rTold, ok_rTold (P := P) (w := w) (base := base) F_rTold TR n_min⟩
  have h_num := HasF.mk ⟨_, _, PySem.W.mg_of X G a_num, k_num, b_num, ok_num (P := P) (w := w) (base := base) F_num ⟩
  have h_octs := HasF.mk ⟨_, _, PySem.W.mg_of X G a_octs, k_octs, b_octs, ok_octs (P := P) (w := w) (base := base) F_octs TM⟩
  have h_offer := HasF.mk ⟨_, _, PySem.W.mg_of X G a_offer, k_offer, b_offer, ok_offer (P := P) (w := w) (base := base) F_offer TM h_num h_netOf⟩
  have h_offers := HasF.mk ⟨_, _, PySem.W.mg_of X G a_offers, k_offers, b_offers, ok_offers (P := P) (w := w) (base := base) F_offers TM h_num h_offer⟩
  have h_msg := HasF.mk ⟨_, _, PySem.W.mg_of X G a_msg, k_msg, b_msg, ok_msg (P := P) (w := w) (base := base) F_msg TM h_octs⟩
  have h_msgs := HasF.mk ⟨_, _, PySem.W.mg_of X G a_msgs, k_msgs, b_msgs, ok_msgs (P := P) (w := w) (base := base) F_msgs TM h_msg⟩
  have h_tInit := mk_init ⟨mk_T, a_tInit, i_tInit, kc_T⟩ b_tInit (ok_tInit (P := P) (w := w) (base := base) (CR := AR) F_tInit TT)
  have h_tFull := HasM.mk ⟨_, _, ⟨a_tFull, i_tFull, k_tFull⟩, b_tFull, ok_tFull (P := P) (w := w) (base := base) (CR := AR) F_tFull TT⟩
  have h_tHas := HasM.mk ⟨_, _, ⟨a_tHas, i_tHas, k_tHas⟩, b_tHas, ok_tHas (P := P) (w := w) (base := base) (CR := AR) F_tHas TT h_tFull⟩
  have h_tCourse := HasM.mk ⟨_, _, ⟨a_tCourse, i_tCourse, k_tCourse⟩, b_tCourse, ok_tCourse (P := P) (w := w) (base := base) (CR := AR) F_tCourse TT TR h_rCourse⟩
  have h_tOrder := HasM.mk ⟨_, _, ⟨a_tOrder, i_tOrder, k_tOrder⟩, b_tOrder, ok_tOrder (P := P) (w := w) (base := base) (CR := AR) F_tOrder TT n_sorted⟩
  have h_tChOrd := HasM.mk ⟨_, _, ⟨a_tChOrd, i_tChOrd, k_tChOrd⟩, b_tChOrd, ok_tChOrd (P := P) (w := w) (base := base) (CR := AR) F_tChOrd TT TR h_tOrder⟩
  have h_tHasCh := HasM.mk ⟨_, _, ⟨a_tHasCh, i_tHasCh, k_tHasCh⟩, b_tHasCh, ok_tHasCh (P := P) (w := w) (base := base) (CR := AR) F_tHasCh TT TR n_any⟩
  have h_tEnds := HasM.mk ⟨_, _, ⟨a_tEnds, i_tEnds, k_tEnds⟩, b_tEnds, ok_tEnds (P := P) (w := w) (base := base) (CR := AR) F_tEnds TT TR h_rOwn h_rEnds⟩
  have h_tRouteTo := HasM.mk ⟨_, _, ⟨a_tRouteTo, i_tRouteTo, k_tRouteTo⟩, b_tRouteTo, ok_tRouteTo (P := P) (w := w) (base := base) (CR := AR) F_tRouteTo TT TR h_rReach h_isOf⟩
  have h_tOwn := HasM.mk ⟨_, _, ⟨a_tOwn, i_tOwn, k_tOwn⟩, b_tOwn, ok_tOwn (P := P) (w := w) (base := base) (CR := AR) F_tOwn TT TR h_rInit⟩
  have h_tLose := HasM.mk ⟨_, _, ⟨a_tLose, i_tLose, k_tLose⟩, b_tLose, ok_tLose (P := P) (w := w) (base := base) (CR := AR) F_tLose TT TR h_rReach h_rLose⟩
  have h_tForget := HasM.mk ⟨_, _, ⟨a_tForget, i_tForget, k_tForget⟩, b_tForget, ok_tForget (P := P) (w := w) (base := base) (CR := AR) F_tForget TT TR h_rForg⟩
  have h_tOutd := HasM.mk ⟨_, _, ⟨a_tOutd, i_tOutd, k_tOutd⟩, b_tOutd, ok_tOutd (P := P) (w := w) (base := base) (CR := AR) F_tOutd TT TR h_rOutd h_rLose⟩
  have h_tMark := HasM.mk ⟨_, _, ⟨a_tMark, i_tMark, k_tMark⟩, b_tMark, ok_tMark (P := P) (w := w) (base := base) (CR := AR) F_tMark TT TR⟩
  have h_tAgain := HasM.mk ⟨_, _, ⟨a_tAgain, i_tAgain, k_tAgain⟩, b_tAgain, ok_tAgain (P := P) (w := w) (base := base) F_tAgain TT TR h_rReach h_rLose h_rConfirm⟩
  have h_tOffer := HasM.mk ⟨_, _, ⟨a_tOffer, i_tOffer, k_tOffer⟩, b_tOffer, ok_tOffer (P := P) (w := w) (base := base) (CR := AR) F_tOffer TT TR h_rInit h_tFull h_rOwn h_rBy h_tAgain h_rYields⟩
  have h_pInit := mk_init ⟨mk_P, a_pInit, i_pInit, kc_P⟩ b_pInit (ok_pInit (P := P) (w := w) (base := base) F_pInit TS)
  have h_sStart := HasM.mk ⟨_, _, ⟨a_sStart, i_sStart, k_sStart⟩, b_sStart, ok_sStart (P := P) (w := w) (base := base) F_sStart TS TT h_tInit⟩
  have h_sInit := mk_init ⟨mk_S, a_sInit, i_sInit, kc_S⟩ b_sInit (ok_sInit (P := P) (w := w) (base := base) F_sInit TS h_sStart)
  have h_sBegin := HasM.mk ⟨_, _, ⟨a_sBegin, i_sBegin, k_sBegin⟩, b_sBegin, ok_sBegin (P := P) (w := w) (base := base) F_sBegin TS h_sStart⟩
  have h_sHas := HasM.mk ⟨_, _, ⟨a_sHas, i_sHas, k_sHas⟩, b_sHas, ok_sHas (P := P) (w := w) (base := base) F_sHas TS⟩
  have h_sUp := HasM.mk ⟨_, _, ⟨a_sUp, i_sUp, k_sUp⟩, b_sUp, ok_sUp (P := P) (w := w) (base := base) F_sUp TS TT h_isHost h_netOf h_sHas h_tHas h_tOwn h_pInit⟩
  have h_sDown := HasM.mk ⟨_, _, ⟨a_sDown, i_sDown, k_sDown⟩, b_sDown, ok_sDown (P := P) (w := w) (base := base) F_sDown TS TT h_tLose⟩
  have h_sTake := HasM.mk ⟨_, _, ⟨a_sTake, i_sTake, k_sTake⟩, b_sTake, ok_sTake (P := P) (w := w) (base := base) F_sTake TS TT h_tCourse h_tOffer⟩
  have h_sHear := HasM.mk ⟨_, _, ⟨a_sHear, i_sHear, k_sHear⟩, b_sHear, ok_sHear (P := P) (w := w) (base := base) F_sHear TS h_isHost h_isOf h_offers h_sTake⟩
  have h_sTell := HasM.mk ⟨_, _, ⟨a_sTell, i_sTell, k_sTell⟩, b_sTell, ok_sTell (P := P) (w := w) (base := base) F_sTell TS TT TR h_msgs h_rTold h_tMark⟩
  have h_sTick := HasM.mk ⟨_, _, ⟨a_sTick, i_sTick, k_sTick⟩, b_sTick, ok_sTick (P := P) (w := w) (base := base) F_sTick TS TT h_tForget h_tOutd h_tOrder h_tHasCh h_tChOrd h_sTell⟩
  have h_sWay := HasM.mk ⟨_, _, ⟨a_sWay, i_sWay, k_sWay⟩, b_sWay, ok_sWay (P := P) (w := w) (base := base) F_sWay TS TT TR h_tRouteTo⟩
  have h_sRoutes := HasM.mk ⟨_, _, ⟨a_sRoutes, i_sRoutes, k_sRoutes⟩, b_sRoutes, ok_sRoutes (P := P) (w := w) (base := base) F_sRoutes TS TT TR h_tOrder⟩
  have h_sDue := HasM.mk ⟨_, _, ⟨a_sDue, i_sDue, k_sDue⟩, b_sDue, ok_sDue (P := P) (w := w) (base := base) F_sDue TS TT h_tEnds h_tHasCh⟩
  have h_rdInit := mk_init ⟨mk_D, a_rdInit, i_rdInit, kc_D⟩ b_rdInit (ok_rdInit (P := P) (w := w) (base := base) F_rdInit TD)
  have h_rMore := HasM.mk ⟨_, _, ⟨a_rMore, i_rMore, k_rMore⟩, b_rMore, ok_rMore (P := P) (w := w) (base := base) F_rMore TD⟩
  have h_rTake := HasM.mk ⟨_, _, ⟨a_rTake, i_rTake, k_rTake⟩, b_rTake, ok_rTake (P := P) (w := w) (base := base) F_rTake TD⟩
  have h_rOne := HasM.mk ⟨_, _, ⟨a_rOne, i_rOne, k_rOne⟩, b_rOne, ok_rOne (P := P) (w := w) (base := base) F_rOne TD h_rTake⟩
  have h_rRow := HasM.mk ⟨_, _, ⟨a_rRow, i_rRow, k_rRow⟩, b_rRow, ok_rRow (P := P) (w := w) (base := base) F_rRow TD h_rTake h_rOne⟩
  have h_next := HasF.mk ⟨_, _, PySem.W.mg_of X G a_next, k_next, b_next, ok_next (P := P) (w := w) (base := base) F_next TS TD TL h_sBegin h_sUp h_sDown h_sHear h_sTick h_sWay h_sRoutes h_sDue h_rTake h_rOne h_rRow⟩
  exact ok_ans (C := ⟨AR, AT, AP, AS⟩) F_ans TS TD TL h_sInit h_rdInit h_rMore h_next
end NR
end

section
set_option Elab.async false
open PySem PySem.W PyProof.Rows
set_option maxRecDepth 100000 in
set_option maxHeartbeats 16000000 in
theorem PySem.Challenge.cw_nearroutes_s01_answers_holds : PySem.Challenge.rw_nearroutes_s01_answers.Holds := by
  w_on; k_headS; (case hw => exact ⟨[.list [.int 0, .int 0]], by decide +kernel, by decide +kernel⟩)
  k_fillS
  refine L2.walk_specK (r := PySem.Challenge.rw_nearroutes_s01_answers) (k := 7) (CX := L2.CX0) (ps := ["calls"]) (sp := NR.spAns) (by decide +kernel) rfl rfl ⟨rfl, by decide, by decide⟩ (fun w h Y => PySem.W.kIn_of Y) ?F ?S (fun _ _ _ _ z => z)
  case F =>
    intro w mg fa h Y KX G hmg
    refine' NR.all_mk KX G hmg ?g_R ?g_T ?g_P ?g_S ?g_D ?a_netOf ?l_netOf ?c_netOf ?k_netOf ?a_isHost ?l_isHost ?c_isHost ?k_isHost ?a_isOf ?l_isOf ?c_isOf ?k_isOf ?a_rInit ?i_rInit ?l_rInit ?c_rInit ?k_rInit ?a_rReach ?i_rReach ?l_rReach ?c_rReach ?k_rReach ?a_rOwn ?i_rOwn ?l_rOwn ?c_rOwn ?k_rOwn ?a_rBy ?i_rBy ?l_rBy ?c_rBy ?k_rBy ?a_rCourse ?i_rCourse ?l_rCourse ?c_rCourse ?k_rCourse ?a_rConfirm ?i_rConfirm ?l_rConfirm ?c_rConfirm ?k_rConfirm ?a_rLose ?i_rLose ?l_rLose ?c_rLose ?k_rLose ?a_rYields ?i_rYields ?l_rYields ?c_rYields ?k_rYields ?a_rForg ?i_rForg ?l_rForg ?c_rForg ?k_rForg ?a_rOutd ?i_rOutd ?l_rOutd ?c_rOutd ?k_rOutd ?a_rEnds ?i_rEnds ?l_rEnds ?c_rEnds ?k_rEnds ?a_rTold ?i_rTold ?l_rTold ?c_rTold ?k_rTold ?a_num ?l_num ?c_num ?k_num ?a_octs ?l_octs ?c_octs ?k_octs ?a_offer ?l_offer ?c_offer ?k_offer ?a_offers ?l_offers ?c_offers ?k_offers ?a_msg ?l_msg ?c_msg ?k_msg ?a_msgs ?l_msgs ?c_msgs ?k_msgs ?a_tInit ?i_tInit ?l_tInit ?c_tInit ?k_tInit ?a_tFull ?i_tFull ?l_tFull ?c_tFull ?k_tFull ?a_tHas ?i_tHas ?l_tHas ?c_tHas ?k_tHas ?a_tCourse ?i_tCourse ?l_tCourse ?c_tCourse ?k_tCourse ?a_tOrder ?i_tOrder ?l_tOrder ?c_tOrder ?k_tOrder ?a_tChOrd ?i_tChOrd ?l_tChOrd ?c_tChOrd ?k_tChOrd ?a_tHasCh ?i_tHasCh ?l_tHasCh ?c_tHasCh ?k_tHasCh ?a_tEnds ?i_tEnds ?l_tEnds ?c_tEnds ?k_tEnds ?a_tRouteTo ?i_tRouteTo ?l_tRouteTo ?c_tRouteTo ?k_tRouteTo ?a_tOwn ?i_tOwn ?l_tOwn ?c_tOwn ?k_tOwn ?a_tLose ?i_tLose ?l_tLose ?c_tLose ?k_tLose ?a_tForget ?i_tForget ?l_tForget ?c_tForget ?k_tForget ?a_tOutd ?i_tOutd ?l_tOutd ?c_tOutd ?k_tOutd ?a_tMark ?i_tMark ?l_tMark ?c_tMark ?k_tMark ?a_tAgain ?i_tAgain ?l_tAgain ?c_tAgain ?k_tAgain ?a_tOffer ?i_tOffer ?l_tOffer ?c_tOffer ?k_tOffer ?a_pInit ?i_pInit ?l_pInit ?c_pInit ?k_pInit ?a_sStart ?i_sStart ?l_sStart ?c_sStart ?k_sStart ?a_sInit ?i_sInit ?l_sInit ?c_sInit ?k_sInit ?a_sBegin ?i_sBegin ?l_sBegin ?c_sBegin ?k_sBegin ?a_sHas ?i_sHas ?l_sHas ?c_sHas ?k_sHas ?a_sUp ?i_sUp ?l_sUp ?c_sUp ?k_sUp ?a_sDown ?i_sDown ?l_sDown ?c_sDown ?k_sDown ?a_sTake ?i_sTake ?l_sTake ?c_sTake ?k_sTake ?a_sHear ?i_sHear ?l_sHear ?c_sHear ?k_sHear ?a_sTell ?i_sTell ?l_sTell ?c_sTell ?k_sTell ?a_sTick ?i_sTick ?l_sTick ?c_sTick ?k_sTick ?a_sWay ?i_sWay ?l_sWay ?c_sWay ?k_sWay ?a_sRoutes ?i_sRoutes ?l_sRoutes ?c_sRoutes ?k_sRoutes ?a_sDue ?i_sDue ?l_sDue ?c_sDue ?k_sDue ?a_rdInit ?i_rdInit ?l_rdInit ?c_rdInit ?k_rdInit ?a_rMore ?i_rMore ?l_rMore ?c_rMore ?k_rMore ?a_rTake ?i_rTake ?l_rTake ?c_rTake ?k_rTake ?a_rOne ?i_rOne ?l_rOne ?c_rOne ?k_rOne ?a_rRow ?i_rRow ?l_rRow ?c_rRow ?k_rRow ?a_next ?l_next ?c_next ?k_next ?a_ans ?l_ans ?c_ans ?k_ans ?pg_R ?hd_R ?po_R ?sa_R ?mk_R ?kc_R ?no_R_far ?no_R_link ?no_R_neighbour ?no_R_good_till ?no_R_free_from ?no_R_forgotten_at ?no_R_changed ?pg_T ?hd_T ?po_T ?sa_T ?mk_T ?kc_T ?no_T_by_network ?pg_P ?hd_P ?po_P ?sa_P ?mk_P ?kc_P ?no_P_address ?no_P_network ?pg_S ?hd_S ?po_S ?sa_S ?mk_S ?kc_S ?no_S_begun ?no_S_now ?no_S_ports ?no_S_table ?no_S_all_told_at ?no_S_changes_told_from ?pg_D ?hd_D ?po_D ?sa_D ?mk_D ?kc_D ?no_D_calls ?no_D_at ?v_ADDRESS_BITS ?v_LAST_ADDRESS ?v_LAST_HOST ?v_OUT_OF_REACH ?v_NO_NEIGHBOUR ?v_GOOD_FOR ?v_HELD_FOR ?v_KEPT_FOR ?v_HEAD_SIZE ?v_OFFER_SIZE ?v_MOST_OFFERS ?v_MOST_ROUTES ?v_LAST_LINK ?v_MOST_LINK_BITS ?v_TIME_END ?v_ALL_TOLD_EVERY ?v_CHANGES_TOLD_EVERY ?v_BEGIN ?v_LINK ?v_DOWN ?v_HEAR ?v_TICK ?v_WAY ?v_ROUTES ?fr_len ?fr_range ?fr_any ?fr_min ?fr_max ?fr_enumerate ?fr_sorted ?v_NUMS ?l_NUMS
    (case g_R => k_is); (case g_T => k_is); (case g_P => k_is); (case g_S => k_is); (case g_D => k_is); (case a_netOf => k_is)
    (case l_netOf => k_is); (case c_netOf => k_is); (case k_netOf => k_is); (case a_isHost => k_is); (case l_isHost => k_is); (case c_isHost => k_is)
    (case k_isHost => k_is); (case a_isOf => k_is); (case l_isOf => k_is); (case c_isOf => k_is); (case k_isOf => k_is); (case a_rInit => k_is)
    (case i_rInit => k_is); (case l_rInit => k_is); (case c_rInit => k_is); (case k_rInit => k_is); (case a_rReach => k_is); (case i_rReach => k_is)
    (case l_rReach => k_is); (case c_rReach => k_is); (case k_rReach => k_is); (case a_rOwn => k_is); (case i_rOwn => k_is); (case l_rOwn => k_is)
    (case c_rOwn => k_is); (case k_rOwn => k_is); (case a_rBy => k_is); (case i_rBy => k_is); (case l_rBy => k_is); (case c_rBy => k_is)
    (case k_rBy => k_is); (case a_rCourse => k_is); (case i_rCourse => k_is); (case l_rCourse => k_is); (case c_rCourse => k_is); (case k_rCourse => k_is)
    (case a_rConfirm => k_is); (case i_rConfirm => k_is); (case l_rConfirm => k_is); (case c_rConfirm => k_is); (case k_rConfirm => k_is); (case a_rLose => k_is)
    (case i_rLose => k_is); (case l_rLose => k_is); (case c_rLose => k_is); (case k_rLose => k_is); (case a_rYields => k_is); (case i_rYields => k_is)
    (case l_rYields => k_is); (case c_rYields => k_is); (case k_rYields => k_is); (case a_rForg => k_is); (case i_rForg => k_is); (case l_rForg => k_is)
    (case c_rForg => k_is); (case k_rForg => k_is); (case a_rOutd => k_is); (case i_rOutd => k_is); (case l_rOutd => k_is); (case c_rOutd => k_is)
    (case k_rOutd => k_is); (case a_rEnds => k_is); (case i_rEnds => k_is); (case l_rEnds => k_is); (case c_rEnds => k_is); (case k_rEnds => k_is)
    (case a_rTold => k_is); (case i_rTold => k_is); (case l_rTold => k_is); (case c_rTold => k_is); (case k_rTold => k_is); (case a_num => k_is)
    (case l_num => k_is); (case c_num => k_is); (case k_num => k_is); (case a_octs => k_is); (case l_octs => k_is); (case c_octs => k_is)
    (case k_octs => k_is); (case a_offer => k_is); (case l_offer => k_is); (case c_offer => k_is); (case k_offer => k_is); (case a_offers => k_is)
    (case l_offers => k_is); (case c_offers => k_is); (case k_offers => k_is); (case a_msg => k_is); (case l_msg => k_is); (case c_msg => k_is)
    (case k_msg => k_is); (case a_msgs => k_is); (case l_msgs => k_is); (case c_msgs => k_is); (case k_msgs => k_is); (case a_tInit => k_is)
    (case i_tInit => k_is); (case l_tInit => k_is); (case c_tInit => k_is); (case k_tInit => k_is); (case a_tFull => k_is); (case i_tFull => k_is)
    (case l_tFull => k_is); (case c_tFull => k_is); (case k_tFull => k_is); (case a_tHas => k_is); (case i_tHas => k_is); (case l_tHas => k_is)
    (case c_tHas => k_is); (case k_tHas => k_is); (case a_tCourse => k_is); (case i_tCourse => k_is); (case l_tCourse => k_is); (case c_tCourse => k_is)
    (case k_tCourse => k_is); (case a_tOrder => k_is); (case i_tOrder => k_is); (case l_tOrder => k_is); (case c_tOrder => k_is); (case k_tOrder => k_is)
    (case a_tChOrd => k_is); (case i_tChOrd => k_is); (case l_tChOrd => k_is); (case c_tChOrd => k_is); (case k_tChOrd => k_is); (case a_tHasCh => k_is)
    (case i_tHasCh => k_is); (case l_tHasCh => k_is); (case c_tHasCh => k_is); (case k_tHasCh => k_is); (case a_tEnds => k_is); (case i_tEnds => k_is)
    (case l_tEnds => k_is); (case c_tEnds => k_is); (case k_tEnds => k_is); (case a_tRouteTo => k_is); (case i_tRouteTo => k_is); (case l_tRouteTo => k_is)
    (case c_tRouteTo => k_is); (case k_tRouteTo => k_is); (case a_tOwn => k_is); (case i_tOwn => k_is); (case l_tOwn => k_is); (case c_tOwn => k_is)
    (case k_tOwn => k_is); (case a_tLose => k_is); (case i_tLose => k_is); (case l_tLose => k_is); (case c_tLose => k_is); (case k_tLose => k_is)
    (case a_tForget => k_is); (case i_tForget => k_is); (case l_tForget => k_is); (case c_tForget => k_is); (case k_tForget => k_is); (case a_tOutd => k_is)
    (case i_tOutd => k_is); (case l_tOutd => k_is); (case c_tOutd => k_is); (case k_tOutd => k_is); (case a_tMark => k_is); (case i_tMark => k_is)
    (case l_tMark => k_is); (case c_tMark => k_is); (case k_tMark => k_is); (case a_tAgain => k_is); (case i_tAgain => k_is); (case l_tAgain => k_is)
    (case c_tAgain => k_is); (case k_tAgain => k_is); (case a_tOffer => k_is); (case i_tOffer => k_is); (case l_tOffer => k_is); (case c_tOffer => k_is)
    (case k_tOffer => k_is); (case a_pInit => k_is); (case i_pInit => k_is); (case l_pInit => k_is); (case c_pInit => k_is); (case k_pInit => k_is)
    (case a_sStart => k_is); (case i_sStart => k_is); (case l_sStart => k_is); (case c_sStart => k_is); (case k_sStart => k_is); (case a_sInit => k_is)
    (case i_sInit => k_is); (case l_sInit => k_is); (case c_sInit => k_is); (case k_sInit => k_is); (case a_sBegin => k_is); (case i_sBegin => k_is)
    (case l_sBegin => k_is); (case c_sBegin => k_is); (case k_sBegin => k_is); (case a_sHas => k_is); (case i_sHas => k_is); (case l_sHas => k_is)
    (case c_sHas => k_is); (case k_sHas => k_is); (case a_sUp => k_is); (case i_sUp => k_is); (case l_sUp => k_is); (case c_sUp => k_is)
    (case k_sUp => k_is); (case a_sDown => k_is); (case i_sDown => k_is); (case l_sDown => k_is); (case c_sDown => k_is); (case k_sDown => k_is)
    (case a_sTake => k_is); (case i_sTake => k_is); (case l_sTake => k_is); (case c_sTake => k_is); (case k_sTake => k_is); (case a_sHear => k_is)
    (case i_sHear => k_is); (case l_sHear => k_is); (case c_sHear => k_is); (case k_sHear => k_is); (case a_sTell => k_is); (case i_sTell => k_is)
    (case l_sTell => k_is); (case c_sTell => k_is); (case k_sTell => k_is); (case a_sTick => k_is); (case i_sTick => k_is); (case l_sTick => k_is)
    (case c_sTick => k_is); (case k_sTick => k_is); (case a_sWay => k_is); (case i_sWay => k_is); (case l_sWay => k_is); (case c_sWay => k_is)
    (case k_sWay => k_is); (case a_sRoutes => k_is); (case i_sRoutes => k_is); (case l_sRoutes => k_is); (case c_sRoutes => k_is); (case k_sRoutes => k_is)
    (case a_sDue => k_is); (case i_sDue => k_is); (case l_sDue => k_is); (case c_sDue => k_is); (case k_sDue => k_is); (case a_rdInit => k_is)
    (case i_rdInit => k_is); (case l_rdInit => k_is); (case c_rdInit => k_is); (case k_rdInit => k_is); (case a_rMore => k_is); (case i_rMore => k_is)
    (case l_rMore => k_is); (case c_rMore => k_is); (case k_rMore => k_is); (case a_rTake => k_is); (case i_rTake => k_is); (case l_rTake => k_is)
    (case c_rTake => k_is); (case k_rTake => k_is); (case a_rOne => k_is); (case i_rOne => k_is); (case l_rOne => k_is); (case c_rOne => k_is)
    (case k_rOne => k_is); (case a_rRow => k_is); (case i_rRow => k_is); (case l_rRow => k_is); (case c_rRow => k_is); (case k_rRow => k_is)
    (case a_next => k_is); (case l_next => k_is); (case c_next => k_is); (case k_next => k_is); (case a_ans => k_is); (case l_ans => k_is)
    (case c_ans => k_is); (case k_ans => k_is); (case pg_R => k_is); (case hd_R => k_is); (case po_R => k_is); (case sa_R => k_is)
    (case mk_R => k_is); (case kc_R => k_is); (case no_R_far => k_is); (case no_R_link => k_is); (case no_R_neighbour => k_is); (case no_R_good_till => k_is)
    (case no_R_free_from => k_is); (case no_R_forgotten_at => k_is); (case no_R_changed => k_is); (case pg_T => k_is); (case hd_T => k_is); (case po_T => k_is)
    (case sa_T => k_is); (case mk_T => k_is); (case kc_T => k_is); (case no_T_by_network => k_is); (case pg_P => k_is); (case hd_P => k_is)
    (case po_P => k_is); (case sa_P => k_is); (case mk_P => k_is); (case kc_P => k_is); (case no_P_address => k_is); (case no_P_network => k_is)
    (case pg_S => k_is); (case hd_S => k_is); (case po_S => k_is); (case sa_S => k_is); (case mk_S => k_is); (case kc_S => k_is)
    (case no_S_begun => k_is); (case no_S_now => k_is); (case no_S_ports => k_is); (case no_S_table => k_is); (case no_S_all_told_at => k_is); (case no_S_changes_told_from => k_is)
    (case pg_D => k_is); (case hd_D => k_is); (case po_D => k_is); (case sa_D => k_is); (case mk_D => k_is); (case kc_D => k_is)
    (case no_D_calls => k_is); (case no_D_at => k_is); (case v_ADDRESS_BITS => k_is); (case v_LAST_ADDRESS => k_is); (case v_LAST_HOST => k_is); (case v_OUT_OF_REACH => k_is)
    (case v_NO_NEIGHBOUR => k_is); (case v_GOOD_FOR => k_is); (case v_HELD_FOR => k_is); (case v_KEPT_FOR => k_is); (case v_HEAD_SIZE => k_is); (case v_OFFER_SIZE => k_is)
    (case v_MOST_OFFERS => k_is); (case v_MOST_ROUTES => k_is); (case v_LAST_LINK => k_is); (case v_MOST_LINK_BITS => k_is); (case v_TIME_END => k_is); (case v_ALL_TOLD_EVERY => k_is)
    (case v_CHANGES_TOLD_EVERY => k_is); (case v_BEGIN => k_is); (case v_LINK => k_is); (case v_DOWN => k_is); (case v_HEAR => k_is); (case v_TICK => k_is)
    (case v_WAY => k_is); (case v_ROUTES => k_is); (case fr_len => k_is); (case fr_range => k_is); (case fr_any => k_is); (case fr_min => k_is)
    (case fr_max => k_is); (case fr_enumerate => k_is); (case fr_sorted => k_is); (case v_NUMS => k_is); (case l_NUMS => k_is)
  case S =>
    intro K H xs a hO hwi hask hx
    cases hx with
    | cons h1 h2 =>
      cases h2
      cases h1 with
      | lst hs ha =>
        have e := L2.ints_dw a.1 _ ha
        subst e
        obtain ⟨cs, e1, e2, e3, e4⟩ := NR.request (l := a.1) hask
        have e5 : a.1.map L2.V.int = NR.vN (cs.flatMap NR.PC.flatN) := by
          rw [e1, NR.flat_nats]
          unfold NR.iN NR.vN
          rw [List.map_map]
          rfl
        rw [e5] at hs
        refine ⟨_, _, cs, rfl, hs, rfl, e2, e4, fun H' p _ _ hp => ?_⟩
        rw [← e3] at hp
        exact .lst (L2.SqL.of hp) (L2.dw_ints _)
end
