import PyProof.Rows.All
import Wide.All
import OpenK.AllK
import Wide.FinOn
import Open.SpecLaws
import KE.OsHead
import KE.OsGo
import HandS.ForMost
import HandS.ForSpec
import HandS.Walk
import PySem.Challenge.RW_copieskept_s01_answers
set_option Elab.async false
namespace CK
open Cl07
/-! ### The dates that come of changes -/
def Fresh (cs : List Change) : Prop := cs.Pairwise fun a b => a.kind = 2 → b.kind = 2 → a.date ≠ b.date
structure GoodC (c : Change) : Prop where
  kind : c.kind ≤ 2
  field : c.kind = 0 → c.field ≤ 2
  flen : c.kind = 2 → c.fields.length = 3
  nof : c.kind ≤ 1 → c.fields = []
structure DatesOk (ds : List Date) : Prop where
  nd : (ds.map (·.id)).Nodup
  len : ∀ x ∈ ds, x.fields.length = 3
theorem apply_set {ds : List Date} {c : Change} (h : c.kind = 0) : apply ds c = ds.map fun x => if x.id = c.date then { x with fields := x.fields.set c.field c.value } else x := by
  unfold apply; rw [h]; rfl
theorem apply_out {ds : List Date} {c : Change} (h : c.kind = 1) : apply ds c = ds.filter fun x => x.id != c.date := by
  unfold apply; rw [h]; rfl
theorem apply_make {ds : List Date} {c : Change} (h : c.kind = 2) : apply ds c = ds ++ [⟨c.date, c.fields⟩] := by
  unfold apply; rw [h]; rfl
theorem kinds {c : Change} (h : GoodC c) : c.kind = 0 ∨ c.kind = 1 ∨ c.kind = 2 := by
  have := h.kind; omega
theorem map_ids (ds : List Date) (i : Nat) (g : Date → List Nat) : (ds.map fun (x : Date) => if x.id = i then { x with fields := g x } else x).map (·.id) = ds.map (·.id) := by
  rw [List.map_map]
  apply List.map_congr_left
  intro x _
  simp only [Function.comp]
  split <;> rfl
theorem apply_mem {ds : List Date} {c : Change} {i : Nat} (g : GoodC c) (h : i ∈ (apply ds c).map (·.id)) : i ∈ ds.map (·.id) ∨ (c.kind = 2 ∧ i = c.date) := by
  rcases kinds g with k | k | k
  · rw [apply_set k, map_ids] at h
    exact .inl h
  · rw [apply_out k] at h
    obtain ⟨x, hx, rfl⟩ := List.mem_map.mp h
    exact .inl (List.mem_map.mpr ⟨x, (List.mem_filter.mp hx).1, rfl⟩)
  · rw [apply_make k, List.map_append, List.mem_append] at h
    rcases h with h | h
    · exact .inl h
    · simp at h
      exact .inr ⟨k, h⟩
theorem apply_ok {ds : List Date} {c : Change} (o : DatesOk ds) (g : GoodC c) (f : c.kind = 2 → c.date ∉ ds.map (·.id)) : DatesOk (apply ds c) := by
  rcases kinds g with k | k | k
  · rw [apply_set k]
    refine ⟨by rw [map_ids]; exact o.nd, ?_⟩
    intro x hx
    obtain ⟨y, hy, rfl⟩ := List.mem_map.mp hx
    split
    · show (y.fields.set _ _).length = 3
      rw [List.length_set]; exact o.len y hy
    · exact o.len y hy
  · rw [apply_out k]
    refine ⟨o.nd.sublist (List.filter_sublist.map _), ?_⟩
    intro x hx
    exact o.len x (List.mem_filter.mp hx).1
  · rw [apply_make k]
    refine ⟨?_, ?_⟩
    · rw [List.map_append, List.nodup_append]
      refine ⟨o.nd, by simp, ?_⟩
      intro a ha b hb e
      simp at hb
      subst e; subst hb
      exact f k ha
    · intro x hx
      rcases List.mem_append.mp hx with h | h
      · exact o.len x h
      · simp at h; subst h
        exact g.flen k
theorem fold_mem : ∀ (cs : List Change) (ds : List Date) {i : Nat}, (∀ c ∈ cs, GoodC c) → i ∈ (cs.foldl apply ds).map (·.id) → i ∈ ds.map (·.id) ∨ ∃ c ∈ cs, c.kind = 2 ∧ c.date = i
  | [], ds, i, _, h => .inl h
  | c :: cs, ds, i, g, h => by
    rcases fold_mem cs (apply ds c) (fun c' h' => g c' (List.mem_cons_of_mem _ h')) h with h | ⟨c', m, k, e⟩
    · rcases apply_mem (g c (List.mem_cons_self ..)) h with h | ⟨k, e⟩
      · exact .inl h
      · exact .inr ⟨c, List.mem_cons_self .., k, e.symm⟩
    · exact .inr ⟨c', List.mem_cons_of_mem _ m, k, e⟩
theorem fold_ok : ∀ (cs : List Change) (ds : List Date), DatesOk ds → (∀ c ∈ cs, GoodC c) → Fresh cs → (∀ c ∈ cs, c.kind = 2 → c.date ∉ ds.map (·.id)) → DatesOk (cs.foldl apply ds)
  | [], ds, o, _, _, _ => o
  | c :: cs, ds, o, g, f, n => by
    have f' := List.pairwise_cons.mp f
    refine fold_ok cs (apply ds c) (apply_ok o (g c (List.mem_cons_self ..)) (n c (List.mem_cons_self ..))) (fun c' h' => g c' (List.mem_cons_of_mem _ h')) f'.2 ?_
    intro c' m k hm
    rcases apply_mem (g c (List.mem_cons_self ..)) hm with h | ⟨k', e⟩
    · exact n c' (List.mem_cons_of_mem _ m) k h
    · exact f'.1 c' m k' k e.symm
theorem ok_nil : DatesOk [] := ⟨by simp, fun x h => by cases h⟩
theorem dates_ok {cs : List Change} (g : ∀ c ∈ cs, GoodC c) (f : Fresh cs) : DatesOk (cs.foldl apply []) := fold_ok cs [] ok_nil g f (by simp)
/-- the dates behind the first i, and that the next one, if it makes a date, makes a new one -/
theorem dates_at {cs : List Change} (g : ∀ c ∈ cs, GoodC c) (f : Fresh cs) {i : Nat} {c : Change} (h : cs[i]? = some c) :
    DatesOk ((cs.take i).foldl apply []) ∧ (c.kind = 2 → c.date ∉ ((cs.take i).foldl apply []).map (·.id)) := by
  have gt : ∀ c ∈ cs.take i, GoodC c := fun c m => g c (List.mem_of_mem_take m)
  refine ⟨dates_ok gt (List.Pairwise.sublist (List.take_sublist _ _) f), fun k m => ?_⟩
  rcases fold_mem _ _ gt m with m | ⟨c', m, k', e⟩
  · simp at m
  · obtain ⟨j, hj⟩ := List.mem_iff_getElem?.mp m
    rw [List.getElem?_take] at hj
    split at hj
    · rename_i lt
      have il := (List.getElem?_eq_some_iff.mp h)
      have jl := (List.getElem?_eq_some_iff.mp hj)
      obtain ⟨hi, ei⟩ := il
      obtain ⟨hj', ej⟩ := jl
      have := List.pairwise_iff_getElem.mp f j i hj' hi lt
      rw [ei, ej] at this
      exact this k' k e
    · cases hj
theorem fold_length : ∀ (cs : List Change) (ds : List Date), (cs.foldl apply ds).length ≤ ds.length + cs.length
  | [], ds => by simp
  | c :: cs, ds => by
    have h := fold_length cs (apply ds c)
    have : (apply ds c).length ≤ ds.length + 1 := by
      unfold apply
      split
      · rw [List.length_map]; omega
      · exact Nat.le_trans (List.length_filter_le ..) (by omega)
      · rw [List.length_append]; simp
    show (cs.foldl apply (apply ds c)).length ≤ _
    rw [List.length_cons]
    omega
end CK
set_option Elab.async false
namespace CK
open Cl07
/-! ### What stands between calls -/
structure HeardOk (log : List Change) (h : Heard) : Prop where
  zero : h.count = 0 → h = ⟨0, 0, 0⟩
  what : h.count ≠ 0 → h.what = 1 ∨ h.what = 2
  num : h.what = 1 → h.num < log.length
structure EditOk (d : Nat) (e : Edit) : Prop where
  by_ : e.change.by_ = d
  good : GoodC e.change
structure DevOk (n : Nat) (log : List Change) (d : Nat) (x : Device) (h : Heard) : Prop where
  known : x.known ≤ log.length
  cnt : x.count ≤ n
  wok : ∀ e ∈ x.waiting, EditOk d e
  wown : ∀ e ∈ x.waiting, e.change.kind = 2 → e.change.date = ownId d e.change.count
  wpos : ∀ e ∈ x.waiting, 1 ≤ e.change.count
  wle : ∀ e ∈ x.waiting, e.change.count ≤ x.count
  sle : ∀ p ∈ x.sent, p.1.change.count ≤ x.count
  inc : ((x.sent.map fun (p : Edit × Nat) => p.1.change.count) ++ (x.waiting.map fun (e : Edit) => e.change.count)).Pairwise (· < ·)
  hle : h.count ≤ x.count
  wge : ∀ e ∈ x.waiting, h.count ≤ e.change.count
  head : ∀ e ∈ x.waiting, e.change.count = h.count → h.what = 1 → ∃ c, log[h.num]? = some c ∧ c = if e.change.kind = 2 then { e.change with date := c.date } else e.change
  head2 : ∀ e ∈ x.waiting, e.change.count = h.count → h.what = 2 → e.change.kind ≤ 1
  snt : ∀ p ∈ x.sent, x.known ≤ p.2 ∧ log[p.2]? = some p.1.change
  cok : ∀ e ∈ x.clashes, EditOk d e ∧ e.change.kind ≤ 1
  size : x.waiting.length + x.sent.length + x.clashes.length ≤ n
  hok : HeardOk log h
structure LogOk (n made : Nat) (log : List Change) : Prop where
  good : ∀ c ∈ log, GoodC c
  fresh : Fresh log
  lt : ∀ c ∈ log, c.kind = 2 → c.date < made
  made : made ≤ n
  len : log.length ≤ n
def hd (s : State) (d : Nat) : Heard := s.heard.getD d ⟨0, 0, 0⟩
structure Inv (n : Nat) (s : State) : Prop where
  log : LogOk n s.made s.log
  hl : s.heard.length = 3
  dl : s.devices.length = 3
  dev : ∀ d, d < 3 → DevOk n s.log d (device s d) (hd s d)
  floor : s.floor ≤ s.log.length
theorem get_append {α : Type} {l m : List α} {i : Nat} {x : α} (h : l[i]? = some x) : (l ++ m)[i]? = some x := by
  have q := (List.getElem?_eq_some_iff.mp h).1
  rw [List.getElem?_append_left q]; exact h
theorem HeardOk.more {log m : List Change} {h : Heard} (o : HeardOk log h) : HeardOk (log ++ m) h :=
  ⟨o.zero, o.what, fun w => by have := o.num w; rw [List.length_append]; omega⟩
/-- time goes on, the log grows -/
theorem DevOk.more {n k d : Nat} {log m : List Change} {x : Device} {h : Heard} (o : DevOk n log d x h) (hk : n ≤ k) : DevOk k (log ++ m) d x h :=
  { o with
    known := by have := o.known; rw [List.length_append]; omega
    cnt := Nat.le_trans o.cnt hk
    head := fun e m' c w => by
      obtain ⟨c', g, q⟩ := o.head e m' c w
      exact ⟨c', get_append g, q⟩
    snt := fun p m' => ⟨(o.snt p m').1, get_append (o.snt p m').2⟩
    size := Nat.le_trans o.size hk
    hok := o.hok.more }
theorem DevOk.later {n k d : Nat} {log : List Change} {x : Device} {h : Heard} (o : DevOk n log d x h) (hk : n ≤ k) : DevOk k log d x h := by
  have := o.more (m := []) hk
  rwa [List.append_nil] at this
theorem LogOk.later {n k made : Nat} {log : List Change} (o : LogOk n made log) (hk : n ≤ k) : LogOk k made log :=
  { o with made := Nat.le_trans o.made hk, len := Nat.le_trans o.len hk }
theorem Inv.later {n k : Nat} {s : State} (o : Inv n s) (hk : n ≤ k) : Inv k s :=
  { o with log := o.log.later hk, dev := fun d h => (o.dev d h).later hk }
theorem device_set {s : State} {d d' : Nat} {x : Device} (hl : s.devices.length = 3) (h : d < 3) : device (setDevice s d x) d' = if d' = d then x else device s d' := by
  unfold device setDevice
  rw [List.getD_eq_getElem?_getD, List.getElem?_set]
  by_cases e : d' = d
  · subst e
    rw [if_pos rfl, if_pos rfl, if_pos (by omega)]; rfl
  · rw [if_neg (fun q => e q.symm), if_neg e, List.getD_eq_getElem?_getD]
theorem hd_set {l : List Heard} {d d' : Nat} {x : Heard} (hl : l.length = 3) (h : d < 3) : (l.set d x).getD d' ⟨0, 0, 0⟩ = if d' = d then x else l.getD d' ⟨0, 0, 0⟩ := by
  rw [List.getD_eq_getElem?_getD, List.getElem?_set]
  by_cases e : d' = d
  · subst e
    rw [if_pos rfl, if_pos rfl, if_pos (by omega)]; rfl
  · rw [if_neg (fun q => e q.symm), if_neg e, List.getD_eq_getElem?_getD]
theorem Inv.set {n : Nat} {s : State} {d : Nat} {x : Device} (o : Inv n s) (h : d < 3) (q : DevOk n s.log d x (hd s d)) : Inv n (setDevice s d x) :=
  { log := o.log
    hl := o.hl
    dl := by show (s.devices.set d x).length = 3; rw [List.length_set]; exact o.dl
    dev := fun d' h' => by
      rw [device_set o.dl h]
      by_cases e : d' = d
      · subst e; rw [if_pos rfl]; exact q
      · rw [if_neg e]; exact o.dev d' h'
    floor := o.floor }
theorem inv_init : Inv 0 init := by
  refine ⟨⟨by simp [init], List.Pairwise.nil, by simp [init], Nat.le_refl _, Nat.le_refl _⟩, rfl, rfl, fun d h => ?_, Nat.le_refl _⟩
  have e : device init d = ⟨0, 0, [], [], [], []⟩ := by
    match d, h with
    | 0, _ => rfl
    | 1, _ => rfl
    | 2, _ => rfl
  have e2 : hd init d = ⟨0, 0, 0⟩ := by
    match d, h with
    | 0, _ => rfl
    | 1, _ => rfl
    | 2, _ => rfl
  rw [e, e2]
  exact ⟨Nat.zero_le _, Nat.le_refl _, by simp, by simp, by simp, by simp, by simp, by simp, Nat.le_refl _, by simp, by simp, by simp, by simp, by simp, by simp, ⟨fun _ => rfl, fun q => absurd rfl q, fun q => by cases q⟩⟩
/-- a change made on a device -/
def newEdit (d : Nat) (x : Device) (c : Change) : Edit := ⟨{ c with by_ := d, count := x.count + 1 }, x.known⟩
theorem DevOk.edit {n d : Nat} {log : List Change} {x : Device} {h : Heard} {c : Change} (o : DevOk n log d x h) (g : GoodC c) (own : c.kind = 2 → c.date = ownId d (x.count + 1))
    (room : x.waiting.length + x.sent.length + x.clashes.length + 1 ≤ n + 1) :
    DevOk (n + 1) log d { x with count := x.count + 1, waiting := x.waiting ++ [newEdit d x c] } h := by
  have mem : ∀ {p : Edit → Prop}, (∀ e ∈ x.waiting, p e) → p (newEdit d x c) → ∀ e ∈ x.waiting ++ [newEdit d x c], p e := by
    intro p a b e m
    rcases List.mem_append.mp m with m | m
    · exact a e m
    · simp at m; subst m; exact b
  refine ⟨o.known, Nat.succ_le_succ o.cnt, mem o.wok ⟨rfl, ⟨g.kind, g.field, g.flen, g.nof⟩⟩, mem o.wown own, mem o.wpos (Nat.succ_pos _), mem (fun e m => Nat.le_succ_of_le (o.wle e m)) (Nat.le_refl _), fun p m => Nat.le_succ_of_le (o.sle p m), ?_, Nat.le_succ_of_le o.hle, mem o.wge (Nat.le_succ_of_le o.hle), ?_, ?_, o.snt, o.cok, ?_, o.hok⟩
  · show ((x.sent.map _) ++ ((x.waiting ++ [newEdit d x c]).map _)).Pairwise (· < ·)
    rw [List.map_append, ← List.append_assoc]
    refine List.pairwise_append.mpr ⟨o.inc, by simp, ?_⟩
    intro a ma b mb
    simp only [List.map_cons, List.map_nil, List.mem_singleton] at mb
    subst mb
    rcases List.mem_append.mp ma with m | m
    · obtain ⟨p, hp, rfl⟩ := List.mem_map.mp m
      exact Nat.lt_succ_of_le (o.sle p hp)
    · obtain ⟨p, hp, rfl⟩ := List.mem_map.mp m
      exact Nat.lt_succ_of_le (o.wle p hp)
  · refine mem o.head ?_
    intro e
    have := o.hle
    have e' : x.count + 1 = h.count := e
    omega
  · refine mem o.head2 ?_
    intro e
    have := o.hle
    have e' : x.count + 1 = h.count := e
    omega
  · show (x.waiting ++ _).length + _ + _ ≤ _
    rw [List.length_append]
    simp
    omega
theorem Inv.edited {n d : Nat} {s : State} {c : Change} (o : Inv n s) (hd3 : d < 3) (g : GoodC c) (own : c.kind = 2 → c.date = ownId d ((device s d).count + 1)) : Inv (n + 1) (edited s d (device s d) c) := by
  have q := o.dev d hd3
  exact (o.later (Nat.le_succ n)).set hd3 (q.edit g own (by have := q.size; omega))
/-- a clash is none any more -/
theorem DevOk.settle {n d k : Nat} {log : List Change} {x : Device} {h : Heard} {l : List Nat} (o : DevOk n log d x h) : DevOk n log d { x with clashes := x.clashes.eraseIdx k, settled := l } h :=
  { o with
    cok := fun e m => o.cok e (List.mem_of_mem_eraseIdx m)
    size := by
      have := o.size
      have q : (x.clashes.eraseIdx k).length ≤ x.clashes.length := (List.eraseIdx_sublist ..).length_le
      show x.waiting.length + x.sent.length + (x.clashes.eraseIdx k).length ≤ n
      omega }
theorem DevOk.pull {n d : Nat} {log : List Change} {x : Device} {h : Heard} (o : DevOk n log d x h) : DevOk n log d { x with known := log.length, sent := [] } h :=
  { o with
    known := Nat.le_refl _
    sle := fun p m => by cases m
    inc := (List.pairwise_append.mp o.inc).2.1
    snt := fun p m => by cases m
    size := by
      have := o.size
      show x.waiting.length + 0 + x.clashes.length ≤ n
      omega }
/-- a change comes -/
def houseChange (s : State) (e : Edit) : Change := if e.change.kind = 2 then { e.change with date := s.made } else e.change
theorem houseChange_kind (s : State) (e : Edit) : (houseChange s e).kind = e.change.kind := by
  unfold houseChange; split <;> rfl
theorem houseChange_good {s : State} {e : Edit} (g : GoodC e.change) : GoodC (houseChange s e) := by
  unfold houseChange; split
  · exact ⟨g.kind, g.field, g.flen, g.nof⟩
  · exact g
theorem come_old {s : State} {d : Nat} {e : Edit} (h : e.change.count ≤ (hd s d).count) : come s d e = s := if_pos h
theorem come_not {s : State} {d : Nat} {e : Edit} (h : ¬ e.change.count ≤ (hd s d).count) (c : clash s e = true) : come s d e = { s with heard := s.heard.set d ⟨e.change.count, 2, 0⟩ } := by
  exact (if_neg h).trans (if_pos c)
theorem come_done {s : State} {d : Nat} {e : Edit} (h : ¬ e.change.count ≤ (hd s d).count) (c : clash s e = false) :
    come s d e = { s with log := s.log ++ [houseChange s e], made := if e.change.kind = 2 then s.made + 1 else s.made, heard := s.heard.set d ⟨e.change.count, 1, s.log.length⟩ } := by
  exact (if_neg h).trans (if_neg (by rw [c]; simp))
theorem inc_head {e : Edit} {l : List Edit} {k : List Nat} (h : (k ++ ((e :: l).map fun (e : Edit) => e.change.count)).Pairwise (· < ·)) : ∀ e' ∈ l, e.change.count < e'.change.count := by
  intro e' m
  have := (List.pairwise_append.mp h).2.1
  rw [List.map_cons, List.pairwise_cons] at this
  exact this.1 _ (List.mem_map.mpr ⟨e', m, rfl⟩)
theorem LogOk.add {n : Nat} {s : State} {e : Edit} (o : LogOk n s.made s.log) (g : GoodC e.change) : LogOk (n + 1) (if e.change.kind = 2 then s.made + 1 else s.made) (s.log ++ [houseChange s e]) := by
  refine ⟨?_, ?_, ?_, ?_, ?_⟩
  · intro c m
    rcases List.mem_append.mp m with m | m
    · exact o.good c m
    · simp at m; subst m; exact houseChange_good g
  · refine List.pairwise_append.mpr ⟨o.fresh, by simp, ?_⟩
    intro a ma b mb ka kb e'
    simp at mb; subst mb
    rw [houseChange_kind] at kb
    have := o.lt a ma ka
    have q : (houseChange s e).date = s.made := by unfold houseChange; rw [if_pos kb]
    omega
  · intro c m k
    rcases List.mem_append.mp m with m | m
    · have := o.lt c m k
      split <;> omega
    · simp at m; subst m
      rw [houseChange_kind] at k
      have q : (houseChange s e).date = s.made := by unfold houseChange; rw [if_pos k]
      rw [if_pos k, q]; omega
  · have := o.made; split <;> omega
  · rw [List.length_append]; have := o.len; simp; omega
/-- what was not done is no date's making -/
theorem clash_kind {s : State} {e : Edit} (h : clash s e = true) (g : GoodC e.change) : e.change.kind ≤ 1 := by
  unfold clash at h
  have := g.kind
  by_cases k : e.change.kind = 2
  · rw [k] at h; simp at h
  · omega
theorem Inv.come {n d : Nat} {s : State} {e : Edit} {l : List Edit} (o : Inv n s) (hd3 : d < 3) (hw : (device s d).waiting = e :: l) :
    Inv (n + 1) (come s d e) ∧ device (come s d e) d = device s d ∧ (hd (come s d e) d).count = e.change.count := by
  have q := o.dev d hd3
  have me : e ∈ (device s d).waiting := by rw [hw]; exact List.mem_cons_self ..
  have inc := q.inc
  rw [hw] at inc
  have lt := inc_head inc
  have wge : ∀ e' ∈ (device s d).waiting, e.change.count ≤ e'.change.count := by
    intro e' m
    rw [hw] at m
    rcases List.mem_cons.mp m with m | m
    · subst m; exact Nat.le_refl _
    · exact Nat.le_of_lt (lt e' m)
  have only : ∀ e' ∈ (device s d).waiting, e'.change.count = e.change.count → e' = e := by
    intro e' m c
    rw [hw] at m
    rcases List.mem_cons.mp m with m | m
    · exact m
    · have := lt e' m; omega
  have pos := q.wpos e me
  by_cases h : e.change.count ≤ (hd s d).count
  · rw [come_old h]
    refine ⟨o.later (Nat.le_succ n), rfl, ?_⟩
    have := q.wge e me
    omega
  · cases c : clash s e with
    | true =>
      rw [come_not h c]
      refine ⟨{ log := o.log.later (Nat.le_succ n), hl := by show (s.heard.set _ _).length = 3; rw [List.length_set]; exact o.hl, dl := o.dl, dev := fun d' h' => ?_, floor := o.floor }, rfl, ?_⟩
      · show DevOk (n + 1) s.log d' (device s d') ((s.heard.set d _).getD d' _)
        rw [hd_set o.hl hd3]
        by_cases e' : d' = d
        · subst e'
          rw [if_pos rfl]
          exact { q.later (Nat.le_succ n) with
            hle := q.wle e me
            wge := wge
            head := fun e' m c w => by cases w
            head2 := fun e' m c' _ => by
              rw [only e' m c']
              exact clash_kind c (q.wok e me).good
            hok := ⟨fun z => by have z' : e.change.count = 0 := z; omega, fun _ => .inr rfl, fun w => by cases w⟩ }
        · rw [if_neg e']
          exact (o.dev d' h').later (Nat.le_succ n)
      · show ((s.heard.set d _).getD d _).count = _
        rw [hd_set o.hl hd3, if_pos rfl]
    | false =>
      rw [come_done h c]
      refine ⟨{ log := o.log.add (q.wok e me).good, hl := by show (s.heard.set _ _).length = 3; rw [List.length_set]; exact o.hl, dl := o.dl, dev := fun d' h' => ?_, floor := by show s.floor ≤ (s.log ++ _).length; rw [List.length_append]; have := o.floor; omega }, rfl, ?_⟩
      · show DevOk (n + 1) (s.log ++ _) d' (device s d') ((s.heard.set d _).getD d' _)
        rw [hd_set o.hl hd3]
        by_cases e' : d' = d
        · subst e'
          rw [if_pos rfl]
          exact { q.more (Nat.le_succ n) with
            hle := q.wle e me
            wge := wge
            head := fun e' m c w => by
              have := only e' m c
              subst this
              refine ⟨houseChange s e', ?_, ?_⟩
              · show (s.log ++ [houseChange s e'])[s.log.length]? = _
                rw [List.getElem?_append_right (Nat.le_refl _), Nat.sub_self]; rfl
              · unfold houseChange
                split <;> rfl
            head2 := fun e' m c w => by cases w
            hok := ⟨fun z => by have z' : e.change.count = 0 := z; omega, fun _ => .inl rfl, fun _ => by show s.log.length < _; rw [List.length_append]; simp⟩ }
        · rw [if_neg e']
          exact (o.dev d' h').more (Nat.le_succ n)
      · show ((s.heard.set d _).getD d _).count = _
        rw [hd_set o.hl hd3, if_pos rfl]
/-- the answer comes back -/
theorem renamed_count (a b : Nat) (e : Edit) : (renamed a b e).change.count = e.change.count := by
  unfold renamed; split <;> rfl
theorem renamed_kind (a b : Nat) (e : Edit) : (renamed a b e).change.kind = e.change.kind := by
  unfold renamed; split <;> rfl
theorem renamed_ok {a b d : Nat} {e : Edit} (h : EditOk d e) : EditOk d (renamed a b e) := by
  unfold renamed; split
  · exact ⟨h.by_, ⟨h.good.kind, h.good.field, h.good.flen, h.good.nof⟩⟩
  · exact h
def heardChange (s : State) (d : Nat) : Change := s.log.getD (hd s d).num ⟨0, 0, 0, 0, 0, 0, []⟩
def renames (s : State) (d : Nat) (e : Edit) : Edit → Edit := if e.change.kind = 2 then renamed e.change.date (heardChange s d).date else fun y => y
theorem renames_count (s : State) (d : Nat) (e y : Edit) : (renames s d e y).change.count = y.change.count := by
  unfold renames; split
  · exact renamed_count ..
  · rfl
theorem renames_kind (s : State) (d : Nat) (e y : Edit) : (renames s d e y).change.kind = y.change.kind := by
  unfold renames; split
  · exact renamed_kind ..
  · rfl
theorem renames_ok {s : State} {d k : Nat} {e y : Edit} (h : EditOk k y) : EditOk k (renames s d e y) := by
  unfold renames; split
  · exact renamed_ok h
  · exact h
def sentAfter (s : State) (d : Nat) (e : Edit) : List (Edit × Nat) := if (hd s d).num < (device s d).known then (device s d).sent else (device s d).sent ++ [(renames s d e e, (hd s d).num)]
theorem sent_mem {s : State} {d : Nat} {e : Edit} {p : Edit × Nat} (h : p ∈ sentAfter s d e) : p ∈ (device s d).sent ∨ ((device s d).known ≤ (hd s d).num ∧ p = (renames s d e e, (hd s d).num)) := by
  unfold sentAfter at h
  split at h
  · exact .inl h
  · rcases List.mem_append.mp h with m | m
    · exact .inl m
    · simp at m
      exact .inr ⟨by omega, m⟩
theorem answered_not {s : State} {d : Nat} {e : Edit} {l : List Edit} (hw : (device s d).waiting = e :: l) (h : (hd s d).what = 2) :
    answered s d = setDevice s d { device s d with waiting := l, clashes := (device s d).clashes ++ [e] } := by
  have h' : (s.heard.getD d ⟨0, 0, 0⟩).what = 2 := h
  unfold answered
  simp only [hw]
  exact if_pos h'
theorem answered_done {s : State} {d : Nat} {e : Edit} {l : List Edit} (hw : (device s d).waiting = e :: l) (h : ¬ (hd s d).what = 2) :
    answered s d = setDevice s d { device s d with waiting := l.map (renames s d e), sent := sentAfter s d e } := by
  have h' : ¬ (s.heard.getD d ⟨0, 0, 0⟩).what = 2 := h
  unfold answered
  simp only [hw]
  exact if_neg h'
theorem ownId_inj {d a b : Nat} (h : ownId d a = ownId d b) : a = b := by
  unfold ownId at h; omega
theorem Inv.answered {n d : Nat} {s : State} {e : Edit} {l : List Edit} (o : Inv n s) (hd3 : d < 3) (hw : (device s d).waiting = e :: l) (hc : (hd s d).count = e.change.count) : Inv n (answered s d) := by
  have q := o.dev d hd3
  have me : e ∈ (device s d).waiting := by rw [hw]; exact List.mem_cons_self ..
  have ml : ∀ {y}, y ∈ l → y ∈ (device s d).waiting := fun m => by rw [hw]; exact List.mem_cons_of_mem _ m
  have inc := q.inc
  rw [hw] at inc
  have lt := inc_head inc
  have inc' := (List.pairwise_append.mp inc)
  by_cases h : (hd s d).what = 2
  · rw [answered_not hw h]
    refine o.set hd3 { q with wok := fun y m => q.wok y (ml m), wown := fun y m => q.wown y (ml m), wpos := fun y m => q.wpos y (ml m), wle := fun y m => q.wle y (ml m), inc := ?_, wge := fun y m => q.wge y (ml m), head := fun y m => q.head y (ml m), head2 := fun y m => q.head2 y (ml m), cok := ?_, size := ?_ }
    · refine List.pairwise_append.mpr ⟨inc'.1, (List.pairwise_cons.mp inc'.2.1).2, fun a ma b mb => inc'.2.2 a ma b (List.mem_cons_of_mem _ mb)⟩
    · intro y m
      rcases List.mem_append.mp m with m | m
      · exact q.cok y m
      · simp at m; subst m; exact ⟨q.wok y me, q.head2 y me hc.symm h⟩
    · have := q.size
      rw [hw] at this
      show l.length + _ + (_ ++ [e]).length ≤ n
      rw [List.length_append]
      simp at this ⊢
      omega
  · rw [answered_done hw h]
    have pos := q.wpos e me
    have w1 : (hd s d).what = 1 := by
      rcases q.hok.what (by omega) with w | w
      · exact w
      · exact absurd w h
    obtain ⟨c, hg, ec⟩ := q.head e me hc.symm w1
    have hch : heardChange s d = c := by
      unfold heardChange
      rw [List.getD_eq_getElem?_getD, hg]; rfl
    have re : (renames s d e e).change = c := by
      unfold renames
      by_cases k : e.change.kind = 2
      · rw [if_pos k] at ec ⊢
        unfold renamed
        rw [if_pos rfl, hch]
        exact ec.symm
      · rw [if_neg k] at ec ⊢
        exact ec.symm
    have inL : ∀ {y}, y ∈ l.map (renames s d e) → ∃ z ∈ l, renames s d e z = y := fun m => List.mem_map.mp m
    have cm : (l.map (renames s d e)).map (fun (e : Edit) => e.change.count) = l.map fun (e : Edit) => e.change.count := by
      rw [List.map_map]
      exact List.map_congr_left fun z _ => renames_count ..
    refine o.set hd3 { q with wok := ?_, wown := ?_, wpos := ?_, wle := ?_, sle := ?_, inc := ?_, wge := ?_, head := ?_, head2 := ?_, snt := ?_, size := ?_ }
    · intro y m; obtain ⟨z, mz, rfl⟩ := inL m; exact renames_ok (q.wok z (ml mz))
    · intro y m k; obtain ⟨z, mz, rfl⟩ := inL m
      rw [renames_kind] at k
      rw [renames_count]
      have own := q.wown z (ml mz) k
      unfold renames
      by_cases k' : e.change.kind = 2
      · rw [if_pos k']
        unfold renamed
        rw [if_neg]
        · exact own
        · rw [own, q.wown e me k']
          intro x
          have := ownId_inj x
          have := lt z mz
          omega
      · rw [if_neg k']; exact own
    · intro y m; obtain ⟨z, mz, rfl⟩ := inL m; rw [renames_count]; exact q.wpos z (ml mz)
    · intro y m; obtain ⟨z, mz, rfl⟩ := inL m; rw [renames_count]; exact q.wle z (ml mz)
    · intro p m
      rcases sent_mem m with m | ⟨_, rfl⟩
      · exact q.sle p m
      · show (renames s d e e).change.count ≤ _
        rw [renames_count]; exact q.wle e me
    · show (List.map _ (sentAfter s d e) ++ List.map _ (l.map (renames s d e))).Pairwise (· < ·)
      rw [cm]
      unfold sentAfter
      split
      · refine List.pairwise_append.mpr ⟨inc'.1, (List.pairwise_cons.mp inc'.2.1).2, fun a ma b mb => inc'.2.2 a ma b (List.mem_cons_of_mem _ mb)⟩
      · rw [List.map_append, List.append_assoc]
        show (_ ++ ((renames s d e e).change.count :: _)).Pairwise (· < ·)
        rw [renames_count]
        exact inc
    · intro y m; obtain ⟨z, mz, rfl⟩ := inL m; rw [renames_count]; exact q.wge z (ml mz)
    · intro y m hc'; obtain ⟨z, mz, rfl⟩ := inL m
      rw [renames_count] at hc'
      have := lt z mz
      omega
    · intro y m hc'; obtain ⟨z, mz, rfl⟩ := inL m
      rw [renames_count] at hc'
      have := lt z mz
      omega
    · intro p m
      rcases sent_mem m with m | ⟨nk, rfl⟩
      · exact q.snt p m
      · refine ⟨nk, ?_⟩
        show s.log[(hd s d).num]? = some (renames s d e e).change
        rw [re]; exact hg
    · have := q.size
      rw [hw] at this
      show (l.map _).length + (sentAfter s d e).length + _ ≤ n
      rw [List.length_map]
      unfold sentAfter
      simp at this ⊢
      split
      · omega
      · simp; omega
end CK
set_option Elab.async false
namespace CK
open Cl07
/-! ### What is shown on a device -/
def sentCs (x : Device) : List Change := x.sent.map fun (p : Edit × Nat) => p.1.change
def waitCs (x : Device) : List Change := x.waiting.map fun (e : Edit) => e.change
def shownCs (s : State) (d : Nat) : List Change := s.log.take (device s d).known ++ sentCs (device s d) ++ waitCs (device s d)
theorem foldl_edits : ∀ (es : List Edit) (ds : List Date), es.foldl (fun (l : List Date) (e : Edit) => apply l e.change) ds = (es.map fun (e : Edit) => e.change).foldl apply ds
  | [], _ => rfl
  | e :: es, ds => foldl_edits es (apply ds e.change)
theorem shown_is (s : State) (d : Nat) : Cl07.shown s d = (shownCs s d).foldl apply [] := by
  unfold Cl07.shown shownCs asOf
  show List.foldl _ _ _ = _
  rw [foldl_edits, List.map_append, List.map_map, List.foldl_append, List.foldl_append, List.foldl_append]
  rfl
theorem log_is (s : State) : asOf s.log s.log.length = s.log.foldl apply [] := by
  unfold asOf; rw [List.take_length]
theorem shown_good {n d : Nat} {s : State} (o : Inv n s) (hd3 : d < 3) : ∀ c ∈ shownCs s d, GoodC c := by
  have q := o.dev d hd3
  intro c m
  unfold shownCs at m
  rcases List.mem_append.mp m with m | m
  · rcases List.mem_append.mp m with m | m
    · exact o.log.good c (List.mem_of_mem_take m)
    · obtain ⟨p, hp, rfl⟩ := List.mem_map.mp m
      exact o.log.good _ (List.mem_of_getElem? (q.snt p hp).2)
  · obtain ⟨p, hp, rfl⟩ := List.mem_map.mp m
    exact (q.wok p hp).good
theorem fresh_ix {log : List Change} (f : Fresh log) {i j : Nat} {a b : Change} (ha : log[i]? = some a) (hb : log[j]? = some b) (ka : a.kind = 2) (kb : b.kind = 2) (e : a.date = b.date) : i = j := by
  obtain ⟨hi, rfl⟩ := List.getElem?_eq_some_iff.mp ha
  obtain ⟨hj, rfl⟩ := List.getElem?_eq_some_iff.mp hb
  have f' := List.pairwise_iff_getElem.mp f
  rcases Nat.lt_trichotomy i j with l | l | l
  · exact absurd e (f' i j hi hj l ka kb)
  · exact l
  · exact absurd e.symm (f' j i hj hi l kb ka)
theorem shown_fresh {n d : Nat} {s : State} (o : Inv n s) (hd3 : d < 3) (hn : n ≤ 1000) : Fresh (shownCs s d) := by
  have q := o.dev d hd3
  have lg := o.log
  have inc := List.pairwise_append.mp q.inc
  have small : ∀ c ∈ s.log, c.kind = 2 → c.date < 1000 := fun c m k => by
    have := lg.lt c m k; have := lg.made; omega
  have big : ∀ c ∈ waitCs (device s d), c.kind = 2 → 1000 ≤ c.date := fun c m k => by
    obtain ⟨e, he, rfl⟩ := List.mem_map.mp m
    rw [q.wown e he k]; unfold ownId; omega
  unfold shownCs
  refine List.pairwise_append.mpr ⟨List.pairwise_append.mpr ⟨?_, ?_, ?_⟩, ?_, ?_⟩
  · exact List.Pairwise.sublist (List.take_sublist _ _) lg.fresh
  · unfold sentCs
    rw [List.pairwise_map]
    have := List.pairwise_map.mp inc.1
    refine (List.pairwise_iff_forall_sublist.mpr ?_)
    intro a b sb ka kb e
    have lt := List.pairwise_iff_forall_sublist.mp this sb
    have ma := sb.subset (List.mem_cons_self ..)
    have mb := sb.subset (List.mem_cons_of_mem _ (List.mem_cons_self ..))
    have ga := (q.snt a ma).2
    have gb := (q.snt b mb).2
    have := fresh_ix lg.fresh ga gb ka kb e
    rw [this, gb] at ga
    have := Option.some.inj ga
    rw [this] at lt
    exact Nat.lt_irrefl _ lt
  · intro a ma b mb ka kb e
    obtain ⟨i, hi⟩ := List.mem_iff_getElem?.mp ma
    rw [List.getElem?_take] at hi
    obtain ⟨p, hp, rfl⟩ := List.mem_map.mp mb
    have gb := q.snt p hp
    split at hi
    · have := fresh_ix lg.fresh hi gb.2 ka kb e
      omega
    · cases hi
  · unfold waitCs
    rw [List.pairwise_map]
    have := List.pairwise_map.mp inc.2.1
    refine (List.pairwise_iff_forall_sublist.mpr ?_)
    intro a b sb ka kb e
    have lt := List.pairwise_iff_forall_sublist.mp this sb
    have ma := sb.subset (List.mem_cons_self ..)
    have mb := sb.subset (List.mem_cons_of_mem _ (List.mem_cons_self ..))
    rw [q.wown a ma ka, q.wown b mb kb] at e
    have := ownId_inj e
    omega
  · intro a ma b mb ka kb e
    have hb := big b mb kb
    have ha : a.date < 1000 := by
      rcases List.mem_append.mp ma with m | m
      · exact small a (List.mem_of_mem_take m) ka
      · obtain ⟨p, hp, rfl⟩ := List.mem_map.mp m
        exact small _ (List.mem_of_getElem? (q.snt p hp).2) ka
    omega
theorem shown_len {n d : Nat} {s : State} (o : Inv n s) (hd3 : d < 3) : (shownCs s d).length ≤ n + n := by
  have q := o.dev d hd3
  have := q.size
  have := o.log.len
  have : (s.log.take (device s d).known).length ≤ s.log.length := List.length_take_le' _ _
  unfold shownCs sentCs waitCs
  rw [List.length_append, List.length_append, List.length_map, List.length_map]
  omega
/-! ### A call -/
theorem with_no {s : State} {d : Nat} {f : Device → State × Ans} (h : 3 ≤ d) : with_ s d f = (s, [-3]) := if_pos h
theorem with_yes {s : State} {d : Nat} {f : Device → State × Ans} (h : d < 3) : with_ s d f = f (device s d) := if_neg (Nat.not_le.mpr h)
theorem Inv.with_ {n d : Nat} {s : State} {f : Device → State × Ans} (o : Inv n s) (h : d < 3 → Inv (n + 1) (f (device s d)).1) : Inv (n + 1) (Cl07.with_ s d f).1 := by
  by_cases hd3 : d < 3
  · rw [with_yes hd3]; exact h hd3
  · rw [with_no (by omega)]; exact o.later (Nat.le_succ n)
theorem Inv.step {n : Nat} {s : State} (o : Inv n s) (c : Call) : Inv (n + 1) (Cl07.step s c).1 := by
  have o' := o.later (Nat.le_succ n)
  cases c with
  | make d a b c =>
    refine o.with_ fun h => ?_
    try dsimp only
    split
    · exact o'
    · split
      · exact o'
      · exact o.edited h ⟨Nat.le_refl _, fun k => (by cases k), fun _ => rfl, fun k => absurd k (by show ¬ 2 ≤ 1; omega)⟩ fun _ => rfl
  | set d i f v =>
    refine o.with_ fun h => ?_
    try dsimp only
    split
    · exact o'
    · rename_i nf
      split
      · exact o'
      · split
        · exact o'
        · exact o.edited h ⟨Nat.zero_le _, fun _ => (by show f ≤ 2; omega), fun k => (by cases k), fun _ => rfl⟩ fun k => by cases k
  | remove d i =>
    refine o.with_ fun h => ?_
    try dsimp only
    split
    · exact o'
    · split
      · exact o'
      · exact o.edited h ⟨by show 1 ≤ 2; omega, fun k => (by cases k), fun k => (by cases k), fun _ => rfl⟩ fun k => by cases k
  | push d how =>
    refine o.with_ fun h => ?_
    try dsimp only
    split
    · exact o'
    · split
      · exact o'
      · rename_i e l hw
        split
        · exact o'
        · have q := o.come h hw
          split
          · exact q.1
          · refine q.1.answered (l := l) h ?_ q.2.2
            rw [q.2.1]; exact hw
  | pull d how =>
    refine o.with_ fun h => ?_
    try dsimp only
    split
    · exact o'
    · split
      · exact o'
      · exact o'.set h (o'.dev d h).pull
  | forget n =>
    show Inv _ (if _ then _ else _ : State × Ans).1
    split
    · exact o'
    · rename_i h
      exact { o' with floor := by show n ≤ s.log.length; omega }
  | shown d => exact o.with_ fun h => o'
  | house => exact o'
  | clashes d => exact o.with_ fun h => o'
  | settle d k again =>
    refine o.with_ fun h => ?_
    try dsimp only
    split
    · exact o'
    · split
      · exact o'
      · rename_i e he
        have me : e ∈ (device s d).clashes := List.mem_of_getElem? he
        have q := (o.dev d h)
        split
        · exact o'.set h (o'.dev d h).settle
        · split
          · exact o'
          · split
            · exact o'
            · have z := o.set h (q.settle (k := k) (l := (device s d).settled ++ [e.change.count]))
              have ce := q.cok e me
              have w := z.edited (c := e.change) h ce.1.good (fun k => by have := ce.2; omega)
              rw [device_set o.dl h, if_pos rfl] at w
              exact w
  | state d => exact o.with_ fun h => o'
end CK
set_option Elab.async false
namespace CK
/-! ### The calls of one list -/
def enc : Cl07.Call → Int × List Int
  | .make d a b c => (0, [(d : Int), (a : Int), (b : Int), (c : Int)])
  | .set d i f v => (1, [(d : Int), (i : Int), (f : Int), (v : Int)])
  | .remove d i => (2, [(d : Int), (i : Int)])
  | .push d h => (3, [(d : Int), (h : Int)])
  | .pull d h => (4, [(d : Int), (h : Int)])
  | .forget n => (5, [(n : Int)])
  | .shown d => (6, [(d : Int)])
  | .house => (7, [])
  | .clashes d => (8, [(d : Int)])
  | .settle d k a => (9, [(d : Int), (k : Int), (a : Int)])
  | .state d => (10, [(d : Int)])
theorem within_nat {z lo hi : Int} (h : NeutralIO.within z lo hi = true) (l : 0 ≤ lo) : ∃ n : Nat, z = (n : Int) := by
  unfold NeutralIO.within at h
  simp at h
  exact ⟨z.toNat, by omega⟩
theorem nine_nat {z : Int} (h : Cl07Neutral.nine z = true) : ∃ n : Nat, z = (n : Int) := within_nat h (by omega)
theorem date_nat {z : Int} (h : Cl07Neutral.date z = true) : ∃ n : Nat, z = (n : Int) := within_nat h (by omega)
theorem what_nat {z : Int} (h : Cl07Neutral.what z = true) : ∃ n : Nat, z = (n : Int) := within_nat h (by omega)
theorem len1 {l : List Int} (h : l.length = 1) : ∃ a, l = [a] := by
  match l, h with
  | [a], _ => exact ⟨a, rfl⟩
theorem len2 {l : List Int} (h : l.length = 2) : ∃ a b, l = [a, b] := by
  match l, h with
  | [a, b], _ => exact ⟨a, b, rfl⟩
theorem len3 {l : List Int} (h : l.length = 3) : ∃ a b c, l = [a, b, c] := by
  match l, h with
  | [a, b, c], _ => exact ⟨a, b, c, rfl⟩
theorem len4 {l : List Int} (h : l.length = 4) : ∃ a b c d, l = [a, b, c, d] := by
  match l, h with
  | [a, b, c, d], _ => exact ⟨a, b, c, d, rfl⟩
theorem shape_some {p : Int} {m k : Nat} (h : PyCl07.shape p = some (m, k)) : k = 0 ∧ ((p = 0 ∧ m = 4) ∨ (p = 1 ∧ m = 4) ∨ (p = 2 ∧ m = 2) ∨ (p = 3 ∧ m = 2) ∨ (p = 4 ∧ m = 2) ∨ (p = 5 ∧ m = 1) ∨ (p = 6 ∧ m = 1) ∨ (p = 7 ∧ m = 0) ∨ (p = 8 ∧ m = 1) ∨ (p = 9 ∧ m = 3) ∨ (p = 10 ∧ m = 1)) := by
  unfold PyCl07.shape at h
  repeat' split at h
  all_goals first | (have e := Option.some.inj h; injection e with e1 e2; exact ⟨by omega, by omega⟩) | cases h
/-- a call that may be asked is one of the eleven -/
theorem call_is {p : Int} {m k : Nat} {l : List Int} (h : PyCl07.shape p = some (m, k)) (hl : l.length = m) (ha : Cl07Neutral.asked1 (PyCl07.whole [p :: l]) = true) :
    ∃ c, enc c = (p, l) ∧ ∀ s, Cl07Neutral.step s (PyCl07.whole [p :: l]) = Cl07.step s c := by
  obtain ⟨_, hs⟩ := shape_some h
  have and4 : ∀ {a b c d : Bool}, (a && (b && (c && d))) = true → a = true ∧ b = true ∧ c = true ∧ d = true := by
    intro a b c d z; simp at z; exact z
  have and3 : ∀ {a b c : Bool}, (a && (b && c)) = true → a = true ∧ b = true ∧ c = true := by
    intro a b c z; simp at z; exact z
  have and2 : ∀ {a b : Bool}, (a && b) = true → a = true ∧ b = true := by
    intro a b z; simp at z; exact z
  rcases hs with ⟨rfl, rfl⟩ | ⟨rfl, rfl⟩ | ⟨rfl, rfl⟩ | ⟨rfl, rfl⟩ | ⟨rfl, rfl⟩ | ⟨rfl, rfl⟩ | ⟨rfl, rfl⟩ | ⟨rfl, rfl⟩ | ⟨rfl, rfl⟩ | ⟨rfl, rfl⟩ | ⟨rfl, rfl⟩
  · obtain ⟨x, y, z, w, rfl⟩ := len4 hl
    obtain ⟨h1, h2, h3, h4⟩ := and4 (show (Cl07Neutral.nine x && (Cl07Neutral.what y && (Cl07Neutral.what z && Cl07Neutral.what w))) = true from ha)
    obtain ⟨a, rfl⟩ := nine_nat h1
    obtain ⟨b, rfl⟩ := what_nat h2
    obtain ⟨c, rfl⟩ := what_nat h3
    obtain ⟨d, rfl⟩ := what_nat h4
    exact ⟨.make a b c d, rfl, fun s => rfl⟩
  · obtain ⟨x, y, z, w, rfl⟩ := len4 hl
    obtain ⟨h1, h2, h3, h4⟩ := and4 (show (Cl07Neutral.nine x && (Cl07Neutral.date y && (Cl07Neutral.nine z && Cl07Neutral.what w))) = true from ha)
    obtain ⟨a, rfl⟩ := nine_nat h1
    obtain ⟨b, rfl⟩ := date_nat h2
    obtain ⟨c, rfl⟩ := nine_nat h3
    obtain ⟨d, rfl⟩ := what_nat h4
    exact ⟨.set a b c d, rfl, fun s => rfl⟩
  · obtain ⟨x, y, rfl⟩ := len2 hl
    obtain ⟨h1, h2⟩ := and2 (show (Cl07Neutral.nine x && Cl07Neutral.date y) = true from ha)
    obtain ⟨a, rfl⟩ := nine_nat h1
    obtain ⟨b, rfl⟩ := date_nat h2
    exact ⟨.remove a b, rfl, fun s => rfl⟩
  · obtain ⟨x, y, rfl⟩ := len2 hl
    obtain ⟨h1, h2⟩ := and2 (show (Cl07Neutral.nine x && Cl07Neutral.nine y) = true from ha)
    obtain ⟨a, rfl⟩ := nine_nat h1
    obtain ⟨b, rfl⟩ := nine_nat h2
    exact ⟨.push a b, rfl, fun s => rfl⟩
  · obtain ⟨x, y, rfl⟩ := len2 hl
    obtain ⟨h1, h2⟩ := and2 (show (Cl07Neutral.nine x && Cl07Neutral.nine y) = true from ha)
    obtain ⟨a, rfl⟩ := nine_nat h1
    obtain ⟨b, rfl⟩ := nine_nat h2
    exact ⟨.pull a b, rfl, fun s => rfl⟩
  · obtain ⟨x, rfl⟩ := len1 hl
    obtain ⟨a, rfl⟩ := within_nat (show NeutralIO.within x 0 300 = true from ha) (by omega)
    exact ⟨.forget a, rfl, fun s => rfl⟩
  · obtain ⟨x, rfl⟩ := len1 hl
    obtain ⟨a, rfl⟩ := nine_nat (show Cl07Neutral.nine x = true from ha)
    exact ⟨.shown a, rfl, fun s => rfl⟩
  · have : l = [] := List.length_eq_zero_iff.mp hl
    subst this
    exact ⟨.house, rfl, fun s => rfl⟩
  · obtain ⟨x, rfl⟩ := len1 hl
    obtain ⟨a, rfl⟩ := nine_nat (show Cl07Neutral.nine x = true from ha)
    exact ⟨.clashes a, rfl, fun s => rfl⟩
  · obtain ⟨x, y, z, rfl⟩ := len3 hl
    obtain ⟨h1, h2, h3⟩ := and3 (show (Cl07Neutral.nine x && (NeutralIO.within y 0 99 && Cl07Neutral.nine z)) = true from ha)
    obtain ⟨a, rfl⟩ := nine_nat h1
    obtain ⟨b, rfl⟩ := within_nat h2 (by omega)
    obtain ⟨c, rfl⟩ := nine_nat h3
    exact ⟨.settle a b c, rfl, fun s => rfl⟩
  · obtain ⟨x, rfl⟩ := len1 hl
    obtain ⟨a, rfl⟩ := nine_nat (show Cl07Neutral.nine x = true from ha)
    exact ⟨.state a, rfl, fun s => rfl⟩
/-- the calls that are still to come: how the list is read -/
inductive Reads : List Int → List Cl07.Call → Prop
  | nil : Reads [] []
  | cons {p : Int} {m : Nat} {r : List Int} {c : Cl07.Call} {cs : List Cl07.Call} (h : PyCl07.shape p = some (m, 0)) (hm : m ≤ r.length) (e : enc c = (p, r.take m)) (t : Reads (r.drop m) cs) : Reads (p :: r) (c :: cs)
/-- what is answered to these, from a state on -/
def tells : Cl07.State → List Cl07.Call → List Int
  | _, [] => []
  | s, c :: cs => (((Cl07.step s c).2.length : Nat) : Int) :: (Cl07.step s c).2 ++ tells (Cl07.step s c).1 cs
theorem reads_of : ∀ (f : Nat) (l : List Int) (raw : List (List (List Int))), PyFlat.calls PyCl07.shape f l = some raw → (∀ c ∈ raw, Cl07Neutral.asked1 (PyCl07.whole c) = true) →
    ∃ cs, Reads l cs ∧ cs.length = raw.length ∧ ∀ s, PyFlat.told (PyFlat.played Cl07Neutral.step s (raw.map PyCl07.whole)) = tells s cs
  | f, [], raw, h, _ => by
    have e : raw = [] := by
      cases f <;> exact (Option.some.inj h).symm
    subst e
    exact ⟨[], .nil, rfl, fun s => rfl⟩
  | 0, p :: r, raw, h, _ => by cases h
  | f + 1, p :: r, raw, h, ha => by
    unfold PyFlat.calls at h
    unfold PyFlat.call at h
    dsimp only at h
    cases hs : PyCl07.shape p with
    | none => rw [hs] at h; cases h
    | some mk =>
      obtain ⟨m, k⟩ := mk
      have hk := (shape_some hs).1
      subst hk
      rw [hs] at h
      dsimp only at h
      by_cases hm : r.length < m
      · rw [if_pos hm] at h; cases h
      · rw [if_neg hm] at h
        dsimp only [PyFlat.rows] at h
        cases hc : PyFlat.calls PyCl07.shape f (r.drop m) with
        | none => rw [hc] at h; cases h
        | some raw' =>
          rw [hc] at h
          have e := (Option.some.inj h).symm
          subst e
          obtain ⟨cs, rd, len, tl⟩ := reads_of f (r.drop m) raw' hc fun c mc => ha c (List.mem_cons_of_mem _ mc)
          have tm : (r.take m).length = m := by rw [List.length_take]; omega
          obtain ⟨c, ec, st⟩ := call_is hs tm (ha _ (List.mem_cons_self ..))
          refine ⟨c :: cs, .cons hs (by omega) ec rd, by rw [List.length_cons, List.length_cons, len], fun s => ?_⟩
          show PyFlat.told ((Cl07Neutral.step s (PyCl07.whole [p :: r.take m])).2 :: PyFlat.played Cl07Neutral.step (Cl07Neutral.step s (PyCl07.whole [p :: r.take m])).1 (raw'.map PyCl07.whole)) = _
          rw [st s]
          show ((((Cl07.step s c).2.length : Nat) : Int) :: (Cl07.step s c).2) ++ PyFlat.told (PyFlat.played Cl07Neutral.step (Cl07.step s c).1 (raw'.map PyCl07.whole)) = _
          rw [tl]
          rfl
theorem asked_of {l : List Int} (h : PyCl07.answers_asked l = true) : ∃ cs, Reads l cs ∧ cs.length ≤ 80 ∧ PyCl07.answers l = tells Cl07.init cs ∧ (PyCl07.answers l).length ≤ 10000000 := by
  unfold PyCl07.answers_asked at h
  cases hc : PyFlat.calls PyCl07.shape l.length l with
  | none => rw [hc] at h; cases h
  | some raw =>
    rw [hc] at h
    dsimp only at h
    simp only [Bool.and_eq_true] at h
    obtain ⟨⟨⟨⟨h1, h2⟩, h3⟩, h4⟩, h5⟩ := h
    have h4' : (decide (1 ≤ (raw.map PyCl07.whole).length) && (decide ((raw.map PyCl07.whole).length ≤ 80) && (raw.map PyCl07.whole).all Cl07Neutral.asked1)) = true := h4
    simp only [Bool.and_eq_true] at h4'
    have all := h4'.2.2
    rw [List.all_eq_true] at all
    obtain ⟨cs, rd, len, tl⟩ := reads_of _ _ _ hc fun c m => all _ (List.mem_map.mpr ⟨c, m, rfl⟩)
    have e1 : PyCl07.answers l = PyFlat.told (PyFlat.played Cl07Neutral.step Cl07Neutral.start (raw.map PyCl07.whole)) := by
      unfold PyCl07.answers PyCl07.calls
      rw [hc]
    refine ⟨cs, rd, ?_, e1.trans (tl _), of_decide_eq_true h5⟩
    rw [len]
    exact of_decide_eq_true h2
end CK
set_option Elab.async false
set_option linter.all false
set_option maxRecDepth 100000
set_option maxHeartbeats 2000000
namespace CK
open PySem PySem.Spec PyProof.Rows L2
open PySem.W (Codec)
/-! ### A dict of the module's top whose keys and values are whole numbers -/
def Ents : List (Int × Int) → List DictEntry → Prop
  | [], [] => True
  | (k, v) :: r, e :: s => (∃ t u, e.key = .int k t ∧ e.hash = hashInt k ∧ e.val = .int v u) ∧ Ents r s
  | _, _ => False
theorem Ents.keys : ∀ {kvs : List (Int × Int)} {es : List DictEntry}, Ents kvs es → ∀ e ∈ es, ∃ k t, e.key = .int k t ∧ e.hash = hashInt k
  | (k, v) :: r, e :: s, h, e', m => by
    rcases List.mem_cons.mp m with m | m
    · subst m
      obtain ⟨t, u, h1, h2, h3⟩ := h.1
      exact ⟨k, t, h1, h2⟩
    · exact Ents.keys h.2 e' m
  | [], [], _, e', m => by cases m
theorem Ents.find : ∀ {kvs : List (Int × Int)} {es : List DictEntry}, Ents kvs es → ∀ {k v : Int}, kvs.lookup k = some v → ∃ u, ((es.find? fun e => Value.isInt k e.key).map (·.val)) = some (.int v u)
  | (k0, v0) :: r, e :: s, h, k, v, l => by
    obtain ⟨t, u, h1, h2, h3⟩ := h.1
    by_cases q : k = k0
    · subst q
      have e2 : v0 = v := by
        have : (k == k) = true := beq_self_eq_true k
        simp only [List.lookup, this] at l
        exact Option.some.inj l
      subst e2
      refine ⟨u, ?_⟩
      have : Value.isInt k e.key = true := by rw [h1]; simp [Value.isInt]
      rw [List.find?_cons_of_pos (p := fun e : DictEntry => Value.isInt k e.key) this]
      show some e.val = _
      rw [h3]
    · have nb : (k == k0) = false := beq_eq_false_iff_ne.mpr q
      simp only [List.lookup, nb] at l
      have : ¬ Value.isInt k e.key = true := by
        rw [h1]; simp [Value.isInt]; exact fun z => q z.symm
      rw [List.find?_cons_of_neg (p := fun e : DictEntry => Value.isInt k e.key) this]
      exact Ents.find h.2 l
  | [], [], _, k, v, l => by cases l
def IntTab (K : PySem.W.Frag) (a : Addr) (kvs : List (Int × Int)) : Prop := ∃ es n, K.lookup a = some ⟨.type "dict", none, .dict es n, #[]⟩ ∧ Ents kvs es.toList
theorem intTab_mk {K : PySem.W.Frag} {a : Addr} {kvs : List (Int × Int)} {es : Array DictEntry} {n : Nat} (l : K.lookup a = some ⟨.type "dict", none, .dict es n, #[]⟩) (h : Ents kvs es.toList) : IntTab K a kvs := ⟨es, n, l, h⟩
def rTab (K : PySem.W.Frag) : R2 := fun x y H Q => ∃ p kvs k v, x = .ref p ∧ y = .int k ∧ IntTab K p kvs ∧ kvs.lookup k = some v ∧ Q (.int v) H
theorem ix_tab {X : Cx} : IxR X (rTab X.K) := by
  intro value slice pins s σ H x y v u Q I rx ry h hs
  obtain ⟨p, kvs, k, r, rfl, rfl, ⟨es, n, hl, he⟩, lk, q⟩ := h
  obtain rfl : v = Value.ref p := rx
  obtain ⟨t, rfl⟩ := ry
  obtain ⟨u0, hf⟩ := he.find lk
  have hm : s.heap.MapOf (intKind X.prog X.w) p (fun k => findBy Value.isInt es k) :=
    ⟨_, es, n, I.kIn _ _ hl, ⟨rfl, rfl, rfl⟩, rfl, fun e m => by
      obtain ⟨k', t', e1, e2⟩ := he.keys e (Array.mem_toList_iff.mpr m)
      exact ⟨k', by rw [e1]; simp [intKind, Value.isInt], e2⟩, fun _ => rfl⟩
  have hf' : findBy Value.isInt es k = some (.int r u0) := by
    obtain ⟨l⟩ := es
    unfold findBy
    rw [List.find?_toArray]
    exact hf
  exact tail_any hm.typeIs slot_dict_getitem.lookup (wpAny_getItem_of (k := k) (by simp [intKind, Value.isInt]) hm hf' ⟨.int r, H, I.tok _, ⟨u0, rfl⟩, q⟩) hs
/-- a whole number of the module's top -/
theorem pe_k {X : Cx} {x : Str} {v : Int} {pos : Pos} (hg : Gl X x) (h : ∃ t, X.mg x = some (.int v t)) (hd : (x == ("__debug__" : Str)) = false := by decide) : PE X (.Name x pos) (tC (.int v)) := by
  obtain ⟨t, h⟩ := h
  exact pe_glob hg h ⟨t, rfl⟩ hd
theorem pe_tab {X : Cx} {x : Str} {a : Addr} {pos : Pos} (hg : Gl X x) (h : X.mg x = some (.ref a)) (hd : (x == ("__debug__" : Str)) = false := by decide) : PE X (.Name x pos) (tC (.ref a)) := pe_glob hg h rfl hd
/-! ### The text by places (written by gen.py from the linked text) -/
def top (i : Nat) : Stmt := PySem.Challenge.pw_copieskept_s01_answers.main.body.getD i (.Pass ⟨0, 0, 0, 0⟩)
abbrev s_Change_init : Stmt := inClass (top 4) 0
abbrev s_Change_with_date : Stmt := inClass (top 4) 1
abbrev s_Device_init : Stmt := inClass (top 11) 0
abbrev s_Device_is_full : Stmt := inClass (top 11) 1
abbrev s_Device_shown : Stmt := inClass (top 11) 2
abbrev s_Device_add_change : Stmt := inClass (top 11) 3
abbrev s_Device_add_date : Stmt := inClass (top 11) 4
abbrev s_Device_hear : Stmt := inClass (top 11) 5
abbrev s_Device_renumber : Stmt := inClass (top 11) 6
abbrev s_Device_learn : Stmt := inClass (top 11) 7
abbrev s_Outcome_init : Stmt := inClass (top 13) 0
abbrev s_House_init : Stmt := inClass (top 14) 0
abbrev s_House_dates : Stmt := inClass (top 14) 1
abbrev s_House_last_count : Stmt := inClass (top 14) 2
abbrev s_House_can_be_done : Stmt := inClass (top 14) 3
abbrev s_House_receive : Stmt := inClass (top 14) 4
abbrev s_House_numbered : Stmt := inClass (top 14) 5
abbrev s_Calendar_init : Stmt := inClass (top 46) 0
abbrev s_Calendar_answer : Stmt := inClass (top 46) 1
abbrev s_carry_out : Stmt := top 5
abbrev s_dates_behind : Stmt := top 6
abbrev s_stands_against : Stmt := top 7
abbrev s_answer_on_device : Stmt := top 47
abbrev s_make_date : Stmt := top 48
abbrev s_set_field : Stmt := top 49
abbrev s_take_out : Stmt := top 50
abbrev s_change_shown : Stmt := top 51
abbrev s_push : Stmt := top 52
abbrev s_pull : Stmt := top 53
abbrev s_forget : Stmt := top 54
abbrev s_told_dates : Stmt := top 55
abbrev s_told_clashes : Stmt := top 56
abbrev s_told_state : Stmt := top 57
abbrev s_settle : Stmt := top 58
abbrev s_settle_once_more : Stmt := top 59
abbrev s_answers : Stmt := top 62
theorem sc_Change_init : FnScope ["self", "device", "count", "knew", "kind", "date", "field", "what", "fields"] ["self", "device", "count", "knew", "kind", "date", "field", "what", "fields"] (defScope s_Change_init) := ⟨rfl, rfl, rfl, by decide +kernel, rfl, by decide +kernel, by decide +kernel⟩
-- slots of Change_init: 0 self, 1 device, 2 count, 3 knew, 4 kind, 5 date, 6 field, 7 what, 8 fields
theorem sc_Change_with_date : FnScope ["self", "date"] ["self", "date"] (defScope s_Change_with_date) := ⟨rfl, rfl, rfl, by decide +kernel, rfl, by decide +kernel, by decide +kernel⟩
-- slots of Change_with_date: 0 self, 1 date
theorem sc_Device_init : FnScope ["self", "number"] ["self", "number"] (defScope s_Device_init) := ⟨rfl, rfl, rfl, by decide +kernel, rfl, by decide +kernel, by decide +kernel⟩
-- slots of Device_init: 0 self, 1 number
theorem sc_Device_is_full : FnScope ["self"] ["self"] (defScope s_Device_is_full) := ⟨rfl, rfl, rfl, by decide +kernel, rfl, by decide +kernel, by decide +kernel⟩
-- slots of Device_is_full: 0 self
theorem sc_Device_shown : FnScope ["self", "house"] ["self", "house"] (defScope s_Device_shown) := ⟨rfl, rfl, rfl, by decide +kernel, rfl, by decide +kernel, by decide +kernel⟩
-- slots of Device_shown: 0 self, 1 house
theorem sc_Device_add_change : FnScope ["self", "kind", "date", "field", "what", "fields"] ["self", "kind", "date", "field", "what", "fields"] (defScope s_Device_add_change) := ⟨rfl, rfl, rfl, by decide +kernel, rfl, by decide +kernel, by decide +kernel⟩
-- slots of Device_add_change: 0 self, 1 kind, 2 date, 3 field, 4 what, 5 fields
theorem sc_Device_add_date : FnScope ["self", "fields", "number"] ["self", "fields"] (defScope s_Device_add_date) := ⟨rfl, rfl, rfl, by decide +kernel, rfl, by decide +kernel, by decide +kernel⟩
-- slots of Device_add_date: 0 self, 1 fields, 2 number
theorem sc_Device_hear : FnScope ["self", "outcome", "change"] ["self", "outcome"] (defScope s_Device_hear) := ⟨rfl, rfl, rfl, by decide +kernel, rfl, by decide +kernel, by decide +kernel⟩
-- slots of Device_hear: 0 self, 1 outcome, 2 change
theorem sc_Device_renumber : FnScope ["self", "old", "new", "change"] ["self", "old", "new"] (defScope s_Device_renumber) := ⟨rfl, rfl, rfl, by decide +kernel, rfl, by decide +kernel, by decide +kernel⟩
-- slots of Device_renumber: 0 self, 1 old, 2 new, 3 change
theorem sc_Device_learn : FnScope ["self", "known"] ["self", "known"] (defScope s_Device_learn) := ⟨rfl, rfl, rfl, by decide +kernel, rfl, by decide +kernel, by decide +kernel⟩
-- slots of Device_learn: 0 self, 1 known
theorem sc_Outcome_init : FnScope ["self", "count", "done", "place", "change"] ["self", "count", "done", "place", "change"] (defScope s_Outcome_init) := ⟨rfl, rfl, rfl, by decide +kernel, rfl, by decide +kernel, by decide +kernel⟩
-- slots of Outcome_init: 0 self, 1 count, 2 done, 3 place, 4 change
theorem sc_House_init : FnScope ["self"] ["self"] (defScope s_House_init) := ⟨rfl, rfl, rfl, by decide +kernel, rfl, by decide +kernel, by decide +kernel⟩
-- slots of House_init: 0 self
theorem sc_House_dates : FnScope ["self"] ["self"] (defScope s_House_dates) := ⟨rfl, rfl, rfl, by decide +kernel, rfl, by decide +kernel, by decide +kernel⟩
-- slots of House_dates: 0 self
theorem sc_House_last_count : FnScope ["self", "device"] ["self", "device"] (defScope s_House_last_count) := ⟨rfl, rfl, rfl, by decide +kernel, rfl, by decide +kernel, by decide +kernel⟩
-- slots of House_last_count: 0 self, 1 device
theorem sc_House_can_be_done : FnScope ["self", "change", "other"] ["self", "change"] (defScope s_House_can_be_done) := ⟨rfl, rfl, rfl, by decide +kernel, rfl, by decide +kernel, by decide +kernel⟩
-- slots of House_can_be_done: 0 self, 1 change, 2 other
theorem sc_House_receive : FnScope ["self", "change", "place", "done"] ["self", "change"] (defScope s_House_receive) := ⟨rfl, rfl, rfl, by decide +kernel, rfl, by decide +kernel, by decide +kernel⟩
-- slots of House_receive: 0 self, 1 change, 2 place, 3 done
theorem sc_House_numbered : FnScope ["self", "change", "number"] ["self", "change"] (defScope s_House_numbered) := ⟨rfl, rfl, rfl, by decide +kernel, rfl, by decide +kernel, by decide +kernel⟩
-- slots of House_numbered: 0 self, 1 change, 2 number
theorem sc_Calendar_init : FnScope ["self", "number"] ["self"] (defScope s_Calendar_init) := ⟨rfl, rfl, rfl, by decide +kernel, rfl, by decide +kernel, by decide +kernel⟩
-- slots of Calendar_init: 0 self, 1 number
theorem sc_Calendar_answer : FnScope ["self", "call", "given"] ["self", "call", "given"] (defScope s_Calendar_answer) := ⟨rfl, rfl, rfl, by decide +kernel, rfl, by decide +kernel, by decide +kernel⟩
-- slots of Calendar_answer: 0 self, 1 call, 2 given
theorem sc_carry_out : FnScope ["dates", "change"] ["dates", "change"] (defScope s_carry_out) := ⟨rfl, rfl, rfl, by decide +kernel, rfl, by decide +kernel, by decide +kernel⟩
-- slots of carry_out: 0 dates, 1 change
theorem sc_dates_behind : FnScope ["changes", "dates", "change"] ["changes"] (defScope s_dates_behind) := ⟨rfl, rfl, rfl, by decide +kernel, rfl, by decide +kernel, by decide +kernel⟩
-- slots of dates_behind: 0 changes, 1 dates, 2 change
theorem sc_stands_against : FnScope ["other", "change"] ["other", "change"] (defScope s_stands_against) := ⟨rfl, rfl, rfl, by decide +kernel, rfl, by decide +kernel, by decide +kernel⟩
-- slots of stands_against: 0 other, 1 change
theorem sc_answer_on_device : FnScope ["house", "device", "call", "given"] ["house", "device", "call", "given"] (defScope s_answer_on_device) := ⟨rfl, rfl, rfl, by decide +kernel, rfl, by decide +kernel, by decide +kernel⟩
-- slots of answer_on_device: 0 house, 1 device, 2 call, 3 given
theorem sc_make_date : FnScope ["device", "fields"] ["device", "fields"] (defScope s_make_date) := ⟨rfl, rfl, rfl, by decide +kernel, rfl, by decide +kernel, by decide +kernel⟩
-- slots of make_date: 0 device, 1 fields
theorem sc_set_field : FnScope ["house", "device", "date", "field", "what"] ["house", "device", "date", "field", "what"] (defScope s_set_field) := ⟨rfl, rfl, rfl, by decide +kernel, rfl, by decide +kernel, by decide +kernel⟩
-- slots of set_field: 0 house, 1 device, 2 date, 3 field, 4 what
theorem sc_take_out : FnScope ["house", "device", "date"] ["house", "device", "date"] (defScope s_take_out) := ⟨rfl, rfl, rfl, by decide +kernel, rfl, by decide +kernel, by decide +kernel⟩
-- slots of take_out: 0 house, 1 device, 2 date
theorem sc_change_shown : FnScope ["house", "device", "kind", "date", "field", "what"] ["house", "device", "kind", "date", "field", "what"] (defScope s_change_shown) := ⟨rfl, rfl, rfl, by decide +kernel, rfl, by decide +kernel, by decide +kernel⟩
-- slots of change_shown: 0 house, 1 device, 2 kind, 3 date, 4 field, 5 what
theorem sc_push : FnScope ["house", "device", "how", "outcome"] ["house", "device", "how"] (defScope s_push) := ⟨rfl, rfl, rfl, by decide +kernel, rfl, by decide +kernel, by decide +kernel⟩
-- slots of push: 0 house, 1 device, 2 how, 3 outcome
theorem sc_pull : FnScope ["house", "device", "how", "knew", "known"] ["house", "device", "how"] (defScope s_pull) := ⟨rfl, rfl, rfl, by decide +kernel, rfl, by decide +kernel, by decide +kernel⟩
-- slots of pull: 0 house, 1 device, 2 how, 3 knew, 4 known
theorem sc_forget : FnScope ["house", "floor"] ["house", "floor"] (defScope s_forget) := ⟨rfl, rfl, rfl, by decide +kernel, rfl, by decide +kernel, by decide +kernel⟩
-- slots of forget: 0 house, 1 floor
theorem sc_told_dates : FnScope ["dates", "told", "number"] ["dates"] (defScope s_told_dates) := ⟨rfl, rfl, rfl, by decide +kernel, rfl, by decide +kernel, by decide +kernel⟩
-- slots of told_dates: 0 dates, 1 told, 2 number
theorem sc_told_clashes : FnScope ["clashes", "told", "clash"] ["clashes"] (defScope s_told_clashes) := ⟨rfl, rfl, rfl, by decide +kernel, rfl, by decide +kernel, by decide +kernel⟩
-- slots of told_clashes: 0 clashes, 1 told, 2 clash
theorem sc_told_state : FnScope ["house", "device"] ["house", "device"] (defScope s_told_state) := ⟨rfl, rfl, rfl, by decide +kernel, rfl, by decide +kernel, by decide +kernel⟩
-- slots of told_state: 0 house, 1 device
theorem sc_settle : FnScope ["house", "device", "which", "again"] ["house", "device", "which", "again"] (defScope s_settle) := ⟨rfl, rfl, rfl, by decide +kernel, rfl, by decide +kernel, by decide +kernel⟩
-- slots of settle: 0 house, 1 device, 2 which, 3 again
theorem sc_settle_once_more : FnScope ["house", "device", "which", "clash"] ["house", "device", "which"] (defScope s_settle_once_more) := ⟨rfl, rfl, rfl, by decide +kernel, rfl, by decide +kernel, by decide +kernel⟩
-- slots of settle_once_more: 0 house, 1 device, 2 which, 3 clash
theorem sc_answers : FnScope ["calls", "calendar", "told", "start", "end", "answer"] ["calls"] (defScope s_answers) := ⟨rfl, rfl, rfl, by decide +kernel, rfl, by decide +kernel, by decide +kernel⟩
-- slots of answers: 0 calls, 1 calendar, 2 told, 3 start, 4 end, 5 answer
/-- where all stands -/
structure Ad where
  C_Change : Addr
  f_Change_init : Addr
  d_Change_init : FuncData
  f_Change_with_date : Addr
  d_Change_with_date : FuncData
  C_Device : Addr
  f_Device_init : Addr
  d_Device_init : FuncData
  f_Device_is_full : Addr
  d_Device_is_full : FuncData
  f_Device_shown : Addr
  d_Device_shown : FuncData
  f_Device_add_change : Addr
  d_Device_add_change : FuncData
  f_Device_add_date : Addr
  d_Device_add_date : FuncData
  f_Device_hear : Addr
  d_Device_hear : FuncData
  f_Device_renumber : Addr
  d_Device_renumber : FuncData
  f_Device_learn : Addr
  d_Device_learn : FuncData
  C_Outcome : Addr
  f_Outcome_init : Addr
  d_Outcome_init : FuncData
  C_House : Addr
  f_House_init : Addr
  d_House_init : FuncData
  f_House_dates : Addr
  d_House_dates : FuncData
  f_House_last_count : Addr
  d_House_last_count : FuncData
  f_House_can_be_done : Addr
  d_House_can_be_done : FuncData
  f_House_receive : Addr
  d_House_receive : FuncData
  f_House_numbered : Addr
  d_House_numbered : FuncData
  C_Calendar : Addr
  f_Calendar_init : Addr
  d_Calendar_init : FuncData
  f_Calendar_answer : Addr
  d_Calendar_answer : FuncData
  f_carry_out : Addr
  d_carry_out : FuncData
  f_dates_behind : Addr
  d_dates_behind : FuncData
  f_stands_against : Addr
  d_stands_against : FuncData
  f_answer_on_device : Addr
  d_answer_on_device : FuncData
  f_make_date : Addr
  d_make_date : FuncData
  f_set_field : Addr
  d_set_field : FuncData
  f_take_out : Addr
  d_take_out : FuncData
  f_change_shown : Addr
  d_change_shown : FuncData
  f_push : Addr
  d_push : FuncData
  f_pull : Addr
  d_pull : FuncData
  f_forget : Addr
  d_forget : FuncData
  f_told_dates : Addr
  d_told_dates : FuncData
  f_told_clashes : Addr
  d_told_clashes : FuncData
  f_told_state : Addr
  d_told_state : FuncData
  f_settle : Addr
  d_settle : FuncData
  f_settle_once_more : Addr
  d_settle_once_more : FuncData
  f_answers : Addr
  d_answers : FuncData
/-- what the top has written -/
structure All (K : PySem.W.Frag) (mg : Str → Option Value) (A : Ad) : Prop where
  c_Change : Cls K A.C_Change
  g_Change : mg "Change" = some (.ref A.C_Change)
  n_Change_device : NoAttr K A.C_Change "device"
  n_Change_count : NoAttr K A.C_Change "count"
  n_Change_knew : NoAttr K A.C_Change "knew"
  n_Change_kind : NoAttr K A.C_Change "kind"
  n_Change_date : NoAttr K A.C_Change "date"
  n_Change_field : NoAttr K A.C_Change "field"
  n_Change_what : NoAttr K A.C_Change "what"
  n_Change_fields : NoAttr K A.C_Change "fields"
  F_Change_init : Fun K "__init__" "Change.__init__" s_Change_init A.f_Change_init A.d_Change_init
  b_Change_init : Binds K A.d_Change_init ["self", "device", "count", "knew", "kind", "date", "field", "what", "fields"] []
  F_Change_with_date : Fun K "with_date" "Change.with_date" s_Change_with_date A.f_Change_with_date A.d_Change_with_date
  b_Change_with_date : Binds K A.d_Change_with_date ["self", "date"] []
  m_Change_with_date : Meth K A.C_Change "with_date" A.f_Change_with_date
  mk_Change : Mk K A.C_Change A.f_Change_init
  c_Device : Cls K A.C_Device
  g_Device : mg "Device" = some (.ref A.C_Device)
  n_Device_number : NoAttr K A.C_Device "number"
  n_Device_knows : NoAttr K A.C_Device "knows"
  n_Device_made : NoAttr K A.C_Device "made"
  n_Device_waiting : NoAttr K A.C_Device "waiting"
  n_Device_answered : NoAttr K A.C_Device "answered"
  n_Device_clashes : NoAttr K A.C_Device "clashes"
  F_Device_init : Fun K "__init__" "Device.__init__" s_Device_init A.f_Device_init A.d_Device_init
  b_Device_init : Binds K A.d_Device_init ["self", "number"] []
  F_Device_is_full : Fun K "is_full" "Device.is_full" s_Device_is_full A.f_Device_is_full A.d_Device_is_full
  b_Device_is_full : Binds K A.d_Device_is_full ["self"] []
  m_Device_is_full : Meth K A.C_Device "is_full" A.f_Device_is_full
  F_Device_shown : Fun K "shown" "Device.shown" s_Device_shown A.f_Device_shown A.d_Device_shown
  b_Device_shown : Binds K A.d_Device_shown ["self", "house"] []
  m_Device_shown : Meth K A.C_Device "shown" A.f_Device_shown
  F_Device_add_change : Fun K "add_change" "Device.add_change" s_Device_add_change A.f_Device_add_change A.d_Device_add_change
  b_Device_add_change : Binds K A.d_Device_add_change ["self", "kind", "date", "field", "what", "fields"] []
  m_Device_add_change : Meth K A.C_Device "add_change" A.f_Device_add_change
  F_Device_add_date : Fun K "add_date" "Device.add_date" s_Device_add_date A.f_Device_add_date A.d_Device_add_date
  b_Device_add_date : Binds K A.d_Device_add_date ["self", "fields"] []
  m_Device_add_date : Meth K A.C_Device "add_date" A.f_Device_add_date
  F_Device_hear : Fun K "hear" "Device.hear" s_Device_hear A.f_Device_hear A.d_Device_hear
  b_Device_hear : Binds K A.d_Device_hear ["self", "outcome"] []
  m_Device_hear : Meth K A.C_Device "hear" A.f_Device_hear
  F_Device_renumber : Fun K "renumber" "Device.renumber" s_Device_renumber A.f_Device_renumber A.d_Device_renumber
  b_Device_renumber : Binds K A.d_Device_renumber ["self", "old", "new"] []
  m_Device_renumber : Meth K A.C_Device "renumber" A.f_Device_renumber
  F_Device_learn : Fun K "learn" "Device.learn" s_Device_learn A.f_Device_learn A.d_Device_learn
  b_Device_learn : Binds K A.d_Device_learn ["self", "known"] []
  m_Device_learn : Meth K A.C_Device "learn" A.f_Device_learn
  mk_Device : Mk K A.C_Device A.f_Device_init
  c_Outcome : Cls K A.C_Outcome
  g_Outcome : mg "Outcome" = some (.ref A.C_Outcome)
  n_Outcome_count : NoAttr K A.C_Outcome "count"
  n_Outcome_done : NoAttr K A.C_Outcome "done"
  n_Outcome_place : NoAttr K A.C_Outcome "place"
  n_Outcome_change : NoAttr K A.C_Outcome "change"
  F_Outcome_init : Fun K "__init__" "Outcome.__init__" s_Outcome_init A.f_Outcome_init A.d_Outcome_init
  b_Outcome_init : Binds K A.d_Outcome_init ["self", "count", "done", "place", "change"] []
  mk_Outcome : Mk K A.C_Outcome A.f_Outcome_init
  c_House : Cls K A.C_House
  g_House : mg "House" = some (.ref A.C_House)
  n_House_changes : NoAttr K A.C_House "changes"
  n_House_dates_made : NoAttr K A.C_House "dates_made"
  n_House_floor : NoAttr K A.C_House "floor"
  n_House_last_outcomes : NoAttr K A.C_House "last_outcomes"
  F_House_init : Fun K "__init__" "House.__init__" s_House_init A.f_House_init A.d_House_init
  b_House_init : Binds K A.d_House_init ["self"] []
  F_House_dates : Fun K "dates" "House.dates" s_House_dates A.f_House_dates A.d_House_dates
  b_House_dates : Binds K A.d_House_dates ["self"] []
  m_House_dates : Meth K A.C_House "dates" A.f_House_dates
  F_House_last_count : Fun K "last_count" "House.last_count" s_House_last_count A.f_House_last_count A.d_House_last_count
  b_House_last_count : Binds K A.d_House_last_count ["self", "device"] []
  m_House_last_count : Meth K A.C_House "last_count" A.f_House_last_count
  F_House_can_be_done : Fun K "can_be_done" "House.can_be_done" s_House_can_be_done A.f_House_can_be_done A.d_House_can_be_done
  b_House_can_be_done : Binds K A.d_House_can_be_done ["self", "change"] []
  m_House_can_be_done : Meth K A.C_House "can_be_done" A.f_House_can_be_done
  F_House_receive : Fun K "receive" "House.receive" s_House_receive A.f_House_receive A.d_House_receive
  b_House_receive : Binds K A.d_House_receive ["self", "change"] []
  m_House_receive : Meth K A.C_House "receive" A.f_House_receive
  F_House_numbered : Fun K "numbered" "House.numbered" s_House_numbered A.f_House_numbered A.d_House_numbered
  b_House_numbered : Binds K A.d_House_numbered ["self", "change"] []
  m_House_numbered : Meth K A.C_House "numbered" A.f_House_numbered
  mk_House : Mk K A.C_House A.f_House_init
  c_Calendar : Cls K A.C_Calendar
  g_Calendar : mg "Calendar" = some (.ref A.C_Calendar)
  n_Calendar_house : NoAttr K A.C_Calendar "house"
  n_Calendar_devices : NoAttr K A.C_Calendar "devices"
  F_Calendar_init : Fun K "__init__" "Calendar.__init__" s_Calendar_init A.f_Calendar_init A.d_Calendar_init
  b_Calendar_init : Binds K A.d_Calendar_init ["self"] []
  F_Calendar_answer : Fun K "answer" "Calendar.answer" s_Calendar_answer A.f_Calendar_answer A.d_Calendar_answer
  b_Calendar_answer : Binds K A.d_Calendar_answer ["self", "call", "given"] []
  m_Calendar_answer : Meth K A.C_Calendar "answer" A.f_Calendar_answer
  mk_Calendar : Mk K A.C_Calendar A.f_Calendar_init
  F_carry_out : Fun K "carry_out" "carry_out" s_carry_out A.f_carry_out A.d_carry_out
  b_carry_out : Binds K A.d_carry_out ["dates", "change"] []
  g_carry_out : mg "carry_out" = some (.ref A.f_carry_out)
  F_dates_behind : Fun K "dates_behind" "dates_behind" s_dates_behind A.f_dates_behind A.d_dates_behind
  b_dates_behind : Binds K A.d_dates_behind ["changes"] []
  g_dates_behind : mg "dates_behind" = some (.ref A.f_dates_behind)
  F_stands_against : Fun K "stands_against" "stands_against" s_stands_against A.f_stands_against A.d_stands_against
  b_stands_against : Binds K A.d_stands_against ["other", "change"] []
  g_stands_against : mg "stands_against" = some (.ref A.f_stands_against)
  F_answer_on_device : Fun K "answer_on_device" "answer_on_device" s_answer_on_device A.f_answer_on_device A.d_answer_on_device
  b_answer_on_device : Binds K A.d_answer_on_device ["house", "device", "call", "given"] []
  g_answer_on_device : mg "answer_on_device" = some (.ref A.f_answer_on_device)
  F_make_date : Fun K "make_date" "make_date" s_make_date A.f_make_date A.d_make_date
  b_make_date : Binds K A.d_make_date ["device", "fields"] []
  g_make_date : mg "make_date" = some (.ref A.f_make_date)
  F_set_field : Fun K "set_field" "set_field" s_set_field A.f_set_field A.d_set_field
  b_set_field : Binds K A.d_set_field ["house", "device", "date", "field", "what"] []
  g_set_field : mg "set_field" = some (.ref A.f_set_field)
  F_take_out : Fun K "take_out" "take_out" s_take_out A.f_take_out A.d_take_out
  b_take_out : Binds K A.d_take_out ["house", "device", "date"] []
  g_take_out : mg "take_out" = some (.ref A.f_take_out)
  F_change_shown : Fun K "change_shown" "change_shown" s_change_shown A.f_change_shown A.d_change_shown
  b_change_shown : Binds K A.d_change_shown ["house", "device", "kind", "date", "field", "what"] []
  g_change_shown : mg "change_shown" = some (.ref A.f_change_shown)
  F_push : Fun K "push" "push" s_push A.f_push A.d_push
  b_push : Binds K A.d_push ["house", "device", "how"] []
  g_push : mg "push" = some (.ref A.f_push)
  F_pull : Fun K "pull" "pull" s_pull A.f_pull A.d_pull
  b_pull : Binds K A.d_pull ["house", "device", "how"] []
  g_pull : mg "pull" = some (.ref A.f_pull)
  F_forget : Fun K "forget" "forget" s_forget A.f_forget A.d_forget
  b_forget : Binds K A.d_forget ["house", "floor"] []
  g_forget : mg "forget" = some (.ref A.f_forget)
  F_told_dates : Fun K "told_dates" "told_dates" s_told_dates A.f_told_dates A.d_told_dates
  b_told_dates : Binds K A.d_told_dates ["dates"] []
  g_told_dates : mg "told_dates" = some (.ref A.f_told_dates)
  F_told_clashes : Fun K "told_clashes" "told_clashes" s_told_clashes A.f_told_clashes A.d_told_clashes
  b_told_clashes : Binds K A.d_told_clashes ["clashes"] []
  g_told_clashes : mg "told_clashes" = some (.ref A.f_told_clashes)
  F_told_state : Fun K "told_state" "told_state" s_told_state A.f_told_state A.d_told_state
  b_told_state : Binds K A.d_told_state ["house", "device"] []
  g_told_state : mg "told_state" = some (.ref A.f_told_state)
  F_settle : Fun K "settle" "settle" s_settle A.f_settle A.d_settle
  b_settle : Binds K A.d_settle ["house", "device", "which", "again"] []
  g_settle : mg "settle" = some (.ref A.f_settle)
  F_settle_once_more : Fun K "settle_once_more" "settle_once_more" s_settle_once_more A.f_settle_once_more A.d_settle_once_more
  b_settle_once_more : Binds K A.d_settle_once_more ["house", "device", "which"] []
  g_settle_once_more : mg "settle_once_more" = some (.ref A.f_settle_once_more)
  F_answers : Fun K "answers" "answers" s_answers A.f_answers A.d_answers
  b_answers : Binds K A.d_answers ["calls"] []
  g_answers : mg "answers" = some (.ref A.f_answers)
  k_SET_FIELD : ∃ t, mg "SET_FIELD" = some (.int 0 t)
  k_TAKE_OUT : ∃ t, mg "TAKE_OUT" = some (.int 1 t)
  k_MAKE_DATE : ∃ t, mg "MAKE_DATE" = some (.int 2 t)
  k_MOST_MADE : ∃ t, mg "MOST_MADE" = some (.int 99 t)
  k_MOST_WAITING : ∃ t, mg "MOST_WAITING" = some (.int 20 t)
  k_DEVICES : ∃ t, mg "DEVICES" = some (.int 3 t)
  k_FIELDS : ∃ t, mg "FIELDS" = some (.int 3 t)
  k_LARGEST : ∃ t, mg "LARGEST" = some (.int 999 t)
  k_MAKE : ∃ t, mg "MAKE" = some (.int 0 t)
  k_SET : ∃ t, mg "SET" = some (.int 1 t)
  k_REMOVE : ∃ t, mg "REMOVE" = some (.int 2 t)
  k_PUSH : ∃ t, mg "PUSH" = some (.int 3 t)
  k_PULL : ∃ t, mg "PULL" = some (.int 4 t)
  k_FORGET : ∃ t, mg "FORGET" = some (.int 5 t)
  k_SHOWN : ∃ t, mg "SHOWN" = some (.int 6 t)
  k_HOUSE : ∃ t, mg "HOUSE" = some (.int 7 t)
  k_CLASHES : ∃ t, mg "CLASHES" = some (.int 8 t)
  k_SETTLE : ∃ t, mg "SETTLE" = some (.int 9 t)
  k_OUT_OF_BOUNDS : ∃ t, mg "OUT_OF_BOUNDS" = some (.int (-1) t)
  k_DATE_GONE : ∃ t, mg "DATE_GONE" = some (.int (-2) t)
  k_NO_DEVICE : ∃ t, mg "NO_DEVICE" = some (.int (-3) t)
  k_NOT_SHOWN : ∃ t, mg "NOT_SHOWN" = some (.int (-4) t)
  k_NO_CLASH : ∃ t, mg "NO_CLASH" = some (.int (-4) t)
  k_FULL : ∃ t, mg "FULL" = some (.int (-5) t)
  k_NOTHING_WAITS : ∃ t, mg "NOTHING_WAITS" = some (.int (-6) t)
  k_NOTHING_ANSWERED : ∃ t, mg "NOTHING_ANSWERED" = some (.int 0 t)
  k_DONE : ∃ t, mg "DONE" = some (.int 1 t)
  k_NOT_DONE : ∃ t, mg "NOT_DONE" = some (.int 2 t)
  k_MORE_KNOWN : ∃ t, mg "MORE_KNOWN" = some (.int 1 t)
  k_TOLD_ANEW : ∃ t, mg "TOLD_ANEW" = some (.int 2 t)
  k_PUSH_LOST : ∃ t, mg "PUSH_LOST" = some (.int 1 t)
  k_PUSH_ANSWER_LOST : ∃ t, mg "PUSH_ANSWER_LOST" = some (.int 2 t)
  k_PULL_LOST : ∃ t, mg "PULL_LOST" = some (.int 1 t)
  k_LET_GO : ∃ t, mg "LET_GO" = some (.int 0 t)
  k_ONCE_MORE : ∃ t, mg "ONCE_MORE" = some (.int 1 t)
  z_any : mg "any" = none
  z_len : mg "len" = none
  z_list : mg "list" = none
  z_max : mg "max" = none
  z_range : mg "range" = none
  t_CALL_SIZES : ∃ a, mg "CALL_SIZES" = some (.ref a) ∧ IntTab K a [(0, 4), (1, 4), (2, 2), (3, 2), (4, 2), (5, 1), (6, 1), (7, 0), (8, 1), (9, 3), (10, 1)]
/-! ### Changes as they lie in the heap -/
abbrev Edit := Cl07.Edit
def chF (e : Edit) (fa : Addr) : List (Str × V) := [("device", .int e.change.by_), ("count", .int e.change.count), ("knew", .int e.base), ("kind", .int e.change.kind), ("date", .int e.change.date), ("field", .int e.change.field), ("what", .int e.change.value), ("fields", .ref fa)]
def nats (l : List Nat) : List V := l.map fun (n : Nat) => V.int (n : Int)
def ChAt (A : Ad) (F : Hp) (a : Addr) (e : Edit) : Prop := ∃ dx fa, F a = some (.ins A.C_Change dx (chF e fa)) ∧ F fa = some (.lst (nats e.change.fields))
theorem ChAt.more {A : Ad} {F F' : Hp} {a : Addr} {e : Edit} (h : ChAt A F a e) (s : Same F F') : ChAt A F' a e := by
  obtain ⟨dx, fa, h1, h2⟩ := h
  exact ⟨dx, fa, s _ _ h1, s _ _ h2⟩
theorem chF_device (e : Edit) (fa : Addr) : (chF e fa).lookup ("device" : Str) = some (.int e.change.by_) := by rfl
theorem chF_count (e : Edit) (fa : Addr) : (chF e fa).lookup ("count" : Str) = some (.int e.change.count) := by rfl
theorem chF_knew (e : Edit) (fa : Addr) : (chF e fa).lookup ("knew" : Str) = some (.int e.base) := by rfl
theorem chF_kind (e : Edit) (fa : Addr) : (chF e fa).lookup ("kind" : Str) = some (.int e.change.kind) := by rfl
theorem chF_date (e : Edit) (fa : Addr) : (chF e fa).lookup ("date" : Str) = some (.int e.change.date) := by rfl
theorem chF_field (e : Edit) (fa : Addr) : (chF e fa).lookup ("field" : Str) = some (.int e.change.field) := by rfl
theorem chF_what (e : Edit) (fa : Addr) : (chF e fa).lookup ("what" : Str) = some (.int e.change.value) := by rfl
theorem chF_fields (e : Edit) (fa : Addr) : (chF e fa).lookup ("fields" : Str) = some (.ref fa) := by rfl
theorem chF_with_date (e : Edit) (fa : Addr) : (chF e fa).lookup ("with_date" : Str) = none := by rfl
section
variable {P : Program} {w : World} {K : PySem.W.Frag} {mg : Str → Option Value} {base : Heap} {A : Ad}
/-- all that stood in H, but at the places of C, stands in H' -/
def Keeps (C : Addr → Prop) (H H' : Hp) : Prop := ∀ b o, H b = some o → ¬ C b → H' b = some o
def spChangeInit (A : Ad) : Sp := fun vs H Q _ => ∃ (p dx fa : Addr) (e : Edit), vs = [.ref p, .int e.change.by_, .int e.change.count, .int e.base, .int e.change.kind, .int e.change.date, .int e.change.field, .int e.change.value, .ref fa] ∧ H p = some (.ins A.C_Change dx []) ∧
  ∀ H' : Hp, H' p = some (.ins A.C_Change dx (chF e fa)) → Keeps (· = p) H H' → Q .non H'
theorem ok_Change_init (T : All K mg A) : FnOk P w K mg base CX0 1 A.f_Change_init A.d_Change_init ["self", "device", "count", "knew", "kind", "date", "field", "what", "fields"] (spChangeInit A) := by
  refine T.F_Change_init.ok sc_Change_init (fun vs H Q E h => ?_) (fun cdv B outer s H vs Q E hr h => ?_)
  · obtain ⟨p, dx, fa, e, rfl, _⟩ := h
    rfl
  · obtain ⟨p, dx, fa, e, rfl, hp, k⟩ := h
    refine ⟨_, pss_cons (ps_fld (pv 0) (pv 1) rfl) (pss_cons (ps_fld (pv 0) (pv 2) rfl) (pss_cons (ps_fld (pv 0) (pv 3) rfl) (pss_cons (ps_fld (pv 0) (pv 4) rfl) (pss_cons (ps_fld (pv 0) (pv 5) rfl) (pss_cons (ps_fld (pv 0) (pv 6) rfl) (pss_cons (ps_fld (pv 0) (pv 7) rfl) (pss_one (ps_fld (pv 0) (pv 8) rfl)))))))), ?_⟩
    refine ⟨_, rfl, _, rfl, p, _, dx, _, rfl, hp, T.c_Change, T.n_Change_device, (by show 0 < 1000; decide), ?_⟩
    refine ⟨_, rfl, _, rfl, p, _, dx, _, rfl, upd_same, T.c_Change, T.n_Change_count, (by show 1 < 1000; decide), ?_⟩
    refine ⟨_, rfl, _, rfl, p, _, dx, _, rfl, upd_same, T.c_Change, T.n_Change_knew, (by show 2 < 1000; decide), ?_⟩
    refine ⟨_, rfl, _, rfl, p, _, dx, _, rfl, upd_same, T.c_Change, T.n_Change_kind, (by show 3 < 1000; decide), ?_⟩
    refine ⟨_, rfl, _, rfl, p, _, dx, _, rfl, upd_same, T.c_Change, T.n_Change_date, (by show 4 < 1000; decide), ?_⟩
    refine ⟨_, rfl, _, rfl, p, _, dx, _, rfl, upd_same, T.c_Change, T.n_Change_field, (by show 5 < 1000; decide), ?_⟩
    refine ⟨_, rfl, _, rfl, p, _, dx, _, rfl, upd_same, T.c_Change, T.n_Change_what, (by show 6 < 1000; decide), ?_⟩
    refine ⟨_, rfl, _, rfl, p, _, dx, _, rfl, upd_same, T.c_Change, T.n_Change_fields, (by show 7 < 1000; decide), ?_⟩
    refine k _ upd_same fun b o h hb => ?_
    rw [upd_ne hb, upd_ne hb, upd_ne hb, upd_ne hb, upd_ne hb, upd_ne hb, upd_ne hb, upd_ne hb]
    exact h
end
/-! ### What was frozen stays; what changes -/
structure Ext (C : Addr → Prop) (F H F' H' : Hp) : Prop where
  fz : Same F F'
  sub : Same F' H'
  fr : Keeps C H H'
  nf : ∀ b, H b ≠ none → F' b = F b
  al : ∀ b, H b ≠ none → H' b ≠ none
theorem Ext.refl {C : Addr → Prop} {F H : Hp} (s : Same F H) : Ext C F H F H := ⟨Same.refl _, s, fun _ _ h _ => h, fun _ _ => rfl, fun _ h => h⟩
theorem Ext.trans {C D : Addr → Prop} {F H F1 H1 F2 H2 : Hp} (a : Ext C F H F1 H1) (b : Ext D F1 H1 F2 H2) : Ext (fun x => C x ∨ D x) F H F2 H2 :=
  ⟨a.fz.trans b.fz, b.sub, fun x o h n => b.fr x o (a.fr x o h fun c => n (.inl c)) fun d => n (.inr d), fun x h => (b.nf x (a.al x h)).trans (a.nf x h), fun x h => b.al x (a.al x h)⟩
theorem Ext.weaken {C D : Addr → Prop} {F H F1 H1 : Hp} (a : Ext C F H F1 H1) (h : ∀ x, H x ≠ none → C x → D x) : Ext D F H F1 H1 :=
  ⟨a.fz, a.sub, fun x o q n => a.fr x o q fun c => n (h x (by rw [q]; simp) c), a.nf, a.al⟩
theorem ne_none {H : Hp} {b : Addr} {o : HO} (h : H b = some o) : H b ≠ none := by rw [h]; simp
theorem free_of {F H : Hp} (s : Same F H) {p : Addr} (h : H p = none) : F p = none := s.free h
/-- a store at a place that is not frozen -/
theorem Ext.put {F H : Hp} {p : Addr} {o u : HO} (s : Same F H) (hp : H p = some u) (np : F p = none) : Ext (· = p) F H F (upd H p o) :=
  ⟨Same.refl _, fun b x h => by rw [upd_ne (ne_of_none h np)]; exact s b x h, fun b x h n => by rw [upd_ne n]; exact h, fun _ _ => rfl, fun b h => by
    by_cases e : b = p
    · rw [e, upd_same]; simp
    · rw [upd_ne e]; exact h⟩
/-- a new object -/
theorem Same.new {H : Hp} {p : Addr} {o : HO} (h : H p = none) : Same H (upd H p o) := fun b x q => by rw [upd_ne (ne_of_none q h)]; exact q
theorem Ext.of_same {F H H' : Hp} (s : Same F H) (t : Same H H') : Ext (fun _ => False) F H F H' :=
  ⟨Same.refl _, s.trans t, fun b o h _ => t b o h, fun _ _ => rfl, fun b h => by
    cases e : H b with
    | none => exact absurd e h
    | some o => rw [t b o e]; simp⟩
/-- what is new is frozen -/
theorem Ext.freeze {C : Addr → Prop} {F H F1 H1 : Hp} {p : Addr} {o : HO} (a : Ext C F H F1 H1) (new : H p = none) (nf : F1 p = none) (h : H1 p = some o) : Ext C F H (upd F1 p o) H1 :=
  ⟨fun b x q => by rw [upd_ne (ne_of_none (a.fz b x q) nf)]; exact a.fz b x q,
   fun b x q => by
    by_cases e : b = p
    · subst e; rw [upd_same] at q; rw [h]; exact q
    · rw [upd_ne e] at q; exact a.sub b x q,
   a.fr, fun b q => by
    have e : b ≠ p := fun e => q (by rw [e]; exact new)
    rw [upd_ne e]; exact a.nf b q, a.al⟩
def setDate (e : Edit) (n : Nat) : Edit := { e with change := { e.change with date := n } }
section
variable {P : Program} {w : World} {K : PySem.W.Frag} {mg : Str → Option Value} {base : Heap} {A : Ad}
/-- a new Change, made of the fields at hand: what a call of the class leaves -/
theorem made_change {F H H1 : Hp} {x dx fa : Addr} {e : Edit} (s : Same F H) (nx : H x = none) (nd : H dx = none) (hfa : F fa = some (.lst (nats e.change.fields)))
    (h : H1 x = some (.ins A.C_Change dx (chF e fa))) (kp : Keeps (· = x) (upd (upd H dx (.own x)) x (.ins A.C_Change dx [])) H1) :
    ∃ F1, ChAt A F1 x e ∧ Ext (fun _ => False) F H F1 H1 ∧ F x = none := by
  have sm : Same H H1 := Same.made nx nd kp
  have np := free_of s nx
  refine ⟨upd F x (.ins A.C_Change dx (chF e fa)), ⟨dx, fa, upd_same, ?_⟩, (Ext.of_same s sm).freeze nx np h, np⟩
  rw [upd_ne (ne_of_none hfa np)]; exact hfa
def spWithDate (A : Ad) : Sp := fun vs H Q _ => ∃ (a : Addr) (e : Edit) (n : Nat) (F : Hp), vs = [.ref a, .int n] ∧ ChAt A F a e ∧ Same F H ∧
  ∀ (F' H' : Hp) (c : Addr), H c = none → ChAt A F' c (setDate e n) → Ext (fun _ => False) F H F' H' → Q (.ref c) H'
theorem ok_Change_with_date (T : All K mg A) : FnOk P w K mg base CX0 3 A.f_Change_with_date A.d_Change_with_date ["self", "date"] (spWithDate A) := by
  refine T.F_Change_with_date.ok sc_Change_with_date (fun vs H Q E h => ?_) (fun cdv B outer s H vs Q E hr h => ?_)
  · obtain ⟨a, e, n, F, rfl, _⟩ := h
    rfl
  · obtain ⟨a, e, n, F, rfl, ⟨dx, fa, h1, h2⟩, sm, k⟩ := h
    refine ⟨_, pss_one (ps_ret (pe_make T.mk_Change (ok_Change_init T) hr rfl T.g_Change T.b_Change_init .nil pass0 (pa_cons (pe_fld (pv 0) rfl) (pa_cons (pe_fld (pv 0) rfl) (pa_cons (pe_fld (pv 0) rfl) (pa_cons (pe_fld (pv 0) rfl) (pa_cons (pv 1) (pa_cons (pe_fld (pv 0) rfl) (pa_cons (pe_fld (pv 0) rfl) (pa_cons (pe_fld (pv 0) rfl) pa_nil)))))))))), ?_⟩
    have g := sm _ _ h1
    refine ⟨_, rfl, a, _, dx, _, _, rfl, g, T.c_Change, T.n_Change_device, chF_device _ _, _, rfl, a, _, dx, _, _, rfl, g, T.c_Change, T.n_Change_count, chF_count _ _, _, rfl, a, _, dx, _, _, rfl, g, T.c_Change, T.n_Change_knew, chF_knew _ _, _, rfl, a, _, dx, _, _, rfl, g, T.c_Change, T.n_Change_kind, chF_kind _ _, _, rfl, _, rfl, a, _, dx, _, _, rfl, g, T.c_Change, T.n_Change_field, chF_field _ _, _, rfl, a, _, dx, _, _, rfl, g, T.c_Change, T.n_Change_what, chF_what _ _, _, rfl, a, _, dx, _, _, rfl, g, T.c_Change, T.n_Change_fields, chF_fields _ _, ?_⟩
    intro x dx' nx nd ne
    refine ⟨x, dx', fa, setDate e n, rfl, upd_same, fun H1 hx kp => ?_⟩
    obtain ⟨F1, c1, x1, _⟩ := made_change (e := setDate e n) sm nx nd h2 hx kp
    exact ⟨rfl, k F1 H1 x nx c1 x1⟩
end
/-! ### Dates as a dict -/
abbrev DP := Cl07.Date × Addr
def kvsOf (ps : List DP) : List (Key × V) := ps.map fun (q : DP) => (Sum.inl (q.1.id : Int), V.ref q.2)
def dsOf (ps : List DP) : List Cl07.Date := ps.map (·.1)
def asOf2 (ps : List DP) : List Addr := ps.map (·.2)
structure DatesAt (F H : Hp) (p : Addr) (ps : List DP) : Prop where
  at_ : H p = some (.dK (kvsOf ps))
  nd : (asOf2 ps).Nodup
  it : ∀ q ∈ ps, H q.2 = some (.lst (nats q.1.fields))
  fp : F p = none
  fi : ∀ q ∈ ps, F q.2 = none
theorem valV_kvs_none {n : Nat} : ∀ {ps : List DP}, (∀ q ∈ ps, q.1.id ≠ n) → valV (kvsOf ps) (Sum.inl (n : Int)) = none
  | [], _ => rfl
  | q :: r, h => by
    have h0 := h q (List.mem_cons_self ..)
    show valV ((Sum.inl (q.1.id : Int), V.ref q.2) :: kvsOf r) _ = none
    rw [valV_neg (fun e => h0 (by have := Sum.inl.inj e; omega))]
    exact valV_kvs_none fun q' m => h q' (List.mem_cons_of_mem _ m)
theorem valV_kvs_some {n : Nat} : ∀ {ps : List DP} {q : DP}, q ∈ ps → q.1.id = n → ((dsOf ps).map (·.id)).Nodup → valV (kvsOf ps) (Sum.inl (n : Int)) = some (.ref q.2)
  | [], q, m, _, _ => by cases m
  | r :: ps, q, m, e, nd => by
    have nd' := List.nodup_cons.mp (show (r.1.id :: (dsOf ps).map (·.id)).Nodup from nd)
    show valV ((Sum.inl (r.1.id : Int), V.ref r.2) :: kvsOf ps) _ = _
    rcases List.mem_cons.mp m with m | m
    · subst m
      rw [valV_pos (by show Sum.inl (q.1.id : Int) = _; rw [e])]
    · have ne : r.1.id ≠ n := fun x => nd'.1 (by
        rw [x, ← e]
        exact List.mem_map.mpr ⟨q.1, List.mem_map.mpr ⟨q, m, rfl⟩, rfl⟩)
      rw [valV_neg (fun z => ne (by have := Sum.inl.inj z; omega))]
      exact valV_kvs_some m e nd'.2
def setP (i : Nat) (g : List Nat → List Nat) (q : DP) : DP := if q.1.id = i then ({ q.1 with fields := g q.1.fields }, q.2) else q
theorem setP_2 (i : Nat) (g : List Nat → List Nat) (q : DP) : (setP i g q).2 = q.2 := by unfold setP; split <;> rfl
theorem setP_id (i : Nat) (g : List Nat → List Nat) (q : DP) : (setP i g q).1.id = q.1.id := by unfold setP; split <;> rfl
theorem kvs_set (ps : List DP) (i : Nat) (g : List Nat → List Nat) : kvsOf (ps.map (setP i g)) = kvsOf ps := by
  unfold kvsOf
  rw [List.map_map]
  refine List.map_congr_left fun q _ => ?_
  show (Sum.inl ((setP i g q).1.id : Int), V.ref (setP i g q).2) = _
  rw [setP_2, setP_id]
theorem as_set (ps : List DP) (i : Nat) (g : List Nat → List Nat) : asOf2 (ps.map (setP i g)) = asOf2 ps := by
  unfold asOf2
  rw [List.map_map]
  exact List.map_congr_left fun q _ => setP_2 ..
theorem ds_set (ps : List DP) (c : Cl07.Change) (h : c.kind = 0) : dsOf (ps.map (setP c.date fun l => l.set c.field c.value)) = Cl07.apply (dsOf ps) c := by
  rw [apply_set h]
  unfold dsOf
  rw [List.map_map, List.map_map]
  refine List.map_congr_left fun q _ => ?_
  show (setP c.date _ q).1 = if q.1.id = c.date then _ else _
  unfold setP
  split <;> rfl
theorem kvs_drop (ps : List DP) (i : Nat) : kvsOf (ps.filter fun (q : DP) => q.1.id != i) = dropK (kvsOf ps) (Sum.inl (i : Int)) := by
  unfold kvsOf dropK
  rw [List.filter_map]
  congr 1
  refine List.filter_congr fun q _ => ?_
  by_cases e : q.1.id = i
  · subst e; simp
  · have e' : ¬ (q.1.id : Int) = (i : Int) := fun z => e (by omega)
    simp [e, e']
theorem ds_drop (ps : List DP) (c : Cl07.Change) (h : c.kind = 1) : dsOf (ps.filter fun (q : DP) => q.1.id != c.date) = Cl07.apply (dsOf ps) c := by
  rw [apply_out h]
  unfold dsOf
  rw [List.filter_map]
  rfl
theorem apply_absent {ds : List Cl07.Date} {c : Cl07.Change} (k : c.kind ≤ 1) (h : ∀ x ∈ ds, x.id ≠ c.date) : Cl07.apply ds c = ds := by
  by_cases e : c.kind = 0
  · rw [apply_set e]
    conv => rhs; rw [← List.map_id ds]
    refine List.map_congr_left fun x m => ?_
    rw [if_neg (h x m)]; rfl
  · rw [apply_out (by omega)]
    exact List.filter_eq_self.mpr fun x m => by simp [h x m]
theorem nats_set (l : List Nat) (i v : Nat) : (nats l).set i (.int v) = nats (l.set i v) := by
  unfold nats; rw [List.map_set]
theorem nats_len (l : List Nat) : (nats l).length = l.length := List.length_map _
theorem mem_as {ps : List DP} {q : DP} (h : q ∈ ps) : q.2 ∈ asOf2 ps := List.mem_map.mpr ⟨q, h, rfl⟩
theorem as_inj {ps : List DP} (nd : (asOf2 ps).Nodup) {q r : DP} (hq : q ∈ ps) (hr : r ∈ ps) (e : q.2 = r.2) : q = r := by
  obtain ⟨i, hi⟩ := List.mem_iff_getElem?.mp hq
  obtain ⟨j, hj⟩ := List.mem_iff_getElem?.mp hr
  have hi' : (asOf2 ps)[i]? = some q.2 := by unfold asOf2; rw [List.getElem?_map, hi]; rfl
  have hj' : (asOf2 ps)[j]? = some q.2 := by unfold asOf2; rw [List.getElem?_map, hj, e]; rfl
  have := nd_ix nd hi' hj'
  subst this
  rw [hi] at hj
  exact Option.some.inj hj
/-- the dict, its lists: a place of either is not p, and not a place of what stands apart -/
theorem DatesAt.ne {F H : Hp} {p : Addr} {ps : List DP} (D : DatesAt F H p ps) {q : DP} (h : q ∈ ps) : q.2 ≠ p := ne_of (D.it q h) D.at_ (by intro z; cases z)
section
variable {P : Program} {w : World} {K : PySem.W.Frag} {mg : Str → Option Value} {base : Heap} {A : Ad}
def spCarry (A : Ad) : Sp := fun vs H Q _ => ∃ (p c : Addr) (ps : List DP) (e : Edit) (F : Hp), vs = [.ref p, .ref c] ∧ DatesAt F H p ps ∧ ChAt A F c e ∧ Same F H ∧ DatesOk (dsOf ps) ∧ GoodC e.change ∧
  (e.change.kind = 2 → e.change.date ∉ (dsOf ps).map (·.id)) ∧ ps.length < sizeLine ∧
  ∀ (H' : Hp) (ps' : List DP), DatesAt F H' p ps' → dsOf ps' = Cl07.apply (dsOf ps) e.change → Keeps (fun b => b = p ∨ b ∈ asOf2 ps) H H' → (∀ q ∈ ps', q.2 ∈ asOf2 ps ∨ H q.2 = none) → Q .non H'
theorem ok_carry_out (T : All K mg A) : FnOk P w K mg base CX0 1 A.f_carry_out A.d_carry_out ["dates", "change"] (spCarry A) := by
  refine T.F_carry_out.ok sc_carry_out (fun vs H Q E h => ?_) (fun cdv B outer s H vs Q E hr h => ?_)
  · obtain ⟨p, c, ps, e, F, rfl, _⟩ := h
    rfl
  · obtain ⟨p, c, ps, e, F, rfl, D, ⟨dx, fa, h1, h2⟩, sm, ok, gd, fresh, sz, k⟩ := h
    have hu := hu_of hr
    have g := sm _ _ h1
    refine ⟨_, pss_one (ps_if (pt_cmpR op_eq (pe_fld (pv 1) rfl) (pe_k rfl T.k_MAKE_DATE) (nomark _))
      (pss_one (ps_dput hu (pv 0) (pe_fld (pv 1) rfl) (pe_callTy call_list_of (by rfl) T.z_list (by decide +kernel) (pa_cons (pe_fld (pv 1) rfl) pa_nil)) rfl))
      (pss_one (ps_if (pt_cmp (pc_dnotin hu (pe_fld (pv 1) rfl) (pv 0))) (pss_one ps_retN)
        (pss_one (ps_if (pt_cmpR op_eq (pe_fld (pv 1) rfl) (pe_k rfl T.k_SET_FIELD) (nomark _))
          (pss_one (ps_asg (pe_fld (pv 1) rfl) (pg_sub (pe_dget hu (pv 0) (pe_fld (pv 1) rfl) (fun _ _ => rfl)) (pe_fld (pv 1) rfl) set_list)))
          (pss_one (ps_expr (pe_dpop1 (pv 0) (pe_fld (pv 1) rfl) ⟨rfl, rfl, rfl, rfl⟩)))))))), ?_⟩
    have out : ∀ {i : Nat}, ¬ (∃ q ∈ ps, q.1.id = i) → ∀ q ∈ ps, q.1.id ≠ i := fun h q m z => h ⟨q, m, z⟩
    refine ⟨_, rfl, c, _, dx, _, _, rfl, g, T.c_Change, T.n_Change_kind, chF_kind _ _, rfl, _, rfl, ?_⟩
    refine ite2 (fun k2 => ?_) (fun k2 => ?_)
    · -- a date is made
      have k2' : e.change.kind = 2 := by
        have := of_decide_eq_true k2
        have := V.int.inj this
        omega
      have no : ∀ q ∈ ps, q.1.id ≠ e.change.date := fun q m z => fresh k2' (by rw [← z]; exact List.mem_map.mpr ⟨q.1, List.mem_map.mpr ⟨q, m, rfl⟩, rfl⟩)
      refine ⟨_, rfl, c, _, dx, _, _, rfl, g, T.c_Change, T.n_Change_fields, chF_fields _ _, fa, _, rfl, .inl (SqL.of (sm _ _ h2)), fun l hl => ?_⟩
      have sn : Same H (upd H l (.lst (nats e.change.fields))) := Same.new hl
      refine ⟨_, rfl, _, rfl, c, _, dx, _, _, rfl, sn _ _ g, T.c_Change, T.n_Change_date, chF_date _ _, p, _, rfl, DPut.k (k := Sum.inl (e.change.date : Int)) (sn _ _ D.at_) (by unfold kvsOf; rw [List.length_map]; exact sz), ?_⟩
      have lp : l ≠ p := fun z => by rw [z, D.at_] at hl; cases hl
      rw [putK_new _ (valV_kvs_none no)]
      refine k _ (ps ++ [(⟨e.change.date, e.change.fields⟩, l)]) ⟨?_, ?_, ?_, D.fp, ?_⟩ ?_ ?_ ?_
      · rw [upd_same]
        unfold kvsOf
        rw [List.map_append]
        rfl
      · unfold asOf2
        rw [List.map_append]
        refine nd_snoc D.nd fun m => ?_
        obtain ⟨q, hq, eq⟩ := List.mem_map.mp m
        have := D.it q hq
        rw [eq, hl] at this
        cases this
      · intro q m
        rcases List.mem_append.mp m with m | m
        · rw [upd_ne (D.ne m)]
          exact sn _ _ (D.it q m)
        · simp at m; subst m
          rw [upd_ne lp, upd_same]
      · intro q m
        rcases List.mem_append.mp m with m | m
        · exact D.fi q m
        · simp at m; subst m
          exact free_of sm hl
      · rw [apply_make k2']
        unfold dsOf
        rw [List.map_append]
        rfl
      · intro b o hb nb
        rw [upd_ne (fun z => nb (.inl z))]
        exact sn _ _ hb
      · intro q m
        rcases List.mem_append.mp m with m | m
        · exact .inl (mem_as m)
        · simp at m; subst m
          exact .inr hl
    · have k2' : e.change.kind ≤ 1 := by
        have := gd.kind
        have n2 : ¬ e.change.kind = 2 := fun z => k2 (decide_eq_true (by rw [z]; rfl))
        omega
      refine ⟨_, rfl, c, _, dx, _, _, rfl, g, T.c_Change, T.n_Change_date, chF_date _ _, _, rfl, p, _, rfl, DGet.k (k := Sum.inl (e.change.date : Int)) D.at_, _, rfl, ?_⟩
      by_cases hex : ∃ q ∈ ps, q.1.id = e.change.date
      · obtain ⟨q, hq, eq⟩ := hex
        have hv := valV_kvs_some hq eq ok.nd
        rw [hv]
        refine iteF ?_
        refine ⟨_, rfl, c, _, dx, _, _, rfl, g, T.c_Change, T.n_Change_kind, chF_kind _ _, rfl, _, rfl, ?_⟩
        refine ite2 (fun k0 => ?_) (fun k0 => ?_)
        · -- a field is set
          have k0' : e.change.kind = 0 := by
            have := of_decide_eq_true k0
            have := V.int.inj this
            omega
          have hf := gd.field k0'
          have hlen := ok.len q.1 (List.mem_map.mpr ⟨q, hq, rfl⟩)
          refine ⟨_, rfl, c, _, dx, _, _, rfl, g, T.c_Change, T.n_Change_what, chF_what _ _, _, rfl, _, rfl, c, _, dx, _, _, rfl, g, T.c_Change, T.n_Change_date, chF_date _ _, p, _, rfl, (by
            have := DGet.k (k := Sum.inl (e.change.date : Int)) D.at_
            rw [hv] at this
            exact this), _, rfl, c, _, dx, _, _, rfl, g, T.c_Change, T.n_Change_field, chF_field _ _, q.2, _, _, e.change.field, rfl, rfl, D.it q hq, ?_, ?_⟩
          · unfold ixN
            rw [if_pos (by omega), if_pos (by rw [nats_len, hlen]; omega)]
            rfl
          · rw [nats_set]
            refine k _ (ps.map (setP e.change.date fun l => l.set e.change.field e.change.value)) ⟨?_, ?_, ?_, D.fp, ?_⟩ (ds_set ps _ k0') ?_ ?_
            · rw [upd_ne (fun z => D.ne hq z.symm), kvs_set]; exact D.at_
            · rw [as_set]; exact D.nd
            · intro r m
              obtain ⟨r0, m0, rfl⟩ := List.mem_map.mp m
              rw [setP_2]
              by_cases z : r0.2 = q.2
              · have := as_inj D.nd m0 hq z
                subst this
                rw [upd_same]
                unfold setP
                rw [if_pos eq]
              · rw [upd_ne z, D.it r0 m0]
                unfold setP
                rw [if_neg]
                intro i
                have a1 := valV_kvs_some m0 i ok.nd
                rw [hv] at a1
                exact z (V.ref.inj (Option.some.inj a1)).symm
            · intro r m
              obtain ⟨r0, m0, rfl⟩ := List.mem_map.mp m
              rw [setP_2]; exact D.fi r0 m0
            · intro b o hb nb
              rw [upd_ne (fun z => nb (.inr (by rw [z]; exact mem_as hq)))]
              exact hb
            · intro r m
              obtain ⟨r0, m0, rfl⟩ := List.mem_map.mp m
              rw [setP_2]; exact .inl (mem_as m0)
        · -- it is taken out
          have k1' : e.change.kind = 1 := by
            have n0 : ¬ e.change.kind = 0 := fun z => k0 (decide_eq_true (by rw [z]; rfl))
            omega
          refine ⟨_, rfl, p, rfl, .inl ⟨_, .inl D.at_⟩, _, rfl, c, _, dx, _, _, rfl, g, T.c_Change, T.n_Change_date, chF_date _ _, _, Sum.inl (e.change.date : Int), _, D.at_, rfl, hv, ?_⟩
          refine k _ (ps.filter fun (q : DP) => q.1.id != e.change.date) ⟨?_, ?_, ?_, D.fp, ?_⟩ (ds_drop ps _ k1') ?_ ?_
          · rw [upd_same, kvs_drop]
          · exact D.nd.sublist (List.filter_sublist.map _)
          · intro r m
            have m0 := (List.mem_filter.mp m).1
            rw [upd_ne (D.ne m0)]; exact D.it r m0
          · intro r m
            exact D.fi r (List.mem_filter.mp m).1
          · intro b o hb nb
            rw [upd_ne (fun z => nb (.inl z))]
            exact hb
          · intro r m
            exact .inl (mem_as (List.mem_filter.mp m).1)
      · rw [valV_kvs_none (out hex)]
        refine iteT ?_
        refine k H ps D ?_ (fun _ _ h _ => h) (fun q m => .inl (mem_as m))
        refine (apply_absent k2' ?_).symm
        intro x m
        obtain ⟨q, hq, rfl⟩ := List.mem_map.mp m
        exact out hex q hq
end
/-! ### Lists of changes; the dates behind them -/
abbrev CP := Addr × Edit
def refs (ps : List CP) : List V := ps.map fun (q : CP) => V.ref q.1
def eds (ps : List CP) : List Edit := ps.map (·.2)
def chs (ps : List CP) : List Cl07.Change := ps.map fun (q : CP) => q.2.change
def AllCh (A : Ad) (F : Hp) (ps : List CP) : Prop := ∀ q ∈ ps, ChAt A F q.1 q.2
theorem AllCh.more {A : Ad} {F F' : Hp} {ps : List CP} (h : AllCh A F ps) (s : Same F F') : AllCh A F' ps := fun q m => (h q m).more s
theorem chs_eds (ps : List CP) : chs ps = (eds ps).map (·.change) := by
  unfold chs eds; rw [List.map_map]; rfl
theorem refs_len (ps : List CP) : (refs ps).length = ps.length := List.length_map _
theorem chs_len (ps : List CP) : (chs ps).length = ps.length := List.length_map _
theorem eds_len (ps : List CP) : (eds ps).length = ps.length := List.length_map _
theorem take_more {α : Type} {l : List α} {i : Nat} {x : α} (h : l[i]? = some x) : l.take (i + 1) = l.take i ++ [x] := by
  rw [List.take_add_one, h]; rfl
theorem refs_get {ps : List CP} {i : Nat} {y : V} (h : (refs ps)[i]? = some y) : ∃ q, ps[i]? = some q ∧ y = .ref q.1 := by
  unfold refs at h
  rw [List.getElem?_map] at h
  cases e : ps[i]? with
  | none => rw [e] at h; cases h
  | some q => rw [e] at h; exact ⟨q, rfl, (Option.some.inj h).symm⟩
theorem chs_get {ps : List CP} {i : Nat} {q : CP} (h : ps[i]? = some q) : (chs ps)[i]? = some q.2.change := by
  unfold chs; rw [List.getElem?_map, h]; rfl
theorem dec_nat (a b : Nat) : decide (V.int (a : Int) = V.int (b : Int)) = decide (a = b) := by
  by_cases h : a = b
  · subst h; simp
  · rw [decide_eq_false h, decide_eq_false]
    intro z; have := V.int.inj z; omega
theorem dec0 (a : Nat) : decide (V.int (a : Int) = V.int 0) = decide (a = 0) := dec_nat a 0
theorem dec1 (a : Nat) : decide (V.int (a : Int) = V.int 1) = decide (a = 1) := dec_nat a 1
theorem dec2 (a : Nat) : decide (V.int (a : Int) = V.int 2) = decide (a = 2) := dec_nat a 2
section
variable {P : Program} {w : World} {K : PySem.W.Frag} {mg : Str → Option Value} {base : Heap} {A : Ad}
def spDatesBehind (A : Ad) : Sp := fun vs H Q _ => ∃ (l : Addr) (ps : List CP) (F : Hp), vs = [.ref l] ∧ H l = some (.lst (refs ps)) ∧ AllCh A F ps ∧ Same F H ∧ (∀ c ∈ chs ps, GoodC c) ∧ Fresh (chs ps) ∧ ps.length ≤ 1000 ∧
  ∀ (H' : Hp) (p : Addr) (qs : List DP), DatesAt F H' p qs → dsOf qs = (chs ps).foldl Cl07.apply [] → Same H H' → H p = none → (∀ q ∈ qs, H q.2 = none) → Q (.ref p) H'
theorem ok_dates_behind (T : All K mg A) : FnOk P w K mg base CX0 2 A.f_dates_behind A.d_dates_behind ["changes"] (spDatesBehind A) := by
  refine T.F_dates_behind.ok sc_dates_behind (fun vs H Q E h => ?_) (fun cdv B outer s H vs Q E hr h => ?_)
  · obtain ⟨l, ps, F, rfl, _⟩ := h
    rfl
  · obtain ⟨l, ps, F, rfl, hl, ac, sm, gd, fr, len, k⟩ := h
    refine ⟨_, pss_cons (ps_set (i := 1) sc_dates_behind.nd rfl (Or.inl rfl) pe_dnewK)
      (pss_cons (ps_for PassesOwn.never rfl (pi_list (pv 0)) (pg_name (i := 2) sc_dates_behind.nd rfl (Or.inl rfl))
        (pss_one (ps_expr (pe_call (ok_carry_out T) hr rfl T.g_carry_out T.F_carry_out.kp T.b_carry_out .nil pass0 (pa_cons (pv 1) (pa_cons (pv 2) pa_nil))))))
      (pss_one (ps_ret (pv 1)))), ?_⟩
    intro p np
    have s0 : Same H (upd H p (.dK [])) := Same.new np
    have fp : F p = none := free_of sm np
    refine ⟨_, rfl, l, rfl, ⟨_, SqL.of (s0 _ _ hl)⟩, for_list (K := K) (a := l) (xs := refs ps)
      (fun i σ H' => ∃ (v : Option V) (qs : List DP), σ = [some (.ref l), some (.ref p), v] ∧ DatesAt F H' p qs ∧ dsOf qs = ((chs ps).take i).foldl Cl07.apply [] ∧ Same H H' ∧ ∀ q ∈ qs, H q.2 = none)
      ⟨none, [], rfl, ⟨upd_same, List.nodup_nil, fun q m => (by cases m), fp, fun q m => (by cases m)⟩, rfl, s0, fun q m => (by cases m)⟩
      (fun i σ H' _ ⟨_, _, _, _, _, s1, _⟩ => SqL.of (s1 _ _ hl)) ?_ ?_⟩
    · rintro i y σ H' hi ⟨v, qs, rfl, D, ds, s1, nw⟩
      obtain ⟨q, hq, rfl⟩ := refs_get hi
      have hc := chs_get hq
      have at_ := dates_at gd fr hc
      have il : i < ps.length := (List.getElem?_eq_some_iff.mp hq).1
      have ql : qs.length ≤ i := by
        have e1 : qs.length = (dsOf qs).length := by unfold dsOf; rw [List.length_map]
        have e2 := fold_length ((chs ps).take i) []
        rw [e1, ds]
        have e3 : ((chs ps).take i).length ≤ i := List.length_take_le _ _
        simp at e2
        omega
      refine ⟨_, rfl, _, rfl, p, q.1, qs, q.2, F, rfl, D, ac q (List.mem_of_getElem? hq), sm.trans s1, by rw [ds]; exact at_.1, gd _ (List.mem_of_getElem? hc), by rw [ds]; exact at_.2, small1000 (by omega), ?_⟩
      intro H2 qs2 D2 ds2 kp nw2
      refine ⟨_, qs2, rfl, D2, ?_, fun b o h => kp b o (s1 b o h) ?_, ?_⟩
      · rw [ds2, ds, take_more hc, List.foldl_append]; rfl
      · intro z
        rcases z with z | z
        · rw [z, np] at h; cases h
        · obtain ⟨r, hr', e⟩ := List.mem_map.mp z
          rw [← e, nw r hr'] at h; cases h
      · intro r m
        rcases nw2 r m with z | z
        · obtain ⟨r', hr', e⟩ := List.mem_map.mp z
          rw [← e]; exact nw r' hr'
        · exact s1.free z
    · rintro σ H' ⟨v, qs, rfl, D, ds, s1, nw⟩
      rw [refs_len, ← chs_len, List.take_length] at ds
      refine ⟨_, rfl, ?_⟩
      exact k H' p qs D ds s1 np nw
/-- whether one change stands against another -/
def against (c e : Cl07.Change) : Bool := c.by_ != e.by_ && Cl07.touches c e
def spAgainst (A : Ad) : Sp := fun vs H Q _ => ∃ (a b : Addr) (x y : Edit) (F : Hp), vs = [.ref a, .ref b] ∧ ChAt A F a x ∧ ChAt A F b y ∧ Same F H ∧ GoodC x.change ∧ Q (.bl (against x.change y.change)) H
theorem ok_stands_against (T : All K mg A) : FnOk P w K mg base CX0 1 A.f_stands_against A.d_stands_against ["other", "change"] (spAgainst A) := by
  refine T.F_stands_against.ok sc_stands_against (fun vs H Q E h => ?_) (fun cdv B outer s H vs Q E hr h => ?_)
  · obtain ⟨a, b, x, y, F, rfl, _⟩ := h
    rfl
  · obtain ⟨a, b, x, y, F, rfl, ⟨dx, fx, h1, _⟩, ⟨dy, fy, h2, _⟩, sm, gd, k⟩ := h
    have g1 := sm _ _ h1
    have g2 := sm _ _ h2
    refine ⟨_, pss_cons (ps_if (PW.pt (pw_or (pt_cmpR op_eq (pe_fld (pv 0) rfl) (pe_fld (pv 1) rfl) (nomark _)) (pw_or1 (pt_cmpR op_ne (pe_fld (pv 0) rfl) (pe_fld (pv 1) rfl) (nomark _))))) (pss_one (ps_ret pe_bl)) pss_nil)
      (pss_cons (ps_if (pt_cmpR op_eq (pe_fld (pv 0) rfl) (pe_k rfl T.k_TAKE_OUT) (nomark _)) (pss_one (ps_ret pe_bl)) pss_nil)
      (pss_one (ps_ret (pe_and (pe_cmpR op_eq (pe_fld (pv 0) rfl) (pe_k rfl T.k_SET_FIELD) (nomark _)) (pe_one (pe_or (pe_cmpR op_eq (pe_fld (pv 1) rfl) (pe_k rfl T.k_TAKE_OUT) (nomark _)) (pe_one (pe_cmpR op_eq (pe_fld (pv 0) rfl) (pe_fld (pv 1) rfl) (nomark _))))))))), ?_⟩
    have hk := gd.kind
    refine ⟨_, rfl, a, _, dx, _, _, rfl, g1, T.c_Change, T.n_Change_device, chF_device _ _, _, rfl, b, _, dy, _, _, rfl, g2, T.c_Change, T.n_Change_device, chF_device _ _, rfl, _, rfl, ?_⟩
    rw [dec_nat]
    by_cases c1 : x.change.by_ = y.change.by_
    · rw [decide_eq_true c1]
      refine iteT (iteT ?_)
      have : against x.change y.change = false := by unfold against; simp [c1]
      rw [this] at k
      exact k
    · rw [decide_eq_false c1]
      refine iteF ⟨_, rfl, a, _, dx, _, _, rfl, g1, T.c_Change, T.n_Change_date, chF_date _ _, _, rfl, b, _, dy, _, _, rfl, g2, T.c_Change, T.n_Change_date, chF_date _ _, rfl, _, rfl, ?_⟩
      rw [dec_nat]
      by_cases c2 : x.change.date = y.change.date
      · rw [decide_eq_true c2]
        refine iteF ?_
        refine ⟨_, rfl, a, _, dx, _, _, rfl, g1, T.c_Change, T.n_Change_kind, chF_kind _ _, rfl, _, rfl, ?_⟩
        rw [dec1]
        by_cases c3 : x.change.kind = 1
        · rw [decide_eq_true c3]
          refine iteT ?_
          have : against x.change y.change = true := by unfold against Cl07.touches; simp [c1, c2, c3]
          rw [this] at k
          exact k
        · rw [decide_eq_false c3]
          refine iteF ?_
          refine ⟨_, rfl, a, _, dx, _, _, rfl, g1, T.c_Change, T.n_Change_kind, chF_kind _ _, rfl, _, rfl, ?_⟩
          rw [dec0]
          by_cases c4 : x.change.kind = 0
          · rw [decide_eq_true c4]
            refine iteT ?_
            refine ⟨_, rfl, b, _, dy, _, _, rfl, g2, T.c_Change, T.n_Change_kind, chF_kind _ _, rfl, _, rfl, ?_⟩
            rw [dec1]
            by_cases c5 : y.change.kind = 1
            · rw [decide_eq_true c5]
              refine iteT ?_
              have : against x.change y.change = true := by unfold against Cl07.touches; simp [c1, c2, c4, c5]
              rw [this] at k
              exact k
            · rw [decide_eq_false c5]
              refine iteF ?_
              refine ⟨_, rfl, a, _, dx, _, _, rfl, g1, T.c_Change, T.n_Change_field, chF_field _ _, _, rfl, b, _, dy, _, _, rfl, g2, T.c_Change, T.n_Change_field, chF_field _ _, rfl, ?_⟩
              rw [dec_nat]
              have : against x.change y.change = decide (x.change.field = y.change.field) := by
                unfold against Cl07.touches
                rw [bne_iff_ne.mpr c1, beq_iff_eq.mpr c2, c4, beq_eq_false_iff_ne.mpr c5]
                rfl
              rw [this] at k
              exact k
          · rw [decide_eq_false c4]
            refine iteF ?_
            have c6 : x.change.kind = 2 := by omega
            have : against x.change y.change = false := by unfold against Cl07.touches; simp [c6]
            rw [this] at k
            exact k
      · rw [decide_eq_false c2]
        refine iteT ?_
        have : against x.change y.change = false := by unfold against Cl07.touches; simp [c2]
        rw [this] at k
        exact k
end
/-! ### A device as it lies in the heap -/
structure DL where
  o : Addr
  w : Addr
  a : Addr
  c : Addr
def dvF (d : Nat) (x : Cl07.Device) (L : DL) : List (Str × V) := [("number", .int d), ("knows", .int x.known), ("made", .int x.count), ("waiting", .ref L.w), ("answered", .ref L.a), ("clashes", .ref L.c)]
def EdsAt (A : Ad) (F H : Hp) (l : Addr) (es : List Edit) : Prop := ∃ ps, H l = some (.lst (refs ps)) ∧ eds ps = es ∧ AllCh A F ps
def ChsAt (A : Ad) (F H : Hp) (l : Addr) (cs : List Cl07.Change) : Prop := ∃ ps, H l = some (.lst (refs ps)) ∧ chs ps = cs ∧ AllCh A F ps
structure DevAt (A : Ad) (F H : Hp) (L : DL) (d : Nat) (x : Cl07.Device) : Prop where
  obj : ∃ dx, H L.o = some (.ins A.C_Device dx (dvF d x L))
  wl : EdsAt A F H L.w x.waiting
  al : ChsAt A F H L.a (sentCs x)
  cl : EdsAt A F H L.c x.clashes
  wa : L.w ≠ L.a
  wc : L.w ≠ L.c
  ac : L.a ≠ L.c
  fo : F L.o = none
  fw : F L.w = none
  fa : F L.a = none
  fc : F L.c = none
def DL.own (L : DL) (b : Addr) : Prop := b = L.o ∨ b = L.w ∨ b = L.a ∨ b = L.c
theorem EdsAt.keep {A : Ad} {C : Addr → Prop} {F H F' H' : Hp} {l : Addr} {es : List Edit} (h : EdsAt A F H l es) (E : Ext C F H F' H') (n : ¬ C l) : EdsAt A F' H' l es := by
  obtain ⟨ps, h1, h2, h3⟩ := h
  exact ⟨ps, E.fr _ _ h1 n, h2, h3.more E.fz⟩
theorem ChsAt.keep {A : Ad} {C : Addr → Prop} {F H F' H' : Hp} {l : Addr} {es : List Cl07.Change} (h : ChsAt A F H l es) (E : Ext C F H F' H') (n : ¬ C l) : ChsAt A F' H' l es := by
  obtain ⟨ps, h1, h2, h3⟩ := h
  exact ⟨ps, E.fr _ _ h1 n, h2, h3.more E.fz⟩
theorem EdsAt.some {A : Ad} {F H : Hp} {l : Addr} {es : List Edit} (h : EdsAt A F H l es) : H l ≠ none := by
  obtain ⟨ps, h1, _⟩ := h
  exact ne_none h1
theorem ChsAt.some {A : Ad} {F H : Hp} {l : Addr} {es : List Cl07.Change} (h : ChsAt A F H l es) : H l ≠ none := by
  obtain ⟨ps, h1, _⟩ := h
  exact ne_none h1
theorem DevAt.keep {A : Ad} {C : Addr → Prop} {F H F' H' : Hp} {L : DL} {d : Nat} {x : Cl07.Device} (D : DevAt A F H L d x) (E : Ext C F H F' H') (n : ∀ b, L.own b → ¬ C b) : DevAt A F' H' L d x := by
  obtain ⟨dx, ho⟩ := D.obj
  exact ⟨⟨dx, E.fr _ _ ho (n _ (.inl rfl))⟩, D.wl.keep E (n _ (.inr (.inl rfl))), D.al.keep E (n _ (.inr (.inr (.inl rfl)))), D.cl.keep E (n _ (.inr (.inr (.inr rfl)))), D.wa, D.wc, D.ac,
    (E.nf _ (ne_none ho)).trans D.fo, (E.nf _ D.wl.some).trans D.fw, (E.nf _ D.al.some).trans D.fa, (E.nf _ D.cl.some).trans D.fc⟩
theorem DevAt.ow {A : Ad} {F H : Hp} {L : DL} {d : Nat} {x : Cl07.Device} (D : DevAt A F H L d x) : L.o ≠ L.w := by
  obtain ⟨dx, ho⟩ := D.obj
  obtain ⟨ps, h, _⟩ := D.wl
  exact ne_of ho h (by intro z; cases z)
theorem DevAt.oa {A : Ad} {F H : Hp} {L : DL} {d : Nat} {x : Cl07.Device} (D : DevAt A F H L d x) : L.o ≠ L.a := by
  obtain ⟨dx, ho⟩ := D.obj
  obtain ⟨ps, h, _⟩ := D.al
  exact ne_of ho h (by intro z; cases z)
theorem DevAt.oc {A : Ad} {F H : Hp} {L : DL} {d : Nat} {x : Cl07.Device} (D : DevAt A F H L d x) : L.o ≠ L.c := by
  obtain ⟨dx, ho⟩ := D.obj
  obtain ⟨ps, h, _⟩ := D.cl
  exact ne_of ho h (by intro z; cases z)
theorem DevAt.some {A : Ad} {F H : Hp} {L : DL} {d : Nat} {x : Cl07.Device} (D : DevAt A F H L d x) {b : Addr} (h : L.own b) : H b ≠ none := by
  obtain ⟨dx, ho⟩ := D.obj
  rcases h with h | h | h | h
  · rw [h]; exact ne_none ho
  · rw [h]; exact D.wl.some
  · rw [h]; exact D.al.some
  · rw [h]; exact D.cl.some
theorem eds_snoc {ps : List CP} {es : List Edit} (h : eds ps = es) (q : CP) : eds (ps ++ [q]) = es ++ [q.2] := by
  unfold eds at *
  rw [List.map_append, h]; rfl
theorem chs_snoc {ps : List CP} {es : List Cl07.Change} (h : chs ps = es) (q : CP) : chs (ps ++ [q]) = es ++ [q.2.change] := by
  unfold chs at *
  rw [List.map_append, h]; rfl
theorem refs_snoc (ps : List CP) (q : CP) : refs (ps ++ [q]) = refs ps ++ [.ref q.1] := by
  unfold refs
  rw [List.map_append]; rfl
theorem all_snoc {A : Ad} {F : Hp} {ps : List CP} {q : CP} (h : AllCh A F ps) (hq : ChAt A F q.1 q.2) : AllCh A F (ps ++ [q]) := by
  intro r m
  rcases List.mem_append.mp m with m | m
  · exact h r m
  · simp at m; subst m; exact hq
section
variable {P : Program} {w : World} {K : PySem.W.Frag} {mg : Str → Option Value} {base : Heap} {A : Ad}
/-- self.made >= MOST_MADE or len(self.waiting) >= MOST_WAITING -/
def fullB (x : Cl07.Device) : Bool := decide (99 ≤ x.count ∨ Cl07.MOST ≤ x.waiting.length)
def spIsFull (A : Ad) : Sp := fun vs H Q _ => ∃ (L : DL) (d : Nat) (x : Cl07.Device) (F : Hp), vs = [.ref L.o] ∧ DevAt A F H L d x ∧ Q (.bl (fullB x)) H
theorem ok_Device_is_full (T : All K mg A) : FnOk P w K mg base CX0 1 A.f_Device_is_full A.d_Device_is_full ["self"] (spIsFull A) := by
  refine T.F_Device_is_full.ok sc_Device_is_full (fun vs H Q E h => ?_) (fun cdv B outer s H vs Q E hr h => ?_)
  · obtain ⟨L, d, x, F, rfl, _⟩ := h
    rfl
  · obtain ⟨L, d, x, F, rfl, D, k⟩ := h
    obtain ⟨dx, ho⟩ := D.obj
    obtain ⟨ps, hw, ew, _⟩ := D.wl
    refine ⟨_, pss_one (ps_ret (pe_or (pe_cmpR op_ge (pe_fld (pv 0) rfl) (pe_k rfl T.k_MOST_MADE) (nomark _)) (pe_one (pe_cmpR op_ge (pe_callB call_len_seq (by rfl) T.z_len PySem.boot_len (pa_cons (pe_fld (pv 0) rfl) pa_nil)) (pe_k rfl T.k_MOST_WAITING) (nomark _))))), ?_⟩
    refine ⟨_, rfl, _, _, dx, _, _, rfl, ho, T.c_Device, T.n_Device_made, rfl, _, _, rfl, rfl, _, rfl, ?_⟩
    have el : ps.length = x.waiting.length := by rw [← ew, eds_len]
    by_cases c : 99 ≤ x.count
    · rw [decide_eq_true (show (99 : Int) ≤ (x.count : Int) by omega)]
      refine iteT ?_
      have : fullB x = true := decide_eq_true (.inl c)
      rw [this] at k
      exact k
    · rw [decide_eq_false (show ¬ (99 : Int) ≤ (x.count : Int) by omega)]
      refine iteF ?_
      refine ⟨_, rfl, _, _, dx, _, _, rfl, ho, T.c_Device, T.n_Device_waiting, rfl, _, _, rfl, .inl (SqL.of hw), _, _, rfl, rfl, ?_⟩
      have : fullB x = decide ((20 : Int) ≤ ((refs ps).length : Int)) := by
        unfold fullB
        rw [refs_len, el]
        by_cases c2 : 20 ≤ x.waiting.length
        · rw [decide_eq_true (show (20 : Int) ≤ (x.waiting.length : Int) by omega), decide_eq_true]
          exact .inr c2
        · rw [decide_eq_false (show ¬ (20 : Int) ≤ (x.waiting.length : Int) by omega), decide_eq_false]
          intro z
          rcases z with z | z
          · exact c z
          · exact c2 z
      rw [this] at k
      exact k
/-- a change is made on the device -/
def madeOn (d : Nat) (x : Cl07.Device) (c : Cl07.Change) : Cl07.Device := { x with count := x.count + 1, waiting := x.waiting ++ [newEdit d x c] }
def spAddChange (A : Ad) : Sp := fun vs H Q _ => ∃ (L : DL) (d : Nat) (x : Cl07.Device) (F : Hp) (c : Cl07.Change) (fl : Addr), vs = [.ref L.o, .int c.kind, .int c.date, .int c.field, .int c.value, .ref fl] ∧ DevAt A F H L d x ∧ Same F H ∧ F fl = some (.lst (nats c.fields)) ∧ x.waiting.length ≤ 1000 ∧
  ∀ (F' H' : Hp), DevAt A F' H' L d (madeOn d x c) → Ext (fun b => b = L.o ∨ b = L.w) F H F' H' → Q (.int ((x.count + 1 : Nat) : Int)) H'
theorem ok_Device_add_change (T : All K mg A) : FnOk P w K mg base CX0 3 A.f_Device_add_change A.d_Device_add_change ["self", "kind", "date", "field", "what", "fields"] (spAddChange A) := by
  refine T.F_Device_add_change.ok sc_Device_add_change (fun vs H Q E h => ?_) (fun cdv B outer s H vs Q E hr h => ?_)
  · obtain ⟨L, d, x, F, c, fl, rfl, _⟩ := h
    rfl
  · obtain ⟨L, d, x, F, c, fl, rfl, D, sm, hfl, len, k⟩ := h
    obtain ⟨dx, ho⟩ := D.obj
    obtain ⟨ps, hw, ew, aw⟩ := D.wl
    refine ⟨_, pss_cons (ps_fldaug (pv 0) pe_int in_add) (pss_cons (ps_expr (pe_bm PySem.F.plainAttrs_list PySem.F.slot_list_append PySem.F.type_list_append mt_append (pe_fld (pv 0) rfl)
      (pa_cons (pe_make T.mk_Change (ok_Change_init T) hr rfl T.g_Change T.b_Change_init .nil pass0 (pa_cons (pe_fld (pv 0) rfl) (pa_cons (pe_fld (pv 0) rfl) (pa_cons (pe_fld (pv 0) rfl) (pa_cons (pv 1) (pa_cons (pv 2) (pa_cons (pv 3) (pa_cons (pv 4) (pa_cons (pv 5) pa_nil))))))))) pa_nil)))
      (pss_one (ps_ret (pe_fld (pv 0) rfl)))), ?_⟩
    refine ⟨_, rfl, _, _, dx, _, _, rfl, ho, T.c_Device, T.n_Device_made, rfl, _, _, rfl, rfl, dx, _, ho, (by show 6 < 1000; decide), ?_⟩
    let x1 : Cl07.Device := { x with count := x.count + 1 }
    have E1 : Ext (· = L.o) F H F (upd H L.o (.ins A.C_Device dx (dvF d x1 L))) := Ext.put sm ho D.fo
    have e1 : (upd H L.o (.ins A.C_Device dx (putF "made" (.int ((x.count : Int) + 1)) (dvF d x L)))) = upd H L.o (.ins A.C_Device dx (dvF d x1 L)) := rfl
    generalize hH1 : upd H L.o (.ins A.C_Device dx (dvF d x1 L)) = H1 at E1
    have g1 : H1 L.o = some (.ins A.C_Device dx (dvF d x1 L)) := by rw [← hH1]; exact upd_same
    have w1 : H1 L.w = some (.lst (refs ps)) := E1.fr _ _ hw (fun z => D.ow z.symm)
    rw [e1, hH1]
    refine ⟨_, rfl, _, _, dx, _, _, rfl, g1, T.c_Device, T.n_Device_waiting, rfl, .inl ⟨rfl, _, SqL.of w1⟩, _, rfl, _, _, dx, _, _, rfl, g1, T.c_Device, T.n_Device_number, rfl, _, rfl, _, _, dx, _, _, rfl, g1, T.c_Device, T.n_Device_made, rfl, _, rfl, _, _, dx, _, _, rfl, g1, T.c_Device, T.n_Device_knows, rfl, _, rfl, _, rfl, _, rfl, _, rfl, _, rfl, ?_⟩
    intro q dq nq ndq neq
    refine ⟨q, dq, fl, newEdit d x c, rfl, upd_same, fun H2 hq kp => ?_⟩
    obtain ⟨F2, c2, E2, _⟩ := made_change (e := newEdit d x c) E1.sub nq ndq hfl hq kp
    have w2 := E2.fr _ _ w1 (fun z => z)
    have g2 := E2.fr _ _ g1 (fun z => z)
    have fw2 : F2 L.w = none := (E2.nf _ (ne_none w1)).trans D.fw
    have fo2 : F2 L.o = none := (E2.nf _ (ne_none g1)).trans D.fo
    refine ⟨rfl, L.w, _, _, rfl, rfl, w2, (by rw [refs_len]; have : ps.length = x.waiting.length := by rw [← ew, eds_len]
                                              exact small1000 (by omega)), ?_⟩
    have E3 : Ext (· = L.w) F2 H2 F2 (upd H2 L.w (.lst (refs ps ++ [.ref q]))) := Ext.put E2.sub w2 fw2
    have g3 : (upd H2 L.w (.lst (refs ps ++ [.ref q]))) L.o = some (.ins A.C_Device dx (dvF d x1 L)) := by rw [upd_ne D.ow]; exact g2
    refine ⟨_, rfl, _, _, dx, _, _, rfl, g3, T.c_Device, T.n_Device_made, rfl, ?_⟩
    have E13 := (E1.trans E2).trans E3
    refine k F2 _ ?_ (E13.weaken ?_)
    · have al : ChsAt A F2 (upd H2 L.w (.lst (refs ps ++ [.ref q]))) L.a (sentCs x) := D.al.keep E13 (fun z => by
        rcases z with (z | z) | z
        · exact D.oa z.symm
        · exact z
        · exact D.wa z.symm)
      have cl : EdsAt A F2 (upd H2 L.w (.lst (refs ps ++ [.ref q]))) L.c x.clashes := D.cl.keep E13 (fun z => by
        rcases z with (z | z) | z
        · exact D.oc z.symm
        · exact z
        · exact D.wc z.symm)
      refine ⟨⟨dx, g3⟩, ⟨ps ++ [(q, newEdit d x c)], ?_, eds_snoc ew _, all_snoc ((aw.more E1.fz).more E2.fz) c2⟩, al, cl, D.wa, D.wc, D.ac, fo2, fw2, (E13.nf _ D.al.some).trans D.fa, (E13.nf _ D.cl.some).trans D.fc⟩
      rw [upd_same, refs_snoc]
    · intro b _ z
      rcases z with (z | z) | z
      · exact .inl z
      · exact z.elim
      · exact .inr z
end
/-! ### More of a device -/
theorem ixN_eq {l : List V} {n : Nat} : cutV l none (some (n : Int)) = l.take n := by
  unfold cutV
  rw [HT.sIx_none, HT.sIx_nat, List.drop_zero, Nat.sub_zero]
  by_cases h : n ≤ l.length
  · rw [Nat.min_eq_left h]
  · rw [Nat.min_eq_right (by omega), List.take_length, List.take_of_length_le (by omega)]
theorem cut_from {l : List V} {n : Nat} : cutV l (some (n : Int)) none = l.drop n := by
  unfold cutV
  rw [HT.sIx_none, HT.sIx_nat]
  by_cases h : n ≤ l.length
  · rw [Nat.min_eq_left h, List.take_of_length_le]
    rw [List.length_drop]; omega
  · rw [Nat.min_eq_right (by omega), Nat.sub_self, List.take_zero, List.drop_of_length_le (by omega)]
theorem renamed_eq (a b : Nat) (e : Edit) : Cl07.renamed a b e = if e.change.date = a then setDate e b else e := rfl
theorem tYes_ok {σ : L2.St} {H : Hp} {Q : Bool → Hp → Prop} (h : Q true H) : tYes σ H Q := h
def ocF (cnt : Nat) (done : Bool) (p : Nat) (c : Addr) : List (Str × V) := [("count", .int cnt), ("done", .bl done), ("place", .int p), ("change", .ref c)]
section
variable {P : Program} {w : World} {K : PySem.W.Frag} {mg : Str → Option Value} {base : Heap} {A : Ad}
def mkDate (d : Nat) (x : Cl07.Device) (fs : List Nat) : Cl07.Change := ⟨2, d, 0, Cl07.ownId d (x.count + 1), 0, 0, fs⟩
def spAddDate (A : Ad) : Sp := fun vs H Q _ => ∃ (L : DL) (d : Nat) (x : Cl07.Device) (F : Hp) (fs : List Nat) (fl : Addr), vs = [.ref L.o, .ref fl] ∧ DevAt A F H L d x ∧ Same F H ∧ F fl = some (.lst (nats fs)) ∧ x.waiting.length ≤ 1000 ∧
  ∀ (F' H' : Hp), DevAt A F' H' L d (madeOn d x (mkDate d x fs)) → Ext (fun b => b = L.o ∨ b = L.w) F H F' H' → Q (.int (Cl07.ownId d (x.count + 1) : Nat)) H'
theorem ok_Device_add_date (T : All K mg A) : FnOk P w K mg base CX0 4 A.f_Device_add_date A.d_Device_add_date ["self", "fields"] (spAddDate A) := by
  refine T.F_Device_add_date.ok sc_Device_add_date (fun vs H Q E h => ?_) (fun cdv B outer s H vs Q E hr h => ?_)
  · obtain ⟨L, d, x, F, fs, fl, rfl, _⟩ := h
    rfl
  · obtain ⟨L, d, x, F, fs, fl, rfl, D, sm, hfl, len, k⟩ := h
    obtain ⟨dx, ho⟩ := D.obj
    refine ⟨_, pss_cons (ps_set (i := 2) sc_Device_add_date.nd rfl (Or.inl rfl) (pe_op op_add (pe_op op_add (pe_op op_add pe_int (pe_op op_mul pe_int (pe_fld (pv 0) rfl))) (pe_fld (pv 0) rfl)) pe_int))
      (pss_cons (ps_expr (pe_meth (pv 0) T.c_Device T.m_Device_add_change (ok_Device_add_change T) hr T.b_Device_add_change .nil pass0 (pa_cons (pe_k rfl T.k_MAKE_DATE) (pa_cons (pv 2) (pa_cons pe_int (pa_cons pe_int (pa_cons (pv 1) pa_nil)))))))
      (pss_one (ps_ret (pv 2)))), ?_⟩
    refine ⟨_, rfl, _, _, dx, _, _, rfl, ho, T.c_Device, T.n_Device_number, rfl, _, _, rfl, rfl, .inl ⟨by decide, by decide⟩, _, _, rfl, rfl, _, rfl, _, _, dx, _, _, rfl, ho, T.c_Device, T.n_Device_made, rfl, _, _, rfl, rfl, _, _, rfl, rfl, ?_⟩
    have hn : (1000 + 100 * (d : Int) + (x.count : Int) + 1) = ((Cl07.ownId d (x.count + 1) : Nat) : Int) := by unfold Cl07.ownId; omega
    show gName 2 (V.int (1000 + 100 * (d : Int) + (x.count : Int) + 1)) _ _ _
    rw [hn]
    refine ⟨_, rfl, _, dx, _, rfl, ho, rfl, _, rfl, _, rfl, L, d, x, F, mkDate d x fs, fl, rfl, D, sm, hfl, len, ?_⟩
    intro F' H' D' E'
    exact ⟨_, rfl, k F' H' D' E'⟩
def spLearn (A : Ad) : Sp := fun vs H Q _ => ∃ (L : DL) (d : Nat) (x : Cl07.Device) (F : Hp) (n : Nat), vs = [.ref L.o, .int n] ∧ DevAt A F H L d x ∧ Same F H ∧
  ∀ (H' : Hp) (a' : Addr), H a' = none → DevAt A F H' { L with a := a' } d { x with known := n, sent := [] } → Ext (· = L.o) F H F H' → Q .non H'
theorem ok_Device_learn (T : All K mg A) : FnOk P w K mg base CX0 1 A.f_Device_learn A.d_Device_learn ["self", "known"] (spLearn A) := by
  refine T.F_Device_learn.ok sc_Device_learn (fun vs H Q E h => ?_) (fun cdv B outer s H vs Q E hr h => ?_)
  · obtain ⟨L, d, x, F, n, rfl, _⟩ := h
    rfl
  · obtain ⟨L, d, x, F, n, rfl, D, sm, k⟩ := h
    obtain ⟨dx, ho⟩ := D.obj
    refine ⟨_, pss_cons (ps_fld (pv 0) (pv 1) rfl) (pss_one (ps_fld (pv 0) (pe_lst pa_nil) rfl)), ?_⟩
    refine ⟨_, rfl, _, rfl, _, _, dx, _, rfl, ho, T.c_Device, T.n_Device_knows, (by show 6 < 1000; decide), ?_⟩
    have E1 : Ext (· = L.o) F H F (upd H L.o (.ins A.C_Device dx (putF "knows" (.int n) (dvF d x L)))) := Ext.put sm ho D.fo
    refine ⟨Nat.zero_le _, fun a' na' => ?_⟩
    have na : H a' = none := by
      cases e : H a' with
      | none => rfl
      | some o => exact absurd na' (E1.al _ (ne_none e))
    have oa' : L.o ≠ a' := ne_of_none ho na
    have E2 := E1.trans (Ext.of_same E1.sub (Same.new (o := .lst []) na'))
    have g2 : (upd (upd H L.o (.ins A.C_Device dx (putF "knows" (.int n) (dvF d x L)))) a' (.lst [])) L.o = some (.ins A.C_Device dx (putF "knows" (.int n) (dvF d x L))) := by rw [upd_ne oa', upd_same]
    refine ⟨_, rfl, _, _, dx, _, rfl, g2, T.c_Device, T.n_Device_answered, (by show 6 < 1000; decide), ?_⟩
    have E3 := E2.trans (Ext.put (o := .ins A.C_Device dx (putF "answered" (.ref a') (putF "knows" (.int n) (dvF d x L)))) E2.sub g2 D.fo)
    have fr : ∀ b, ¬ b = L.o → ¬ ((b = L.o ∨ False) ∨ b = L.o) := fun b h z => by
      rcases z with (z | z) | z
      · exact h z
      · exact z
      · exact h z
    refine k _ a' na ⟨⟨dx, upd_same⟩, D.wl.keep E3 (fr _ fun z => D.ow z.symm), ⟨[], ?_, rfl, fun q m => by cases m⟩, D.cl.keep E3 (fr _ fun z => D.oc z.symm), ?_, D.wc, ?_, D.fo, D.fw, free_of sm na, D.fc⟩ (E3.weaken ?_)
    · rw [upd_ne (fun z => oa' z.symm), upd_same]; rfl
    · intro z
      exact D.wl.some (by rw [show L.w = a' from z]; exact na)
    · intro z
      exact D.cl.some (by rw [show L.c = a' from z.symm]; exact na)
    · intro b _ z
      rcases z with (z | z) | z
      · exact z
      · exact z.elim
      · exact z
def spRenumber (A : Ad) : Sp := fun vs H Q _ => ∃ (L : DL) (d : Nat) (x : Cl07.Device) (F : Hp) (a b : Nat), vs = [.ref L.o, .int a, .int b] ∧ DevAt A F H L d x ∧ Same F H ∧ x.waiting.length ≤ 1000 ∧
  ∀ (F' H' : Hp) (w' : Addr), H w' = none → DevAt A F' H' { L with w := w' } d { x with waiting := x.waiting.map (Cl07.renamed a b) } → Ext (· = L.o) F H F' H' → Q .non H'
theorem ok_Device_renumber (T : All K mg A) : FnOk P w K mg base CX0 4 A.f_Device_renumber A.d_Device_renumber ["self", "old", "new"] (spRenumber A) := by
  refine T.F_Device_renumber.ok sc_Device_renumber (fun vs H Q E h => ?_) (fun cdv B outer s H vs Q E hr h => ?_)
  · obtain ⟨L, d, x, F, a, b, rfl, _⟩ := h
    rfl
  · obtain ⟨L, d, x, F, a, b, rfl, D, sm, len, k⟩ := h
    obtain ⟨dx, ho⟩ := D.obj
    obtain ⟨ps, hw, ew, aw⟩ := D.wl
    refine ⟨_, pss_one (ps_fld (pv 0) (pe_lc (own := [("change", 3)]) (g := gName 3) (tt := tYes) (te := tIf (tTest (tOp rEq (tFld K (tVar 3) "date") (tVar 1))) (tMeth A.C_Change "with_date" (spWithDate A) [] E0 (tVar 3) (tCons (tVar 2) tNil)) (tVar 3)) rfl sc_Device_renumber.nd (pi_list (pe_fld (pv 0) rfl)) (blkOk_by (N := ["self", "old", "new", "change"]) (sc := defScope s_Device_renumber) (by decide +kernel))
      (fun _ _ _ _ _ => pg_name (i := 3) sc_Device_renumber.nd rfl (Or.inl rfl)) (fun _ _ _ _ _ => pts_nil)
      (fun _ _ _ _ _ => pe_ifExp (pt_cmpR op_eq (pe_fld (pv 3) rfl) (pv 1) (nomark _)) (pe_meth (pv 3) T.c_Change T.m_Change_with_date (ok_Change_with_date T) hr T.b_Change_with_date .nil pass0 (pa_cons (pv 2) pa_nil)) (pv 3))) rfl), ?_⟩
    refine ⟨_, rfl, _, _, dx, _, _, rfl, ho, T.c_Device, T.n_Device_waiting, rfl, L.w, rfl, ⟨_, SqL.of hw⟩, fun w' nw => ?_⟩
    have pl : ps.length ≤ 1000 := by
      have : ps.length = x.waiting.length := by rw [← ew, eds_len]
      omega
    refine lc_list (K := K) (a := L.w) (xs := refs ps)
      (fun i H' => ∃ (qs : List CP) (F' : Hp), H' w' = some (.lst (refs qs)) ∧ eds qs = ((eds ps).take i).map (Cl07.renamed a b) ∧ AllCh A F' qs ∧ Ext (fun _ => False) F H F' H' ∧ F' w' = none) ?_ ?_ ?_ ?_
    · exact ⟨[], F, upd_same, rfl, fun q m => (by cases m), Ext.of_same sm (Same.new nw), free_of sm nw⟩
    · rintro i H' _ ⟨qs, F', _, _, _, E', _⟩
      exact SqL.of (E'.fr _ _ hw (fun z => z))
    · rintro i y H' hi ⟨qs, F', h1, h2, h3, E', fw'⟩
      obtain ⟨q, hq, rfl⟩ := refs_get hi
      have ql : qs.length ≤ i := by
        have e1 : qs.length = (eds qs).length := (eds_len qs).symm
        rw [e1, h2, List.length_map, List.length_take]
        omega
      have il : i < ps.length := (List.getElem?_eq_some_iff.mp hq).1
      have hq2 : (eds ps)[i]? = some q.2 := by unfold eds; rw [List.getElem?_map, hq]; rfl
      have cq := (aw q (List.mem_of_getElem? hq)).more E'.fz
      obtain ⟨dq, fq, c1, c2⟩ := cq
      have g1 := E'.sub _ _ c1
      refine ⟨rfl, tYes_ok (iteT ?_)⟩
      refine ⟨_, rfl, _, _, dq, _, _, rfl, g1, T.c_Change, T.n_Change_date, chF_date _ _, _, rfl, rfl, _, rfl, ?_⟩
      rw [dec_nat]
      by_cases c : q.2.change.date = a
      · rw [decide_eq_true c]
        refine iteT ?_
        refine ⟨_, rfl, _, dq, _, rfl, g1, chF_with_date _ _, _, rfl, q.1, q.2, b, F', rfl, ⟨dq, fq, c1, c2⟩, E'.sub, ?_⟩
        intro F2 H2 c' nc' cc E2
        have h12 := E2.fr _ _ h1 (fun z => z)
        have fw2 : F2 w' = none := (E2.nf _ (ne_none h1)).trans fw'
        refine ⟨refs qs, h12, by rw [refs_len]; exact small1000 (by omega), qs ++ [(c', setDate q.2 b)], F2, ?_, ?_, all_snoc (h3.more E2.fz) cc, ((E'.trans E2).trans (Ext.put E2.sub h12 fw2)).weaken ?_, fw2⟩
        · rw [upd_same, refs_snoc]
        · rw [eds_snoc h2, take_more hq2, List.map_append]
          show _ = _ ++ [Cl07.renamed a b q.2]
          rw [renamed_eq, if_pos c]
        · intro z nz hz
          rcases hz with (hz | hz) | hz
          · exact hz
          · exact hz
          · rw [hz] at nz; exact nz nw
      · rw [decide_eq_false c]
        refine iteF ?_
        refine ⟨_, rfl, refs qs, h1, by rw [refs_len]; exact small1000 (by omega), qs ++ [q], F', ?_, ?_, all_snoc h3 ⟨dq, fq, c1, c2⟩, (E'.trans (Ext.put E'.sub h1 fw')).weaken ?_, fw'⟩
        · rw [upd_same, refs_snoc]
        · rw [eds_snoc h2, take_more hq2, List.map_append]
          show _ = _ ++ [Cl07.renamed a b q.2]
          rw [renamed_eq, if_neg c]
        · intro z nz hz
          rcases hz with hz | hz
          · exact hz
          · rw [hz] at nz; exact nz nw
    · rintro H' ⟨qs, F', h1, h2, h3, E', fw'⟩
      rw [refs_len, ← eds_len, List.take_length, ew] at h2
      have g1 := E'.fr _ _ ho (fun z => z)
      have fo' : F' L.o = none := (E'.nf _ (ne_none ho)).trans D.fo
      refine ⟨_, rfl, _, _, dx, _, rfl, g1, T.c_Device, T.n_Device_waiting, (by show 6 < 1000; decide), ?_⟩
      have E2 := E'.trans (Ext.put (o := .ins A.C_Device dx (putF "waiting" (.ref w') (dvF d x L))) E'.sub g1 fo')
      have ow' : L.o ≠ w' := ne_of_none ho nw
      have fr : ∀ b, ¬ b = L.o → ¬ (False ∨ b = L.o) := fun b h z => by
        rcases z with z | z
        · exact z
        · exact h z
      refine k F' _ w' nw ⟨⟨dx, upd_same⟩, ⟨qs, ?_, h2, h3⟩, D.al.keep E2 (fr _ fun z => D.oa z.symm), D.cl.keep E2 (fr _ fun z => D.oc z.symm), ?_, ?_, D.ac, fo', fw', (E2.nf _ D.al.some).trans D.fa, (E2.nf _ D.cl.some).trans D.fc⟩ (E2.weaken ?_)
      · rw [upd_ne (fun z => ow' z.symm)]; exact h1
      · intro z
        exact D.al.some (by rw [show L.a = w' from z.symm]; exact nw)
      · intro z
        exact D.cl.some (by rw [show L.c = w' from z.symm]; exact nw)
      · intro b _ z
        rcases z with z | z
        · exact z.elim
        · exact z
end
/-! ### What a device hears; a new one; what is shown there -/
section
variable {P : Program} {w : World} {K : PySem.W.Frag} {mg : Str → Option Value} {base : Heap} {A : Ad}
def rOf (e : Edit) (id : Nat) : Edit → Edit := if e.change.kind = 2 then Cl07.renamed e.change.date id else fun y => y
def sentOf (x : Cl07.Device) (p : Nat) (e : Edit) : List (Edit × Nat) := if p < x.known then x.sent else x.sent ++ [(e, p)]
def spHear (A : Ad) : Sp := fun vs H Q _ => ∃ (L : DL) (d : Nat) (x : Cl07.Device) (F : Hp) (e : Edit) (l : List Edit) (o dx c : Addr) (cnt p : Nat) (done : Bool), vs = [.ref L.o, .ref o] ∧ DevAt A F H L d x ∧ Same F H ∧ x.waiting = e :: l ∧
  x.waiting.length ≤ 1000 ∧ x.sent.length ≤ 1000 ∧ x.clashes.length ≤ 1000 ∧ F o = some (.ins A.C_Outcome dx (ocF cnt done p c)) ∧
  (done = false → ∀ (F' H' : Hp), DevAt A F' H' L d { x with waiting := l, clashes := x.clashes ++ [e] } → Ext L.own F H F' H' → Q .non H') ∧
  (done = true → ∃ e' : Edit, ChAt A F c e' ∧ (rOf e e'.change.date e).change = e'.change ∧
    ∀ (F' H' : Hp) (w' : Addr), (w' = L.w ∨ H w' = none) → DevAt A F' H' { L with w := w' } d { x with waiting := l.map (rOf e e'.change.date), sent := sentOf x p (rOf e e'.change.date e) } → Ext L.own F H F' H' → Q .non H')
theorem sent_is (x : Cl07.Device) (p : Nat) (e : Edit) (w : List Edit) : sentCs { x with waiting := w, sent := sentOf x p e } = if p < x.known then sentCs x else sentCs x ++ [e.change] := by
  unfold sentCs sentOf
  by_cases h : p < x.known
  · simp [h]
  · simp [h]
theorem ok_Device_hear (T : All K mg A) : FnOk P w K mg base CX0 5 A.f_Device_hear A.d_Device_hear ["self", "outcome"] (spHear A) := by
  refine T.F_Device_hear.ok sc_Device_hear (fun vs H Q E h => ?_) (fun cdv B outer s H vs Q E hr h => ?_)
  · obtain ⟨L, d, x, F, e, l, o, dx, c, cnt, p, done, rfl, _⟩ := h
    rfl
  · obtain ⟨L, d, x, F, e, l, o, dxo, c, cnt, p, done, rfl, D, sm, hwt, len, lens, lenc, hoc, kN, kY⟩ := h
    obtain ⟨dx, ho⟩ := D.obj
    obtain ⟨ps, hw, ew, aw⟩ := D.wl
    refine ⟨_, pss_cons (ps_set (i := 2) sc_Device_hear.nd rfl (Or.inl rfl) (pe_bm PySem.F.plainAttrs_list PySem.F.slot_list_pop PySem.F.type_list_pop mt_popAt (pe_fld (pv 0) rfl) (pa_cons pe_int pa_nil)))
      (pss_cons (ps_if (pt_not (pt_val (pe_fld (pv 1) rfl))) (pss_cons (ps_expr (pe_bm PySem.F.plainAttrs_list PySem.F.slot_list_append PySem.F.type_list_append mt_append (pe_fld (pv 0) rfl) (pa_cons (pv 2) pa_nil))) (pss_one ps_retN)) pss_nil)
      (pss_cons (ps_if (pt_cmpR op_eq (pe_fld (pv 2) rfl) (pe_k rfl T.k_MAKE_DATE) (nomark _)) (pss_one (ps_expr (pe_meth (pv 0) T.c_Device T.m_Device_renumber (ok_Device_renumber T) hr T.b_Device_renumber .nil pass0 (pa_cons (pe_fld (pv 2) rfl) (pa_cons (pe_fld (pe_fld (pv 1) rfl) rfl) pa_nil))))) pss_nil)
      (pss_one (ps_if (pt_cmpR op_ge (pe_fld (pv 1) rfl) (pe_fld (pv 0) rfl) (nomark _)) (pss_one (ps_expr (pe_bm PySem.F.plainAttrs_list PySem.F.slot_list_append PySem.F.type_list_append mt_append (pe_fld (pv 0) rfl) (pa_cons (pe_fld (pv 1) rfl) pa_nil)))) pss_nil)))), ?_⟩
    -- the first that waits
    obtain ⟨q, qs, rfl⟩ : ∃ q qs, ps = q :: qs := by
      cases ps with
      | nil => rw [hwt] at ew; cases ew
      | cons q qs => exact ⟨q, qs, rfl⟩
    have eq : q.2 = e := by rw [hwt] at ew; exact (List.cons.inj ew).1
    have eqs : eds qs = l := by rw [hwt] at ew; exact (List.cons.inj ew).2
    have aq := aw q (List.mem_cons_self ..)
    have aqs : AllCh A F qs := fun r m => aw r (List.mem_cons_of_mem _ m)
    rw [eq] at aq
    refine ⟨_, rfl, _, _, dx, _, _, rfl, ho, T.c_Device, T.n_Device_waiting, rfl, .inl ⟨rfl, _, SqL.of hw⟩, L.w, _, 0, 0, .ref q.1, rfl, rfl, hw, by decide, by decide, ?_, rfl, ?_⟩
    · unfold seqIndex?
      rw [refs_len, List.length_cons]
      simp
    have er : (refs (q :: qs)).eraseIdx 0 = refs qs := rfl
    rw [er]
    have E1 : Ext (· = L.w) F H F (upd H L.w (.lst (refs qs))) := Ext.put sm hw D.fw
    have D1 : DevAt A F (upd H L.w (.lst (refs qs))) L d { x with waiting := l } := by
      refine ⟨⟨dx, ?_⟩, ⟨qs, upd_same, eqs, aqs⟩, D.al.keep E1 (fun z => D.wa z.symm), D.cl.keep E1 (fun z => D.wc z.symm), D.wa, D.wc, D.ac, D.fo, D.fw, D.fa, D.fc⟩
      rw [upd_ne D.ow]; exact ho
    generalize upd H L.w (.lst (refs qs)) = H1 at E1 D1
    obtain ⟨dx1, ho1⟩ := D1.obj
    obtain ⟨ps1, hw1, ew1, aw1⟩ := D1.wl
    have oo := E1.sub _ _ hoc
    refine ⟨_, rfl, _, _, dxo, _, _, rfl, oo, T.c_Outcome, T.n_Outcome_done, rfl, _, rfl, ?_⟩
    cases done with
    | false =>
      refine iteT ?_
      obtain ⟨pc, hcl, ecl, acl⟩ := D1.cl
      refine ⟨_, rfl, _, _, dx1, _, _, rfl, ho1, T.c_Device, T.n_Device_clashes, rfl, .inl ⟨rfl, _, SqL.of hcl⟩, _, rfl, L.c, _, _, rfl, rfl, hcl, ?_, ?_⟩
      · rw [refs_len]
        have : pc.length = x.clashes.length := by rw [← ecl, eds_len]
        exact small1000 (by omega)
      have E2 : Ext (· = L.c) F H1 F (upd H1 L.c (.lst (refs pc ++ [.ref q.1]))) := Ext.put E1.sub hcl D.fc
      refine kN rfl F _ ?_ ((E1.trans E2).weaken ?_)
      · refine ⟨⟨dx1, ?_⟩, D1.wl.keep E2 (fun z => D.wc z), D1.al.keep E2 (fun z => D.ac z), ⟨pc ++ [(q.1, e)], ?_, eds_snoc ecl _, all_snoc acl aq⟩, D.wa, D.wc, D.ac, D.fo, D.fw, D.fa, D.fc⟩
        · rw [upd_ne D.oc]; exact ho1
        · rw [upd_same, refs_snoc]
      · intro b _ z
        rcases z with z | z
        · exact .inr (.inl z)
        · exact .inr (.inr (.inr z))
    | true =>
      refine iteF ?_
      obtain ⟨e', ce', re, kY⟩ := kY rfl
      obtain ⟨dq, fq, cq1, cq2⟩ := aq
      obtain ⟨dc, fc, cc1, cc2⟩ := ce'
      have gq := E1.sub _ _ cq1
      have gc := E1.sub _ _ cc1
      refine ⟨_, rfl, _, _, dq, _, _, rfl, gq, T.c_Change, T.n_Change_kind, chF_kind _ _, rfl, _, rfl, ?_⟩
      -- what follows, whichever list waits now
      have fin : ∀ (F2 H2 : Hp) (w' : Addr), (w' = L.w ∨ H w' = none) → DevAt A F2 H2 { L with w := w' } d { x with waiting := l.map (rOf e e'.change.date) } → Ext L.own F H F2 H2 →
          tIfS (tTest (tOp (rI0 fun i j => .bl (decide (j ≤ i))) (tFld K (tVar 1) "place") (tFld K (tVar 0) "knows"))) (tDrop (tBM K "list" rAppend (tFld K (tVar 0) "answered") (tCons (tFld K (tVar 1) "change") tNil))) tNext
            { nx := fun _ H' => Q .non H', rt := Q } [some (.ref L.o), some (.ref o), some (.ref q.1)] H2 := by
        intro F2 H2 w' nw D2 E2
        obtain ⟨dx2, ho2⟩ := D2.obj
        have oo2 := E2.sub _ _ (E2.fz _ _ hoc)
        refine ⟨_, rfl, _, _, dxo, _, _, rfl, oo2, T.c_Outcome, T.n_Outcome_place, rfl, _, rfl, _, _, dx2, _, _, rfl, ho2, T.c_Device, T.n_Device_knows, rfl, _, _, rfl, rfl, _, rfl, ?_⟩
        by_cases hp : x.known ≤ p
        · rw [decide_eq_true (show (x.known : Int) ≤ (p : Int) by omega)]
          refine iteT ?_
          obtain ⟨pa, hal, eal, aal⟩ := D2.al
          refine ⟨_, rfl, _, _, dx2, _, _, rfl, ho2, T.c_Device, T.n_Device_answered, rfl, .inl ⟨rfl, _, SqL.of hal⟩, _, rfl, _, _, dxo, _, _, rfl, oo2, T.c_Outcome, T.n_Outcome_change, rfl, L.a, _, _, rfl, rfl, hal, ?_, ?_⟩
          · rw [refs_len]
            have : pa.length = x.sent.length := by
              rw [← chs_len, eal]; unfold sentCs; rw [List.length_map]
            exact small1000 (by omega)
          have E3 : Ext (· = L.a) F2 H2 F2 (upd H2 L.a (.lst (refs pa ++ [.ref c]))) := Ext.put E2.sub hal D2.fa
          refine kY F2 _ w' nw ?_ ((E2.trans E3).weaken ?_)
          · refine ⟨⟨dx2, ?_⟩, D2.wl.keep E3 D2.wa, ⟨pa ++ [(c, e')], ?_, ?_, all_snoc aal ⟨dc, fc, E2.fz _ _ cc1, E2.fz _ _ cc2⟩⟩, D2.cl.keep E3 (fun z => D2.ac z.symm), D2.wa, D2.wc, D2.ac, D2.fo, D2.fw, D2.fa, D2.fc⟩
            · show (upd H2 L.a _) L.o = _
              rw [upd_ne D2.oa]; exact ho2
            · show (upd H2 L.a _) L.a = _
              rw [upd_same, refs_snoc]
            · rw [chs_snoc eal, sent_is, if_neg (by omega), re]
              rfl
          · intro b _ z
            rcases z with z | z
            · exact z
            · exact .inr (.inr (.inl z))
        · rw [decide_eq_false (show ¬ (x.known : Int) ≤ (p : Int) by omega)]
          refine iteF ?_
          refine kY F2 _ w' nw ?_ E2
          have es : sentOf x p (rOf e e'.change.date e) = x.sent := by unfold sentOf; rw [if_pos (by omega)]
          rw [es]
          exact D2
      rw [dec2]
      by_cases k2 : e.change.kind = 2
      · rw [decide_eq_true k2]
        refine iteT ?_
        refine ⟨_, rfl, _, dx1, _, rfl, ho1, rfl, _, rfl, _, _, dq, _, _, rfl, gq, T.c_Change, T.n_Change_date, chF_date _ _, _, rfl, _, _, dxo, _, _, rfl, oo, T.c_Outcome, T.n_Outcome_change, rfl, _, _, dc, _, _, rfl, gc, T.c_Change, T.n_Change_date, chF_date _ _, L, d, _, F, e.change.date, e'.change.date, rfl, D1, E1.sub, ?_, ?_⟩
        · show l.length ≤ 1000
          rw [hwt] at len
          simp at len
          omega
        intro F2 H2 w' nw D2 E2
        have er2 : rOf e e'.change.date = Cl07.renamed e.change.date e'.change.date := by unfold rOf; rw [if_pos k2]
        refine fin F2 H2 w' (.inr ?_) (by rw [er2]; exact D2) ((E1.trans E2).weaken ?_)
        · cases z : H w' with
          | none => rfl
          | some v => exact absurd nw (E1.al _ (ne_none z))
        · intro b _ z
          rcases z with z | z
          · exact .inr (.inl z)
          · exact .inl z
      · rw [decide_eq_false k2]
        refine iteF ?_
        have er2 : rOf e e'.change.date = fun y => y := by unfold rOf; rw [if_neg k2]
        refine fin F H1 L.w (.inl rfl) (by rw [er2, List.map_id']; exact D1) (E1.weaken ?_)
        intro b _ z
        exact .inr (.inl z)
end
/-! ### The house as it lies in the heap -/
structure HL where
  o : Addr
  l : Addr
  t : Addr
def hoF (s : Cl07.State) (M : HL) : List (Str × V) := [("changes", .ref M.l), ("dates_made", .int s.made), ("floor", .int s.floor), ("last_outcomes", .ref M.t)]
def OcOk (A : Ad) (F : Hp) (v : Option V) (h : Cl07.Heard) (log : List Cl07.Change) : Prop :=
  (h.count = 0 ∧ v = none) ∨ (h.count ≠ 0 ∧ ∃ (o dx c : Addr) (p : Nat), v = some (.ref o) ∧ F o = some (.ins A.C_Outcome dx (ocF h.count (decide (h.what = 1)) p c)) ∧ (h.what = 1 → p = h.num ∧ ∃ e, ChAt A F c e ∧ log[h.num]? = some e.change))
structure HouseAt (A : Ad) (F H : Hp) (M : HL) (s : Cl07.State) (n : Nat) : Prop where
  obj : ∃ dx, H M.o = some (.ins A.C_House dx (hoF s M))
  ch : ChsAt A F H M.l s.log
  oc : ∃ kvs, H M.t = some (.dK kvs) ∧ kvs.length ≤ n ∧ ∀ d : Nat, d < 3 → OcOk A F (valV kvs (Sum.inl (d : Int))) (hd s d) s.log
  fo : F M.o = none
  fl : F M.l = none
  ft : F M.t = none
def HL.own (M : HL) (b : Addr) : Prop := b = M.o ∨ b = M.l ∨ b = M.t
theorem OcOk.more {A : Ad} {F F' : Hp} {v : Option V} {h : Cl07.Heard} {log m : List Cl07.Change} (o : OcOk A F v h log) (s : Same F F') : OcOk A F' v h (log ++ m) := by
  rcases o with o | ⟨h0, o, dx, c, p, hv, ho, hc⟩
  · exact .inl o
  · refine .inr ⟨h0, o, dx, c, p, hv, s _ _ ho, fun w => ?_⟩
    obtain ⟨h1, e, ce, g⟩ := hc w
    exact ⟨h1, e, ce.more s, get_append g⟩
theorem HouseAt.keep {A : Ad} {C : Addr → Prop} {F H F' H' : Hp} {M : HL} {s : Cl07.State} {n : Nat} (D : HouseAt A F H M s n) (E : Ext C F H F' H') (no : ∀ b, M.own b → ¬ C b) : HouseAt A F' H' M s n := by
  obtain ⟨dx, ho⟩ := D.obj
  obtain ⟨kvs, ht, hl, hk⟩ := D.oc
  exact ⟨⟨dx, E.fr _ _ ho (no _ (.inl rfl))⟩, D.ch.keep E (no _ (.inr (.inl rfl))), ⟨kvs, E.fr _ _ ht (no _ (.inr (.inr rfl))), hl, fun d h => by
    have := (hk d h).more (m := []) E.fz
    rwa [List.append_nil] at this⟩, (E.nf _ (ne_none ho)).trans D.fo, (E.nf _ D.ch.some).trans D.fl, (E.nf _ (ne_none ht)).trans D.ft⟩
theorem HouseAt.some {A : Ad} {F H : Hp} {M : HL} {s : Cl07.State} {n : Nat} (D : HouseAt A F H M s n) {b : Addr} (h : M.own b) : H b ≠ none := by
  obtain ⟨dx, ho⟩ := D.obj
  obtain ⟨kvs, ht, _⟩ := D.oc
  rcases h with h | h | h
  · rw [h]; exact ne_none ho
  · rw [h]; exact D.ch.some
  · rw [h]; exact ne_none ht
theorem HouseAt.later {A : Ad} {F H : Hp} {M : HL} {s : Cl07.State} {n k : Nat} (D : HouseAt A F H M s n) (h : n ≤ k) : HouseAt A F H M s k := by
  obtain ⟨kvs, ht, hl, hk⟩ := D.oc
  exact { D with oc := ⟨kvs, ht, Nat.le_trans hl h, hk⟩ }
theorem valV_isSome (n : Nat) : ∀ qs : List DP, (valV (kvsOf qs) (Sum.inl (n : Int))).isSome = (dsOf qs).any fun x => x.id == n
  | [] => rfl
  | q :: r => by
    show (valV ((Sum.inl (q.1.id : Int), V.ref q.2) :: kvsOf r) _).isSome = ((q.1.id == n) || (dsOf r).any fun x => x.id == n)
    by_cases e : q.1.id = n
    · rw [valV_pos (by show Sum.inl (q.1.id : Int) = _; rw [e])]
      simp [e]
    · rw [valV_neg (fun z => e (by have := Sum.inl.inj z; omega)), valV_isSome n r]
      simp [e]
section
variable {P : Program} {w : World} {K : PySem.W.Frag} {mg : Str → Option Value} {base : Heap} {A : Ad}
def spDeviceInit (A : Ad) : Sp := fun vs H Q _ => ∃ (p dx : Addr) (d : Nat) (F : Hp), vs = [.ref p, .int d] ∧ H p = some (.ins A.C_Device dx []) ∧ Same F H ∧ F p = none ∧
  ∀ (H' : Hp) (L : DL), L.o = p → H L.w = none → H L.a = none → H L.c = none → DevAt A F H' L d ⟨0, 0, [], [], [], []⟩ → Keeps (· = p) H H' → Q .non H'
theorem ok_Device_init (T : All K mg A) : FnOk P w K mg base CX0 1 A.f_Device_init A.d_Device_init ["self", "number"] (spDeviceInit A) := by
  refine T.F_Device_init.ok sc_Device_init (fun vs H Q E h => ?_) (fun cdv B outer s H vs Q E hr h => ?_)
  · obtain ⟨p, dx, d, F, rfl, _⟩ := h
    rfl
  · obtain ⟨p, dx, d, F, rfl, hp, sm, fp, k⟩ := h
    refine ⟨_, pss_cons (ps_fld (pv 0) (pv 1) rfl) (pss_cons (ps_fld (pv 0) pe_int rfl) (pss_cons (ps_fld (pv 0) pe_int rfl) (pss_cons (ps_fld (pv 0) (pe_lst pa_nil) rfl) (pss_cons (ps_fld (pv 0) (pe_lst pa_nil) rfl) (pss_one (ps_fld (pv 0) (pe_lst pa_nil) rfl)))))), ?_⟩
    refine ⟨_, rfl, _, rfl, p, _, dx, _, rfl, hp, T.c_Device, T.n_Device_number, (by show 0 < 1000; decide), ?_⟩
    refine ⟨_, rfl, p, _, dx, _, rfl, upd_same, T.c_Device, T.n_Device_knows, (by show 1 < 1000; decide), ?_⟩
    refine ⟨_, rfl, p, _, dx, _, rfl, upd_same, T.c_Device, T.n_Device_made, (by show 2 < 1000; decide), ?_⟩
    have up : ∀ {H0 : Hp} {o u v : HO}, upd (upd (upd H0 p o) p u) p v = upd H0 p v := by
      intro H0 o u v; rw [upd_upd, upd_upd]
    rw [up]
    refine ⟨Nat.zero_le _, fun w' nw => ?_⟩
    have ne1 : p ≠ w' := ne_of_none upd_same nw
    have nw0 : H w' = none := by rw [upd_ne (fun z => ne1 z.symm)] at nw; exact nw
    refine ⟨_, rfl, p, _, dx, _, rfl, by rw [upd_ne ne1, upd_same], T.c_Device, T.n_Device_waiting, (by show 3 < 1000; decide), ?_⟩
    refine ⟨Nat.zero_le _, fun a' na => ?_⟩
    have ne2 : p ≠ a' := ne_of_none upd_same na
    have na1 := na
    rw [upd_ne (fun z => ne2 z.symm)] at na1
    have ne3 : w' ≠ a' := ne_of_none upd_same na1
    have na0 : H a' = none := by rw [upd_ne (fun z => ne3 z.symm), upd_ne (fun z => ne2 z.symm)] at na1; exact na1
    refine ⟨_, rfl, p, _, dx, _, rfl, by rw [upd_ne ne2, upd_same], T.c_Device, T.n_Device_answered, (by show 4 < 1000; decide), ?_⟩
    refine ⟨Nat.zero_le _, fun c' nc => ?_⟩
    have ne4 : p ≠ c' := ne_of_none upd_same nc
    have nc1 := nc
    rw [upd_ne (fun z => ne4 z.symm)] at nc1
    have ne5 : a' ≠ c' := ne_of_none upd_same nc1
    rw [upd_ne (fun z => ne5 z.symm), upd_ne (fun z => ne4 z.symm)] at nc1
    have ne6 : w' ≠ c' := ne_of_none upd_same nc1
    have nc0 : H c' = none := by rw [upd_ne (fun z => ne6 z.symm), upd_ne (fun z => ne4 z.symm)] at nc1; exact nc1
    refine ⟨_, rfl, p, _, dx, _, rfl, by rw [upd_ne ne4, upd_same], T.c_Device, T.n_Device_clashes, (by show 5 < 1000; decide), ?_⟩
    refine k _ ⟨p, w', a', c'⟩ rfl nw0 na0 nc0 ⟨⟨dx, upd_same⟩, ⟨[], ?_, rfl, fun q m => by cases m⟩, ⟨[], ?_, rfl, fun q m => by cases m⟩, ⟨[], ?_, rfl, fun q m => by cases m⟩, ne3, ne6, ne5, fp, free_of sm nw0, free_of sm na0, free_of sm nc0⟩ ?_
    · rw [upd_ne (fun z => ne1 z.symm), upd_ne ne6, upd_ne (fun z => ne1 z.symm), upd_ne ne3, upd_ne (fun z => ne1 z.symm), upd_same]; rfl
    · rw [upd_ne (fun z => ne2 z.symm), upd_ne ne5, upd_ne (fun z => ne2 z.symm), upd_same]; rfl
    · rw [upd_ne (fun z => ne4 z.symm), upd_same]; rfl
    · intro b o h nb
      rw [upd_ne nb, upd_ne (ne_of_none h nc0), upd_ne nb, upd_ne (ne_of_none h na0), upd_ne nb, upd_ne (ne_of_none h nw0), upd_ne nb]
      exact h
/-- what is shown -/
def spShown (A : Ad) : Sp := fun vs H Q _ => ∃ (L : DL) (M : HL) (d n : Nat) (s : Cl07.State) (F : Hp), vs = [.ref L.o, .ref M.o] ∧ DevAt A F H L d (Cl07.device s d) ∧ HouseAt A F H M s n ∧ Same F H ∧ (∀ c ∈ shownCs s d, GoodC c) ∧ Fresh (shownCs s d) ∧ (shownCs s d).length ≤ 1000 ∧
  ∀ (H' : Hp) (p : Addr) (qs : List DP), DatesAt F H' p qs → dsOf qs = Cl07.shown s d → Same H H' → H p = none → (∀ q ∈ qs, H q.2 = none) → Q (.ref p) H'
theorem ok_Device_shown (T : All K mg A) : FnOk P w K mg base CX0 3 A.f_Device_shown A.d_Device_shown ["self", "house"] (spShown A) := by
  refine T.F_Device_shown.ok sc_Device_shown (fun vs H Q E h => ?_) (fun cdv B outer s H vs Q E hr h => ?_)
  · obtain ⟨L, M, d, n, s, F, rfl, _⟩ := h
    rfl
  · obtain ⟨L, M, d, n, s, F, rfl, D, D2, sm, gd, fr, len, k⟩ := h
    obtain ⟨dx, ho⟩ := D.obj
    obtain ⟨dx2, ho2⟩ := D2.obj
    obtain ⟨pw, hw, ew, aw⟩ := D.wl
    obtain ⟨pa, ha, ea, aa⟩ := D.al
    obtain ⟨pc, hc, ec, ac⟩ := D2.ch
    refine ⟨_, pss_one (ps_ret (pe_call (ok_dates_behind T) hr rfl T.g_dates_behind T.F_dates_behind.kp T.b_dates_behind .nil pass0 (pa_cons (pe_op op_cat (pe_op op_cat (pe_slice sl_list (pe_fld (pv 1) rfl) po_none (po_some (pe_fld (pv 0) rfl))) (pe_fld (pv 0) rfl)) (pe_fld (pv 0) rfl)) pa_nil))), ?_⟩
    have ecs : chs (pc.take (Cl07.device s d).known ++ pa ++ pw) = shownCs s d := by
      unfold shownCs
      rw [← ea, ← ec]
      unfold chs waitCs
      rw [← ew]
      unfold eds
      rw [List.map_append, List.map_append, List.map_take, List.map_map]
      rfl
    have lens : (pc.take (Cl07.device s d).known ++ pa ++ pw).length ≤ 1000 := by rw [← chs_len, ecs]; exact len
    refine ⟨_, rfl, _, _, dx2, _, _, rfl, ho2, T.c_House, T.n_House_changes, rfl, _, rfl, _, _, dx, _, _, rfl, ho, T.c_Device, T.n_Device_knows, rfl, _, rfl, _, _, rfl, SqL.of hc, fun p1 n1 => ?_⟩
    rw [ixN_eq]
    have s1 : Same H (upd H p1 (.lst ((refs pc).take (Cl07.device s d).known))) := Same.new n1
    refine ⟨_, rfl, _, _, dx, _, _, rfl, s1 _ _ ho, T.c_Device, T.n_Device_answered, rfl, _, _, _, _, rfl, rfl, upd_same, s1 _ _ ha, ?_, fun p2 n2 => ?_⟩
    · rw [List.length_append, List.length_append] at lens
      rw [List.length_take, refs_len, refs_len]
      rw [List.length_take] at lens
      exact Nat.le_trans (by omega) (Nat.le_of_lt (small1000 (Nat.le_refl _)))
    have s2 := s1.trans (Same.new (o := .lst ((refs pc).take (Cl07.device s d).known ++ refs pa)) n2)
    refine ⟨_, rfl, _, _, dx, _, _, rfl, s2 _ _ ho, T.c_Device, T.n_Device_waiting, rfl, _, _, _, _, rfl, rfl, upd_same, s2 _ _ hw, ?_, fun p3 n3 => ?_⟩
    · rw [List.length_append, List.length_append] at lens
      rw [List.length_append, List.length_take, refs_len, refs_len, refs_len]
      rw [List.length_take] at lens
      exact Nat.le_trans (by omega) (Nat.le_of_lt (small1000 (Nat.le_refl _)))
    have s3 := s2.trans (Same.new (o := .lst ((refs pc).take (Cl07.device s d).known ++ refs pa ++ refs pw)) n3)
    refine ⟨p3, pc.take (Cl07.device s d).known ++ pa ++ pw, F, rfl, ?_, ?_, sm.trans s3, by rw [ecs]; exact gd, by rw [ecs]; exact fr, lens, ?_⟩
    · rw [upd_same]
      unfold refs
      rw [List.map_append, List.map_append, List.map_take]
    · intro q m
      rcases List.mem_append.mp m with m | m
      · rcases List.mem_append.mp m with m | m
        · exact ac q (List.mem_of_mem_take m)
        · exact aa q m
      · exact aw q m
    · intro H' p qs dat ds sH np nq
      rw [ecs, ← shown_is] at ds
      exact k H' p qs dat ds (s3.trans sH) (s3.free np) fun q m => s3.free (nq q m)
end
/-! ### What the house does -/
section
variable {P : Program} {w : World} {K : PySem.W.Frag} {mg : Str → Option Value} {base : Heap} {A : Ad}
def spOutcomeInit (A : Ad) : Sp := fun vs H Q _ => ∃ (p dx c : Addr) (cnt pl : Nat) (done : Bool), vs = [.ref p, .int cnt, .bl done, .int pl, .ref c] ∧ H p = some (.ins A.C_Outcome dx []) ∧
  ∀ H' : Hp, H' p = some (.ins A.C_Outcome dx (ocF cnt done pl c)) → Keeps (· = p) H H' → Q .non H'
theorem ok_Outcome_init (T : All K mg A) : FnOk P w K mg base CX0 1 A.f_Outcome_init A.d_Outcome_init ["self", "count", "done", "place", "change"] (spOutcomeInit A) := by
  refine T.F_Outcome_init.ok sc_Outcome_init (fun vs H Q E h => ?_) (fun cdv B outer s H vs Q E hr h => ?_)
  · obtain ⟨p, dx, c, cnt, pl, done, rfl, _⟩ := h
    rfl
  · obtain ⟨p, dx, c, cnt, pl, done, rfl, hp, k⟩ := h
    refine ⟨_, pss_cons (ps_fld (pv 0) (pv 1) rfl) (pss_cons (ps_fld (pv 0) (pv 2) rfl) (pss_cons (ps_fld (pv 0) (pv 3) rfl) (pss_one (ps_fld (pv 0) (pv 4) rfl)))), ?_⟩
    refine ⟨_, rfl, _, rfl, p, _, dx, _, rfl, hp, T.c_Outcome, T.n_Outcome_count, (by show 0 < 1000; decide), ?_⟩
    refine ⟨_, rfl, _, rfl, p, _, dx, _, rfl, upd_same, T.c_Outcome, T.n_Outcome_done, (by show 1 < 1000; decide), ?_⟩
    refine ⟨_, rfl, _, rfl, p, _, dx, _, rfl, upd_same, T.c_Outcome, T.n_Outcome_place, (by show 2 < 1000; decide), ?_⟩
    refine ⟨_, rfl, _, rfl, p, _, dx, _, rfl, upd_same, T.c_Outcome, T.n_Outcome_change, (by show 3 < 1000; decide), ?_⟩
    refine k _ upd_same fun b o h hb => ?_
    rw [upd_ne hb, upd_ne hb, upd_ne hb, upd_ne hb]
    exact h
def spHouseInit (A : Ad) : Sp := fun vs H Q _ => ∃ (p dx : Addr) (F : Hp), vs = [.ref p] ∧ H p = some (.ins A.C_House dx []) ∧ Same F H ∧ F p = none ∧
  ∀ (H' : Hp) (M : HL), M.o = p → H M.l = none → H M.t = none → HouseAt A F H' M Cl07.init 0 → Keeps (· = p) H H' → Q .non H'
theorem hd_init {d : Nat} (h : d < 3) : hd Cl07.init d = ⟨0, 0, 0⟩ := by
  match d, h with
  | 0, _ => rfl
  | 1, _ => rfl
  | 2, _ => rfl
theorem ok_House_init (T : All K mg A) : FnOk P w K mg base CX0 1 A.f_House_init A.d_House_init ["self"] (spHouseInit A) := by
  refine T.F_House_init.ok sc_House_init (fun vs H Q E h => ?_) (fun cdv B outer s H vs Q E hr h => ?_)
  · obtain ⟨p, dx, F, rfl, _⟩ := h
    rfl
  · obtain ⟨p, dx, F, rfl, hp, sm, fp, k⟩ := h
    refine ⟨_, pss_cons (ps_fld (pv 0) (pe_lst pa_nil) rfl) (pss_cons (ps_fld (pv 0) pe_int rfl) (pss_cons (ps_fld (pv 0) pe_int rfl) (pss_one (ps_fld (pv 0) pe_dnewK rfl)))), ?_⟩
    refine ⟨Nat.zero_le _, fun l nl => ?_⟩
    have ne1 : p ≠ l := ne_of_none hp nl
    refine ⟨_, rfl, p, _, dx, _, rfl, by rw [upd_ne ne1]; exact hp, T.c_House, T.n_House_changes, (by show 0 < 1000; decide), ?_⟩
    refine ⟨_, rfl, p, _, dx, _, rfl, upd_same, T.c_House, T.n_House_dates_made, (by show 1 < 1000; decide), ?_⟩
    refine ⟨_, rfl, p, _, dx, _, rfl, upd_same, T.c_House, T.n_House_floor, (by show 2 < 1000; decide), ?_⟩
    intro t nt
    have ne2 : p ≠ t := ne_of_none upd_same nt
    have nt1 := nt
    rw [upd_ne (fun z => ne2 z.symm), upd_ne (fun z => ne2 z.symm), upd_ne (fun z => ne2 z.symm)] at nt1
    have ne3 : l ≠ t := ne_of_none upd_same nt1
    have nt0 : H t = none := by rw [upd_ne (fun z => ne3 z.symm)] at nt1; exact nt1
    refine ⟨_, rfl, p, _, dx, _, rfl, by rw [upd_ne ne2]; exact upd_same, T.c_House, T.n_House_last_outcomes, (by show 3 < 1000; decide), ?_⟩
    refine k _ ⟨p, l, t⟩ rfl nl nt0 ⟨⟨dx, upd_same⟩, ⟨[], ?_, rfl, fun q m => by cases m⟩, ⟨[], ?_, Nat.le_refl _, fun d h => .inl ⟨by rw [hd_init h], rfl⟩⟩, fp, free_of sm nl, free_of sm nt0⟩ ?_
    · rw [upd_ne (fun z => ne1 z.symm), upd_ne ne3, upd_ne (fun z => ne1 z.symm), upd_ne (fun z => ne1 z.symm), upd_ne (fun z => ne1 z.symm), upd_same]; rfl
    · rw [upd_ne (fun z => ne2 z.symm), upd_same]
    · intro b o h nb
      rw [upd_ne nb, upd_ne (ne_of_none h nt0), upd_ne nb, upd_ne nb, upd_ne nb, upd_ne (ne_of_none h nl)]
      exact h
def spHouseDates (A : Ad) : Sp := fun vs H Q _ => ∃ (M : HL) (n : Nat) (s : Cl07.State) (F : Hp), vs = [.ref M.o] ∧ HouseAt A F H M s n ∧ Same F H ∧ (∀ c ∈ s.log, GoodC c) ∧ Fresh s.log ∧ s.log.length ≤ 1000 ∧
  ∀ (H' : Hp) (p : Addr) (qs : List DP), DatesAt F H' p qs → dsOf qs = Cl07.asOf s.log s.log.length → Same H H' → H p = none → (∀ q ∈ qs, H q.2 = none) → Q (.ref p) H'
theorem ok_House_dates (T : All K mg A) : FnOk P w K mg base CX0 3 A.f_House_dates A.d_House_dates ["self"] (spHouseDates A) := by
  refine T.F_House_dates.ok sc_House_dates (fun vs H Q E h => ?_) (fun cdv B outer s H vs Q E hr h => ?_)
  · obtain ⟨M, n, s, F, rfl, _⟩ := h
    rfl
  · obtain ⟨M, n, s, F, rfl, D, sm, gd, fr, len, k⟩ := h
    obtain ⟨dx, ho⟩ := D.obj
    obtain ⟨pc, hc, ec, ac⟩ := D.ch
    refine ⟨_, pss_one (ps_ret (pe_call (ok_dates_behind T) hr rfl T.g_dates_behind T.F_dates_behind.kp T.b_dates_behind .nil pass0 (pa_cons (pe_fld (pv 0) rfl) pa_nil))), ?_⟩
    refine ⟨_, rfl, _, _, dx, _, _, rfl, ho, T.c_House, T.n_House_changes, rfl, M.l, pc, F, rfl, hc, ac, sm, by rw [ec]; exact gd, by rw [ec]; exact fr, by rw [← chs_len, ec]; exact len, ?_⟩
    intro H' p qs dat ds sH np nq
    rw [ec, ← log_is] at ds
    exact k H' p qs dat ds sH np nq
def spLastCount (A : Ad) : Sp := fun vs H Q _ => ∃ (M : HL) (n d : Nat) (s : Cl07.State) (F : Hp), vs = [.ref M.o, .int d] ∧ HouseAt A F H M s n ∧ Same F H ∧ d < 3 ∧ Q (.int (hd s d).count) H
theorem ok_House_last_count (T : All K mg A) : FnOk P w K mg base CX0 1 A.f_House_last_count A.d_House_last_count ["self", "device"] (spLastCount A) := by
  refine T.F_House_last_count.ok sc_House_last_count (fun vs H Q E h => ?_) (fun cdv B outer s H vs Q E hr h => ?_)
  · obtain ⟨M, n, d, s, F, rfl, _⟩ := h
    rfl
  · obtain ⟨M, n, d, s, F, rfl, D, sm, d3, k⟩ := h
    have hu := hu_of hr
    obtain ⟨dx, ho⟩ := D.obj
    obtain ⟨kvs, ht, hl, hk⟩ := D.oc
    refine ⟨_, pss_cons (ps_if (pt_cmp (pc_dnotin hu (pv 1) (pe_fld (pv 0) rfl))) (pss_one (ps_ret pe_int)) pss_nil) (pss_one (ps_ret (pe_fld (pe_dget hu (pe_fld (pv 0) rfl) (pv 1) (fun _ _ => rfl)) rfl))), ?_⟩
    refine ⟨_, rfl, _, rfl, _, _, dx, _, _, rfl, ho, T.c_House, T.n_House_last_outcomes, rfl, M.t, _, rfl, DGet.k (k := Sum.inl (d : Int)) ht, _, rfl, ?_⟩
    rcases hk d d3 with ⟨h0, hv⟩ | ⟨h0, o, dxo, c, p, hv, hoc, _⟩
    · rw [hv]
      refine iteT ?_
      rw [h0] at k
      exact k
    · rw [hv]
      refine iteF ?_
      have g := DGet.k (k := Sum.inl (d : Int)) ht
      rw [hv] at g
      exact ⟨_, rfl, _, _, dx, _, _, rfl, ho, T.c_House, T.n_House_last_outcomes, rfl, _, rfl, M.t, _, rfl, g, _, _, dxo, _, _, rfl, sm _ _ hoc, T.c_Outcome, T.n_Outcome_count, rfl, k⟩
def spCanBeDone (A : Ad) : Sp := fun vs H Q _ => ∃ (M : HL) (n : Nat) (s : Cl07.State) (F : Hp) (c : Addr) (e : Edit), vs = [.ref M.o, .ref c] ∧ HouseAt A F H M s n ∧ Same F H ∧ ChAt A F c e ∧ (∀ c ∈ s.log, GoodC c) ∧ Fresh s.log ∧ s.log.length ≤ 1000 ∧ GoodC e.change ∧
  ∀ H' : Hp, Same H H' → Q (.bl (!Cl07.clash s e)) H'
theorem ok_House_can_be_done (T : All K mg A) : FnOk P w K mg base CX0 4 A.f_House_can_be_done A.d_House_can_be_done ["self", "change"] (spCanBeDone A) := by
  refine T.F_House_can_be_done.ok sc_House_can_be_done (fun vs H Q E h => ?_) (fun cdv B outer s H vs Q E hr h => ?_)
  · obtain ⟨M, n, s, F, c, e, rfl, _⟩ := h
    rfl
  · obtain ⟨M, n, s, F, c, e, rfl, D, sm, ce, gd, fr, len, ge, k⟩ := h
    have hu := hu_of hr
    have hr1 : Room 1 _ := hr.mono (by decide)
    obtain ⟨dx, ho⟩ := D.obj
    obtain ⟨pc, hc, ec, ac⟩ := D.ch
    obtain ⟨dc, fc, c1, c2⟩ := ce
    have gc := sm _ _ c1
    refine ⟨_, pss_cons (ps_if (pt_cmpR op_eq (pe_fld (pv 1) rfl) (pe_k rfl T.k_MAKE_DATE) (nomark _)) (pss_one (ps_ret pe_bl)) pss_nil)
      (pss_cons (ps_if (pt_cmp (pc_dnotin hu (pe_fld (pv 1) rfl) (pe_meth0 (pv 0) T.c_House T.m_House_dates (ok_House_dates T) hr T.b_House_dates .nil pass0))) (pss_one (ps_ret pe_bl)) pss_nil)
      (pss_one (ps_ret (pe_not (pe_callB (cr_any rfl) (by rfl) T.z_any (by decide +kernel) (pa_cons
        (pe_lc (own := [("other", 2)]) (g := gName 2) (tt := tYes) (te := tCall (spAgainst A) [] E0 (tCons (tVar 2) (tCons (tVar 1) tNil))) rfl sc_House_can_be_done.nd (pi_list (pe_slice sl_list (pe_fld (pv 0) rfl) (po_some (pe_fld (pv 1) rfl)) po_none)) (blkOk_by (N := ["self", "change", "other"]) (sc := defScope s_House_can_be_done) (by decide +kernel))
          (fun _ _ _ _ _ => pg_name (i := 2) sc_House_can_be_done.nd rfl (Or.inl rfl)) (fun _ _ _ _ _ => pts_nil)
          (fun _ _ _ _ _ => pe_call (ok_stands_against T) hr1 rfl T.g_stands_against T.F_stands_against.kp T.b_stands_against .nil pass0 (pa_cons (pv 2) (pa_cons (pv 1) pa_nil)))) pa_nil)))))), ?_⟩
    refine ⟨_, rfl, _, _, dc, _, _, rfl, gc, T.c_Change, T.n_Change_kind, chF_kind _ _, rfl, _, rfl, ?_⟩
    rw [dec2]
    by_cases k2 : e.change.kind = 2
    · rw [decide_eq_true k2]
      refine iteT ?_
      have : Cl07.clash s e = false := by unfold Cl07.clash; simp [k2]
      rw [this] at k
      exact k H (Same.refl _)
    · rw [decide_eq_false k2]
      refine iteF ?_
      refine ⟨_, rfl, _, _, dc, _, _, rfl, gc, T.c_Change, T.n_Change_date, chF_date _ _, _, rfl, _, dx, _, rfl, ho, rfl, M, n, s, F, rfl, D, sm, gd, fr, len, ?_⟩
      intro H1 p qs dat ds s1 np nq
      refine ⟨p, _, rfl, DGet.k (k := Sum.inl (e.change.date : Int)) dat.at_, _, rfl, ?_⟩
      rw [valV_isSome, ds]
      have kn : (e.change.kind != 2) = true := bne_iff_ne.mpr k2
      by_cases an : ((Cl07.asOf s.log s.log.length).any fun x => x.id == e.change.date) = true
      · rw [an]
        refine iteF ?_
        refine ⟨_, rfl, _, _, dx, _, _, rfl, s1 _ _ ho, T.c_House, T.n_House_changes, rfl, _, rfl, _, _, dc, _, _, rfl, s1 _ _ gc, T.c_Change, T.n_Change_knew, chF_knew _ _, _, rfl, _, _, rfl, SqL.of (s1 _ _ hc), fun p1 n1 => ?_⟩
        rw [cut_from]
        have e1 : (refs pc).drop e.base = refs (pc.drop e.base) := by unfold refs; rw [List.map_drop]
        rw [e1]
        have s2 := s1.trans (Same.new (o := .lst (refs (pc.drop e.base))) n1)
        refine ⟨p1, rfl, ⟨_, SqL.of upd_same⟩, fun b nb => ?_⟩
        have nb1 : p1 ≠ b := ne_of_none upd_same nb
        refine lc_list (K := K) (a := p1) (xs := refs (pc.drop e.base))
          (fun i H' => H' b = some (.lst ((((pc.drop e.base).take i).map fun (q : CP) => against q.2.change e.change).map V.bl)) ∧ Same H H' ∧ H' p1 = some (.lst (refs (pc.drop e.base)))) ?_ ?_ ?_ ?_
        · exact ⟨upd_same, s2.trans (Same.new nb), by rw [upd_ne nb1, upd_same]⟩
        · rintro i H' _ ⟨_, _, h3⟩
          exact SqL.of h3
        · rintro i y H' hi ⟨h1, h2, h3⟩
          obtain ⟨q, hq, rfl⟩ := refs_get hi
          have mq : q ∈ pc := List.mem_of_mem_drop (List.mem_of_getElem? hq)
          have gq : GoodC q.2.change := gd _ (by rw [← ec]; exact List.mem_map.mpr ⟨q, mq, rfl⟩)
          refine ⟨rfl, tYes_ok (iteT ?_)⟩
          refine ⟨_, rfl, _, rfl, q.1, c, q.2, e, F, rfl, ac q mq, ⟨dc, fc, c1, c2⟩, sm.trans h2, gq, ?_⟩
          refine ⟨_, h1, ?_, ?_, fun b' o hb' => ?_, ?_⟩
          · rw [List.length_map, List.length_map, List.length_take]
            have : (pc.drop e.base).length ≤ pc.length := by rw [List.length_drop]; omega
            have : pc.length = s.log.length := by rw [← chs_len, ec]
            exact small1000 (by omega)
          · rw [upd_same, take_more hq, List.map_append, List.map_append]
            rfl
          · rw [upd_ne (fun z => by
              have := (s2.free nb)
              rw [z, this] at hb'
              cases hb')]
            exact h2 _ _ hb'
          · rw [upd_ne nb1]; exact h3
        · rintro H' ⟨h1, h2, h3⟩
          rw [refs_len, List.take_length] at h1
          refine ⟨b, _, rfl, SqL.of h1, _, rfl, ?_⟩
          have : Cl07.clash s e = (((pc.drop e.base).map fun (q : CP) => against q.2.change e.change).any id) := by
            unfold Cl07.clash
            rw [kn, an, ← ec]
            unfold chs
            rw [← List.map_drop, List.any_map, List.any_map]
            rfl
          rw [← this]
          exact k H' h2
      · have an' : ((Cl07.asOf s.log s.log.length).any fun x => x.id == e.change.date) = false := by
          cases z : ((Cl07.asOf s.log s.log.length).any fun x => x.id == e.change.date) with
          | false => rfl
          | true => exact absurd z an
        rw [an']
        refine iteT ?_
        have : Cl07.clash s e = true := by unfold Cl07.clash; rw [kn, an']; rfl
        rw [this] at k
        exact k H1 s1
end
/-! ### A change comes -/
theorem valV_put_self {kvs : List (Key × V)} {k : Key} {v : V} : valV (putK kvs k v) k = some v := by rw [valV_put, if_pos rfl]
theorem valV_put_ne {kvs : List (Key × V)} {k j : Key} {v : V} (h : ¬ j = k) : valV (putK kvs k v) j = valV kvs j := by rw [valV_put, if_neg h]
theorem inl_ne {a b : Nat} (h : ¬ a = b) : ¬ (Sum.inl (a : Int) : Key) = Sum.inl (b : Int) := fun z => h (by have := Sum.inl.inj z; omega)
def atHouse (s : Cl07.State) (e : Edit) : Edit := ⟨houseChange s e, e.base⟩
theorem atHouse_by (s : Cl07.State) (e : Edit) : (houseChange s e).by_ = e.change.by_ := by unfold houseChange; split <;> rfl
theorem atHouse_count (s : Cl07.State) (e : Edit) : (houseChange s e).count = e.change.count := by unfold houseChange; split <;> rfl
def madeAfter (s : Cl07.State) (e : Edit) : Nat := if e.change.kind = 2 then s.made + 1 else s.made
section
variable {P : Program} {w : World} {K : PySem.W.Frag} {mg : Str → Option Value} {base : Heap} {A : Ad}
def spNumbered (A : Ad) : Sp := fun vs H Q _ => ∃ (M : HL) (n : Nat) (s : Cl07.State) (F : Hp) (c : Addr) (e : Edit), vs = [.ref M.o, .ref c] ∧ HouseAt A F H M s n ∧ Same F H ∧ ChAt A F c e ∧
  ∀ (F' H' : Hp) (c' : Addr), ChAt A F' c' (atHouse s e) → HouseAt A F' H' M { s with made := madeAfter s e } n → Ext (· = M.o) F H F' H' → Q (.ref c') H'
theorem ok_House_numbered (T : All K mg A) : FnOk P w K mg base CX0 4 A.f_House_numbered A.d_House_numbered ["self", "change"] (spNumbered A) := by
  refine T.F_House_numbered.ok sc_House_numbered (fun vs H Q E h => ?_) (fun cdv B outer s H vs Q E hr h => ?_)
  · obtain ⟨M, n, s, F, c, e, rfl, _⟩ := h
    rfl
  · obtain ⟨M, n, s, F, c, e, rfl, D, sm, ce, k⟩ := h
    obtain ⟨dx, ho⟩ := D.obj
    obtain ⟨dc, fc, c1, c2⟩ := ce
    have gc := sm _ _ c1
    refine ⟨_, pss_cons (ps_if (pt_cmpR op_ne (pe_fld (pv 1) rfl) (pe_k rfl T.k_MAKE_DATE) (nomark _)) (pss_one (ps_ret (pv 1))) pss_nil)
      (pss_cons (ps_set (i := 2) sc_House_numbered.nd rfl (Or.inl rfl) (pe_fld (pv 0) rfl))
      (pss_cons (ps_fldaug (pv 0) pe_int in_add)
      (pss_one (ps_ret (pe_meth (pv 1) T.c_Change T.m_Change_with_date (ok_Change_with_date T) hr T.b_Change_with_date .nil pass0 (pa_cons (pv 2) pa_nil)))))), ?_⟩
    refine ⟨_, rfl, _, _, dc, _, _, rfl, gc, T.c_Change, T.n_Change_kind, chF_kind _ _, rfl, _, rfl, ?_⟩
    rw [dec2]
    by_cases k2 : e.change.kind = 2
    · rw [decide_eq_true k2]
      refine iteF ?_
      refine ⟨_, rfl, _, _, dx, _, _, rfl, ho, T.c_House, T.n_House_dates_made, rfl, ?_⟩
      refine ⟨_, rfl, _, _, dx, _, _, rfl, ho, T.c_House, T.n_House_dates_made, rfl, _, _, rfl, rfl, dx, _, ho, (by show 4 < 1000; decide), ?_⟩
      have E1 : Ext (· = M.o) F H F (upd H M.o (.ins A.C_House dx (hoF { s with made := s.made + 1 } M))) := Ext.put sm ho D.fo
      have lo : M.l ≠ M.o := fun z => by
        obtain ⟨pc, hc, _⟩ := D.ch
        rw [z, ho] at hc; cases hc
      have to_ : M.t ≠ M.o := fun z => by
        obtain ⟨kv, ht, _⟩ := D.oc
        rw [z, ho] at ht; cases ht
      have D1 : HouseAt A F (upd H M.o (.ins A.C_House dx (hoF { s with made := s.made + 1 } M))) M { s with made := s.made + 1 } n := by
        obtain ⟨kvs, ht, hl, hk⟩ := D.oc
        exact ⟨⟨dx, upd_same⟩, D.ch.keep E1 lo, ⟨kvs, E1.fr _ _ ht to_, hl, hk⟩, D.fo, D.fl, D.ft⟩
      have e1 : (upd H M.o (.ins A.C_House dx (putF "dates_made" (.int ((s.made : Int) + 1)) (hoF s M)))) = upd H M.o (.ins A.C_House dx (hoF { s with made := s.made + 1 } M)) := rfl
      rw [e1]
      generalize upd H M.o (.ins A.C_House dx (hoF { s with made := s.made + 1 } M)) = H1 at E1 D1
      refine ⟨_, rfl, _, dc, _, rfl, E1.sub _ _ c1, chF_with_date _ _, _, rfl, c, e, s.made, F, rfl, ⟨dc, fc, c1, c2⟩, E1.sub, ?_⟩
      intro F2 H2 c' nc' cc E2
      refine k F2 H2 c' ?_ ?_ ((E1.trans E2).weaken fun b _ z => by
        rcases z with z | z
        · exact z
        · exact z.elim)
      · have : atHouse s e = setDate e s.made := by
          unfold atHouse houseChange setDate
          rw [if_pos k2]
        rw [this]; exact cc
      · have : madeAfter s e = s.made + 1 := by unfold madeAfter; rw [if_pos k2]
        rw [this]
        exact D1.keep E2 fun b _ z => z
    · rw [decide_eq_false k2]
      refine iteT ?_
      refine ⟨_, rfl, ?_⟩
      refine k F H c ?_ ?_ (Ext.refl sm)
      · have : atHouse s e = e := by
          unfold atHouse houseChange
          rw [if_neg k2]
        rw [this]; exact ⟨dc, fc, c1, c2⟩
      · have : madeAfter s e = s.made := by unfold madeAfter; rw [if_neg k2]
        rw [this]; exact D
/-- a new Outcome -/
theorem made_outcome {F H H1 : Hp} {x dx c : Addr} {cnt p : Nat} {done : Bool} (s : Same F H) (nx : H x = none) (nd : H dx = none)
    (h : H1 x = some (.ins A.C_Outcome dx (ocF cnt done p c))) (kp : Keeps (· = x) (upd (upd H dx (.own x)) x (.ins A.C_Outcome dx [])) H1) :
    ∃ F1, F1 x = some (.ins A.C_Outcome dx (ocF cnt done p c)) ∧ Ext (fun _ => False) F H F1 H1 := by
  have sm : Same H H1 := Same.made nx nd kp
  have np := free_of s nx
  exact ⟨upd F x (.ins A.C_Outcome dx (ocF cnt done p c)), upd_same, (Ext.of_same s sm).freeze nx np h⟩
def spReceive (A : Ad) : Sp := fun vs H Q _ => ∃ (M : HL) (n d : Nat) (s : Cl07.State) (F : Hp) (c : Addr) (e : Edit), vs = [.ref M.o, .ref c] ∧ HouseAt A F H M s n ∧ Same F H ∧ ChAt A F c e ∧ (∀ c ∈ s.log, GoodC c) ∧ Fresh s.log ∧ s.log.length < 1000 ∧ n < 1000 ∧ GoodC e.change ∧
  e.change.by_ = d ∧ d < 3 ∧ s.heard.length = 3 ∧ e.change.count ≠ 0 ∧
  ∀ (F' H' : Hp), HouseAt A F' H' M (Cl07.come s d e) (n + 1) → Ext M.own F H F' H' → Q .non H'
theorem hd_heard {s : Cl07.State} {d d' : Nat} {x : Cl07.Heard} {lg : List Cl07.Change} {m : Nat} (hl : s.heard.length = 3) (h : d < 3) : hd { s with log := lg, made := m, heard := s.heard.set d x } d' = if d' = d then x else hd s d' := hd_set hl h
theorem ok_House_receive (T : All K mg A) : FnOk P w K mg base CX0 5 A.f_House_receive A.d_House_receive ["self", "change"] (spReceive A) := by
  refine T.F_House_receive.ok sc_House_receive (fun vs H Q E h => ?_) (fun cdv B outer s H vs Q E hr h => ?_)
  · obtain ⟨M, n, d, s, F, c, e, rfl, _⟩ := h
    rfl
  · obtain ⟨M, n, d, s, F, c, e, rfl, D, sm, ce, gd, fr, len, nb, ge, by_, d3, hl3, cnt, k⟩ := h
    have hu := hu_of hr
    have hr1 : Room 1 _ := hr.mono (by decide)
    have hr2 : Room 2 _ := hr.mono (by decide)
    obtain ⟨dx, ho⟩ := D.obj
    obtain ⟨dc, fc, c1, c2⟩ := ce
    have gc := sm _ _ c1
    refine ⟨_, pss_cons (ps_if (pt_cmpR op_le (pe_fld (pv 1) rfl) (pe_meth (pv 0) T.c_House T.m_House_last_count (ok_House_last_count T) hr1 T.b_House_last_count .nil pass0 (pa_cons (pe_fld (pv 1) rfl) pa_nil)) (nomark _)) (pss_one ps_retN) pss_nil)
      (pss_cons (ps_set (i := 2) sc_House_receive.nd rfl (Or.inl rfl) (pe_callB call_len_seq (by rfl) T.z_len PySem.boot_len (pa_cons (pe_fld (pv 0) rfl) pa_nil)))
      (pss_cons (ps_set (i := 3) sc_House_receive.nd rfl (Or.inl rfl) (pe_meth (pv 0) T.c_House T.m_House_can_be_done (ok_House_can_be_done T) hr T.b_House_can_be_done .nil pass0 (pa_cons (pv 1) pa_nil)))
      (pss_cons (ps_if (pt_val (pv 3)) (pss_cons (ps_set (i := 1) sc_House_receive.nd rfl (Or.inl rfl) (pe_meth (pv 0) T.c_House T.m_House_numbered (ok_House_numbered T) hr T.b_House_numbered .nil pass0 (pa_cons (pv 1) pa_nil)))
          (pss_one (ps_expr (pe_bm PySem.F.plainAttrs_list PySem.F.slot_list_append PySem.F.type_list_append mt_append (pe_fld (pv 0) rfl) (pa_cons (pv 1) pa_nil))))) pss_nil)
      (pss_one (ps_dput hu (pe_fld (pv 0) rfl) (pe_fld (pv 1) rfl) (pe_make T.mk_Outcome (ok_Outcome_init T) hr2 rfl T.g_Outcome T.b_Outcome_init .nil pass0 (pa_cons (pe_fld (pv 1) rfl) (pa_cons (pv 3) (pa_cons (pv 2) (pa_cons (pv 1) pa_nil))))) rfl))))), ?_⟩
    refine ⟨_, rfl, _, _, dc, _, _, rfl, gc, T.c_Change, T.n_Change_count, chF_count _ _, _, rfl, _, dx, _, rfl, ho, rfl, _, rfl, _, _, dc, _, _, rfl, gc, T.c_Change, T.n_Change_device, chF_device _ _, M, n, d, s, F, (by rw [by_]; rfl), D, sm, d3, _, _, rfl, rfl, _, rfl, ?_⟩
    by_cases old : e.change.count ≤ (hd s d).count
    · rw [decide_eq_true (show (e.change.count : Int) ≤ ((hd s d).count : Int) by omega)]
      refine iteT ?_
      refine k F H ?_ (Ext.refl sm)
      rw [come_old old]
      exact D.later (Nat.le_succ n)
    · rw [decide_eq_false (show ¬ (e.change.count : Int) ≤ ((hd s d).count : Int) by omega)]
      refine iteF ?_
      obtain ⟨pc, hc, ec, ac⟩ := D.ch
      have pcl : pc.length = s.log.length := by rw [← chs_len, ec]
      refine ⟨_, rfl, _, _, dx, _, _, rfl, ho, T.c_House, T.n_House_changes, rfl, _, _, rfl, .inl (SqL.of hc), ?_⟩
      refine ⟨_, rfl, _, dx, _, rfl, ho, rfl, _, rfl, M, n, s, F, c, e, rfl, D, sm, ⟨dc, fc, c1, c2⟩, gd, fr, by omega, ge, ?_⟩
      intro H1 s1
      have E1 : Ext (fun _ => False) F H F H1 := Ext.of_same sm s1
      have D1 := D.keep E1 fun b _ z => z
      have sz : (refs pc).length = s.log.length := by rw [refs_len, pcl]
      rw [sz]
      -- the last statement, whatever stands
      have fin : ∀ (F2 H2 : Hp) (c2' : Addr) (e2 : Edit) (s2 : Cl07.State) (done : Bool), ChAt A F2 c2' e2 → e2.change.by_ = d → e2.change.count = e.change.count → HouseAt A F2 H2 M s2 n → s2.heard = s.heard → Ext M.own F H F2 H2 →
          (done = true → s2.log[s.log.length]? = some e2.change) →
          (∀ F' H', HouseAt A F' H' M { s2 with heard := s.heard.set d ⟨e.change.count, if done = true then 1 else 2, if done = true then s.log.length else 0⟩ } (n + 1) → Ext M.own F H F' H' → Q .non H') →
          sDPut (tFld K (tVar 0) "last_outcomes") (tFld K (tVar 1) "device") (tMake A.C_Outcome (spOutcomeInit A) [] E0 (tCons (tFld K (tVar 1) "count") (tCons (tVar 3) (tCons (tVar 2) (tCons (tVar 1) tNil)))))
            { nx := fun _ H' => Q .non H', rt := Q } [some (.ref M.o), some (.ref c2'), some (.int (s.log.length : Int)), some (.bl done)] H2 := by
        intro F2 H2 c2' e2 s2 done ce2 by2 cn2 D2 hs2 E2 lg kk
        obtain ⟨d2, f2, g1, g2⟩ := ce2
        obtain ⟨dx2, ho2⟩ := D2.obj
        have gg := E2.sub _ _ g1
        refine ⟨_, rfl, _, _, d2, _, _, rfl, gg, T.c_Change, T.n_Change_count, chF_count _ _, _, rfl, _, rfl, _, rfl, ?_⟩
        intro x dx' nx nd ne
        refine ⟨x, dx', c2', e2.change.count, s.log.length, done, rfl, upd_same, fun H3 hx kp => ?_⟩
        obtain ⟨F3, o3, E3⟩ := made_outcome E2.sub nx nd hx kp
        have D3 := D2.keep E3 fun b _ z => z
        obtain ⟨dx3, ho3⟩ := D3.obj
        obtain ⟨kvs, ht, hlk, hk⟩ := D3.oc
        refine ⟨rfl, _, rfl, _, _, dx3, _, _, rfl, ho3, T.c_House, T.n_House_last_outcomes, rfl, _, rfl, _, _, d2, _, _, rfl, E3.sub _ _ (E3.fz _ _ g1), T.c_Change, T.n_Change_device, chF_device _ _, M.t, _, rfl, DPut.k (k := Sum.inl (e2.change.by_ : Int)) ht (small1000 (by omega)), ?_⟩
        have E4 : Ext (· = M.t) F3 H3 F3 (upd H3 M.t (.dK (putK kvs (Sum.inl (e2.change.by_ : Int)) (.ref x)))) := Ext.put E3.sub ht D3.ft
        refine kk F3 _ ?_ (((E2.trans E3).trans E4).weaken ?_)
        · have lt : M.l ≠ M.t := fun z => by
            obtain ⟨pc', hc', _⟩ := D3.ch
            rw [z, ht] at hc'; cases hc'
          have ot : M.o ≠ M.t := fun z => by
            rw [z, ht] at ho3; cases ho3
          refine ⟨⟨dx3, ?_⟩, D3.ch.keep E4 lt, ⟨_, upd_same, ?_, ?_⟩, D3.fo, D3.fl, D3.ft⟩
          · rw [upd_ne ot]; exact ho3
          · exact Nat.le_trans (length_putK _ _ _) (by omega)
          · intro j j3
            have hj : hd { s2 with heard := s.heard.set d ⟨e.change.count, if done = true then 1 else 2, if done = true then s.log.length else 0⟩ } j = if j = d then ⟨e.change.count, if done = true then 1 else 2, if done = true then s.log.length else 0⟩ else hd s j := hd_set hl3 d3
            rw [hj, by2]
            by_cases jd : j = d
            · subst jd
              rw [if_pos rfl, valV_put_self]
              refine .inr ⟨cnt, x, dx', c2', s.log.length, rfl, ?_, ?_⟩
              · rw [o3, cn2]
                cases done <;> rfl
              · intro w1
                cases done with
                | false => cases w1
                | true => exact ⟨rfl, e2, ⟨d2, f2, E3.fz _ _ g1, E3.fz _ _ g2⟩, lg rfl⟩
            · rw [if_neg jd, valV_put_ne (inl_ne jd)]
              have := hk j j3
              have e' : hd s2 j = hd s j := by unfold hd; rw [hs2]
              rw [e'] at this
              exact this
        · intro b _ z
          rcases z with (z | z) | z
          · exact z
          · exact z.elim
          · exact .inr (.inr z)
      cases cl : Cl07.clash s e with
      | true =>
        refine ⟨_, rfl, _, rfl, ?_⟩
        refine iteF ?_
        refine fin F H1 c e s false ⟨dc, fc, c1, c2⟩ by_ rfl D1 rfl (E1.weaken fun b _ z => z.elim) (fun z => by cases z) ?_
        intro F' H' D' E'
        refine k F' H' ?_ E'
        rw [come_not old cl]
        exact D'
      | false =>
        refine ⟨_, rfl, _, rfl, ?_⟩
        refine iteT ?_
        obtain ⟨dx1, ho1⟩ := D1.obj
        refine ⟨_, rfl, _, dx1, _, rfl, ho1, rfl, _, rfl, M, n, s, F, c, e, rfl, D1, E1.sub, ⟨dc, fc, c1, c2⟩, ?_⟩
        intro F2 H2 c' cc' D2 E2
        obtain ⟨dx2, ho2⟩ := D2.obj
        obtain ⟨pc2, hc2, ec2, ac2⟩ := D2.ch
        have pcl2 : pc2.length = s.log.length := by rw [← chs_len, ec2]
        refine ⟨_, rfl, _, _, dx2, _, _, rfl, ho2, T.c_House, T.n_House_changes, rfl, .inl ⟨rfl, _, SqL.of hc2⟩, _, rfl, M.l, _, _, rfl, rfl, hc2, by rw [refs_len, pcl2]; exact small1000 (by omega), ?_⟩
        have E3 : Ext (· = M.l) F2 H2 F2 (upd H2 M.l (.lst (refs pc2 ++ [.ref c']))) := Ext.put E2.sub hc2 D2.fl
        have lo : M.o ≠ M.l := fun z => by rw [z, hc2] at ho2; cases ho2
        obtain ⟨kvs, ht, hlk, hk⟩ := D2.oc
        have lt : M.t ≠ M.l := fun z => by rw [z, hc2] at ht; cases ht
        have D3 : HouseAt A F2 (upd H2 M.l (.lst (refs pc2 ++ [.ref c']))) M { s with made := madeAfter s e, log := s.log ++ [houseChange s e] } n := by
          refine ⟨⟨dx2, ?_⟩, ⟨pc2 ++ [(c', atHouse s e)], ?_, chs_snoc ec2 _, all_snoc ac2 cc'⟩, ⟨kvs, ?_, hlk, fun j j3 => (hk j j3).more (Same.refl _)⟩, D2.fo, D2.fl, D2.ft⟩
          · rw [upd_ne lo]; exact ho2
          · rw [upd_same, refs_snoc]
          · rw [upd_ne lt]; exact ht
        refine fin F2 _ c' (atHouse s e) _ true cc' ((atHouse_by s e).trans by_) (atHouse_count s e) D3 rfl (((E1.trans E2).trans E3).weaken ?_) (fun _ => ?_) ?_
        · intro b _ z
          rcases z with (z | z) | z
          · exact z.elim
          · exact .inl z
          · exact .inr (.inl z)
        · show (s.log ++ [houseChange s e])[s.log.length]? = _
          rw [List.getElem?_append_right (Nat.le_refl _), Nat.sub_self]; rfl
        · intro F' H' D' E'
          refine k F' H' ?_ E'
          rw [come_done old cl]
          exact D'
end
/-! ### The whole, as it lies in the heap. own tells whose a place is: the house's (none) or a device's -/
abbrev Own := Addr → Option (Option Nat)
structure Rep (A : Ad) (F H : Hp) (own : Own) (M : HL) (L : Nat → DL) (s : Cl07.State) (n : Nat) : Prop where
  inv : Inv n s
  sub : Same F H
  house : HouseAt A F H M s n
  dev : ∀ d, d < 3 → DevAt A F H (L d) d (Cl07.device s d)
  ho : ∀ b, M.own b → own b = some none
  dv : ∀ d, d < 3 → ∀ b, (L d).own b → own b = some (some d)
structure Step (F H : Hp) (own : Own) (F' H' : Hp) (own' : Own) : Prop where
  ext : Ext (fun b => own b ≠ none) F H F' H'
  own : ∀ b, H b ≠ none → own' b = own b
/-- a call answers: what stands then, and the answer's list -/
def Ans (A : Ad) (F H : Hp) (own : Own) (M : HL) (L : Nat → DL) (n : Nat) (r : Cl07.State × Cl07.Ans) (Q : VK) : Prop :=
  ∀ (F' H' : Hp) (own' : Own) (L' : Nat → DL) (p : Addr), Rep A F' H' own' M L' r.1 (n + 1) → (∀ d, (L' d).o = (L d).o) → Step F H own F' H' own' → H p = none → H' p = some (.lst (r.2.map V.int)) → Q (.ref p) H'
theorem Rep.later {A : Ad} {F H : Hp} {own : Own} {M : HL} {L : Nat → DL} {s : Cl07.State} {n k : Nat} (R : Rep A F H own M L s n) (h : n ≤ k) : Rep A F H own M L s k :=
  ⟨R.inv.later h, R.sub, R.house.later h, R.dev, R.ho, R.dv⟩
theorem Rep.same {A : Ad} {F H H' : Hp} {own : Own} {M : HL} {L : Nat → DL} {s : Cl07.State} {n : Nat} (R : Rep A F H own M L s n) (h : Same H H') : Rep A F H' own M L s n :=
  have E := Ext.of_same R.sub h
  ⟨R.inv, R.sub.trans h, R.house.keep E fun _ _ z => z, fun d d3 => (R.dev d d3).keep E fun _ _ z => z, R.ho, R.dv⟩
theorem Step.same {F H H' : Hp} {own : Own} (s : Same F H) (h : Same H H') : Step F H own F H' own :=
  ⟨(Ext.of_same s h).weaken fun _ _ z => z.elim, fun _ _ => rfl⟩
theorem Step.trans {F H F1 H1 F2 H2 : Hp} {own own1 own2 : Own} (a : Step F H own F1 H1 own1) (b : Step F1 H1 own1 F2 H2 own2) : Step F H own F2 H2 own2 :=
  ⟨(a.ext.trans b.ext).weaken fun x h z => by
    rcases z with z | z
    · exact z
    · rw [a.own x h] at z; exact z, fun x h => (b.own x (a.ext.al x h)).trans (a.own x h)⟩
/-- nothing changes, the answer is a new list -/
theorem Ans.stay {A : Ad} {F H H1 : Hp} {own : Own} {M : HL} {L : Nat → DL} {s : Cl07.State} {n : Nat} {r : Cl07.State × Cl07.Ans} {Q : VK} {p : Addr} {xs : List V} (k : Ans A F H own M L n r Q) (R : Rep A F H own M L s n) (s1 : Same H H1) (np : H1 p = none)
    (hs : r.1 = s) (ha : r.2.map V.int = xs) : Q (.ref p) (upd H1 p (.lst xs)) := by
  have s2 := s1.trans (Same.new (o := .lst xs) np)
  refine k F _ own L p ?_ (fun _ => rfl) (Step.same R.sub s2) (s1.free np) ?_
  · rw [hs]; exact (R.same s2).later (Nat.le_succ n)
  · rw [upd_same, ha]
def setL (L : Nat → DL) (d : Nat) (L1 : DL) : Nat → DL := fun j => if j = d then L1 else L j
def setOwn (own : Own) (d : Nat) (L1 : DL) : Own := fun b => if b = L1.w ∨ b = L1.a then some (some d) else own b
theorem setL_o {L : Nat → DL} {d : Nat} {L1 : DL} (h : L1.o = (L d).o) (j : Nat) : (setL L d L1 j).o = (L j).o := by
  unfold setL
  split
  · rename_i e; rw [h, e]
  · rfl
/-- a device changes, and nothing else -/
theorem Rep.dev_set {A : Ad} {C : Addr → Prop} {F H F' H' : Hp} {own : Own} {M : HL} {L : Nat → DL} {s : Cl07.State} {n k d : Nat} {L1 : DL} {x : Cl07.Device} (R : Rep A F H own M L s n) (d3 : d < 3) (hk : n ≤ k) (E : Ext C F H F' H') (hC : ∀ b, C b → (L d).own b)
    (D : DevAt A F' H' L1 d x) (ho : L1.o = (L d).o) (hc : L1.c = (L d).c) (hw : L1.w = (L d).w ∨ H L1.w = none) (ha : L1.a = (L d).a ∨ H L1.a = none) (inv : Inv k (Cl07.setDevice s d x)) :
    Rep A F' H' (setOwn own d L1) M (setL L d L1) (Cl07.setDevice s d x) k ∧ Step F H own F' H' (setOwn own d L1) := by
  have old : ∀ b, H b ≠ none → setOwn own d L1 b = own b := by
    intro b hb
    unfold setOwn
    split
    · rename_i z
      rcases z with z | z
      · rcases hw with q | q
        · rw [R.dv d d3 b (.inr (.inl (z.trans q)))]
        · exact absurd (by rw [z]; exact q) hb
      · rcases ha with q | q
        · rw [R.dv d d3 b (.inr (.inr (.inl (z.trans q))))]
        · exact absurd (by rw [z]; exact q) hb
    · rfl
  have nH : ∀ b, M.own b → ¬ C b := fun b hb z => by
    have a := R.ho b hb
    have c := R.dv d d3 b (hC b z)
    rw [a] at c
    cases c
  have nD : ∀ j, j < 3 → ¬ j = d → ∀ b, (L j).own b → ¬ C b := fun j j3 ne b hb z => by
    have a := R.dv j j3 b hb
    have c := R.dv d d3 b (hC b z)
    rw [a] at c
    exact ne (Option.some.inj (Option.some.inj c))
  refine ⟨⟨inv, E.sub, ?_, ?_, ?_, ?_⟩, ⟨E.weaken fun b _ z => by rw [R.dv d d3 b (hC b z)]; simp, old⟩⟩
  · have h0 := (R.house.keep E nH).later hk
    exact ⟨h0.obj, h0.ch, h0.oc, h0.fo, h0.fl, h0.ft⟩
  · intro j j3
    rw [device_set R.inv.dl d3]
    unfold setL
    by_cases e : j = d
    · subst e
      rw [if_pos rfl, if_pos rfl]; exact D
    · rw [if_neg e, if_neg e]
      exact (R.dev j j3).keep E (nD j j3 e)
  · intro b hb
    rw [old b (R.house.some hb)]
    exact R.ho b hb
  · intro j j3 b hb
    unfold setL at hb
    by_cases e : j = d
    · subst e
      rw [if_pos rfl] at hb
      rcases hb with z | z | z | z
      · rw [old b (by rw [z, ho]; exact (R.dev j j3).some (.inl rfl))]
        exact R.dv j j3 b (.inl (z.trans ho))
      · unfold setOwn; rw [if_pos (.inl z)]
      · unfold setOwn; rw [if_pos (.inr z)]
      · rw [old b (by rw [z, hc]; exact (R.dev j j3).some (.inr (.inr (.inr rfl))))]
        exact R.dv j j3 b (.inr (.inr (.inr (z.trans hc))))
    · rw [if_neg e] at hb
      rw [old b ((R.dev j j3).some hb)]
      exact R.dv j j3 b hb
/-- the house changes, and nothing else -/
theorem Rep.house_set {A : Ad} {C : Addr → Prop} {F H F' H' : Hp} {own : Own} {M : HL} {L : Nat → DL} {s s' : Cl07.State} {n k : Nat} (R : Rep A F H own M L s n) (E : Ext C F H F' H') (hC : ∀ b, C b → M.own b) (D : HouseAt A F' H' M s' k)
    (hs : s'.devices = s.devices) (inv : Inv k s') : Rep A F' H' own M L s' k ∧ Step F H own F' H' own := by
  refine ⟨⟨inv, E.sub, D, ?_, R.ho, R.dv⟩, ⟨E.weaken fun b _ z => by rw [R.ho b (hC b z)]; simp, fun _ _ => rfl⟩⟩
  intro d d3
  have e : Cl07.device s' d = Cl07.device s d := by unfold Cl07.device; rw [hs]
  rw [e]
  refine (R.dev d d3).keep E fun b hb z => ?_
  have a := R.ho b (hC b z)
  have c := R.dv d d3 b hb
  rw [a] at c
  cases c
theorem Rep.waits {A : Ad} {F H : Hp} {own : Own} {M : HL} {L : Nat → DL} {s : Cl07.State} {n d : Nat} (R : Rep A F H own M L s n) (d3 : d < 3) (hn : n ≤ 1000) : (Cl07.device s d).waiting.length ≤ 1000 ∧ (Cl07.device s d).sent.length ≤ 1000 ∧ (Cl07.device s d).clashes.length ≤ 1000 := by
  have := (R.inv.dev d d3).size
  omega
section
variable {P : Program} {w : World} {K : PySem.W.Frag} {mg : Str → Option Value} {base : Heap} {A : Ad}
/-! ### forget -/
def spForget (A : Ad) : Sp := fun vs H Q _ => ∃ (F : Hp) (own : Own) (M : HL) (L : Nat → DL) (s : Cl07.State) (n m : Nat), vs = [.ref M.o, .int m] ∧ Rep A F H own M L s n ∧ Ans A F H own M L n (Cl07.step s (.forget m)) Q
theorem ok_forget (T : All K mg A) : FnOk P w K mg base CX0 1 A.f_forget A.d_forget ["house", "floor"] (spForget A) := by
  refine T.F_forget.ok sc_forget (fun vs H Q E h => ?_) (fun cdv B outer s H vs Q E hr h => ?_)
  · obtain ⟨F, own, M, L, s, n, m, rfl, _⟩ := h
    rfl
  · obtain ⟨F, own, M, L, s, n, m, rfl, R, k⟩ := h
    obtain ⟨dx, ho⟩ := R.house.obj
    obtain ⟨pc, hc, ec, ac⟩ := R.house.ch
    have pcl : (refs pc).length = s.log.length := by rw [refs_len, ← chs_len, ec]
    refine ⟨_, pss_cons (ps_if (PW.pt (pw_or (pt_cmpR op_gt (pv 1) (pe_callB call_len_seq (by rfl) T.z_len PySem.boot_len (pa_cons (pe_fld (pv 0) rfl) pa_nil)) (nomark _)) (pw_or1 (pt_cmpR op_lt (pv 1) (pe_fld (pv 0) rfl) (nomark _))))) (pss_one (ps_ret (pe_lst (pa_cons (pe_k rfl T.k_OUT_OF_BOUNDS) pa_nil)))) pss_nil)
      (pss_cons (ps_fld (pv 0) (pv 1) rfl) (pss_one (ps_ret (pe_lst (pa_cons (pv 1) pa_nil))))), ?_⟩
    refine ⟨_, rfl, _, rfl, _, _, dx, _, _, rfl, ho, T.c_House, T.n_House_changes, rfl, _, _, rfl, .inl (SqL.of hc), _, _, rfl, rfl, _, rfl, ?_⟩
    rw [pcl]
    have bad : (s.log.length < m ∨ m < s.floor) → Cl07.step s (.forget m) = (s, [-1]) := fun h => if_pos h
    by_cases c1 : s.log.length < m
    · rw [decide_eq_true (show (s.log.length : Int) < (m : Int) by omega)]
      refine iteT (iteT ?_)
      refine ⟨(by show 1 ≤ sizeLine; decide), fun p np => ?_⟩
      exact k.stay R (Same.refl _) np (by rw [bad (.inl c1)]) (by rw [bad (.inl c1)]; rfl)
    · rw [decide_eq_false (show ¬ (s.log.length : Int) < (m : Int) by omega)]
      refine iteF ⟨_, rfl, _, rfl, _, _, dx, _, _, rfl, ho, T.c_House, T.n_House_floor, rfl, _, _, rfl, rfl, _, rfl, ?_⟩
      by_cases c2 : m < s.floor
      · rw [decide_eq_true (show (m : Int) < (s.floor : Int) by omega)]
        refine iteT ?_
        refine ⟨(by show 1 ≤ sizeLine; decide), fun p np => ?_⟩
        exact k.stay R (Same.refl _) np (by rw [bad (.inr c2)]) (by rw [bad (.inr c2)]; rfl)
      · rw [decide_eq_false (show ¬ (m : Int) < (s.floor : Int) by omega)]
        refine iteF ?_
        have good : Cl07.step s (.forget m) = ({ s with floor := m }, [(m : Int)]) := if_neg (by omega)
        have inv := R.inv.step (.forget m)
        rw [good] at k inv
        refine ⟨_, rfl, _, rfl, _, _, dx, _, rfl, ho, T.c_House, T.n_House_floor, (by show 4 < 1000; decide), ?_⟩
        have E1 : Ext (· = M.o) F H F (upd H M.o (.ins A.C_House dx (hoF { s with floor := m } M))) := Ext.put R.sub ho R.house.fo
        have lo : M.l ≠ M.o := fun z => by rw [z, ho] at hc; cases hc
        have D1 : HouseAt A F (upd H M.o (.ins A.C_House dx (hoF { s with floor := m } M))) M { s with floor := m } (n + 1) := by
          obtain ⟨kvs, ht, hl, hk⟩ := R.house.oc
          have to_ : M.t ≠ M.o := fun z => by rw [z, ho] at ht; cases ht
          exact ⟨⟨dx, upd_same⟩, R.house.ch.keep E1 lo, ⟨kvs, E1.fr _ _ ht to_, by omega, hk⟩, R.house.fo, R.house.fl, R.house.ft⟩
        obtain ⟨R1, S1⟩ := R.house_set E1 (fun b z => .inl z) D1 rfl inv
        refine ⟨_, rfl, (by show 1 ≤ sizeLine; decide), fun p np => ?_⟩
        have sn : Same _ (upd _ p (.lst [.int m])) := Same.new (o := .lst [.int (m : Int)]) np
        refine k F _ own L p (R1.same sn) (fun _ => rfl) (S1.trans (Step.same R1.sub sn)) ?_ upd_same
        cases z : H p with
        | none => rfl
        | some v => exact absurd np (S1.ext.al p (ne_none z))
end
/-! ### make, set, remove -/
def chShown (s : Cl07.State) (d : Nat) (c : Cl07.Change) : Cl07.State × Cl07.Ans :=
  if Cl07.there s d c.date = false then (s, [-4]) else if 99 ≤ (Cl07.device s d).count ∨ Cl07.MOST ≤ (Cl07.device s d).waiting.length then (s, [-5]) else (Cl07.edited s d (Cl07.device s d) c, [(((Cl07.device s d).count + 1 : Nat) : Int)])
theorem Rep.shown_pre {A : Ad} {F H : Hp} {own : Own} {M : HL} {L : Nat → DL} {s : Cl07.State} {n d : Nat} (R : Rep A F H own M L s n) (d3 : d < 3) (hn : n ≤ 400) : (∀ c ∈ shownCs s d, GoodC c) ∧ Fresh (shownCs s d) ∧ (shownCs s d).length ≤ 1000 :=
  ⟨shown_good R.inv d3, shown_fresh R.inv d3 (by omega), Nat.le_trans (shown_len R.inv d3) (by omega)⟩
theorem fullB_no {x : Cl07.Device} (h : fullB x = false) : ¬ (99 ≤ x.count ∨ Cl07.MOST ≤ x.waiting.length) := of_decide_eq_false h
theorem fullB_yes {x : Cl07.Device} (h : fullB x = true) : 99 ≤ x.count ∨ Cl07.MOST ≤ x.waiting.length := of_decide_eq_true h
section
variable {P : Program} {w : World} {K : PySem.W.Frag} {mg : Str → Option Value} {base : Heap} {A : Ad}
/-- a change is made on a device, the answer is a list of one number -/
theorem Ans.made {F H F1 H1 F2 H2 : Hp} {own : Own} {M : HL} {L : Nat → DL} {s : Cl07.State} {n d : Nat} {c : Cl07.Change} {r : Cl07.State × Cl07.Ans} {Q : VK} {p : Addr} {v : Int} (k : Ans A F H own M L n r Q) (R : Rep A F H own M L s n) (d3 : d < 3)
    (E1 : Ext (fun _ => False) F H F1 H1) (D2 : DevAt A F2 H2 (L d) d (madeOn d (Cl07.device s d) c)) (E2 : Ext (fun b => b = (L d).o ∨ b = (L d).w) F1 H1 F2 H2)
    (g : GoodC c) (own_ : c.kind = 2 → c.date = Cl07.ownId d ((Cl07.device s d).count + 1)) (np : H2 p = none) (hr : r = (Cl07.edited s d (Cl07.device s d) c, [v])) : Q (.ref p) (upd H2 p (.lst [.int v])) := by
  subst hr
  have E := E1.trans E2
  obtain ⟨R2, S2⟩ := R.dev_set (L1 := L d) (x := madeOn d (Cl07.device s d) c) d3 (Nat.le_succ n) E (fun b z => by
    rcases z with z | z | z
    · exact z.elim
    · exact .inl z
    · exact .inr (.inl z)) D2 rfl rfl (.inl rfl) (.inl rfl) (R.inv.edited d3 g own_)
  have sn : Same H2 (upd H2 p (.lst [.int v])) := Same.new np
  refine k F2 _ _ _ p (R2.same sn) (setL_o rfl) (S2.trans (Step.same R2.sub sn)) ?_ upd_same
  cases z : H p with
  | none => rfl
  | some o => exact absurd np (S2.ext.al p (ne_none z))
def spChangeShown (A : Ad) : Sp := fun vs H Q _ => ∃ (F : Hp) (own : Own) (M : HL) (L : Nat → DL) (s : Cl07.State) (n d : Nat) (c : Cl07.Change), vs = [.ref M.o, .ref (L d).o, .int c.kind, .int c.date, .int c.field, .int c.value] ∧ Rep A F H own M L s n ∧ d < 3 ∧ n ≤ 400 ∧ GoodC c ∧ c.kind ≤ 1 ∧ c.fields = [] ∧
  Ans A F H own M L n (chShown s d c) Q
theorem ok_change_shown (T : All K mg A) : FnOk P w K mg base CX0 4 A.f_change_shown A.d_change_shown ["house", "device", "kind", "date", "field", "what"] (spChangeShown A) := by
  refine T.F_change_shown.ok sc_change_shown (fun vs H Q E h => ?_) (fun cdv B outer s H vs Q E hr h => ?_)
  · obtain ⟨F, own, M, L, s, n, d, c, rfl, _⟩ := h
    rfl
  · obtain ⟨F, own, M, L, s, n, d, c, rfl, R, d3, hn, gd, k1, ef, k⟩ := h
    have hu := hu_of hr
    have hr1 : Room 1 _ := hr.mono (by decide)
    have D := R.dev d d3
    obtain ⟨dx, ho⟩ := D.obj
    have sp := R.shown_pre d3 hn
    refine ⟨_, pss_cons (ps_if (pt_cmp (pc_dnotin hu (pv 3) (pe_meth (pv 1) T.c_Device T.m_Device_shown (ok_Device_shown T) hr T.b_Device_shown .nil pass0 (pa_cons (pv 0) pa_nil)))) (pss_one (ps_ret (pe_lst (pa_cons (pe_k rfl T.k_NOT_SHOWN) pa_nil)))) pss_nil)
      (pss_cons (ps_if (pt_val (pe_meth0 (pv 1) T.c_Device T.m_Device_is_full (ok_Device_is_full T) hr1 T.b_Device_is_full .nil pass0)) (pss_one (ps_ret (pe_lst (pa_cons (pe_k rfl T.k_FULL) pa_nil)))) pss_nil)
      (pss_one (ps_ret (pe_lst (pa_cons (pe_meth (pv 1) T.c_Device T.m_Device_add_change (ok_Device_add_change T) hr T.b_Device_add_change .nil pass0 (pa_cons (pv 2) (pa_cons (pv 3) (pa_cons (pv 4) (pa_cons (pv 5) (pa_cons (pe_lst pa_nil) pa_nil)))))) pa_nil))))), ?_⟩
    refine ⟨_, rfl, _, rfl, _, dx, _, rfl, ho, rfl, _, rfl, L d, M, d, n, s, F, rfl, D, R.house, R.sub, sp.1, sp.2.1, sp.2.2, ?_⟩
    intro H1 p1 qs dat ds s1 np nq
    refine ⟨p1, _, rfl, DGet.k (k := Sum.inl (c.date : Int)) dat.at_, _, rfl, ?_⟩
    rw [valV_isSome, ds]
    have R1 := R.same s1
    have D1 := R1.dev d d3
    have e0 : ((Cl07.shown s d).any fun x => x.id == c.date) = Cl07.there s d c.date := rfl
    rw [e0]
    cases th : Cl07.there s d c.date with
    | false =>
      refine iteT ?_
      refine ⟨(by show 1 ≤ sizeLine; decide), fun p np => ?_⟩
      have e1 : chShown s d c = (s, [-4]) := if_pos th
      exact k.stay R s1 np (by rw [e1]) (by rw [e1]; rfl)
    | true =>
      refine iteF ?_
      refine ⟨_, rfl, _, dx, _, rfl, s1 _ _ ho, rfl, L d, d, _, F, rfl, D1, _, rfl, ?_⟩
      cases fb : fullB (Cl07.device s d) with
      | true =>
        refine iteT ?_
        refine ⟨(by show 1 ≤ sizeLine; decide), fun p np => ?_⟩
        have e1 : chShown s d c = (s, [-5]) := (if_neg (by rw [th]; simp)).trans (if_pos (fullB_yes fb))
        exact k.stay R s1 np (by rw [e1]) (by rw [e1]; rfl)
      | false =>
        refine iteF ?_
        have e1 : chShown s d c = (Cl07.edited s d (Cl07.device s d) c, [(((Cl07.device s d).count + 1 : Nat) : Int)]) := (if_neg (by rw [th]; simp)).trans (if_neg (fullB_no fb))
        refine ⟨_, rfl, _, dx, _, rfl, s1 _ _ ho, rfl, _, rfl, _, rfl, _, rfl, _, rfl, Nat.zero_le _, fun fl nfl => ?_⟩
        have s2 := s1.trans (Same.new (o := .lst []) nfl)
        have nfl0 : H fl = none := s1.free nfl
        have E1 : Ext (fun _ => False) F H (upd F fl (.lst [])) (upd H1 fl (.lst [])) := (Ext.of_same R.sub s2).freeze nfl0 (free_of R.sub nfl0) upd_same
        have D2 : DevAt A (upd F fl (.lst [])) (upd H1 fl (.lst [])) (L d) d (Cl07.device s d) := D.keep E1 fun _ _ z => z
        refine ⟨L d, d, Cl07.device s d, upd F fl (.lst []), c, fl, rfl, D2, E1.sub, by rw [upd_same, ef]; rfl, (R.waits d3 (by omega)).1, ?_⟩
        intro F3 H3 D3 E3
        refine ⟨(by show 1 ≤ sizeLine; decide), fun p np => ?_⟩
        exact k.made R d3 E1 D3 E3 gd (fun z => by omega) np e1
def spSetField (A : Ad) : Sp := fun vs H Q _ => ∃ (F : Hp) (own : Own) (M : HL) (L : Nat → DL) (s : Cl07.State) (n d i f v : Nat), vs = [.ref M.o, .ref (L d).o, .int i, .int f, .int v] ∧ Rep A F H own M L s n ∧ d < 3 ∧ n ≤ 400 ∧ Ans A F H own M L n (Cl07.step s (.set d i f v)) Q
theorem ok_set_field (T : All K mg A) : FnOk P w K mg base CX0 5 A.f_set_field A.d_set_field ["house", "device", "date", "field", "what"] (spSetField A) := by
  refine T.F_set_field.ok sc_set_field (fun vs H Q E h => ?_) (fun cdv B outer s H vs Q E hr h => ?_)
  · obtain ⟨F, own, M, L, s, n, d, i, f, v, rfl, _⟩ := h
    rfl
  · obtain ⟨F, own, M, L, s, n, d, i, f, v, rfl, R, d3, hn, k⟩ := h
    refine ⟨_, pss_cons (ps_if (PW.pt (pw_or (pt_cmpR op_ge (pv 3) (pe_k rfl T.k_FIELDS) (nomark _)) (pw_or1 (pt_cmpR op_gt (pv 4) (pe_k rfl T.k_LARGEST) (nomark _))))) (pss_one (ps_ret (pe_lst (pa_cons (pe_k rfl T.k_OUT_OF_BOUNDS) pa_nil)))) pss_nil)
      (pss_one (ps_ret (pe_call (ok_change_shown T) hr rfl T.g_change_shown T.F_change_shown.kp T.b_change_shown .nil pass0 (pa_cons (pv 0) (pa_cons (pv 1) (pa_cons (pe_k rfl T.k_SET_FIELD) (pa_cons (pv 2) (pa_cons (pv 3) (pa_cons (pv 4) pa_nil))))))))), ?_⟩
    have e0 : Cl07.step s (.set d i f v) = if 2 < f ∨ 999 < v then (s, [-1]) else chShown s d ⟨0, d, 0, i, f, v, []⟩ := by
      unfold Cl07.step
      exact with_yes d3
    refine ⟨_, rfl, _, _, rfl, rfl, _, rfl, ?_⟩
    by_cases c1 : 2 < f
    · rw [decide_eq_true (show (3 : Int) ≤ (f : Int) by omega)]
      refine iteT (iteT ?_)
      refine ⟨(by show 1 ≤ sizeLine; decide), fun p np => ?_⟩
      rw [if_pos (.inl c1)] at e0
      exact k.stay R (Same.refl _) np (by rw [e0]) (by rw [e0]; rfl)
    · rw [decide_eq_false (show ¬ (3 : Int) ≤ (f : Int) by omega)]
      refine iteF ⟨_, rfl, _, _, rfl, rfl, _, rfl, ?_⟩
      by_cases c2 : 999 < v
      · rw [decide_eq_true (show (999 : Int) < (v : Int) by omega)]
        refine iteT ?_
        refine ⟨(by show 1 ≤ sizeLine; decide), fun p np => ?_⟩
        rw [if_pos (.inr c2)] at e0
        exact k.stay R (Same.refl _) np (by rw [e0]) (by rw [e0]; rfl)
      · rw [decide_eq_false (show ¬ (999 : Int) < (v : Int) by omega)]
        refine iteF ?_
        rw [if_neg (by omega)] at e0
        rw [e0] at k
        exact ⟨_, rfl, _, rfl, _, rfl, _, rfl, _, rfl, F, own, M, L, s, n, d, ⟨0, d, 0, i, f, v, []⟩, rfl, R, d3, hn, ⟨Nat.zero_le _, fun _ => (by show f ≤ 2; omega), fun z => (by cases z), fun _ => rfl⟩, Nat.zero_le _, rfl, k⟩
def spTakeOut (A : Ad) : Sp := fun vs H Q _ => ∃ (F : Hp) (own : Own) (M : HL) (L : Nat → DL) (s : Cl07.State) (n d i : Nat), vs = [.ref M.o, .ref (L d).o, .int i] ∧ Rep A F H own M L s n ∧ d < 3 ∧ n ≤ 400 ∧ Ans A F H own M L n (Cl07.step s (.remove d i)) Q
theorem ok_take_out (T : All K mg A) : FnOk P w K mg base CX0 5 A.f_take_out A.d_take_out ["house", "device", "date"] (spTakeOut A) := by
  refine T.F_take_out.ok sc_take_out (fun vs H Q E h => ?_) (fun cdv B outer s H vs Q E hr h => ?_)
  · obtain ⟨F, own, M, L, s, n, d, i, rfl, _⟩ := h
    rfl
  · obtain ⟨F, own, M, L, s, n, d, i, rfl, R, d3, hn, k⟩ := h
    refine ⟨_, pss_one (ps_ret (pe_call (ok_change_shown T) hr rfl T.g_change_shown T.F_change_shown.kp T.b_change_shown .nil pass0 (pa_cons (pv 0) (pa_cons (pv 1) (pa_cons (pe_k rfl T.k_TAKE_OUT) (pa_cons (pv 2) (pa_cons pe_int (pa_cons pe_int pa_nil)))))))), ?_⟩
    have e0 : Cl07.step s (.remove d i) = chShown s d ⟨1, d, 0, i, 0, 0, []⟩ := by
      unfold Cl07.step
      exact with_yes d3
    rw [e0] at k
    exact ⟨_, rfl, _, rfl, _, rfl, F, own, M, L, s, n, d, ⟨1, d, 0, i, 0, 0, []⟩, rfl, R, d3, hn, ⟨by show 1 ≤ 2; omega, fun z => (by cases z), fun z => (by cases z), fun _ => rfl⟩, Nat.le_refl _, rfl, k⟩
def spMakeDate (A : Ad) : Sp := fun vs H Q _ => ∃ (F : Hp) (own : Own) (M : HL) (L : Nat → DL) (s : Cl07.State) (n d a b c : Nat) (fl : Addr), vs = [.ref (L d).o, .ref fl] ∧ Rep A F H own M L s n ∧ d < 3 ∧ n ≤ 400 ∧ F fl = some (.lst (nats [a, b, c])) ∧ Ans A F H own M L n (Cl07.step s (.make d a b c)) Q
theorem ok_make_date (T : All K mg A) : FnOk P w K mg base CX0 5 A.f_make_date A.d_make_date ["device", "fields"] (spMakeDate A) := by
  refine T.F_make_date.ok sc_make_date (fun vs H Q E h => ?_) (fun cdv B outer s H vs Q E hr h => ?_)
  · obtain ⟨F, own, M, L, s, n, d, a, b, c, fl, rfl, _⟩ := h
    rfl
  · obtain ⟨F, own, M, L, s, n, d, a, b, c, fl, rfl, R, d3, hn, hfl, k⟩ := h
    have hr1 : Room 1 _ := hr.mono (by decide)
    have D := R.dev d d3
    obtain ⟨dx, ho⟩ := D.obj
    refine ⟨_, pss_cons (ps_if (pt_cmpR op_gt (pe_callB (cr_max rfl) (by rfl) T.z_max (by decide +kernel) (pa_cons (pv 1) pa_nil)) (pe_k rfl T.k_LARGEST) (nomark _)) (pss_one (ps_ret (pe_lst (pa_cons (pe_k rfl T.k_OUT_OF_BOUNDS) pa_nil)))) pss_nil)
      (pss_cons (ps_if (pt_val (pe_meth0 (pv 0) T.c_Device T.m_Device_is_full (ok_Device_is_full T) hr1 T.b_Device_is_full .nil pass0)) (pss_one (ps_ret (pe_lst (pa_cons (pe_k rfl T.k_FULL) pa_nil)))) pss_nil)
      (pss_one (ps_ret (pe_lst (pa_cons (pe_meth (pv 0) T.c_Device T.m_Device_add_date (ok_Device_add_date T) hr T.b_Device_add_date .nil pass0 (pa_cons (pv 1) pa_nil)) pa_nil))))), ?_⟩
    have e0 : Cl07.step s (.make d a b c) = if [a, b, c].any (fun (n : Nat) => decide (999 < n)) = true then (s, [-1]) else if 99 ≤ (Cl07.device s d).count ∨ Cl07.MOST ≤ (Cl07.device s d).waiting.length then (s, [-5]) else
      (Cl07.edited s d (Cl07.device s d) ⟨2, d, 0, Cl07.ownId d ((Cl07.device s d).count + 1), 0, 0, [a, b, c]⟩, [(Cl07.ownId d ((Cl07.device s d).count + 1) : Int)]) := by
      unfold Cl07.step
      exact with_yes d3
    refine ⟨_, rfl, fl, [(a : Int), (b : Int), (c : Int)], rfl, SqL.of (R.sub _ _ hfl), (by show 0 < 3; decide), fun m mm mx => ⟨_, _, rfl, rfl, _, rfl, ?_⟩⟩
    have ma := mx a (by simp)
    have mb := mx b (by simp)
    have mc := mx c (by simp)
    have mm' : m = a ∨ m = b ∨ m = c := by simpa using mm
    by_cases big : 999 < m
    · rw [decide_eq_true big]
      refine iteT ?_
      refine ⟨(by show 1 ≤ sizeLine; decide), fun p np => ?_⟩
      have : ([a, b, c].any (fun (n : Nat) => decide (999 < n))) = true := by
        simp
        omega
      rw [if_pos this] at e0
      exact k.stay R (Same.refl _) np (by rw [e0]) (by rw [e0]; rfl)
    · rw [decide_eq_false big]
      refine iteF ?_
      have : ¬ ([a, b, c].any (fun (n : Nat) => decide (999 < n))) = true := by
        simp
        omega
      rw [if_neg this] at e0
      refine ⟨_, rfl, _, dx, _, rfl, ho, rfl, L d, d, _, F, rfl, D, _, rfl, ?_⟩
      cases fb : fullB (Cl07.device s d) with
      | true =>
        refine iteT ?_
        refine ⟨(by show 1 ≤ sizeLine; decide), fun p np => ?_⟩
        rw [if_pos (fullB_yes fb)] at e0
        exact k.stay R (Same.refl _) np (by rw [e0]) (by rw [e0]; rfl)
      | false =>
        refine iteF ?_
        rw [if_neg (fullB_no fb)] at e0
        refine ⟨_, rfl, _, dx, _, rfl, ho, rfl, _, rfl, L d, d, Cl07.device s d, F, [a, b, c], fl, rfl, D, R.sub, hfl, (R.waits d3 (by omega)).1, ?_⟩
        intro F3 H3 D3 E3
        refine ⟨(by show 1 ≤ sizeLine; decide), fun p np => ?_⟩
        exact k.made R d3 (Ext.refl R.sub) D3 E3 ⟨Nat.le_refl _, fun z => (by cases z), fun _ => rfl, fun z => absurd z (by show ¬ 2 ≤ 1; omega)⟩ (fun _ => rfl) np e0
end
/-! ### push, pull -/
theorem come_devices (s : Cl07.State) (d : Nat) (e : Edit) : (Cl07.come s d e).devices = s.devices := by
  by_cases h : e.change.count ≤ (hd s d).count
  · rw [come_old h]
  · cases c : Cl07.clash s e with
    | true => rw [come_not h c]
    | false => rw [come_done h c]
/-- what the house remembers of the first that waits fits it -/
theorem heard_fits {n d : Nat} {s : Cl07.State} {e e' : Edit} {l : List Edit} (o : Inv n s) (d3 : d < 3) (hw : (Cl07.device s d).waiting = e :: l) (hc : (hd s d).count = e.change.count) (w1 : (hd s d).what = 1) (hg : s.log[(hd s d).num]? = some e'.change) :
    (rOf e e'.change.date e).change = e'.change ∧ renames s d e = rOf e e'.change.date := by
  have q := o.dev d d3
  have me : e ∈ (Cl07.device s d).waiting := by rw [hw]; exact List.mem_cons_self ..
  obtain ⟨c, hg', ec⟩ := q.head e me hc.symm w1
  rw [hg] at hg'
  have ec' := Option.some.inj hg'
  subst ec'
  have hch : heardChange s d = e'.change := by
    unfold heardChange
    rw [List.getD_eq_getElem?_getD, hg]; rfl
  refine ⟨?_, ?_⟩
  · unfold rOf
    by_cases k : e.change.kind = 2
    · rw [if_pos k] at ec ⊢
      unfold Cl07.renamed
      rw [if_pos rfl]
      exact ec.symm
    · rw [if_neg k] at ec ⊢
      exact ec.symm
  · unfold renames rOf
    rw [hch]
theorem step_push {s : Cl07.State} {d how : Nat} (d3 : d < 3) : Cl07.step s (.push d how) = (fun (x : Cl07.Device) => if 2 < how then (s, [-1]) else match x.waiting with
    | [] => (s, [-6])
    | e :: _ => if how = 1 then (s, [0]) else if how = 2 then (Cl07.come s d e, [0]) else (Cl07.answered (Cl07.come s d e) d, [((hd (Cl07.come s d e) d).what : Int)])) (Cl07.device s d) := by
  unfold Cl07.step
  exact with_yes d3
section
variable {P : Program} {w : World} {K : PySem.W.Frag} {mg : Str → Option Value} {base : Heap} {A : Ad}
/-- a new list is the answer -/
theorem Ans.end {F H F1 H1 : Hp} {own own1 : Own} {M : HL} {L L1 : Nat → DL} {s : Cl07.State} {n : Nat} {r : Cl07.State × Cl07.Ans} {Q : VK} {p : Addr} {xs : List V} (k : Ans A F H own M L n r Q) (R1 : Rep A F1 H1 own1 M L1 s (n + 1)) (S1 : Step F H own F1 H1 own1) (lo : ∀ d, (L1 d).o = (L d).o)
    (np : H1 p = none) (hs : r.1 = s) (ha : r.2.map V.int = xs) : Q (.ref p) (upd H1 p (.lst xs)) := by
  have sn : Same H1 (upd H1 p (.lst xs)) := Same.new np
  subst hs
  refine k F1 _ own1 L1 p (R1.same sn) lo (S1.trans (Step.same R1.sub sn)) ?_ (by rw [upd_same, ha])
  cases z : H p with
  | none => rfl
  | some o => exact absurd np (S1.ext.al p (ne_none z))
def spPush (A : Ad) : Sp := fun vs H Q _ => ∃ (F : Hp) (own : Own) (M : HL) (L : Nat → DL) (s : Cl07.State) (n d how : Nat), vs = [.ref M.o, .ref (L d).o, .int how] ∧ Rep A F H own M L s n ∧ d < 3 ∧ n ≤ 400 ∧ Ans A F H own M L n (Cl07.step s (.push d how)) Q
theorem ok_push (T : All K mg A) : FnOk P w K mg base CX0 6 A.f_push A.d_push ["house", "device", "how"] (spPush A) := by
  refine T.F_push.ok sc_push (fun vs H Q E h => ?_) (fun cdv B outer s H vs Q E hr h => ?_)
  · obtain ⟨F, own, M, L, s, n, d, how, rfl, _⟩ := h
    rfl
  · obtain ⟨F, own, M, L, s, n, d, how, rfl, R, d3, hn, k⟩ := h
    have hu := hu_of hr
    have D := R.dev d d3
    obtain ⟨dx, ho⟩ := D.obj
    obtain ⟨pw, hw, ew, aw⟩ := D.wl
    obtain ⟨dxh, hoh⟩ := R.house.obj
    have pwl : (refs pw).length = (Cl07.device s d).waiting.length := by rw [refs_len, ← eds_len, ew]
    refine ⟨_, pss_cons (ps_if (pt_cmpR op_gt (pv 2) (pe_k rfl T.k_PUSH_ANSWER_LOST) (nomark _)) (pss_one (ps_ret (pe_lst (pa_cons (pe_k rfl T.k_OUT_OF_BOUNDS) pa_nil)))) pss_nil)
      (pss_cons (ps_if (pt_cmpR op_eq (pe_callB call_len_seq (by rfl) T.z_len PySem.boot_len (pa_cons (pe_fld (pv 1) rfl) pa_nil)) pe_int (nomark _)) (pss_one (ps_ret (pe_lst (pa_cons (pe_k rfl T.k_NOTHING_WAITS) pa_nil)))) pss_nil)
      (pss_cons (ps_if (pt_cmpR op_eq (pv 2) (pe_k rfl T.k_PUSH_LOST) (nomark _)) (pss_one (ps_ret (pe_lst (pa_cons (pe_k rfl T.k_NOTHING_ANSWERED) pa_nil)))) pss_nil)
      (pss_cons (ps_expr (pe_meth (pv 0) T.c_House T.m_House_receive (ok_House_receive T) hr T.b_House_receive .nil pass0 (pa_cons (pe_ix ix_list (pe_fld (pv 1) rfl) pe_int (fun _ _ => rfl)) pa_nil)))
      (pss_cons (ps_if (pt_cmpR op_eq (pv 2) (pe_k rfl T.k_PUSH_ANSWER_LOST) (nomark _)) (pss_one (ps_ret (pe_lst (pa_cons (pe_k rfl T.k_NOTHING_ANSWERED) pa_nil)))) pss_nil)
      (pss_cons (ps_set (i := 3) sc_push.nd rfl (Or.inl rfl) (pe_dget hu (pe_fld (pv 0) rfl) (pe_fld (pv 1) rfl) (fun _ _ => rfl)))
      (pss_cons (ps_expr (pe_meth (pv 1) T.c_Device T.m_Device_hear (ok_Device_hear T) hr T.b_Device_hear .nil pass0 (pa_cons (pv 3) pa_nil)))
      (pss_one (ps_ret (pe_lst (pa_cons (pe_ifExp (pt_val (pe_fld (pv 3) rfl)) (pe_k rfl T.k_DONE) (pe_k rfl T.k_NOT_DONE)) pa_nil)))))))))), ?_⟩
    have e0 := step_push (s := s) (how := how) d3
    refine ⟨_, rfl, _, _, rfl, rfl, _, rfl, ?_⟩
    by_cases c1 : 2 < how
    · rw [decide_eq_true (show (2 : Int) < (how : Int) by omega)]
      refine iteT ?_
      refine ⟨(by show 1 ≤ sizeLine; decide), fun p np => ?_⟩
      have e1 := e0.trans (if_pos c1)
      exact k.stay R (Same.refl _) np (by rw [e1]) (by rw [e1]; rfl)
    rw [decide_eq_false (show ¬ (2 : Int) < (how : Int) by omega)]
    refine iteF ?_
    have e1 := e0.trans (if_neg c1)
    refine ⟨_, rfl, _, _, dx, _, _, rfl, ho, T.c_Device, T.n_Device_waiting, rfl, _, _, rfl, .inl (SqL.of hw), rfl, _, rfl, ?_⟩
    rw [pwl, dec0]
    cases wt : (Cl07.device s d).waiting with
    | nil =>
      rw [decide_eq_true (by rfl)]
      refine iteT ?_
      refine ⟨(by show 1 ≤ sizeLine; decide), fun p np => ?_⟩
      rw [wt] at e1
      exact k.stay R (Same.refl _) np (by rw [e1]) (by rw [e1]; rfl)
    | cons e l =>
    rw [decide_eq_false (by simp)]
    refine iteF ?_
    rw [wt] at e1
    refine ⟨_, rfl, rfl, _, rfl, ?_⟩
    rw [dec1]
    by_cases c2 : how = 1
    · rw [decide_eq_true c2]
      refine iteT ?_
      refine ⟨(by show 1 ≤ sizeLine; decide), fun p np => ?_⟩
      have e2 := e1.trans (if_pos c2)
      exact k.stay R (Same.refl _) np (by rw [e2]) (by rw [e2]; rfl)
    rw [decide_eq_false c2]
    refine iteF ?_
    have e2 := e1.trans (if_neg c2)
    obtain ⟨q, qs, rfl⟩ : ∃ q qs, pw = q :: qs := by
      cases pw with
      | nil => rw [wt] at ew; cases ew
      | cons q qs => exact ⟨q, qs, rfl⟩
    have eq : q.2 = e := by rw [wt] at ew; exact (List.cons.inj ew).1
    have aq := aw q (List.mem_cons_self ..)
    rw [eq] at aq
    have dok := R.inv.dev d d3
    have me : e ∈ (Cl07.device s d).waiting := by rw [wt]; exact List.mem_cons_self ..
    have eok := dok.wok e me
    have cnt := dok.wpos e me
    have lg := R.inv.log
    refine ⟨_, rfl, _, dxh, _, rfl, hoh, rfl, _, rfl, _, _, dx, _, _, rfl, ho, T.c_Device, T.n_Device_waiting, rfl, (L d).w, _, _, _, rfl, rfl, SqL.of hw, atI_nat (j := 0) rfl, M, n, d, s, F, q.1, e, rfl, R.house, R.sub, aq, lg.good, lg.fresh, by have := lg.len; omega, by omega, eok.good, eok.by_, d3, R.inv.hl, by omega, ?_⟩
    intro F1 H1 D1 E1
    have inv1 := R.inv.come d3 wt
    obtain ⟨R1, S1⟩ := R.house_set E1 (fun b z => z) D1 (come_devices s d e) inv1.1
    generalize ht : Cl07.come s d e = t at e2 inv1 R1 D1
    refine ⟨_, rfl, rfl, _, rfl, ?_⟩
    rw [dec2]
    by_cases c3 : how = 2
    · rw [decide_eq_true c3]
      refine iteT ?_
      refine ⟨(by show 1 ≤ sizeLine; decide), fun p np => ?_⟩
      have e3 := e2.trans (if_pos c3)
      exact k.end R1 S1 (fun _ => rfl) np (by rw [e3]) (by rw [e3]; rfl)
    rw [decide_eq_false c3]
    refine iteF ?_
    have e3 := e2.trans (if_neg c3)
    have Dd := R1.dev d d3
    have wt1 : (Cl07.device t d).waiting = e :: l := by rw [inv1.2.1]; exact wt
    obtain ⟨dx1, ho1⟩ := Dd.obj
    obtain ⟨dxh1, hoh1⟩ := R1.house.obj
    obtain ⟨kvs, hkt, hkl, hk⟩ := R1.house.oc
    rcases hk d d3 with ⟨h0, _⟩ | ⟨h0, o, dxo, c, pl, hv, hoc, hch⟩
    · rw [inv1.2.2] at h0; omega
    have g := DGet.k (k := Sum.inl (d : Int)) hkt
    rw [hv] at g
    refine ⟨_, rfl, _, _, dxh1, _, _, rfl, hoh1, T.c_House, T.n_House_last_outcomes, rfl, _, rfl, _, _, dx1, _, _, rfl, ho1, T.c_Device, T.n_Device_number, rfl, M.t, _, rfl, g, ?_⟩
    have wts := R1.waits d3 (by omega)
    have w12 := (R1.inv.dev d d3).hok.what h0
    refine ⟨_, rfl, _, dx1, _, rfl, ho1, rfl, _, rfl, L d, d, Cl07.device t d, F1, e, l, o, dxo, c, _, pl, _, rfl, Dd, R1.sub, wt1, wts.1, wts.2.1, wts.2.2, hoc, ?_, ?_⟩
    · -- not done
      intro dn F2 H2 D2 E2
      have w2 : (hd t d).what = 2 := by
        rcases w12 with w | w
        · exact absurd w (of_decide_eq_false dn)
        · exact w
      have ea := answered_not wt1 w2
      have inv2 := inv1.1.answered d3 wt1 inv1.2.2
      rw [ea] at e3 inv2
      obtain ⟨R2, S2⟩ := R1.dev_set (L1 := L d) d3 (Nat.le_refl _) E2 (fun b z => z) D2 rfl rfl (.inl rfl) (.inl rfl) inv2
      have ho2 := E2.sub _ _ (E2.fz _ _ hoc)
      refine ⟨_, rfl, _, _, dxo, _, _, rfl, ho2, T.c_Outcome, T.n_Outcome_done, rfl, _, rfl, ?_⟩
      rw [dn]
      refine iteF ⟨(by show 1 ≤ sizeLine; decide), fun p np => ?_⟩
      exact k.end R2 (S1.trans S2) (setL_o rfl) np (by rw [e3]) (by rw [e3, w2]; rfl)
    · intro dn
      have w1 : (hd t d).what = 1 := of_decide_eq_true dn
      obtain ⟨hp, e', ce', hg⟩ := hch w1
      obtain ⟨f1, f2⟩ := heard_fits inv1.1 d3 wt1 inv1.2.2 w1 hg
      refine ⟨e', ce', f1, ?_⟩
      intro F2 H2 w' nw D2 E2
      have ea := answered_done wt1 (by omega)
      have inv2 := inv1.1.answered d3 wt1 inv1.2.2
      have es : sentAfter t d e = sentOf (Cl07.device t d) pl (rOf e e'.change.date e) := by
        unfold sentAfter sentOf
        rw [f2, hp]
      rw [f2, es] at ea
      rw [ea] at e3 inv2
      obtain ⟨R2, S2⟩ := R1.dev_set (L1 := { L d with w := w' }) d3 (Nat.le_refl _) E2 (fun b z => z) D2 rfl rfl nw (.inl rfl) inv2
      have ho2 := E2.sub _ _ (E2.fz _ _ hoc)
      refine ⟨_, rfl, _, _, dxo, _, _, rfl, ho2, T.c_Outcome, T.n_Outcome_done, rfl, _, rfl, ?_⟩
      rw [dn]
      refine iteT ⟨(by show 1 ≤ sizeLine; decide), fun p np => ?_⟩
      exact k.end R2 (S1.trans S2) (setL_o rfl) np (by rw [e3]) (by rw [e3, w1]; rfl)
theorem step_pull {s : Cl07.State} {d how : Nat} (d3 : d < 3) : Cl07.step s (.pull d how) = if 1 < how then (s, [-1]) else if how = 1 then (s, [0]) else
    (Cl07.setDevice s d { Cl07.device s d with known := s.log.length, sent := [] }, if (Cl07.device s d).known < s.floor then Cl07.nums [2, (Cl07.asOf s.log s.log.length).length] else Cl07.nums [1, s.log.length - (Cl07.device s d).known]) := by
  unfold Cl07.step
  exact with_yes d3
def spPull (A : Ad) : Sp := fun vs H Q _ => ∃ (F : Hp) (own : Own) (M : HL) (L : Nat → DL) (s : Cl07.State) (n d how : Nat), vs = [.ref M.o, .ref (L d).o, .int how] ∧ Rep A F H own M L s n ∧ d < 3 ∧ n ≤ 400 ∧ Ans A F H own M L n (Cl07.step s (.pull d how)) Q
theorem ok_pull (T : All K mg A) : FnOk P w K mg base CX0 4 A.f_pull A.d_pull ["house", "device", "how"] (spPull A) := by
  refine T.F_pull.ok sc_pull (fun vs H Q E h => ?_) (fun cdv B outer s H vs Q E hr h => ?_)
  · obtain ⟨F, own, M, L, s, n, d, how, rfl, _⟩ := h
    rfl
  · obtain ⟨F, own, M, L, s, n, d, how, rfl, R, d3, hn, k⟩ := h
    have hr1 : Room 1 _ := hr.mono (by decide)
    have D := R.dev d d3
    obtain ⟨dx, ho⟩ := D.obj
    obtain ⟨dxh, hoh⟩ := R.house.obj
    obtain ⟨pc, hc, ec, ac⟩ := R.house.ch
    have pcl : (refs pc).length = s.log.length := by rw [refs_len, ← chs_len, ec]
    refine ⟨_, pss_cons (ps_if (pt_cmpR op_gt (pv 2) (pe_k rfl T.k_PULL_LOST) (nomark _)) (pss_one (ps_ret (pe_lst (pa_cons (pe_k rfl T.k_OUT_OF_BOUNDS) pa_nil)))) pss_nil)
      (pss_cons (ps_if (pt_cmpR op_eq (pv 2) (pe_k rfl T.k_PULL_LOST) (nomark _)) (pss_one (ps_ret (pe_lst (pa_cons (pe_k rfl T.k_NOTHING_ANSWERED) pa_nil)))) pss_nil)
      (pss_cons (ps_set (i := 3) sc_pull.nd rfl (Or.inl rfl) (pe_fld (pv 1) rfl))
      (pss_cons (ps_set (i := 4) sc_pull.nd rfl (Or.inl rfl) (pe_callB call_len_seq (by rfl) T.z_len PySem.boot_len (pa_cons (pe_fld (pv 0) rfl) pa_nil)))
      (pss_cons (ps_expr (pe_meth (pv 1) T.c_Device T.m_Device_learn (ok_Device_learn T) hr1 T.b_Device_learn .nil pass0 (pa_cons (pv 4) pa_nil)))
      (pss_cons (ps_if (pt_cmpR op_lt (pv 3) (pe_fld (pv 0) rfl) (nomark _)) (pss_one (ps_ret (pe_lst (pa_cons (pe_k rfl T.k_TOLD_ANEW) (pa_cons (pe_callB call_lenD (by rfl) T.z_len PySem.boot_len (pa_cons (pe_meth0 (pv 0) T.c_House T.m_House_dates (ok_House_dates T) hr T.b_House_dates .nil pass0) pa_nil)) pa_nil))))) pss_nil)
      (pss_one (ps_ret (pe_lst (pa_cons (pe_k rfl T.k_MORE_KNOWN) (pa_cons (pe_op op_sub (pv 4) (pv 3)) pa_nil)))))))))), ?_⟩
    have e0 := step_pull (s := s) (how := how) d3
    refine ⟨_, rfl, _, _, rfl, rfl, _, rfl, ?_⟩
    by_cases c1 : 1 < how
    · rw [decide_eq_true (show (1 : Int) < (how : Int) by omega)]
      refine iteT ?_
      refine ⟨(by show 1 ≤ sizeLine; decide), fun p np => ?_⟩
      rw [if_pos c1] at e0
      exact k.stay R (Same.refl _) np (by rw [e0]) (by rw [e0]; rfl)
    rw [decide_eq_false (show ¬ (1 : Int) < (how : Int) by omega)]
    refine iteF ?_
    rw [if_neg c1] at e0
    refine ⟨_, rfl, rfl, _, rfl, ?_⟩
    rw [dec1]
    by_cases c2 : how = 1
    · rw [decide_eq_true c2]
      refine iteT ?_
      refine ⟨(by show 1 ≤ sizeLine; decide), fun p np => ?_⟩
      rw [if_pos c2] at e0
      exact k.stay R (Same.refl _) np (by rw [e0]) (by rw [e0]; rfl)
    rw [decide_eq_false c2]
    refine iteF ?_
    rw [if_neg c2] at e0
    refine ⟨_, rfl, _, _, dx, _, _, rfl, ho, T.c_Device, T.n_Device_knows, rfl, ?_⟩
    refine ⟨_, rfl, _, _, dxh, _, _, rfl, hoh, T.c_House, T.n_House_changes, rfl, _, _, rfl, .inl (SqL.of hc), ?_⟩
    rw [pcl]
    refine ⟨_, rfl, _, dx, _, rfl, ho, rfl, _, rfl, L d, d, Cl07.device s d, F, s.log.length, rfl, D, R.sub, ?_⟩
    intro H1 a' na D1 E1
    have inv1 : Inv (n + 1) (Cl07.setDevice s d { Cl07.device s d with known := s.log.length, sent := [] }) :=
      (R.inv.later (Nat.le_succ n)).set d3 ((R.inv.later (Nat.le_succ n)).dev d d3).pull
    obtain ⟨R1, S1⟩ := R.dev_set (L1 := { L d with a := a' }) d3 (Nat.le_succ n) E1 (fun b z => .inl z) D1 rfl rfl (.inl rfl) (.inr na) inv1
    obtain ⟨dxh1, hoh1⟩ := R1.house.obj
    refine ⟨_, rfl, _, rfl, _, _, dxh1, _, _, rfl, hoh1, T.c_House, T.n_House_floor, rfl, _, _, rfl, rfl, _, rfl, ?_⟩
    have lg := R1.inv.log
    by_cases c3 : (Cl07.device s d).known < s.floor
    · rw [decide_eq_true (show ((Cl07.device s d).known : Int) < ((Cl07.setDevice s d { Cl07.device s d with known := s.log.length, sent := [] }).floor : Int) from (by show _ < (s.floor : Int); omega))]
      refine iteT ?_
      rw [if_pos c3] at e0
      refine ⟨_, rfl, _, dxh1, _, rfl, hoh1, rfl, M, n + 1, _, F, rfl, R1.house, R1.sub, lg.good, lg.fresh, by have := lg.len; omega, ?_⟩
      intro H2 p qs dat ds s2 np nq
      refine ⟨p, _, rfl, dat.at_, (by show 2 ≤ sizeLine; decide), fun p' np' => ?_⟩
      refine k.end (R1.same s2) (S1.trans (Step.same R1.sub s2)) (setL_o rfl) np' (by rw [e0]) ?_
      rw [e0]
      have ql : (kvsOf qs).length = (Cl07.asOf s.log s.log.length).length := by
        have : (dsOf qs).length = (Cl07.asOf s.log s.log.length).length := by rw [ds]; rfl
        unfold kvsOf
        unfold dsOf at this
        rw [List.length_map] at *
        exact this
      rw [ql]
      rfl
    · rw [decide_eq_false (show ¬ ((Cl07.device s d).known : Int) < ((Cl07.setDevice s d { Cl07.device s d with known := s.log.length, sent := [] }).floor : Int) from (by show ¬ _ < (s.floor : Int); omega))]
      refine iteF ?_
      rw [if_neg c3] at e0
      refine ⟨_, rfl, _, rfl, _, _, rfl, rfl, (by show 2 ≤ sizeLine; decide), fun p' np' => ?_⟩
      refine k.end R1 S1 (setL_o rfl) np' (by rw [e0]) ?_
      rw [e0]
      have := (R.inv.dev d d3).known
      show [V.int 1, V.int ((s.log.length - (Cl07.device s d).known : Nat) : Int)] = [V.int 1, V.int ((s.log.length : Int) - ((Cl07.device s d).known : Int))]
      rw [Int.ofNat_sub this]
end
/-! ### A new calendar -/
def caF (M : HL) (dl : Addr) : List (Str × V) := [("house", .ref M.o), ("devices", .ref dl)]
def dv0 : Cl07.Device := ⟨0, 0, [], [], [], []⟩
theorem device_init {d : Nat} (h : d < 3) : Cl07.device Cl07.init d = dv0 := by
  match d, h with
  | 0, _ => rfl
  | 1, _ => rfl
  | 2, _ => rfl
def ownAdd (own : Own) (i : Nat) (L1 : DL) : Own := fun b => if b = L1.o ∨ b = L1.w ∨ b = L1.a ∨ b = L1.c then some (some i) else own b
theorem ownAdd_in {own : Own} {i : Nat} {L1 : DL} {b : Addr} (h : L1.own b) : ownAdd own i L1 b = some (some i) := if_pos h
theorem ownAdd_out {own : Own} {i : Nat} {L1 : DL} {b : Addr} (h : ¬ L1.own b) : ownAdd own i L1 b = own b := if_neg h
section
variable {P : Program} {w : World} {K : PySem.W.Frag} {mg : Str → Option Value} {base : Heap} {A : Ad}
def spCalInit (A : Ad) : Sp := fun vs H Q _ => ∃ (p dx : Addr), vs = [.ref p] ∧ H p = some (.ins A.C_Calendar dx []) ∧
  ∀ (F' H' : Hp) (own : Own) (M : HL) (L : Nat → DL) (dl : Addr), Rep A F' H' own M L Cl07.init 0 → H' p = some (.ins A.C_Calendar dx (caF M dl)) → F' dl = some (.lst [.ref (L 0).o, .ref (L 1).o, .ref (L 2).o]) → Keeps (· = p) H H' →
    (∀ b, H b ≠ none → own b = none ∧ F' b = none) → Q .non H'
def F0 : Hp := fun _ => none
theorem ok_Calendar_init (T : All K mg A) : FnOk P w K mg base CX0 3 A.f_Calendar_init A.d_Calendar_init ["self"] (spCalInit A) := by
  refine T.F_Calendar_init.ok sc_Calendar_init (fun vs H Q E h => ?_) (fun cdv B outer s H vs Q E hr h => ?_)
  · obtain ⟨p, dx, rfl, _⟩ := h
    rfl
  · obtain ⟨p, dx, rfl, hp, k⟩ := h
    refine ⟨_, pss_cons (ps_fld (pv 0) (pe_make0 T.mk_House (ok_House_init T) hr rfl T.g_House T.b_House_init .nil pass0) rfl)
      (pss_one (ps_fld (pv 0) (pe_lc (own := [("number", 1)]) (g := gName 1) (tt := tYes) (te := tMake A.C_Device (spDeviceInit A) [] E0 (tCons (tVar 1) tNil)) rfl sc_Calendar_init.nd (pi_range1 rfl T.z_range (pa_cons (pe_k rfl T.k_DEVICES) pa_nil)) (blkOk_by (N := ["self", "number"]) (sc := defScope s_Calendar_init) (by decide +kernel))
        (fun _ _ _ _ _ => pg_name (i := 1) sc_Calendar_init.nd rfl (Or.inl rfl)) (fun _ _ _ _ _ => pts_nil)
        (fun _ _ _ _ _ => pe_make T.mk_Device (ok_Device_init T) hr rfl T.g_Device T.b_Device_init .nil pass0 (pa_cons (pv 1) pa_nil))) rfl)), ?_⟩
    intro h dh nh ndh neh
    have s00 : Same F0 (upd (upd H dh (.own h)) h (.ins A.C_House dh [])) := fun _ _ z => by cases z
    refine ⟨h, dh, F0, rfl, upd_same, s00, rfl, ?_⟩
    intro H1 M eM nl nt DH kp
    have sm1 : Same H H1 := Same.made nh ndh kp
    have hp1 := sm1 _ _ hp
    refine ⟨rfl, _, rfl, p, _, dx, _, rfl, hp1, T.c_Calendar, T.n_Calendar_house, (by show 0 < 1000; decide), ?_⟩
    -- the house is told; the devices
    have nH : ∀ b, M.own b → H b = none := by
      intro b z
      have sA : Same H (upd (upd H dh (.own h)) h (.ins A.C_House dh [])) := fun b o q => by rw [upd_ne (ne_of_none q nh), upd_ne (ne_of_none q ndh)]; exact q
      rcases z with z | z | z
      · rw [z, eM]; exact nh
      · rw [z]; exact sA.free nl
      · rw [z]; exact sA.free nt
    have EA : Ext (· = p) F0 H1 F0 (upd H1 p (.ins A.C_Calendar dx (putF "house" (.ref M.o) []))) := Ext.put (fun _ _ z => by cases z) hp1 rfl
    have DH2 := DH.keep EA fun b hb z => by
      rw [z] at hb
      have := nH p hb
      rw [hp] at this
      cases this
    have ep : (V.ref h) = V.ref M.o := by rw [eM]
    rw [ep]
    have kA : Keeps (· = p) H (upd H1 p (.ins A.C_Calendar dx (putF "house" (.ref M.o) []))) := fun b o q nb => by
      rw [upd_ne nb]; exact sm1 _ _ q
    have hp2 : (upd H1 p (.ins A.C_Calendar dx (putF "house" (.ref M.o) []))) p = some (.ins A.C_Calendar dx (putF "house" (.ref M.o) [])) := upd_same
    generalize upd H1 p (.ins A.C_Calendar dx (putF "house" (.ref M.o) [])) = H2 at DH2 kA hp2
    refine ⟨3, rfl, by decide, by decide, fun D nD => ?_⟩
    have nDH : H D = none := by
      cases z : H D with
      | none => rfl
      | some o =>
        by_cases e : D = p
        · rw [e, hp2] at nD; cases nD
        · rw [kA _ _ z e] at nD; cases nD
    refine lc_range (lo := 0) (n := 3)
      (fun i H' => ∃ (L : Nat → DL) (own : Own), H' D = some (.lst ((List.range i).map fun j => V.ref (L j).o)) ∧ HouseAt A F0 H' M Cl07.init 0 ∧ (∀ j, j < i → DevAt A F0 H' (L j) j dv0) ∧ (∀ b, M.own b → own b = some none) ∧ (∀ j, j < i → ∀ b, (L j).own b → own b = some (some j)) ∧
        (∀ b, own b ≠ none → H' b ≠ none ∧ H b = none) ∧ own D = none ∧ Same H2 H') ?_ ?_ ?_
    · refine ⟨fun _ => ⟨0, 0, 0, 0⟩, fun b => if b = M.o ∨ b = M.l ∨ b = M.t then some none else none, upd_same, DH2.keep (Ext.of_same (fun _ _ z => by cases z) (Same.new nD)) (fun _ _ z => z), fun j hj => absurd hj (Nat.not_lt_zero _), fun b hb => if_pos hb, fun j hj => absurd hj (Nat.not_lt_zero _), ?_, ?_, Same.new nD⟩
      · intro b hb
        have mb : M.own b := by
          by_cases z : b = M.o ∨ b = M.l ∨ b = M.t
          · exact z
          · exact absurd (if_neg z) hb
        refine ⟨?_, nH b mb⟩
        have := DH2.some mb
        by_cases e : b = D
        · rw [e, upd_same]; simp
        · rw [upd_ne e]; exact this
      · exact if_neg fun z => DH2.some (b := D) z nD
    · rintro i H' hi ⟨L, own, hD, hHo, hDv, oH, oD, oA, oN, sH⟩
      refine ⟨rfl, tYes_ok (iteT ?_)⟩
      refine ⟨_, rfl, ?_⟩
      intro x dx' nx nd ne
      refine ⟨x, dx', i, F0, (by rw [Int.zero_add]; rfl), upd_same, fun _ _ z => (by cases z), rfl, ?_⟩
      intro H3 L1 eo nw na nc D3 kp3
      have s3 : Same H' H3 := Same.made nx nd kp3
      have sB : Same H' (upd (upd H' dx' (.own x)) x (.ins A.C_Device dx' [])) := fun b o q => by rw [upd_ne (ne_of_none q nx), upd_ne (ne_of_none q nd)]; exact q
      have new : ∀ b, L1.own b → H' b = none := by
        intro b z
        rcases z with z | z | z | z
        · rw [z, eo]; exact nx
        · rw [z]; exact sB.free nw
        · rw [z]; exact sB.free na
        · rw [z]; exact sB.free nc
      have nL : ∀ b, H' b ≠ none → ¬ L1.own b := fun b hb z => hb (new b z)
      have hD3 := s3 _ _ hD
      have E4 : Ext (· = D) F0 H3 F0 (upd H3 D (.lst (((List.range i).map fun j => V.ref (L j).o) ++ [.ref x]))) := Ext.put (fun _ _ z => by cases z) hD3 rfl
      have E34 := (Ext.of_same (F := F0) (fun _ _ z => by cases z) s3).trans E4
      refine ⟨rfl, _, hD3, ?_, setL L i L1, ownAdd own i L1, ?_, ?_, ?_, ?_, ?_, ?_, ?_, ?_⟩
      · rw [List.length_map, List.length_range]; exact small1000 (by omega)
      · rw [upd_same, List.range_succ, List.map_append]
        congr 2
        congr 1
        · refine List.map_congr_left fun j hj => ?_
          have : j < i := List.mem_range.mp hj
          unfold setL
          rw [if_neg (by omega)]
        · show [V.ref x] = [V.ref (setL L i L1 i).o]
          unfold setL
          rw [if_pos rfl, eo]
      · refine hHo.keep E34 fun b hb z => ?_
        rcases z with z | z
        · exact z
        · rw [z] at hb
          have := oH D hb
          rw [oN] at this
          cases this
      · intro j hj
        unfold setL
        by_cases e : j = i
        · subst e
          rw [if_pos rfl]
          refine D3.keep E4 fun b hb z => ?_
          exact nL D (ne_none hD) (by rw [← z]; exact hb)
        · rw [if_neg e]
          refine (hDv j (by omega)).keep E34 fun b hb z => ?_
          rcases z with z | z
          · exact z
          · rw [z] at hb
            have := oD j (by omega) D hb
            rw [oN] at this
            cases this
      · intro b hb
        rw [ownAdd_out (nL b (hHo.some hb))]
        exact oH b hb
      · intro j hj b hb
        unfold setL at hb
        by_cases e : j = i
        · subst e
          rw [if_pos rfl] at hb
          exact ownAdd_in hb
        · rw [if_neg e] at hb
          rw [ownAdd_out (nL b ((hDv j (by omega)).some hb))]
          exact oD j (by omega) b hb
      · intro b hb
        by_cases z : L1.own b
        · refine ⟨?_, ?_⟩
          · have := D3.some z
            by_cases e : b = D
            · rw [e, upd_same]; simp
            · rw [upd_ne e]; exact this
          · cases q : H b with
            | none => rfl
            | some o =>
              have nb := new b z
              by_cases e : b = p
              · rw [e, sH _ _ hp2] at nb; cases nb
              · rw [sH _ _ (kA _ _ q e)] at nb; cases nb
        · rw [ownAdd_out z] at hb
          refine ⟨?_, (oA b hb).2⟩
          exact E34.al b (oA b hb).1
      · rw [ownAdd_out (nL D (ne_none hD))]; exact oN
      · intro b o q
        have : b ≠ D := ne_of_none q nD
        rw [upd_ne this]
        exact s3 _ _ (sH _ _ q)
    · rintro H' ⟨L, own, hD, hHo, hDv, oH, oD, oA, oN, sH⟩
      have hp3 := sH _ _ hp2
      refine ⟨_, rfl, p, _, dx, _, rfl, hp3, T.c_Calendar, T.n_Calendar_devices, (by show 1 < 1000; decide), ?_⟩
      have E5 : Ext (· = p) F0 H' F0 (upd H' p (.ins A.C_Calendar dx (caF M D))) := Ext.put (fun _ _ z => by cases z) hp3 rfl
      have np : own p = none := by
        cases z : own p with
        | none => rfl
        | some r =>
          have := (oA p (by rw [z]; simp)).2
          rw [hp] at this
          cases this
      have Dp : D ≠ p := fun z => by rw [z, hp2] at nD; cases nD
      have hD5 : (upd H' p (.ins A.C_Calendar dx (caF M D))) D = some (.lst [.ref (L 0).o, .ref (L 1).o, .ref (L 2).o]) := by
        rw [upd_ne Dp, hD]; rfl
      have noP : ∀ b, own b ≠ none → ¬ b = p := fun b hb z => hb (by rw [z]; exact np)
      have hH5 : HouseAt A F0 (upd H' p (.ins A.C_Calendar dx (caF M D))) M Cl07.init 0 := hHo.keep E5 fun b hb => noP b (by rw [oH b hb]; simp)
      have hD6 : ∀ j, j < 3 → DevAt A F0 (upd H' p (.ins A.C_Calendar dx (caF M D))) (L j) j dv0 := fun j hj => (hDv j hj).keep E5 fun b hb => noP b (by rw [oD j hj b hb]; simp)
      generalize hH6 : upd H' p (.ins A.C_Calendar dx (caF M D)) = H6 at hH5 hD6 hD5 E5
      have hp6 : H6 p = some (.ins A.C_Calendar dx (caF M D)) := by rw [← hH6]; exact upd_same
      -- the list of the devices is frozen
      have sub6 : Same (upd F0 D (.lst [.ref (L 0).o, .ref (L 1).o, .ref (L 2).o])) H6 := by
        intro b o z
        by_cases e : b = D
        · rw [e, upd_same] at z; rw [e, hD5]; exact z
        · rw [upd_ne e] at z; cases z
      have toF : Same F0 (upd F0 D (.lst [.ref (L 0).o, .ref (L 1).o, .ref (L 2).o])) := fun _ _ z => by cases z
      have noD : ∀ b, own b ≠ none → (upd F0 D (.lst [.ref (L 0).o, .ref (L 1).o, .ref (L 2).o])) b = none := fun b hb => by
        rw [upd_ne (fun z => hb (by rw [z]; exact oN))]; rfl
      have frz : ∀ {l : Addr} {es : List Edit}, EdsAt A F0 H6 l es → EdsAt A (upd F0 D (.lst [.ref (L 0).o, .ref (L 1).o, .ref (L 2).o])) H6 l es := fun ⟨ps, a, b, c⟩ => ⟨ps, a, b, c.more toF⟩
      have frzc : ∀ {l : Addr} {es : List Cl07.Change}, ChsAt A F0 H6 l es → ChsAt A (upd F0 D (.lst [.ref (L 0).o, .ref (L 1).o, .ref (L 2).o])) H6 l es := fun ⟨ps, a, b, c⟩ => ⟨ps, a, b, c.more toF⟩
      have RR : Rep A (upd F0 D (.lst [.ref (L 0).o, .ref (L 1).o, .ref (L 2).o])) H6 own M L Cl07.init 0 := by
        refine ⟨inv_init, sub6, ?_, ?_, oH, oD⟩
        · obtain ⟨kvs, ht, hl, hk⟩ := hH5.oc
          refine ⟨hH5.obj, frzc hH5.ch, ⟨kvs, ht, hl, fun d h => ?_⟩, noD _ (by rw [oH _ (.inl rfl)]; simp), noD _ (by rw [oH _ (.inr (.inl rfl))]; simp), noD _ (by rw [oH _ (.inr (.inr rfl))]; simp)⟩
          have := (hk d h).more (m := []) toF
          rwa [List.append_nil] at this
        · intro d d3
          rw [device_init d3]
          have Dd := hD6 d d3
          have o1 := oD d d3
          exact ⟨Dd.obj, frz Dd.wl, frzc Dd.al, frz Dd.cl, Dd.wa, Dd.wc, Dd.ac, noD _ (by rw [o1 _ (.inl rfl)]; simp), noD _ (by rw [o1 _ (.inr (.inl rfl))]; simp), noD _ (by rw [o1 _ (.inr (.inr (.inl rfl)))]; simp), noD _ (by rw [o1 _ (.inr (.inr (.inr rfl)))]; simp)⟩
      have e6 : upd H' p (.ins A.C_Calendar dx (putF "devices" (.ref D) (putF "house" (.ref M.o) []))) = H6 := hH6
      rw [e6]
      refine k _ H6 own M L D RR hp6 upd_same ?_ ?_
      · intro b o z nb
        rw [← hH6, upd_ne nb]
        exact sH _ _ (kA _ _ z nb)
      · intro b hb
        refine ⟨?_, ?_⟩
        · cases z : own b with
          | none => rfl
          | some r => exact absurd (oA b (by rw [z]; simp)).2 hb
        · rw [upd_ne (fun z => hb (by rw [z]; exact nDH))]; rfl
end
/-! ### What is told: dates, clashes, state -/
def tellP (qs : List DP) : List V := qs.flatMap fun (q : DP) => V.int (q.1.id : Int) :: nats q.1.fields
theorem tellP_snoc {qs : List DP} {i : Nat} {q : DP} (h : qs[i]? = some q) : tellP (qs.take (i + 1)) = tellP (qs.take i) ++ [V.int (q.1.id : Int)] ++ nats q.1.fields := by
  unfold tellP
  rw [take_more h, List.flatMap_append, List.append_assoc]
  congr 1
  show (V.int (q.1.id : Int) :: nats q.1.fields) ++ [] = _
  rw [List.append_nil]
  rfl
theorem tellP_is : ∀ qs : List DP, tellP qs = (Cl07.nums ((dsOf qs).flatMap fun (x : Cl07.Date) => x.id :: x.fields)).map V.int
  | [] => rfl
  | q :: qs => by
    have h := tellP_is qs
    show (V.int (q.1.id : Int) :: nats q.1.fields) ++ tellP qs = (Cl07.nums ((q.1.id :: q.1.fields) ++ (dsOf qs).flatMap fun (x : Cl07.Date) => x.id :: x.fields)).map V.int
    rw [h]
    unfold Cl07.nums nats
    rw [List.map_append, List.map_append, List.map_map, List.map_map, List.map_cons]
    rfl
theorem tellP_len : ∀ {qs : List DP}, (∀ q ∈ qs, q.1.fields.length = 3) → (tellP qs).length = 4 * qs.length
  | [], _ => rfl
  | q :: qs, h => by
    have h1 := tellP_len (qs := qs) fun r m => h r (List.mem_cons_of_mem _ m)
    have h2 := h q (List.mem_cons_self ..)
    show ((V.int (q.1.id : Int) :: nats q.1.fields) ++ tellP qs).length = _
    rw [List.length_append, h1, List.length_cons, nats_len, h2, List.length_cons]
    omega
theorem dates_told (qs : List DP) : (Cl07.dates (dsOf qs)).map V.int = V.int (qs.length : Int) :: tellP qs := by
  rw [tellP_is]
  unfold Cl07.dates Cl07.nums dsOf
  rw [List.map_cons, List.map_cons, List.length_map]
theorem small9k {n : Nat} (h : n ≤ 9000) : n < sizeLine := Nat.lt_of_le_of_lt h (by decide)
theorem ds_len (qs : List DP) : (dsOf qs).length = qs.length := List.length_map _
theorem kvs_get {qs : List DP} {i : Nat} {k : Key} {v : V} (h : (kvsOf qs)[i]? = some (k, v)) : ∃ q, qs[i]? = some q ∧ k = Sum.inl (q.1.id : Int) ∧ v = .ref q.2 := by
  unfold kvsOf at h
  rw [List.getElem?_map] at h
  cases e : qs[i]? with
  | none => rw [e] at h; cases h
  | some q =>
    rw [e] at h
    have := Option.some.inj h
    exact ⟨q, rfl, (congrArg Prod.fst this).symm, (congrArg Prod.snd this).symm⟩
section
variable {P : Program} {w : World} {K : PySem.W.Frag} {mg : Str → Option Value} {base : Heap} {A : Ad}
def spToldDates (A : Ad) : Sp := fun vs H Q _ => ∃ (p : Addr) (qs : List DP) (F : Hp), vs = [.ref p] ∧ DatesAt F H p qs ∧ DatesOk (dsOf qs) ∧ qs.length ≤ 1000 ∧
  ∀ (H' : Hp) (t : Addr), H t = none → H' t = some (.lst ((Cl07.dates (dsOf qs)).map V.int)) → Same H H' → Q (.ref t) H'
theorem ok_told_dates (T : All K mg A) : FnOk P w K mg base CX0 1 A.f_told_dates A.d_told_dates ["dates"] (spToldDates A) := by
  refine T.F_told_dates.ok sc_told_dates (fun vs H Q E h => ?_) (fun cdv B outer s H vs Q E hr h => ?_)
  · obtain ⟨p, qs, F, rfl, _⟩ := h
    rfl
  · obtain ⟨p, qs, F, rfl, D, ok, len, k⟩ := h
    have hu := hu_of hr
    refine ⟨_, pss_cons (ps_set (i := 1) sc_told_dates.nd rfl (Or.inl rfl) (pe_lst (pa_cons (pe_callB call_lenD (by rfl) T.z_len PySem.boot_len (pa_cons (pv 0) pa_nil)) pa_nil)))
      (pss_cons (ps_lock (ps_for PassesOwn.never rfl (pi_keys (pv 0)) (pg_name (i := 2) sc_told_dates.nd rfl (Or.inl rfl))
        (pss_cons (ps_expr (pe_bm PySem.F.plainAttrs_list PySem.F.slot_list_append PySem.F.type_list_append mt_append (pv 1) (pa_cons (pv 2) pa_nil)))
        (pss_one (ps_expr (pe_bm PySem.F.plainAttrs_list PySem.F.slot_list_extend PySem.F.type_list_extend mt_extend (pv 1) (pa_cons (pe_dget hu (pv 0) (pv 2) (fun _ _ => rfl)) pa_nil)))))))
      (pss_one (ps_ret (pv 1)))), ?_⟩
    refine ⟨_, rfl, p, _, rfl, D.at_, (by show 1 ≤ sizeLine; decide), fun t nt => ?_⟩
    have kl : (kvsOf qs).length = qs.length := by unfold kvsOf; rw [List.length_map]
    have pt : p ≠ t := ne_of_none D.at_ nt
    have s0 : Same H (upd H t (.lst [.int (((kvsOf qs).length : Nat) : Int)])) := Same.new nt
    refine ⟨p, .dK (kvsOf qs), s0 _ _ D.at_, trivial, fun od => ?_⟩
    refine ⟨_, rfl, p, od, rfl, .inl ⟨kvsOf qs, upd_same, for_it (walk_keys (d := p) (o := od) (kvs := kvsOf qs))
      (fun i σ H' => ∃ v, σ = [some (.ref p), some (.ref t), v] ∧ H' p = some (.frz od (.dK (kvsOf qs))) ∧ H' t = some (.lst (V.int (qs.length : Int) :: tellP (qs.take i))) ∧ ∀ b o, H b = some o → b ≠ p → H' b = some o)
      ⟨none, rfl, upd_same, ?_, ?_⟩ (fun i σ H' _ ⟨_, _, h, _⟩ => h) ?_ ?_⟩⟩
    · rw [upd_ne (fun z => pt z.symm), upd_same, kl]; rfl
    · intro b o hb nb
      rw [upd_ne nb]; exact s0 _ _ hb
    · rintro i x σ H' H2 hi ⟨v, rfl, h1, h2, h3⟩ ⟨rfl, kk, vv, hk, rfl⟩
      obtain ⟨q, hq, rfl, rfl⟩ := kvs_get hk
      have mq := List.mem_of_getElem? hq
      have il : i < qs.length := (List.getElem?_eq_some_iff.mp hq).1
      have f3 := ok.len q.1 (List.mem_map.mpr ⟨q, mq, rfl⟩)
      have tl : (tellP (qs.take i)).length = 4 * i := by
        rw [tellP_len fun r m => ok.len r.1 (List.mem_map.mpr ⟨r, List.mem_of_mem_take m, rfl⟩), List.length_take]
        omega
      have qp : q.2 ≠ p := D.ne mq
      have qt : q.2 ≠ t := ne_of_none (D.it q mq) nt
      refine ⟨_, rfl, .inl ⟨rfl, _, SqL.of h2⟩, _, rfl, t, _, _, rfl, rfl, h2, ?_, ?_⟩
      · rw [List.length_cons, tl]; exact small9k (by omega)
      refine ⟨_, rfl, .inl ⟨rfl, _, SqL.of upd_same⟩, _, rfl, _, rfl, p, _, rfl, .inl ⟨kvsOf qs, Sum.inl (q.1.id : Int), .inr ⟨od, ?_⟩, rfl, (valV_kvs_some mq rfl ok.nd).symm⟩, t, q.2, _, nats q.1.fields, rfl, rfl, upd_same, ?_, ?_, ?_⟩
      · rw [upd_ne pt]; exact h1
      · rw [upd_ne qt]; exact h3 _ _ (D.it q mq) qp
      · rw [List.length_append, List.length_cons, tl, nats_len, f3]; exact Nat.le_of_lt (small9k (by show 4 * i + 1 + 1 + 3 ≤ 9000; omega))
      · refine ⟨_, rfl, ?_, ?_, ?_⟩
        · rw [upd_ne pt, upd_ne pt]; exact h1
        · rw [upd_same, tellP_snoc hq]; rfl
        · intro b o hb nb
          have : b ≠ t := ne_of_none hb nt
          rw [upd_ne this, upd_ne this]; exact h3 b o hb nb
    · rintro σ H' ⟨v, rfl, h1, h2, h3⟩
      refine ⟨h1, _, rfl, ?_⟩
      rw [kl, List.take_length] at h2
      refine k _ t nt ?_ ?_
      · rw [upd_ne (fun z => pt z.symm), h2, dates_told]
      · intro b o hb
        by_cases e : b = p
        · subst e
          rw [upd_same, ← hb, D.at_]
        · rw [upd_ne e]; exact h3 b o hb e
def tellC (es : List Edit) : List V := es.flatMap fun (e : Edit) => nats (Cl07.editNums e)
theorem tellC_is : ∀ es : List Edit, tellC es = (Cl07.nums (es.flatMap Cl07.editNums)).map V.int
  | [] => rfl
  | e :: es => by
    have h := tellC_is es
    show nats (Cl07.editNums e) ++ tellC es = (Cl07.nums (Cl07.editNums e ++ es.flatMap Cl07.editNums)).map V.int
    rw [h]
    unfold Cl07.nums nats
    rw [List.map_append, List.map_append, List.map_map]
    rfl
theorem tellC_len : ∀ es : List Edit, (tellC es).length = 5 * es.length
  | [] => rfl
  | e :: es => by
    have h1 := tellC_len es
    show (nats (Cl07.editNums e) ++ tellC es).length = _
    rw [List.length_append, h1, List.length_cons, nats_len]
    show 5 + _ = _
    omega
theorem tellC_snoc {es : List Edit} {i : Nat} {e : Edit} (h : es[i]? = some e) : tellC (es.take (i + 1)) = tellC (es.take i) ++ nats (Cl07.editNums e) := by
  unfold tellC
  rw [take_more h, List.flatMap_append]
  congr 1
def spToldClashes (A : Ad) : Sp := fun vs H Q _ => ∃ (l : Addr) (es : List Edit) (F : Hp), vs = [.ref l] ∧ EdsAt A F H l es ∧ Same F H ∧ es.length ≤ 1000 ∧
  ∀ (H' : Hp) (t : Addr), H t = none → H' t = some (.lst ((Cl07.nums (es.length :: es.flatMap Cl07.editNums)).map V.int)) → Same H H' → Q (.ref t) H'
theorem ok_told_clashes (T : All K mg A) : FnOk P w K mg base CX0 1 A.f_told_clashes A.d_told_clashes ["clashes"] (spToldClashes A) := by
  refine T.F_told_clashes.ok sc_told_clashes (fun vs H Q E h => ?_) (fun cdv B outer s H vs Q E hr h => ?_)
  · obtain ⟨l, es, F, rfl, _⟩ := h
    rfl
  · obtain ⟨l, es, F, rfl, ⟨ps, hl, ee, ac⟩, sm, len, k⟩ := h
    refine ⟨_, pss_cons (ps_set (i := 1) sc_told_clashes.nd rfl (Or.inl rfl) (pe_lst (pa_cons (pe_callB call_len_seq (by rfl) T.z_len PySem.boot_len (pa_cons (pv 0) pa_nil)) pa_nil)))
      (pss_cons (ps_for PassesOwn.never rfl (pi_list (pv 0)) (pg_name (i := 2) sc_told_clashes.nd rfl (Or.inl rfl))
        (pss_one (ps_expr (pe_bm PySem.F.plainAttrs_list PySem.F.slot_list_extend PySem.F.type_list_extend mt_extend (pv 1) (pa_cons (pe_lst (pa_cons (pe_fld (pv 2) rfl) (pa_cons (pe_fld (pv 2) rfl) (pa_cons (pe_fld (pv 2) rfl) (pa_cons (pe_fld (pv 2) rfl) (pa_cons (pe_fld (pv 2) rfl) pa_nil)))))) pa_nil)))))
      (pss_one (ps_ret (pv 1)))), ?_⟩
    refine ⟨_, rfl, l, _, rfl, .inl (SqL.of hl), (by show 1 ≤ sizeLine; decide), fun t nt => ?_⟩
    have pl : ps.length = es.length := by rw [← ee, eds_len]
    have lt : l ≠ t := ne_of_none hl nt
    have s0 : Same H (upd H t (.lst [.int (((refs ps).length : Nat) : Int)])) := Same.new nt
    refine ⟨_, rfl, l, rfl, ⟨_, SqL.of (s0 _ _ hl)⟩, for_list (K := K) (a := l) (xs := refs ps)
      (fun i σ H' => ∃ v, σ = [some (.ref l), some (.ref t), v] ∧ H' t = some (.lst (V.int (es.length : Int) :: tellC (es.take i))) ∧ Same H H')
      ⟨none, rfl, ?_, s0⟩ (fun i σ H' _ ⟨_, _, _, h⟩ => SqL.of (h _ _ hl)) ?_ ?_⟩
    · rw [upd_same, refs_len, pl]; rfl
    · rintro i y σ H' hi ⟨v, rfl, h2, h3⟩
      obtain ⟨q, hq, rfl⟩ := refs_get hi
      have he : es[i]? = some q.2 := by rw [← ee]; unfold eds; rw [List.getElem?_map, hq]; rfl
      have il : i < es.length := (List.getElem?_eq_some_iff.mp he).1
      obtain ⟨dq, fq, c1, _⟩ := ac q (List.mem_of_getElem? hq)
      have g := h3 _ _ (sm _ _ c1)
      have tl : (tellC (es.take i)).length = 5 * i := by
        rw [tellC_len, List.length_take]; omega
      refine ⟨_, rfl, .inl ⟨rfl, _, SqL.of h2⟩, _, rfl, _, _, dq, _, _, rfl, g, T.c_Change, T.n_Change_count, chF_count _ _, _, rfl, _, _, dq, _, _, rfl, g, T.c_Change, T.n_Change_kind, chF_kind _ _, _, rfl, _, _, dq, _, _, rfl, g, T.c_Change, T.n_Change_date, chF_date _ _, _, rfl, _, _, dq, _, _, rfl, g, T.c_Change, T.n_Change_field, chF_field _ _, _, rfl, _, _, dq, _, _, rfl, g, T.c_Change, T.n_Change_what, chF_what _ _, (by show 5 ≤ sizeLine; decide), fun x nx => ?_⟩
      have tx : t ≠ x := ne_of_none h2 nx
      refine ⟨t, x, _, _, rfl, rfl, (by rw [upd_ne tx]; exact h2), upd_same, ?_, ?_⟩
      · rw [List.length_cons, tl]; exact Nat.le_of_lt (small9k (by show 5 * i + 1 + 5 ≤ 9000; omega))
      · refine ⟨_, rfl, ?_, ?_⟩
        · rw [upd_same, tellC_snoc he]; rfl
        · intro b o hb
          have n1 : b ≠ t := ne_of_none hb nt
          have n2 : b ≠ x := ne_of_none (h3 _ _ hb) nx
          rw [upd_ne n1, upd_ne n2]; exact h3 _ _ hb
    · rintro σ H' ⟨v, rfl, h2, h3⟩
      rw [refs_len, pl, List.take_length] at h2
      refine ⟨_, rfl, k H' t nt ?_ h3⟩
      rw [h2, tellC_is]
      rfl
def spToldState (A : Ad) : Sp := fun vs H Q _ => ∃ (F : Hp) (own : Own) (M : HL) (L : Nat → DL) (s : Cl07.State) (n d : Nat), vs = [.ref M.o, .ref (L d).o] ∧ Rep A F H own M L s n ∧ d < 3 ∧ Ans A F H own M L n (Cl07.step s (.state d)) Q
theorem ok_told_state (T : All K mg A) : FnOk P w K mg base CX0 1 A.f_told_state A.d_told_state ["house", "device"] (spToldState A) := by
  refine T.F_told_state.ok sc_told_state (fun vs H Q E h => ?_) (fun cdv B outer s H vs Q E hr h => ?_)
  · obtain ⟨F, own, M, L, s, n, d, rfl, _⟩ := h
    rfl
  · obtain ⟨F, own, M, L, s, n, d, rfl, R, d3, k⟩ := h
    have D := R.dev d d3
    obtain ⟨dx, ho⟩ := D.obj
    obtain ⟨dxh, hoh⟩ := R.house.obj
    obtain ⟨pc, hc, ec, ac⟩ := R.house.ch
    obtain ⟨pw, hw, ew, aw⟩ := D.wl
    obtain ⟨pa, ha, ea, aa⟩ := D.al
    obtain ⟨pk, hk, ek, ak⟩ := D.cl
    refine ⟨_, pss_one (ps_ret (pe_lst (pa_cons (pe_fld (pv 1) rfl) (pa_cons (pe_callB call_len_seq (by rfl) T.z_len PySem.boot_len (pa_cons (pe_fld (pv 0) rfl) pa_nil)) (pa_cons (pe_fld (pv 1) rfl) (pa_cons (pe_callB call_len_seq (by rfl) T.z_len PySem.boot_len (pa_cons (pe_fld (pv 1) rfl) pa_nil)) (pa_cons (pe_callB call_len_seq (by rfl) T.z_len PySem.boot_len (pa_cons (pe_fld (pv 1) rfl) pa_nil)) (pa_cons (pe_callB call_len_seq (by rfl) T.z_len PySem.boot_len (pa_cons (pe_fld (pv 1) rfl) pa_nil)) pa_nil)))))))), ?_⟩
    refine ⟨_, rfl, _, _, dx, _, _, rfl, ho, T.c_Device, T.n_Device_knows, rfl, _, rfl, _, _, dxh, _, _, rfl, hoh, T.c_House, T.n_House_changes, rfl, _, _, rfl, .inl (SqL.of hc),
      _, rfl, _, _, dx, _, _, rfl, ho, T.c_Device, T.n_Device_made, rfl, _, rfl, _, _, dx, _, _, rfl, ho, T.c_Device, T.n_Device_waiting, rfl, _, _, rfl, .inl (SqL.of hw),
      _, rfl, _, _, dx, _, _, rfl, ho, T.c_Device, T.n_Device_answered, rfl, _, _, rfl, .inl (SqL.of ha), _, rfl, _, _, dx, _, _, rfl, ho, T.c_Device, T.n_Device_clashes, rfl, _, _, rfl, .inl (SqL.of hk), (by show 6 ≤ sizeLine; decide), fun p np => ?_⟩
    have e0 : Cl07.step s (.state d) = (s, Cl07.nums [(Cl07.device s d).known, s.log.length, (Cl07.device s d).count, (Cl07.device s d).waiting.length, (Cl07.device s d).sent.length, (Cl07.device s d).clashes.length]) := by
      unfold Cl07.step
      exact with_yes d3
    have l1 : (refs pc).length = s.log.length := by rw [refs_len, ← chs_len, ec]
    have l2 : (refs pw).length = (Cl07.device s d).waiting.length := by rw [refs_len, ← eds_len, ew]
    have l3 : (refs pa).length = (Cl07.device s d).sent.length := by rw [refs_len, ← chs_len, ea]; unfold sentCs; rw [List.length_map]
    have l4 : (refs pk).length = (Cl07.device s d).clashes.length := by rw [refs_len, ← eds_len, ek]
    rw [l1, l2, l3, l4]
    exact k.stay R (Same.refl _) np (by rw [e0]) (by rw [e0]; rfl)
end
/-! ### settle -/
theorem erase_map {α β : Type} (f : α → β) : ∀ (l : List α) (k : Nat), (l.eraseIdx k).map f = (l.map f).eraseIdx k
  | [], _ => rfl
  | _ :: _, 0 => rfl
  | x :: l, k + 1 => by
    show f x :: (l.eraseIdx k).map f = f x :: (l.map f).eraseIdx k
    rw [erase_map f l k]
def settledAt (x : Cl07.Device) (k : Nat) (e : Edit) : Cl07.Device := { x with clashes := x.clashes.eraseIdx k, settled := x.settled ++ [e.change.count] }
def onceMore (s : Cl07.State) (d k : Nat) (e : Edit) : Cl07.State × Cl07.Ans :=
  if Cl07.there s d e.change.date = false then (s, [-2]) else if 99 ≤ (Cl07.device s d).count ∨ Cl07.MOST ≤ (Cl07.device s d).waiting.length then (s, [-5]) else
    (Cl07.edited (Cl07.setDevice s d (settledAt (Cl07.device s d) k e)) d (settledAt (Cl07.device s d) k e) e.change, [(((Cl07.device s d).count + 1 : Nat) : Int)])
theorem step_settle {s : Cl07.State} {d k again : Nat} (d3 : d < 3) : Cl07.step s (.settle d k again) = if 1 < again then (s, [-1]) else match (Cl07.device s d).clashes[k]? with
    | none => (s, [-4])
    | some e => if again = 0 then (Cl07.setDevice s d (settledAt (Cl07.device s d) k e), [0]) else onceMore s d k e := by
  unfold Cl07.step
  exact with_yes d3
theorem settle_once {s : Cl07.State} {d k : Nat} {e : Edit} (d3 : d < 3) (he : (Cl07.device s d).clashes[k]? = some e) : Cl07.step s (.settle d k 1) = onceMore s d k e := by
  rw [step_settle d3, if_neg (by omega), he]
  exact if_neg (by omega)
theorem edited_settled (s : Cl07.State) (d : Nat) (y : Cl07.Device) (c : Cl07.Change) : Cl07.edited (Cl07.setDevice s d y) d y c = Cl07.setDevice s d (madeOn d y c) := by
  show Cl07.setDevice (Cl07.setDevice s d y) d (madeOn d y c) = _
  unfold Cl07.setDevice
  show { s with devices := (s.devices.set d y).set d (madeOn d y c) } = { s with devices := s.devices.set d (madeOn d y c) }
  rw [List.set_set]
theorem dev_pop {A : Ad} {F H : Hp} {L : DL} {d k : Nat} {x : Cl07.Device} {e : Edit} {pk : List CP} (D : DevAt A F H L d x) (sm : Same F H) (hk : H L.c = some (.lst (refs pk))) (ek : eds pk = x.clashes) (ak : AllCh A F pk) :
    DevAt A F (upd H L.c (.lst ((refs pk).eraseIdx k))) L d (settledAt x k e) ∧ Ext (· = L.c) F H F (upd H L.c (.lst ((refs pk).eraseIdx k))) := by
  have E1 : Ext (· = L.c) F H F (upd H L.c (.lst ((refs pk).eraseIdx k))) := Ext.put sm hk D.fc
  obtain ⟨dx, ho⟩ := D.obj
  refine ⟨⟨⟨dx, ?_⟩, D.wl.keep E1 (fun z => D.wc z), D.al.keep E1 (fun z => D.ac z), ⟨pk.eraseIdx k, ?_, ?_, ?_⟩, D.wa, D.wc, D.ac, D.fo, D.fw, D.fa, D.fc⟩, E1⟩
  · rw [upd_ne D.oc]; exact ho
  · rw [upd_same]; unfold refs; rw [erase_map]
  · unfold eds; rw [erase_map]
    show (eds pk).eraseIdx k = x.clashes.eraseIdx k
    rw [ek]
  · exact fun q m => ak q (List.mem_of_mem_eraseIdx m)
theorem seqIx_nat {k n : Nat} (h : k < n) : seqIndex? (k : Int) n = some k := by
  unfold seqIndex?
  simp
  omega
section
variable {P : Program} {w : World} {K : PySem.W.Frag} {mg : Str → Option Value} {base : Heap} {A : Ad}
def spOnceMore (A : Ad) : Sp := fun vs H Q _ => ∃ (F : Hp) (own : Own) (M : HL) (L : Nat → DL) (s : Cl07.State) (n d k : Nat) (e : Edit), vs = [.ref M.o, .ref (L d).o, .int k] ∧ Rep A F H own M L s n ∧ d < 3 ∧ n ≤ 400 ∧ (Cl07.device s d).clashes[k]? = some e ∧ Ans A F H own M L n (onceMore s d k e) Q
theorem ok_settle_once_more (T : All K mg A) : FnOk P w K mg base CX0 4 A.f_settle_once_more A.d_settle_once_more ["house", "device", "which"] (spOnceMore A) := by
  refine T.F_settle_once_more.ok sc_settle_once_more (fun vs H Q E h => ?_) (fun cdv B outer s H vs Q E hr h => ?_)
  · obtain ⟨F, own, M, L, s, n, d, k, e, rfl, _⟩ := h
    rfl
  · obtain ⟨F, own, M, L, s, n, d, i, e, rfl, R, d3, hn, he, k⟩ := h
    have hu := hu_of hr
    have hr1 : Room 1 _ := hr.mono (by decide)
    have D := R.dev d d3
    obtain ⟨dx, ho⟩ := D.obj
    obtain ⟨pk, hk, ek, ak⟩ := D.cl
    have sp := R.shown_pre d3 hn
    obtain ⟨q, hq, eq⟩ : ∃ q : CP, pk[i]? = some q ∧ q.2 = e := by
      rw [← ek] at he
      unfold eds at he
      rw [List.getElem?_map] at he
      cases z : pk[i]? with
      | none => rw [z] at he; cases he
      | some q => rw [z] at he; exact ⟨q, rfl, Option.some.inj he⟩
    have hqr : (refs pk)[i]? = some (.ref q.1) := by unfold refs; rw [List.getElem?_map, hq]; rfl
    obtain ⟨dq, fq, c1, c2⟩ := ak q (List.mem_of_getElem? hq)
    rw [eq] at c1 c2
    have il : i < pk.length := (List.getElem?_eq_some_iff.mp hq).1
    have pkl : pk.length = (Cl07.device s d).clashes.length := by rw [← ek, eds_len]
    have wts := R.waits d3 (by omega)
    have gq := R.sub _ _ c1
    have eok := (R.inv.dev d d3).cok e (List.mem_of_getElem? he)
    have ef : e.change.fields = [] := eok.1.good.nof eok.2
    refine ⟨_, pss_cons (ps_set (i := 3) sc_settle_once_more.nd rfl (Or.inl rfl) (pe_ix ix_list (pe_fld (pv 1) rfl) (pv 2) (fun _ _ => rfl)))
      (pss_cons (ps_if (pt_cmp (pc_dnotin hu (pe_fld (pv 3) rfl) (pe_meth (pv 1) T.c_Device T.m_Device_shown (ok_Device_shown T) hr T.b_Device_shown .nil pass0 (pa_cons (pv 0) pa_nil)))) (pss_one (ps_ret (pe_lst (pa_cons (pe_k rfl T.k_DATE_GONE) pa_nil)))) pss_nil)
      (pss_cons (ps_if (pt_val (pe_meth0 (pv 1) T.c_Device T.m_Device_is_full (ok_Device_is_full T) hr1 T.b_Device_is_full .nil pass0)) (pss_one (ps_ret (pe_lst (pa_cons (pe_k rfl T.k_FULL) pa_nil)))) pss_nil)
      (pss_cons (ps_expr (pe_bm PySem.F.plainAttrs_list PySem.F.slot_list_pop PySem.F.type_list_pop mt_popAt (pe_fld (pv 1) rfl) (pa_cons (pv 2) pa_nil)))
      (pss_one (ps_ret (pe_lst (pa_cons (pe_meth (pv 1) T.c_Device T.m_Device_add_change (ok_Device_add_change T) hr T.b_Device_add_change .nil pass0 (pa_cons (pe_fld (pv 3) rfl) (pa_cons (pe_fld (pv 3) rfl) (pa_cons (pe_fld (pv 3) rfl) (pa_cons (pe_fld (pv 3) rfl) (pa_cons (pe_lst pa_nil) pa_nil)))))) pa_nil))))))), ?_⟩
    refine ⟨_, rfl, _, _, dx, _, _, rfl, ho, T.c_Device, T.n_Device_clashes, rfl, _, rfl, (L d).c, _, _, _, rfl, rfl, SqL.of hk, atI_nat (j := i) hqr, ?_⟩
    refine ⟨_, rfl, _, _, dq, _, _, rfl, gq, T.c_Change, T.n_Change_date, chF_date _ _, _, rfl, _, dx, _, rfl, ho, rfl, _, rfl, L d, M, d, n, s, F, rfl, D, R.house, R.sub, sp.1, sp.2.1, sp.2.2, ?_⟩
    intro H1 p1 qs dat ds s1 np nq
    refine ⟨p1, _, rfl, DGet.k (k := Sum.inl (e.change.date : Int)) dat.at_, _, rfl, ?_⟩
    rw [valV_isSome, ds]
    have R1 := R.same s1
    have D1 := R1.dev d d3
    have e0 : ((Cl07.shown s d).any fun x => x.id == e.change.date) = Cl07.there s d e.change.date := rfl
    rw [e0]
    cases th : Cl07.there s d e.change.date with
    | false =>
      refine iteT ?_
      refine ⟨(by show 1 ≤ sizeLine; decide), fun p np => ?_⟩
      have e1 : onceMore s d i e = (s, [-2]) := if_pos th
      exact k.stay R s1 np (by rw [e1]) (by rw [e1]; rfl)
    | true =>
      refine iteF ?_
      refine ⟨_, rfl, _, dx, _, rfl, s1 _ _ ho, rfl, L d, d, _, F, rfl, D1, _, rfl, ?_⟩
      cases fb : fullB (Cl07.device s d) with
      | true =>
        refine iteT ?_
        refine ⟨(by show 1 ≤ sizeLine; decide), fun p np => ?_⟩
        have e1 : onceMore s d i e = (s, [-5]) := (if_neg (by rw [th]; simp)).trans (if_pos (fullB_yes fb))
        exact k.stay R s1 np (by rw [e1]) (by rw [e1]; rfl)
      | false =>
        refine iteF ?_
        have e1 : onceMore s d i e = (Cl07.setDevice s d (madeOn d (settledAt (Cl07.device s d) i e) e.change), [(((Cl07.device s d).count + 1 : Nat) : Int)]) := by
          rw [← edited_settled]
          exact (if_neg (by rw [th]; simp)).trans (if_neg (fullB_no fb))
        have inv := R.inv.step (.settle d i 1)
        rw [settle_once d3 he, e1] at inv
        have hk1 := s1 _ _ hk
        refine ⟨_, rfl, _, _, dx, _, _, rfl, s1 _ _ ho, T.c_Device, T.n_Device_clashes, rfl, .inl ⟨rfl, _, SqL.of hk1⟩, _, rfl, (L d).c, _, _, i, .ref q.1, rfl, rfl, hk1, by omega, by omega, seqIx_nat (by rw [refs_len]; exact il), hqr, ?_⟩
        obtain ⟨D2, E2⟩ := dev_pop (k := i) (e := e) D1 R1.sub hk1 ek ak
        generalize upd H1 (L d).c (.lst ((refs pk).eraseIdx i)) = H2 at D2 E2
        obtain ⟨dx2, ho2⟩ := D2.obj
        have gq2 := E2.sub _ _ c1
        refine ⟨_, rfl, _, dx2, _, rfl, ho2, rfl, _, rfl, _, _, dq, _, _, rfl, gq2, T.c_Change, T.n_Change_kind, chF_kind _ _, _, rfl, _, _, dq, _, _, rfl, gq2, T.c_Change, T.n_Change_date, chF_date _ _, _, rfl, _, _, dq, _, _, rfl, gq2, T.c_Change, T.n_Change_field, chF_field _ _, _, rfl, _, _, dq, _, _, rfl, gq2, T.c_Change, T.n_Change_what, chF_what _ _, Nat.zero_le _, fun fl nfl => ?_⟩
        have E3 : Ext (fun _ => False) F H2 (upd F fl (.lst [])) (upd H2 fl (.lst [])) := (Ext.of_same E2.sub (Same.new nfl)).freeze nfl (free_of E2.sub nfl) upd_same
        have D3 := D2.keep E3 fun _ _ z => z
        refine ⟨L d, d, _, upd F fl (.lst []), e.change, fl, rfl, D3, E3.sub, by rw [upd_same, ef]; rfl, wts.1, ?_⟩
        intro F4 H4 D4 E4
        refine ⟨(by show 1 ≤ sizeLine; decide), fun p np => ?_⟩
        have E := (((Ext.of_same R.sub s1).trans E2).trans E3).trans E4
        obtain ⟨R4, S4⟩ := R.dev_set (L1 := L d) d3 (Nat.le_succ n) E (fun b z => by
          rcases z with ((z | z) | z) | z | z
          · exact z.elim
          · exact .inr (.inr (.inr z))
          · exact z.elim
          · exact .inl z
          · exact .inr (.inl z)) D4 rfl rfl (.inl rfl) (.inl rfl) inv
        exact k.end R4 S4 (setL_o rfl) np (by rw [e1]) (by rw [e1]; rfl)
def spSettle (A : Ad) : Sp := fun vs H Q _ => ∃ (F : Hp) (own : Own) (M : HL) (L : Nat → DL) (s : Cl07.State) (n d k again : Nat), vs = [.ref M.o, .ref (L d).o, .int k, .int again] ∧ Rep A F H own M L s n ∧ d < 3 ∧ n ≤ 400 ∧ Ans A F H own M L n (Cl07.step s (.settle d k again)) Q
theorem ok_settle (T : All K mg A) : FnOk P w K mg base CX0 5 A.f_settle A.d_settle ["house", "device", "which", "again"] (spSettle A) := by
  refine T.F_settle.ok sc_settle (fun vs H Q E h => ?_) (fun cdv B outer s H vs Q E hr h => ?_)
  · obtain ⟨F, own, M, L, s, n, d, k, again, rfl, _⟩ := h
    rfl
  · obtain ⟨F, own, M, L, s, n, d, i, again, rfl, R, d3, hn, k⟩ := h
    have D := R.dev d d3
    obtain ⟨dx, ho⟩ := D.obj
    obtain ⟨pk, hk, ek, ak⟩ := D.cl
    have pkl : pk.length = (Cl07.device s d).clashes.length := by rw [← ek, eds_len]
    have wts := R.waits d3 (by omega)
    refine ⟨_, pss_cons (ps_if (pt_cmpR op_gt (pv 3) (pe_k rfl T.k_ONCE_MORE) (nomark _)) (pss_one (ps_ret (pe_lst (pa_cons (pe_k rfl T.k_OUT_OF_BOUNDS) pa_nil)))) pss_nil)
      (pss_cons (ps_if (pt_cmpR op_ge (pv 2) (pe_callB call_len_seq (by rfl) T.z_len PySem.boot_len (pa_cons (pe_fld (pv 1) rfl) pa_nil)) (nomark _)) (pss_one (ps_ret (pe_lst (pa_cons (pe_k rfl T.k_NO_CLASH) pa_nil)))) pss_nil)
      (pss_cons (ps_if (pt_cmpR op_eq (pv 3) (pe_k rfl T.k_ONCE_MORE) (nomark _)) (pss_one (ps_ret (pe_call (ok_settle_once_more T) hr rfl T.g_settle_once_more T.F_settle_once_more.kp T.b_settle_once_more .nil pass0 (pa_cons (pv 0) (pa_cons (pv 1) (pa_cons (pv 2) pa_nil)))))) pss_nil)
      (pss_cons (ps_expr (pe_bm PySem.F.plainAttrs_list PySem.F.slot_list_pop PySem.F.type_list_pop mt_popAt (pe_fld (pv 1) rfl) (pa_cons (pv 2) pa_nil)))
      (pss_one (ps_ret (pe_lst (pa_cons (pe_k rfl T.k_LET_GO) pa_nil))))))), ?_⟩
    have e0 := step_settle (s := s) (k := i) (again := again) d3
    refine ⟨_, rfl, _, _, rfl, rfl, _, rfl, ?_⟩
    by_cases c1 : 1 < again
    · rw [decide_eq_true (show (1 : Int) < (again : Int) by omega)]
      refine iteT ?_
      refine ⟨(by show 1 ≤ sizeLine; decide), fun p np => ?_⟩
      rw [if_pos c1] at e0
      exact k.stay R (Same.refl _) np (by rw [e0]) (by rw [e0]; rfl)
    rw [decide_eq_false (show ¬ (1 : Int) < (again : Int) by omega)]
    refine iteF ?_
    rw [if_neg c1] at e0
    refine ⟨_, rfl, _, rfl, _, _, dx, _, _, rfl, ho, T.c_Device, T.n_Device_clashes, rfl, _, _, rfl, .inl (SqL.of hk), _, _, rfl, rfl, _, rfl, ?_⟩
    rw [refs_len, pkl]
    by_cases c2 : (Cl07.device s d).clashes.length ≤ i
    · rw [decide_eq_true (show ((Cl07.device s d).clashes.length : Int) ≤ (i : Int) by omega)]
      refine iteT ?_
      refine ⟨(by show 1 ≤ sizeLine; decide), fun p np => ?_⟩
      rw [List.getElem?_eq_none c2] at e0
      exact k.stay R (Same.refl _) np (by rw [e0]) (by rw [e0]; rfl)
    rw [decide_eq_false (show ¬ ((Cl07.device s d).clashes.length : Int) ≤ (i : Int) by omega)]
    refine iteF ?_
    obtain ⟨e, he⟩ : ∃ e, (Cl07.device s d).clashes[i]? = some e := ⟨_, List.getElem?_eq_getElem (by omega)⟩
    rw [he] at e0
    have e0' : Cl07.step s (.settle d i again) = if again = 0 then (Cl07.setDevice s d (settledAt (Cl07.device s d) i e), [0]) else onceMore s d i e := e0
    refine ⟨_, rfl, rfl, _, rfl, ?_⟩
    rw [dec1]
    by_cases c3 : again = 1
    · rw [decide_eq_true c3]
      refine iteT ?_
      rw [if_neg (by omega)] at e0'
      rw [e0'] at k
      exact ⟨_, rfl, _, rfl, _, rfl, F, own, M, L, s, n, d, i, e, rfl, R, d3, hn, he, k⟩
    rw [decide_eq_false c3]
    refine iteF ?_
    rw [if_pos (by omega)] at e0'
    obtain ⟨q, hq⟩ : ∃ q : CP, pk[i]? = some q := ⟨_, List.getElem?_eq_getElem (by omega)⟩
    have hqr : (refs pk)[i]? = some (.ref q.1) := by unfold refs; rw [List.getElem?_map, hq]; rfl
    have inv := R.inv.step (.settle d i again)
    rw [e0'] at inv
    refine ⟨_, rfl, _, _, dx, _, _, rfl, ho, T.c_Device, T.n_Device_clashes, rfl, .inl ⟨rfl, _, SqL.of hk⟩, _, rfl, (L d).c, _, _, i, .ref q.1, rfl, rfl, hk, by omega, by omega, seqIx_nat (by rw [refs_len]; omega), hqr, ?_⟩
    obtain ⟨D2, E2⟩ := dev_pop (k := i) (e := e) D R.sub hk ek ak
    obtain ⟨R2, S2⟩ := R.dev_set (L1 := L d) d3 (Nat.le_succ n) E2 (fun b z => .inr (.inr (.inr z))) D2 rfl rfl (.inl rfl) (.inl rfl) inv
    refine ⟨(by show 1 ≤ sizeLine; decide), fun p np => ?_⟩
    exact k.end R2 S2 (setL_o rfl) np (by rw [e0']) (by rw [e0']; rfl)
end
/-! ### Which call it is -/
theorem eqN {i j : Int} {P Q : Prop} (h : i ≠ j) (q : Q) : if decide (V.int i = V.int j) = true then P else Q := by
  rw [decide_eq_false (fun z => h (V.int.inj z))]; exact iteF q
theorem eqY {i : Int} {P Q : Prop} (p : P) : if decide (V.int i = V.int i) = true then P else Q := by
  rw [decide_eq_true rfl]; exact iteT p
theorem Ans.after {A : Ad} {F H F1 H1 : Hp} {own own1 : Own} {M : HL} {L : Nat → DL} {n : Nat} {r : Cl07.State × Cl07.Ans} {Q : VK} (k : Ans A F H own M L n r Q) (S : Step F H own F1 H1 own1) : Ans A F1 H1 own1 M L n r Q := by
  intro F' H' own' L' p R lo S' np hp
  refine k F' H' own' L' p R lo (S.trans S') ?_ hp
  cases z : H p with
  | none => rfl
  | some o => exact absurd np (S.ext.al p (ne_none z))
/-- nothing changes, the answer stands already -/
theorem Ans.told {A : Ad} {F H H1 : Hp} {own : Own} {M : HL} {L : Nat → DL} {s : Cl07.State} {n : Nat} {r : Cl07.State × Cl07.Ans} {Q : VK} {p : Addr} {ys : Cl07.Ans} (k : Ans A F H own M L n r Q) (R : Rep A F H own M L s n) (s1 : Same H H1) (np : H p = none)
    (hr : r = (s, ys)) (hp : H1 p = some (.lst (ys.map V.int))) : Q (.ref p) H1 := by
  subst hr
  exact k F H1 own L p ((R.same s1).later (Nat.le_succ n)) (fun _ => rfl) (Step.same R.sub s1) np hp
theorem Rep.more {A : Ad} {F H F' H' : Hp} {own : Own} {M : HL} {L : Nat → DL} {s : Cl07.State} {n : Nat} (R : Rep A F H own M L s n) (E : Ext (fun _ => False) F H F' H') : Rep A F' H' own M L s n ∧ Step F H own F' H' own :=
  ⟨⟨R.inv, E.sub, R.house.keep E fun _ _ z => z, fun d d3 => (R.dev d d3).keep E fun _ _ z => z, R.ho, R.dv⟩, ⟨E.weaken fun _ _ z => z.elim, fun _ _ => rfl⟩⟩
theorem shown_told {s : Cl07.State} {d n : Nat} {qs : List DP} (o : Inv n s) (d3 : d < 3) (hn : n ≤ 400) (ds : dsOf qs = Cl07.shown s d) : DatesOk (dsOf qs) ∧ qs.length ≤ 1000 := by
  rw [shown_is] at ds
  have l := fold_length (shownCs s d) []
  have l2 := shown_len o d3
  rw [← ds, ds_len] at l
  refine ⟨?_, ?_⟩
  · rw [ds]; exact dates_ok (shown_good o d3) (shown_fresh o d3 (by omega))
  · simp at l; omega
theorem log_told {s : Cl07.State} {n : Nat} {qs : List DP} (o : Inv n s) (hn : n ≤ 400) (ds : dsOf qs = Cl07.asOf s.log s.log.length) : DatesOk (dsOf qs) ∧ qs.length ≤ 1000 := by
  rw [log_is] at ds
  have l := fold_length s.log []
  have l2 := o.log.len
  rw [← ds, ds_len] at l
  refine ⟨?_, ?_⟩
  · rw [ds]; exact dates_ok o.log.good o.log.fresh
  · simp at l; omega
section
variable {P : Program} {w : World} {K : PySem.W.Frag} {mg : Str → Option Value} {base : Heap} {A : Ad}
def spOnDevice (A : Ad) : Sp := fun vs H Q _ => ∃ (F : Hp) (own : Own) (M : HL) (L : Nat → DL) (s : Cl07.State) (n d : Nat) (c : Cl07.Call) (p : Int) (g : Addr) (rest : List Int), vs = [.ref M.o, .ref (L d).o, .int p, .ref g] ∧ Rep A F H own M L s n ∧ d < 3 ∧ n ≤ 400 ∧ F g = some (.lst (rest.map V.int)) ∧ p ≠ 5 ∧ enc c = (p, (d : Int) :: rest) ∧ Ans A F H own M L n (Cl07.step s c) Q
theorem enc_eq {a b : Int} {d d' : Nat} {l m : List Int} (h : (a, (d : Int) :: l) = (b, (d' : Int) :: m)) : a = b ∧ d = d' ∧ l = m := by
  have h1 := congrArg Prod.fst h
  have h2 : (d : Int) :: l = (d' : Int) :: m := congrArg Prod.snd h
  have h3 := (List.cons.inj h2).1
  exact ⟨h1, by omega, (List.cons.inj h2).2⟩
theorem ok_answer_on_device (T : All K mg A) : FnOk P w K mg base CX0 7 A.f_answer_on_device A.d_answer_on_device ["house", "device", "call", "given"] (spOnDevice A) := by
  refine T.F_answer_on_device.ok sc_answer_on_device (fun vs H Q E h => ?_) (fun cdv B outer s H vs Q E hr h => ?_)
  · obtain ⟨F, own, M, L, s, n, d, c, p, g, rest, rfl, _⟩ := h
    rfl
  · obtain ⟨F, own, M, L, s, n, d, c, p, g, rest, rfl, R, d3, hn, hf, p5, ec, k⟩ := h
    have hr5 : Room 5 _ := hr.mono (by decide)
    have hr4 : Room 4 _ := hr.mono (by decide)
    have hr3 : Room 3 _ := hr.mono (by decide)
    have hr1 : Room 1 _ := hr.mono (by decide)
    have D := R.dev d d3
    obtain ⟨dx, ho⟩ := D.obj
    have hg := R.sub _ _ hf
    refine ⟨_, pss_cons (ps_if (pt_cmpR op_eq (pv 2) (pe_k rfl T.k_MAKE) (nomark _)) (pss_one (ps_ret (pe_call (ok_make_date T) hr5 rfl T.g_make_date T.F_make_date.kp T.b_make_date .nil pass0 (pa_cons (pv 1) (pa_cons (pv 3) pa_nil))))) pss_nil)
      (pss_cons (ps_if (pt_cmpR op_eq (pv 2) (pe_k rfl T.k_SET) (nomark _)) (pss_one (ps_ret (pe_call (ok_set_field T) hr5 rfl T.g_set_field T.F_set_field.kp T.b_set_field .nil pass0 (pa_cons (pv 0) (pa_cons (pv 1) (pa_cons (pe_ix ix_list (pv 3) pe_int (fun _ _ => rfl)) (pa_cons (pe_ix ix_list (pv 3) pe_int (fun _ _ => rfl)) (pa_cons (pe_ix ix_list (pv 3) pe_int (fun _ _ => rfl)) pa_nil)))))))) pss_nil)
      (pss_cons (ps_if (pt_cmpR op_eq (pv 2) (pe_k rfl T.k_REMOVE) (nomark _)) (pss_one (ps_ret (pe_call (ok_take_out T) hr5 rfl T.g_take_out T.F_take_out.kp T.b_take_out .nil pass0 (pa_cons (pv 0) (pa_cons (pv 1) (pa_cons (pe_ix ix_list (pv 3) pe_int (fun _ _ => rfl)) pa_nil)))))) pss_nil)
      (pss_cons (ps_if (pt_cmpR op_eq (pv 2) (pe_k rfl T.k_PUSH) (nomark _)) (pss_one (ps_ret (pe_call (ok_push T) hr rfl T.g_push T.F_push.kp T.b_push .nil pass0 (pa_cons (pv 0) (pa_cons (pv 1) (pa_cons (pe_ix ix_list (pv 3) pe_int (fun _ _ => rfl)) pa_nil)))))) pss_nil)
      (pss_cons (ps_if (pt_cmpR op_eq (pv 2) (pe_k rfl T.k_PULL) (nomark _)) (pss_one (ps_ret (pe_call (ok_pull T) hr4 rfl T.g_pull T.F_pull.kp T.b_pull .nil pass0 (pa_cons (pv 0) (pa_cons (pv 1) (pa_cons (pe_ix ix_list (pv 3) pe_int (fun _ _ => rfl)) pa_nil)))))) pss_nil)
      (pss_cons (ps_if (pt_cmpR op_eq (pv 2) (pe_k rfl T.k_SHOWN) (nomark _)) (pss_one (ps_ret (pe_call (ok_told_dates T) hr1 rfl T.g_told_dates T.F_told_dates.kp T.b_told_dates .nil pass0 (pa_cons (pe_meth (pv 1) T.c_Device T.m_Device_shown (ok_Device_shown T) hr3 T.b_Device_shown .nil pass0 (pa_cons (pv 0) pa_nil)) pa_nil)))) pss_nil)
      (pss_cons (ps_if (pt_cmpR op_eq (pv 2) (pe_k rfl T.k_CLASHES) (nomark _)) (pss_one (ps_ret (pe_call (ok_told_clashes T) hr1 rfl T.g_told_clashes T.F_told_clashes.kp T.b_told_clashes .nil pass0 (pa_cons (pe_fld (pv 1) rfl) pa_nil)))) pss_nil)
      (pss_cons (ps_if (pt_cmpR op_eq (pv 2) (pe_k rfl T.k_SETTLE) (nomark _)) (pss_one (ps_ret (pe_call (ok_settle T) hr5 rfl T.g_settle T.F_settle.kp T.b_settle .nil pass0 (pa_cons (pv 0) (pa_cons (pv 1) (pa_cons (pe_ix ix_list (pv 3) pe_int (fun _ _ => rfl)) (pa_cons (pe_ix ix_list (pv 3) pe_int (fun _ _ => rfl)) pa_nil))))))) pss_nil)
      (pss_one (ps_ret (pe_call (ok_told_state T) hr1 rfl T.g_told_state T.F_told_state.kp T.b_told_state .nil pass0 (pa_cons (pv 0) (pa_cons (pv 1) pa_nil)))))))))))), ?_⟩
    cases c with
    | make d' a b c =>
      obtain ⟨rfl, rfl, rfl⟩ := enc_eq ec
      refine ⟨_, rfl, rfl, _, rfl, eqY ?_⟩
      exact ⟨_, rfl, _, rfl, F, own, M, L, s, n, d', a, b, c, g, rfl, R, d3, hn, hf, k⟩
    | set d' i f v =>
      obtain ⟨rfl, rfl, rfl⟩ := enc_eq ec
      refine ⟨_, rfl, rfl, _, rfl, eqN (by decide) ⟨_, rfl, rfl, _, rfl, eqY ?_⟩⟩
      exact ⟨_, rfl, _, rfl, _, rfl, g, _, _, _, rfl, rfl, SqL.of hg, atI_nat (j := 0) rfl, _, rfl, g, _, _, _, rfl, rfl, SqL.of hg, atI_nat (j := 1) rfl, _, rfl, g, _, _, _, rfl, rfl, SqL.of hg, atI_nat (j := 2) rfl, F, own, M, L, s, n, d', i, f, v, rfl, R, d3, hn, k⟩
    | remove d' i =>
      obtain ⟨rfl, rfl, rfl⟩ := enc_eq ec
      refine ⟨_, rfl, rfl, _, rfl, eqN (by decide) ⟨_, rfl, rfl, _, rfl, eqN (by decide) ⟨_, rfl, rfl, _, rfl, eqY ?_⟩⟩⟩
      exact ⟨_, rfl, _, rfl, _, rfl, g, _, _, _, rfl, rfl, SqL.of hg, atI_nat (j := 0) rfl, F, own, M, L, s, n, d', i, rfl, R, d3, hn, k⟩
    | push d' how =>
      obtain ⟨rfl, rfl, rfl⟩ := enc_eq ec
      refine ⟨_, rfl, rfl, _, rfl, eqN (by decide) ⟨_, rfl, rfl, _, rfl, eqN (by decide) ⟨_, rfl, rfl, _, rfl, eqN (by decide) ⟨_, rfl, rfl, _, rfl, eqY ?_⟩⟩⟩⟩
      exact ⟨_, rfl, _, rfl, _, rfl, g, _, _, _, rfl, rfl, SqL.of hg, atI_nat (j := 0) rfl, F, own, M, L, s, n, d', how, rfl, R, d3, hn, k⟩
    | pull d' how =>
      obtain ⟨rfl, rfl, rfl⟩ := enc_eq ec
      refine ⟨_, rfl, rfl, _, rfl, eqN (by decide) ⟨_, rfl, rfl, _, rfl, eqN (by decide) ⟨_, rfl, rfl, _, rfl, eqN (by decide) ⟨_, rfl, rfl, _, rfl, eqN (by decide) ⟨_, rfl, rfl, _, rfl, eqY ?_⟩⟩⟩⟩⟩
      exact ⟨_, rfl, _, rfl, _, rfl, g, _, _, _, rfl, rfl, SqL.of hg, atI_nat (j := 0) rfl, F, own, M, L, s, n, d', how, rfl, R, d3, hn, k⟩
    | forget m =>
      exact absurd (congrArg Prod.fst ec).symm p5
    | shown d' =>
      obtain ⟨rfl, rfl, rfl⟩ := enc_eq ec
      refine ⟨_, rfl, rfl, _, rfl, eqN (by decide) ⟨_, rfl, rfl, _, rfl, eqN (by decide) ⟨_, rfl, rfl, _, rfl, eqN (by decide) ⟨_, rfl, rfl, _, rfl, eqN (by decide) ⟨_, rfl, rfl, _, rfl, eqN (by decide) ⟨_, rfl, rfl, _, rfl, eqY ?_⟩⟩⟩⟩⟩⟩
      have sp := R.shown_pre d3 hn
      refine ⟨_, rfl, _, dx, _, rfl, ho, rfl, _, rfl, L d', M, d', n, s, F, rfl, D, R.house, R.sub, sp.1, sp.2.1, sp.2.2, ?_⟩
      intro H1 p1 qs dat ds s1 np nq
      have ok := shown_told R.inv d3 hn ds
      refine ⟨p1, qs, F, rfl, dat, ok.1, ok.2, ?_⟩
      intro H2 t nt ht s2
      rw [ds] at ht
      exact k.told R (s1.trans s2) (s1.free nt) (by unfold Cl07.step; exact with_yes d3) ht
    | house => cases (congrArg Prod.snd ec)
    | clashes d' =>
      obtain ⟨rfl, rfl, rfl⟩ := enc_eq ec
      refine ⟨_, rfl, rfl, _, rfl, eqN (by decide) ⟨_, rfl, rfl, _, rfl, eqN (by decide) ⟨_, rfl, rfl, _, rfl, eqN (by decide) ⟨_, rfl, rfl, _, rfl, eqN (by decide) ⟨_, rfl, rfl, _, rfl, eqN (by decide) ⟨_, rfl, rfl, _, rfl, eqN (by decide) ⟨_, rfl, rfl, _, rfl, eqY ?_⟩⟩⟩⟩⟩⟩⟩
      refine ⟨_, rfl, _, _, dx, _, _, rfl, ho, T.c_Device, T.n_Device_clashes, rfl, (L d').c, _, F, rfl, D.cl, R.sub, (R.waits d3 (by omega)).2.2, ?_⟩
      intro H2 t nt ht s2
      exact k.told R s2 nt (by unfold Cl07.step; exact with_yes d3) ht
    | settle d' i again =>
      obtain ⟨rfl, rfl, rfl⟩ := enc_eq ec
      refine ⟨_, rfl, rfl, _, rfl, eqN (by decide) ⟨_, rfl, rfl, _, rfl, eqN (by decide) ⟨_, rfl, rfl, _, rfl, eqN (by decide) ⟨_, rfl, rfl, _, rfl, eqN (by decide) ⟨_, rfl, rfl, _, rfl, eqN (by decide) ⟨_, rfl, rfl, _, rfl, eqN (by decide) ⟨_, rfl, rfl, _, rfl, eqN (by decide) ⟨_, rfl, rfl, _, rfl, eqY ?_⟩⟩⟩⟩⟩⟩⟩⟩
      exact ⟨_, rfl, _, rfl, _, rfl, g, _, _, _, rfl, rfl, SqL.of hg, atI_nat (j := 0) rfl, _, rfl, g, _, _, _, rfl, rfl, SqL.of hg, atI_nat (j := 1) rfl, F, own, M, L, s, n, d', i, again, rfl, R, d3, hn, k⟩
    | state d' =>
      obtain ⟨rfl, rfl, rfl⟩ := enc_eq ec
      refine ⟨_, rfl, rfl, _, rfl, eqN (by decide) ⟨_, rfl, rfl, _, rfl, eqN (by decide) ⟨_, rfl, rfl, _, rfl, eqN (by decide) ⟨_, rfl, rfl, _, rfl, eqN (by decide) ⟨_, rfl, rfl, _, rfl, eqN (by decide) ⟨_, rfl, rfl, _, rfl, eqN (by decide) ⟨_, rfl, rfl, _, rfl, eqN (by decide) ⟨_, rfl, rfl, _, rfl, eqN (by decide) ?_⟩⟩⟩⟩⟩⟩⟩⟩
      exact ⟨_, rfl, _, rfl, F, own, M, L, s, n, d', rfl, R, d3, k⟩
end
/-! ### A call of the calendar -/
theorem call_kinds {c : Cl07.Call} {p : Int} {xs : List Int} (h : enc c = (p, xs)) : (∃ m, c = .forget m) ∨ c = .house ∨ ∃ (d : Nat) (rest : List Int), xs = (d : Int) :: rest ∧ p ≠ 5 ∧ p ≠ 7 ∧ ∀ s, 3 ≤ d → Cl07.step s c = (s, [-3]) := by
  have h1 : (enc c).1 = p := congrArg Prod.fst h
  have h2 : (enc c).2 = xs := congrArg Prod.snd h
  subst h1 h2
  cases c with
  | forget m => exact .inl ⟨m, rfl⟩
  | house => exact .inr (.inl rfl)
  | make d _ _ _ => exact .inr (.inr ⟨d, _, rfl, by show ¬ (0 : Int) = 5; decide, by show ¬ (0 : Int) = 7; decide, fun s h => by unfold Cl07.step; exact with_no h⟩)
  | set d _ _ _ => exact .inr (.inr ⟨d, _, rfl, by show ¬ (1 : Int) = 5; decide, by show ¬ (1 : Int) = 7; decide, fun s h => by unfold Cl07.step; exact with_no h⟩)
  | remove d _ => exact .inr (.inr ⟨d, _, rfl, by show ¬ (2 : Int) = 5; decide, by show ¬ (2 : Int) = 7; decide, fun s h => by unfold Cl07.step; exact with_no h⟩)
  | push d _ => exact .inr (.inr ⟨d, _, rfl, by show ¬ (3 : Int) = 5; decide, by show ¬ (3 : Int) = 7; decide, fun s h => by unfold Cl07.step; exact with_no h⟩)
  | pull d _ => exact .inr (.inr ⟨d, _, rfl, by show ¬ (4 : Int) = 5; decide, by show ¬ (4 : Int) = 7; decide, fun s h => by unfold Cl07.step; exact with_no h⟩)
  | shown d => exact .inr (.inr ⟨d, _, rfl, by show ¬ (6 : Int) = 5; decide, by show ¬ (6 : Int) = 7; decide, fun s h => by unfold Cl07.step; exact with_no h⟩)
  | clashes d => exact .inr (.inr ⟨d, _, rfl, by show ¬ (8 : Int) = 5; decide, by show ¬ (8 : Int) = 7; decide, fun s h => by unfold Cl07.step; exact with_no h⟩)
  | settle d _ _ => exact .inr (.inr ⟨d, _, rfl, by show ¬ (9 : Int) = 5; decide, by show ¬ (9 : Int) = 7; decide, fun s h => by unfold Cl07.step; exact with_no h⟩)
  | state d => exact .inr (.inr ⟨d, _, rfl, by show ¬ (10 : Int) = 5; decide, by show ¬ (10 : Int) = 7; decide, fun s h => by unfold Cl07.step; exact with_no h⟩)
def devL (L : Nat → DL) : List V := [.ref (L 0).o, .ref (L 1).o, .ref (L 2).o]
theorem devL_get {L : Nat → DL} {d : Nat} (h : d < 3) : (devL L)[d]? = some (.ref (L d).o) := by
  match d, h with
  | 0, _ => rfl
  | 1, _ => rfl
  | 2, _ => rfl
section
variable {P : Program} {w : World} {K : PySem.W.Frag} {mg : Str → Option Value} {base : Heap} {A : Ad}
def spCalAnswer (A : Ad) : Sp := fun vs H Q _ => ∃ (F : Hp) (own : Own) (M : HL) (L : Nat → DL) (s : Cl07.State) (n : Nat) (c : Cl07.Call) (p : Int) (xs : List Int) (cal dx dl g : Addr), vs = [.ref cal, .int p, .ref g] ∧ Rep A F H own M L s n ∧ n ≤ 400 ∧ H cal = some (.ins A.C_Calendar dx (caF M dl)) ∧ F dl = some (.lst (devL L)) ∧
  H g = some (.lst (xs.map V.int)) ∧ enc c = (p, xs) ∧ Ans A F H own M L n (Cl07.step s c) Q
theorem ok_Calendar_answer (T : All K mg A) : FnOk P w K mg base CX0 8 A.f_Calendar_answer A.d_Calendar_answer ["self", "call", "given"] (spCalAnswer A) := by
  refine T.F_Calendar_answer.ok sc_Calendar_answer (fun vs H Q E h => ?_) (fun cdv B outer s H vs Q E hr h => ?_)
  · obtain ⟨F, own, M, L, s, n, c, p, xs, cal, dx, dl, g, rfl, _⟩ := h
    rfl
  · obtain ⟨F, own, M, L, s, n, c, p, xs, cal, dx, dl, g, rfl, R, hn, hcal, hdl, hg, ec, k⟩ := h
    have hr3 : Room 3 _ := hr.mono (by decide)
    have hr1 : Room 1 _ := hr.mono (by decide)
    obtain ⟨dxh, hoh⟩ := R.house.obj
    refine ⟨_, pss_cons (ps_if (pt_cmpR op_eq (pv 1) (pe_k rfl T.k_FORGET) (nomark _)) (pss_one (ps_ret (pe_call (ok_forget T) hr1 rfl T.g_forget T.F_forget.kp T.b_forget .nil pass0 (pa_cons (pe_fld (pv 0) rfl) (pa_cons (pe_ix ix_list (pv 2) pe_int (fun _ _ => rfl)) pa_nil))))) pss_nil)
      (pss_cons (ps_if (pt_cmpR op_eq (pv 1) (pe_k rfl T.k_HOUSE) (nomark _)) (pss_one (ps_ret (pe_call (ok_told_dates T) hr1 rfl T.g_told_dates T.F_told_dates.kp T.b_told_dates .nil pass0 (pa_cons (pe_meth0 (pe_fld (pv 0) rfl) T.c_House T.m_House_dates (ok_House_dates T) hr3 T.b_House_dates .nil pass0) pa_nil)))) pss_nil)
      (pss_cons (ps_if (pt_cmpR op_ge (pe_ix ix_list (pv 2) pe_int (fun _ _ => rfl)) (pe_k rfl T.k_DEVICES) (nomark _)) (pss_one (ps_ret (pe_lst (pa_cons (pe_k rfl T.k_NO_DEVICE) pa_nil)))) pss_nil)
      (pss_one (ps_ret (pe_call (ok_answer_on_device T) hr rfl T.g_answer_on_device T.F_answer_on_device.kp T.b_answer_on_device .nil pass0 (pa_cons (pe_fld (pv 0) rfl) (pa_cons (pe_ix ix_list (pe_fld (pv 0) rfl) (pe_ix ix_list (pv 2) pe_int (fun _ _ => rfl)) (fun _ _ => rfl)) (pa_cons (pv 1) (pa_cons (pe_slice sl_list (pv 2) (po_some pe_int) po_none) pa_nil))))))))), ?_⟩
    rcases call_kinds ec with ⟨m, rfl⟩ | rfl | ⟨d, rest, rfl, p5, p7, no⟩
    · obtain rfl : (5 : Int) = p := congrArg Prod.fst ec
      obtain rfl : [(m : Int)] = xs := congrArg Prod.snd ec
      refine ⟨_, rfl, rfl, _, rfl, eqY ?_⟩
      exact ⟨_, rfl, _, _, dx, _, _, rfl, hcal, T.c_Calendar, T.n_Calendar_house, rfl, _, rfl, g, _, _, _, rfl, rfl, SqL.of hg, atI_nat (j := 0) rfl, F, own, M, L, s, n, m, rfl, R, k⟩
    · obtain rfl : (7 : Int) = p := congrArg Prod.fst ec
      obtain rfl : ([] : List Int) = xs := congrArg Prod.snd ec
      refine ⟨_, rfl, rfl, _, rfl, eqN (by decide) ⟨_, rfl, rfl, _, rfl, eqY ?_⟩⟩
      have lg := R.inv.log
      refine ⟨_, rfl, _, _, dx, _, _, rfl, hcal, T.c_Calendar, T.n_Calendar_house, rfl, _, dxh, _, rfl, hoh, rfl, M, n, s, F, rfl, R.house, R.sub, lg.good, lg.fresh, by have := lg.len; omega, ?_⟩
      intro H1 p1 qs dat ds s1 np nq
      have ok := log_told R.inv hn ds
      refine ⟨p1, qs, F, rfl, dat, ok.1, ok.2, ?_⟩
      intro H2 t nt ht s2
      rw [ds] at ht
      exact k.told R (s1.trans s2) (s1.free nt) rfl ht
    · refine ⟨_, rfl, rfl, _, rfl, eqN p5 ⟨_, rfl, rfl, _, rfl, eqN p7 ?_⟩⟩
      refine ⟨_, rfl, g, _, _, _, rfl, rfl, SqL.of hg, atI_nat (j := 0) rfl, _, _, rfl, rfl, _, rfl, ?_⟩
      by_cases d3 : d < 3
      · rw [decide_eq_false (show ¬ (3 : Int) ≤ (d : Int) by omega)]
        refine iteF ?_
        refine ⟨_, rfl, _, _, dx, _, _, rfl, hcal, T.c_Calendar, T.n_Calendar_house, rfl, _, rfl, _, _, dx, _, _, rfl, hcal, T.c_Calendar, T.n_Calendar_devices, rfl, _, rfl, g, _, _, _, rfl, rfl, SqL.of hg, atI_nat (j := 0) rfl, dl, _, _, _, rfl, rfl, SqL.of (R.sub _ _ hdl), atI_nat (j := d) (devL_get d3), _, rfl, _, rfl, _, rfl, _, _, rfl, SqL.of hg, fun g2 ng2 => ?_⟩
        have ct : cutV (List.map V.int ((d : Int) :: rest)) (some 1) none = rest.map V.int := cut_from (n := 1)
        rw [ct]
        obtain ⟨R1, S1⟩ := R.more ((Ext.of_same R.sub (Same.new (o := .lst (rest.map V.int)) ng2)).freeze ng2 (free_of R.sub ng2) upd_same)
        exact ⟨_, own, M, L, s, n, d, c, p, g2, rest, rfl, R1, d3, hn, upd_same, p5, ec, k.after S1⟩
      · rw [decide_eq_true (show (3 : Int) ≤ (d : Int) by omega)]
        refine iteT ?_
        refine ⟨(by show 1 ≤ sizeLine; decide), fun q nq => ?_⟩
        have e0 := no s (by omega)
        exact k.stay R (Same.refl _) nq (by rw [e0]) (by rw [e0]; rfl)
end
/-! ### The whole list -/
theorem cut_mid {l : List V} {i j : Nat} (h : i ≤ j) (hj : j ≤ l.length) : cutV l (some (i : Int)) (some (j : Int)) = (l.drop i).take (j - i) := by
  unfold cutV
  rw [HT.sIx_nat, HT.sIx_nat, Nat.min_eq_left hj, Nat.min_eq_left (Nat.le_trans h hj)]
theorem sizes {p : Int} {m : Nat} (h : PyCl07.shape p = some (m, 0)) : List.lookup p [((0 : Int), (4 : Int)), (1, 4), (2, 2), (3, 2), (4, 2), (5, 1), (6, 1), (7, 0), (8, 1), (9, 3), (10, 1)] = some (m : Int) := by
  rcases (shape_some h).2 with ⟨rfl, rfl⟩ | ⟨rfl, rfl⟩ | ⟨rfl, rfl⟩ | ⟨rfl, rfl⟩ | ⟨rfl, rfl⟩ | ⟨rfl, rfl⟩ | ⟨rfl, rfl⟩ | ⟨rfl, rfl⟩ | ⟨rfl, rfl⟩ | ⟨rfl, rfl⟩ | ⟨rfl, rfl⟩ <;> rfl
theorem Rep.put {A : Ad} {F H : Hp} {own : Own} {M : HL} {L : Nat → DL} {s : Cl07.State} {n : Nat} {t : Addr} {u o : HO} (R : Rep A F H own M L s n) (ht : H t = some u) (ft : F t = none) (ot : own t = none) : Rep A F (upd H t o) own M L s n := by
  have E : Ext (· = t) F H F (upd H t o) := Ext.put R.sub ht ft
  refine ⟨R.inv, E.sub, R.house.keep E fun b hb z => ?_, fun d d3 => (R.dev d d3).keep E fun b hb z => ?_, R.ho, R.dv⟩
  · have := R.ho b hb
    rw [z, ot] at this
    cases this
  · have := R.dv d d3 b hb
    rw [z, ot] at this
    cases this
/-- a place that is not owned -/
def noOwn (own : Own) (t : Addr) : Own := fun b => if b = t then none else own b
theorem Rep.noOwn {A : Ad} {F H : Hp} {own : Own} {M : HL} {L : Nat → DL} {s : Cl07.State} {n : Nat} {t : Addr} (R : Rep A F H own M L s n) (ht : H t = none) : Rep A F H (noOwn own t) M L s n := by
  refine ⟨R.inv, R.sub, R.house, R.dev, fun b hb => ?_, fun d d3 b hb => ?_⟩
  · have : b ≠ t := fun z => R.house.some hb (by rw [z]; exact ht)
    unfold CK.noOwn
    rw [if_neg this]; exact R.ho b hb
  · have : b ≠ t := fun z => (R.dev d d3).some hb (by rw [z]; exact ht)
    unfold CK.noOwn
    rw [if_neg this]; exact R.dv d d3 b hb
theorem small10M {n : Nat} (h : n ≤ 10000000) : n < sizeLine := Nat.lt_of_le_of_lt h (by decide)
structure LoopAt (A : Ad) (H0 : Hp) (a cal dc dl t : Addr) (M : HL) (ns : List Int) (i : Nat) (H : Hp) (F : Hp) (own : Own) (L : Nat → DL) (s : Cl07.State) (n : Nat) (cs : List Cl07.Call) (acc : List Int) : Prop where
  il : i ≤ ns.length
  rd : Reads (ns.drop i) cs
  nn : n + cs.length ≤ 80
  rep : Rep A F H own M L s n
  hc : H cal = some (.ins A.C_Calendar dc (caF M dl))
  dev : F dl = some (.lst (devL L))
  tl : H t = some (.lst (acc.map V.int))
  ac : acc ++ tells s cs = PyCl07.answers ns
  ot : own t = none
  oc : own cal = none
  ft : F t = none
  sm : Same H0 H
  o0 : ∀ b, H0 b ≠ none → own b = none
  t0 : H0 t = none
  ct : cal ≠ t
section
variable {P : Program} {w : World} {K : PySem.W.Frag} {mg : Str → Option Value} {base : Heap} {A : Ad}
def spAns (K : PySem.W.Frag) : Sp := fun vs H Q _ => ∃ (a : Addr) (ns : List Int), vs = [.ref a] ∧ SqL K H a (ns.map V.int) ∧ ns.length ≤ 500 ∧ PyCl07.answers_asked ns = true ∧
  ∀ (H' : Hp) (p : Addr), H' p = some (.lst ((PyCl07.answers ns).map V.int)) → Q (.ref p) H'
theorem ok_answers (T : All K mg A) : FnOk P w K mg base CX0 9 A.f_answers A.d_answers ["calls"] (spAns K) := by
  refine T.F_answers.ok sc_answers (fun vs H Q E h => ?_) (fun cdv B outer s H vs Q E hr h => ?_)
  · obtain ⟨a, ns, rfl, _⟩ := h
    rfl
  · obtain ⟨a, ns, rfl, sq, l500, hask, k⟩ := h
    obtain ⟨cs0, rd0, len0, ans0, big⟩ := asked_of hask
    obtain ⟨tb, htb, tab⟩ := T.t_CALL_SIZES
    have hr4 : Room 4 _ := hr.mono (by decide)
    refine ⟨_, pss_cons (ps_set (i := 1) sc_answers.nd rfl (Or.inl rfl) (pe_make0 T.mk_Calendar (ok_Calendar_init T) hr4 rfl T.g_Calendar T.b_Calendar_init .nil pass0))
      (pss_cons (ps_set (i := 2) sc_answers.nd rfl (Or.inl rfl) (pe_lst pa_nil))
      (pss_cons (ps_set (i := 3) sc_answers.nd rfl (Or.inl rfl) pe_int)
      (pss_cons (ps_while PassesOwn.never (pt_cmpR op_lt (pv 3) (pe_callB call_len_seq (by rfl) T.z_len PySem.boot_len (pa_cons (pv 0) pa_nil)) (nomark _))
        (pss_cons (ps_set (i := 4) sc_answers.nd rfl (Or.inl rfl) (pe_op op_add (pe_op op_add (pv 3) pe_int) (pe_ix ix_tab (pe_tab rfl htb) (pe_ix ix_list (pv 0) (pv 3) (fun _ _ => rfl)) (fun _ _ => rfl))))
        (pss_cons (ps_set (i := 5) sc_answers.nd rfl (Or.inl rfl) (pe_meth (pv 1) T.c_Calendar T.m_Calendar_answer (ok_Calendar_answer T) hr T.b_Calendar_answer .nil pass0 (pa_cons (pe_ix ix_list (pv 0) (pv 3) (fun _ _ => rfl)) (pa_cons (pe_slice sl_list (pv 0) (po_some (pe_op op_add (pv 3) pe_int)) (po_some (pv 4))) pa_nil))))
        (pss_cons (ps_expr (pe_bm PySem.F.plainAttrs_list PySem.F.slot_list_append PySem.F.type_list_append mt_append (pv 2) (pa_cons (pe_callB call_len_seq (by rfl) T.z_len PySem.boot_len (pa_cons (pv 5) pa_nil)) pa_nil)))
        (pss_cons (ps_expr (pe_bm PySem.F.plainAttrs_list PySem.F.slot_list_extend PySem.F.type_list_extend mt_extend (pv 2) (pa_cons (pv 5) pa_nil)))
        (pss_one (ps_set (i := 3) sc_answers.nd rfl (Or.inl rfl) (pv 4))))))))
      (pss_one (ps_ret (pv 2)))))), ?_⟩
    intro cal dc nc ndc ne
    refine ⟨cal, dc, rfl, upd_same, fun F1 H1 own M L dl R hcal hdl kp cl => ⟨rfl, Nat.zero_le _, fun t nt => ?_⟩⟩
    have sm1 : Same H H1 := Same.made nc ndc kp
    have nt0 : H t = none := sm1.free nt
    have ct : cal ≠ t := ne_of_none hcal nt
    have R2 := (R.noOwn nt).same (Same.new (o := .lst []) nt)
    have inn : ∀ b, H b ≠ none → (upd (upd H dc (.own cal)) cal (.ins A.C_Calendar dc [])) b ≠ none := fun b hb => by
      by_cases e1 : b = cal
      · rw [e1, upd_same]; simp
      · rw [upd_ne e1]
        by_cases e2 : b = dc
        · rw [e2, upd_same]; simp
        · rw [upd_ne e2]; exact hb
    refine ⟨fun m σ H' => ∃ (i : Nat) (v4 v5 : Option V) (F : Hp) (own : Own) (L : Nat → DL) (s : Cl07.State) (n : Nat) (cs : List Cl07.Call) (acc : List Int), m = ns.length - i ∧ σ = [some (.ref a), some (.ref cal), some (.ref t), some (.int (i : Int)), v4, v5] ∧ LoopAt A H a cal dc dl t M ns i H' F own L s n cs acc,
      ⟨_, 0, none, none, F1, noOwn own t, L, Cl07.init, 0, cs0, [], rfl, rfl, ⟨Nat.zero_le _, rd0, by omega, R2, ?_, hdl, upd_same, ans0.symm, if_pos rfl, ?_, R.sub.free nt, ?_, ?_, nt0, ct⟩⟩, ?_⟩
    · rw [upd_ne ct]; exact hcal
    · unfold noOwn; rw [if_neg ct]; exact (cl cal (by rw [upd_same]; simp)).1
    · exact sm1.trans (Same.new nt)
    · intro b hb
      unfold noOwn
      split
      · rfl
      · exact (cl b (inn b hb)).1
    rintro m σ H' ⟨i, v4, v5, F, own, L, s, n, cs, acc, rfl, rfl, Z⟩
    have sq' := Z.sm.seq sq
    refine ⟨_, rfl, _, rfl, a, _, rfl, .inl sq', _, _, rfl, rfl, _, rfl, ?_⟩
    rw [List.length_map]
    by_cases lt : i < ns.length
    · rw [decide_eq_true (show (i : Int) < (ns.length : Int) by omega)]
      refine iteT ⟨fun σ' H2 => ∃ m', m' < ns.length - i ∧ ∃ (i : Nat) (v4 v5 : Option V) (F : Hp) (own : Own) (L : Nat → DL) (s : Cl07.State) (n : Nat) (cs : List Cl07.Call) (acc : List Int), m' = ns.length - i ∧ σ' = [some (.ref a), some (.ref cal), some (.ref t), some (.int (i : Int)), v4, v5] ∧ LoopAt A H a cal dc dl t M ns i H2 F own L s n cs acc, fun _ _ z => z, ?_⟩
      obtain ⟨p, hp⟩ : ∃ p, ns[i]? = some p := ⟨_, List.getElem?_eq_getElem lt⟩
      have hpv : (ns.map V.int)[i]? = some (.int p) := by rw [List.getElem?_map, hp]; rfl
      have hdr : ns.drop i = p :: ns.drop (i + 1) := by
        obtain ⟨h1, h2⟩ := List.getElem?_eq_some_iff.mp hp
        rw [List.drop_eq_getElem_cons lt, h2]
      have rd := Z.rd
      rw [hdr] at rd
      cases rd with
      | @cons _ m _ c cs' hs hm ec rd' =>
      rw [List.length_drop] at hm
      have rd2 : Reads (ns.drop (i + 1 + m)) cs' := by rw [← List.drop_drop]; exact rd'
      refine ⟨_, rfl, _, _, rfl, rfl, _, rfl, _, rfl, a, _, _, _, rfl, rfl, sq', atI_nat (j := i) hpv, tb, _, p, _, rfl, rfl, tab, sizes hs, _, _, rfl, rfl, ?_⟩
      have e4 : (i : Int) + 1 + (m : Int) = ((i + 1 + m : Nat) : Int) := by omega
      have e3 : (i : Int) + 1 = ((i + 1 : Nat) : Int) := by omega
      show gName 4 (V.int ((i : Int) + 1 + (m : Int))) _ _ _
      rw [e4]
      have nn := Z.nn
      rw [List.length_cons] at nn
      refine ⟨_, rfl, _, dc, _, rfl, Z.hc, rfl, _, rfl, _, rfl, a, _, _, _, rfl, rfl, sq', atI_nat (j := i) hpv, _, rfl, _, rfl, _, _, rfl, rfl, _, rfl, _, rfl, _, rfl, a, _, rfl, sq', fun g ng => ?_⟩
      rw [e3, cut_mid (by omega) (by rw [List.length_map]; omega)]
      have ecut : (((ns.map V.int).drop (i + 1)).take (i + 1 + m - (i + 1))) = ((ns.drop (i + 1)).take m).map V.int := by
        rw [List.map_take, List.map_drop]
        congr 1
        omega
      rw [ecut]
      have sg : Same H' (upd H' g (.lst (((ns.drop (i + 1)).take m).map V.int))) := Same.new ng
      have R1 := Z.rep.same sg
      refine ⟨F, own, M, L, s, n, c, p, _, cal, dc, dl, g, rfl, R1, by omega, sg _ _ Z.hc, Z.dev, upd_same, ec, ?_⟩
      intro F2 H2 own2 L2 q R2 lo S2 nq hq
      have ht1 := sg _ _ Z.tl
      have hc1 := sg _ _ Z.hc
      have ht2 := S2.ext.fr _ _ ht1 (fun z => z Z.ot)
      have hc2 := S2.ext.fr _ _ hc1 (fun z => z Z.oc)
      have ot2 : own2 t = none := (S2.own t (ne_none ht1)).trans Z.ot
      have oc2 : own2 cal = none := (S2.own cal (ne_none hc1)).trans Z.oc
      have ft2 : F2 t = none := (S2.ext.nf t (ne_none ht1)).trans Z.ft
      have qt : q ≠ t := fun z => by rw [z, ht1] at nq; cases nq
      have acl : acc.length + ((Cl07.step s c).2.length + 1) ≤ 10000000 := by
        have h := congrArg List.length Z.ac
        rw [List.length_append] at h
        have h2 : (tells s (c :: cs')).length = (Cl07.step s c).2.length + 1 + (tells (Cl07.step s c).1 cs').length := by
          show ((((Cl07.step s c).2.length : Nat) : Int) :: (Cl07.step s c).2 ++ tells (Cl07.step s c).1 cs').length = _
          rw [List.length_append, List.length_cons]
        omega
      refine ⟨_, rfl, .inl ⟨rfl, _, SqL.of ht2⟩, _, rfl, q, _, rfl, .inl (SqL.of hq), t, _, _, rfl, rfl, ht2, ?_, ?_⟩
      · rw [List.length_map]; exact small10M (by omega)
      refine ⟨_, rfl, .inl ⟨rfl, _, SqL.of upd_same⟩, _, rfl, t, q, _, _, rfl, rfl, upd_same, (by rw [upd_ne qt]; exact hq), ?_, ?_⟩
      · rw [List.length_append, List.length_map, List.length_map]
        exact Nat.le_of_lt (small10M (by show acc.length + 1 + _ ≤ _; omega))
      refine ⟨_, rfl, ns.length - (i + 1 + m), by omega, i + 1 + m, _, _, F2, own2, L2, (Cl07.step s c).1, n + 1, cs', acc ++ ((((Cl07.step s c).2.length : Nat) : Int) :: (Cl07.step s c).2), rfl, rfl, ?_⟩
      refine ⟨by omega, rd2, by omega, ?_, ?_, ?_, ?_, ?_, ot2, oc2, ft2, ?_, ?_, Z.t0, Z.ct⟩
      · exact (R2.put ht2 ft2 ot2).put upd_same ft2 ot2
      · rw [upd_ne Z.ct, upd_ne Z.ct]; exact hc2
      · have h := S2.ext.fz _ _ Z.dev
        rw [h]
        unfold devL
        rw [lo 0, lo 1, lo 2]
      · rw [upd_same, List.length_map, List.map_append, List.append_assoc]
        rfl
      · rw [← Z.ac, List.append_assoc]
        rfl
      · intro b o hb
        have n1 : b ≠ t := ne_of_none hb Z.t0
        rw [upd_ne n1, upd_ne n1]
        exact S2.ext.fr _ _ (sg _ _ (Z.sm _ _ hb)) (fun z => z (Z.o0 b (ne_none hb)))
      · intro b hb
        have hb1 : (upd H' g (.lst (((ns.drop (i + 1)).take m).map V.int))) b ≠ none := by
          cases z : H b with
          | none => exact absurd z hb
          | some o => exact ne_none (sg _ _ (Z.sm _ _ z))
        exact (S2.own b hb1).trans (Z.o0 b hb)
    · rw [decide_eq_false (show ¬ (i : Int) < (ns.length : Int) by omega)]
      refine iteF ⟨_, rfl, k H' t ?_⟩
      have rd := Z.rd
      rw [List.drop_of_length_le (by omega)] at rd
      cases rd
      have ac := Z.ac
      rw [← ac]
      show _ = some (HO.lst ((acc ++ []).map V.int))
      rw [List.append_nil]
      exact Z.tl
end
theorem all_mk {K : PySem.W.Frag} {h : Heap} {mg : Str → Option Value} {C_Change C_Device C_Outcome C_House C_Calendar f1 f2 f3 f4 f5 f6 f7 f8 f9 f10 f11 f12 f13 f14 f15 f16 f17 f18 f19 f20 f21 f22 f23 f24 f25 f26 f27 f28 f29 f30 f31 f32 f33 f34 f35 f36 : Addr} {tSET_FIELD : Tok} {tTAKE_OUT : Tok} {tMAKE_DATE : Tok} {tMOST_MADE : Tok} {tMOST_WAITING : Tok} {tDEVICES : Tok} {tFIELDS : Tok} {tLARGEST : Tok} {tMAKE : Tok} {tSET : Tok} {tREMOVE : Tok} {tPUSH : Tok} {tPULL : Tok} {tFORGET : Tok} {tSHOWN : Tok} {tHOUSE : Tok} {tCLASHES : Tok} {tSETTLE : Tok} {tOUT_OF_BOUNDS : Tok} {tDATE_GONE : Tok} {tNO_DEVICE : Tok} {tNOT_SHOWN : Tok} {tNO_CLASH : Tok} {tFULL : Tok} {tNOTHING_WAITS : Tok} {tNOTHING_ANSWERED : Tok} {tDONE : Tok} {tNOT_DONE : Tok} {tMORE_KNOWN : Tok} {tTOLD_ANEW : Tok} {tPUSH_LOST : Tok} {tPUSH_ANSWER_LOST : Tok} {tPULL_LOST : Tok} {tLET_GO : Tok} {tONCE_MORE : Tok} {aCALL_SIZES : Addr} {nCALL_SIZES : Nat} {uCALL_SIZES0 wCALL_SIZES0 : Tok} {uCALL_SIZES1 wCALL_SIZES1 : Tok} {uCALL_SIZES2 wCALL_SIZES2 : Tok} {uCALL_SIZES3 wCALL_SIZES3 : Tok} {uCALL_SIZES4 wCALL_SIZES4 : Tok} {uCALL_SIZES5 wCALL_SIZES5 : Tok} {uCALL_SIZES6 wCALL_SIZES6 : Tok} {uCALL_SIZES7 wCALL_SIZES7 : Tok} {uCALL_SIZES8 wCALL_SIZES8 : Tok} {uCALL_SIZES9 wCALL_SIZES9 : Tok} {uCALL_SIZES10 wCALL_SIZES10 : Tok}
    {od1 an1 : Option Addr} {sl1 : Array (Option Value)} {oc1 kV1 dc1 pm1 cd1 ct1 : Value} {od2 an2 : Option Addr} {sl2 : Array (Option Value)} {oc2 kV2 dc2 pm2 cd2 ct2 : Value} {od3 an3 : Option Addr} {sl3 : Array (Option Value)} {oc3 kV3 dc3 pm3 cd3 ct3 : Value} {od4 an4 : Option Addr} {sl4 : Array (Option Value)} {oc4 kV4 dc4 pm4 cd4 ct4 : Value} {od5 an5 : Option Addr} {sl5 : Array (Option Value)} {oc5 kV5 dc5 pm5 cd5 ct5 : Value} {od6 an6 : Option Addr} {sl6 : Array (Option Value)} {oc6 kV6 dc6 pm6 cd6 ct6 : Value} {od7 an7 : Option Addr} {sl7 : Array (Option Value)} {oc7 kV7 dc7 pm7 cd7 ct7 : Value} {od8 an8 : Option Addr} {sl8 : Array (Option Value)} {oc8 kV8 dc8 pm8 cd8 ct8 : Value} {od9 an9 : Option Addr} {sl9 : Array (Option Value)} {oc9 kV9 dc9 pm9 cd9 ct9 : Value} {od10 an10 : Option Addr} {sl10 : Array (Option Value)} {oc10 kV10 dc10 pm10 cd10 ct10 : Value} {od11 an11 : Option Addr} {sl11 : Array (Option Value)} {oc11 kV11 dc11 pm11 cd11 ct11 : Value} {od12 an12 : Option Addr} {sl12 : Array (Option Value)} {oc12 kV12 dc12 pm12 cd12 ct12 : Value} {od13 an13 : Option Addr} {sl13 : Array (Option Value)} {oc13 kV13 dc13 pm13 cd13 ct13 : Value} {od14 an14 : Option Addr} {sl14 : Array (Option Value)} {oc14 kV14 dc14 pm14 cd14 ct14 : Value} {od15 an15 : Option Addr} {sl15 : Array (Option Value)} {oc15 kV15 dc15 pm15 cd15 ct15 : Value} {od16 an16 : Option Addr} {sl16 : Array (Option Value)} {oc16 kV16 dc16 pm16 cd16 ct16 : Value} {od17 an17 : Option Addr} {sl17 : Array (Option Value)} {oc17 kV17 dc17 pm17 cd17 ct17 : Value} {od18 an18 : Option Addr} {sl18 : Array (Option Value)} {oc18 kV18 dc18 pm18 cd18 ct18 : Value} {od19 an19 : Option Addr} {sl19 : Array (Option Value)} {oc19 kV19 dc19 pm19 cd19 ct19 : Value} {od20 an20 : Option Addr} {sl20 : Array (Option Value)} {oc20 kV20 dc20 pm20 cd20 ct20 : Value} {od21 an21 : Option Addr} {sl21 : Array (Option Value)} {oc21 kV21 dc21 pm21 cd21 ct21 : Value} {od22 an22 : Option Addr} {sl22 : Array (Option Value)} {oc22 kV22 dc22 pm22 cd22 ct22 : Value} {od23 an23 : Option Addr} {sl23 : Array (Option Value)} {oc23 kV23 dc23 pm23 cd23 ct23 : Value} {od24 an24 : Option Addr} {sl24 : Array (Option Value)} {oc24 kV24 dc24 pm24 cd24 ct24 : Value} {od25 an25 : Option Addr} {sl25 : Array (Option Value)} {oc25 kV25 dc25 pm25 cd25 ct25 : Value} {od26 an26 : Option Addr} {sl26 : Array (Option Value)} {oc26 kV26 dc26 pm26 cd26 ct26 : Value} {od27 an27 : Option Addr} {sl27 : Array (Option Value)} {oc27 kV27 dc27 pm27 cd27 ct27 : Value} {od28 an28 : Option Addr} {sl28 : Array (Option Value)} {oc28 kV28 dc28 pm28 cd28 ct28 : Value} {od29 an29 : Option Addr} {sl29 : Array (Option Value)} {oc29 kV29 dc29 pm29 cd29 ct29 : Value} {od30 an30 : Option Addr} {sl30 : Array (Option Value)} {oc30 kV30 dc30 pm30 cd30 ct30 : Value} {od31 an31 : Option Addr} {sl31 : Array (Option Value)} {oc31 kV31 dc31 pm31 cd31 ct31 : Value} {od32 an32 : Option Addr} {sl32 : Array (Option Value)} {oc32 kV32 dc32 pm32 cd32 ct32 : Value} {od33 an33 : Option Addr} {sl33 : Array (Option Value)} {oc33 kV33 dc33 pm33 cd33 ct33 : Value} {od34 an34 : Option Addr} {sl34 : Array (Option Value)} {oc34 kV34 dc34 pm34 cd34 ct34 : Value} {od35 an35 : Option Addr} {sl35 : Array (Option Value)} {oc35 kV35 dc35 pm35 cd35 ct35 : Value} {od36 an36 : Option Addr} {sl36 : Array (Option Value)} {oc36 kV36 dc36 pm36 cd36 ct36 : Value}
    (X : K.In h) (G : h.Ns mainGlobals mg)
    (gChange : PySem.W.nsIn K mainGlobals "Change" = some (some (.ref C_Change)))
    (pgChange : PySem.W.plainGet K C_Change Str.empty = true)
    (hdChange : PySem.W.hasDictIn K C_Change = true)
    (poChange : PySem.W.plainOver K C_Change = true)
    (saChange : PySem.W.findIn K (.ref C_Change) "__setattr__" = some (some (.builtin "object.__setattr__")))
    (mkChange : PySem.W.makesIn K C_Change = true)
    (kcChange : PySem.W.keepIn K (.ref C_Change) = true)
    (nChange_device : PySem.W.findIn K (.ref C_Change) "device" = some none)
    (nChange_count : PySem.W.findIn K (.ref C_Change) "count" = some none)
    (nChange_knew : PySem.W.findIn K (.ref C_Change) "knew" = some none)
    (nChange_kind : PySem.W.findIn K (.ref C_Change) "kind" = some none)
    (nChange_date : PySem.W.findIn K (.ref C_Change) "date" = some none)
    (nChange_field : PySem.W.findIn K (.ref C_Change) "field" = some none)
    (nChange_what : PySem.W.findIn K (.ref C_Change) "what" = some none)
    (nChange_fields : PySem.W.findIn K (.ref C_Change) "fields" = some none)
    (a1 : PySem.W.findIn K (.ref C_Change) "__init__" = some (some (.ref f1)))
    (i1 : PySem.W.isFn K (.ref f1) = true)
    (l1 : K.lookup f1 = some ⟨oc1, od1, .func (PySem.W.fnOf "__init__" "Change.__init__" (defArgs s_Change_init) (defBody s_Change_init) (defScope s_Change_init) .none kV1 dc1 pm1 an1 cd1 ct1), sl1⟩)
    (c1 : PySem.W.codeIn K cd1 "Change.__init__" = true)
    (k1 : PySem.W.keepIn K (.ref f1) = true)
    (a2 : PySem.W.findIn K (.ref C_Change) "with_date" = some (some (.ref f2)))
    (i2 : PySem.W.isFn K (.ref f2) = true)
    (l2 : K.lookup f2 = some ⟨oc2, od2, .func (PySem.W.fnOf "with_date" "Change.with_date" (defArgs s_Change_with_date) (defBody s_Change_with_date) (defScope s_Change_with_date) .none kV2 dc2 pm2 an2 cd2 ct2), sl2⟩)
    (c2 : PySem.W.codeIn K cd2 "Change.with_date" = true)
    (k2 : PySem.W.keepIn K (.ref f2) = true)
    (gDevice : PySem.W.nsIn K mainGlobals "Device" = some (some (.ref C_Device)))
    (pgDevice : PySem.W.plainGet K C_Device Str.empty = true)
    (hdDevice : PySem.W.hasDictIn K C_Device = true)
    (poDevice : PySem.W.plainOver K C_Device = true)
    (saDevice : PySem.W.findIn K (.ref C_Device) "__setattr__" = some (some (.builtin "object.__setattr__")))
    (mkDevice : PySem.W.makesIn K C_Device = true)
    (kcDevice : PySem.W.keepIn K (.ref C_Device) = true)
    (nDevice_number : PySem.W.findIn K (.ref C_Device) "number" = some none)
    (nDevice_knows : PySem.W.findIn K (.ref C_Device) "knows" = some none)
    (nDevice_made : PySem.W.findIn K (.ref C_Device) "made" = some none)
    (nDevice_waiting : PySem.W.findIn K (.ref C_Device) "waiting" = some none)
    (nDevice_answered : PySem.W.findIn K (.ref C_Device) "answered" = some none)
    (nDevice_clashes : PySem.W.findIn K (.ref C_Device) "clashes" = some none)
    (a3 : PySem.W.findIn K (.ref C_Device) "__init__" = some (some (.ref f3)))
    (i3 : PySem.W.isFn K (.ref f3) = true)
    (l3 : K.lookup f3 = some ⟨oc3, od3, .func (PySem.W.fnOf "__init__" "Device.__init__" (defArgs s_Device_init) (defBody s_Device_init) (defScope s_Device_init) .none kV3 dc3 pm3 an3 cd3 ct3), sl3⟩)
    (c3 : PySem.W.codeIn K cd3 "Device.__init__" = true)
    (k3 : PySem.W.keepIn K (.ref f3) = true)
    (a4 : PySem.W.findIn K (.ref C_Device) "is_full" = some (some (.ref f4)))
    (i4 : PySem.W.isFn K (.ref f4) = true)
    (l4 : K.lookup f4 = some ⟨oc4, od4, .func (PySem.W.fnOf "is_full" "Device.is_full" (defArgs s_Device_is_full) (defBody s_Device_is_full) (defScope s_Device_is_full) .none kV4 dc4 pm4 an4 cd4 ct4), sl4⟩)
    (c4 : PySem.W.codeIn K cd4 "Device.is_full" = true)
    (k4 : PySem.W.keepIn K (.ref f4) = true)
    (a5 : PySem.W.findIn K (.ref C_Device) "shown" = some (some (.ref f5)))
    (i5 : PySem.W.isFn K (.ref f5) = true)
    (l5 : K.lookup f5 = some ⟨oc5, od5, .func (PySem.W.fnOf "shown" "Device.shown" (defArgs s_Device_shown) (defBody s_Device_shown) (defScope s_Device_shown) .none kV5 dc5 pm5 an5 cd5 ct5), sl5⟩)
    (c5 : PySem.W.codeIn K cd5 "Device.shown" = true)
    (k5 : PySem.W.keepIn K (.ref f5) = true)
    (a6 : PySem.W.findIn K (.ref C_Device) "add_change" = some (some (.ref f6)))
    (i6 : PySem.W.isFn K (.ref f6) = true)
    (l6 : K.lookup f6 = some ⟨oc6, od6, .func (PySem.W.fnOf "add_change" "Device.add_change" (defArgs s_Device_add_change) (defBody s_Device_add_change) (defScope s_Device_add_change) .none kV6 dc6 pm6 an6 cd6 ct6), sl6⟩)
    (c6 : PySem.W.codeIn K cd6 "Device.add_change" = true)
    (k6 : PySem.W.keepIn K (.ref f6) = true)
    (a7 : PySem.W.findIn K (.ref C_Device) "add_date" = some (some (.ref f7)))
    (i7 : PySem.W.isFn K (.ref f7) = true)
    (l7 : K.lookup f7 = some ⟨oc7, od7, .func (PySem.W.fnOf "add_date" "Device.add_date" (defArgs s_Device_add_date) (defBody s_Device_add_date) (defScope s_Device_add_date) .none kV7 dc7 pm7 an7 cd7 ct7), sl7⟩)
    (c7 : PySem.W.codeIn K cd7 "Device.add_date" = true)
    (k7 : PySem.W.keepIn K (.ref f7) = true)
    (a8 : PySem.W.findIn K (.ref C_Device) "hear" = some (some (.ref f8)))
    (i8 : PySem.W.isFn K (.ref f8) = true)
    (l8 : K.lookup f8 = some ⟨oc8, od8, .func (PySem.W.fnOf "hear" "Device.hear" (defArgs s_Device_hear) (defBody s_Device_hear) (defScope s_Device_hear) .none kV8 dc8 pm8 an8 cd8 ct8), sl8⟩)
    (c8 : PySem.W.codeIn K cd8 "Device.hear" = true)
    (k8 : PySem.W.keepIn K (.ref f8) = true)
    (a9 : PySem.W.findIn K (.ref C_Device) "renumber" = some (some (.ref f9)))
    (i9 : PySem.W.isFn K (.ref f9) = true)
    (l9 : K.lookup f9 = some ⟨oc9, od9, .func (PySem.W.fnOf "renumber" "Device.renumber" (defArgs s_Device_renumber) (defBody s_Device_renumber) (defScope s_Device_renumber) .none kV9 dc9 pm9 an9 cd9 ct9), sl9⟩)
    (c9 : PySem.W.codeIn K cd9 "Device.renumber" = true)
    (k9 : PySem.W.keepIn K (.ref f9) = true)
    (a10 : PySem.W.findIn K (.ref C_Device) "learn" = some (some (.ref f10)))
    (i10 : PySem.W.isFn K (.ref f10) = true)
    (l10 : K.lookup f10 = some ⟨oc10, od10, .func (PySem.W.fnOf "learn" "Device.learn" (defArgs s_Device_learn) (defBody s_Device_learn) (defScope s_Device_learn) .none kV10 dc10 pm10 an10 cd10 ct10), sl10⟩)
    (c10 : PySem.W.codeIn K cd10 "Device.learn" = true)
    (k10 : PySem.W.keepIn K (.ref f10) = true)
    (gOutcome : PySem.W.nsIn K mainGlobals "Outcome" = some (some (.ref C_Outcome)))
    (pgOutcome : PySem.W.plainGet K C_Outcome Str.empty = true)
    (hdOutcome : PySem.W.hasDictIn K C_Outcome = true)
    (poOutcome : PySem.W.plainOver K C_Outcome = true)
    (saOutcome : PySem.W.findIn K (.ref C_Outcome) "__setattr__" = some (some (.builtin "object.__setattr__")))
    (mkOutcome : PySem.W.makesIn K C_Outcome = true)
    (kcOutcome : PySem.W.keepIn K (.ref C_Outcome) = true)
    (nOutcome_count : PySem.W.findIn K (.ref C_Outcome) "count" = some none)
    (nOutcome_done : PySem.W.findIn K (.ref C_Outcome) "done" = some none)
    (nOutcome_place : PySem.W.findIn K (.ref C_Outcome) "place" = some none)
    (nOutcome_change : PySem.W.findIn K (.ref C_Outcome) "change" = some none)
    (a11 : PySem.W.findIn K (.ref C_Outcome) "__init__" = some (some (.ref f11)))
    (i11 : PySem.W.isFn K (.ref f11) = true)
    (l11 : K.lookup f11 = some ⟨oc11, od11, .func (PySem.W.fnOf "__init__" "Outcome.__init__" (defArgs s_Outcome_init) (defBody s_Outcome_init) (defScope s_Outcome_init) .none kV11 dc11 pm11 an11 cd11 ct11), sl11⟩)
    (c11 : PySem.W.codeIn K cd11 "Outcome.__init__" = true)
    (k11 : PySem.W.keepIn K (.ref f11) = true)
    (gHouse : PySem.W.nsIn K mainGlobals "House" = some (some (.ref C_House)))
    (pgHouse : PySem.W.plainGet K C_House Str.empty = true)
    (hdHouse : PySem.W.hasDictIn K C_House = true)
    (poHouse : PySem.W.plainOver K C_House = true)
    (saHouse : PySem.W.findIn K (.ref C_House) "__setattr__" = some (some (.builtin "object.__setattr__")))
    (mkHouse : PySem.W.makesIn K C_House = true)
    (kcHouse : PySem.W.keepIn K (.ref C_House) = true)
    (nHouse_changes : PySem.W.findIn K (.ref C_House) "changes" = some none)
    (nHouse_dates_made : PySem.W.findIn K (.ref C_House) "dates_made" = some none)
    (nHouse_floor : PySem.W.findIn K (.ref C_House) "floor" = some none)
    (nHouse_last_outcomes : PySem.W.findIn K (.ref C_House) "last_outcomes" = some none)
    (a12 : PySem.W.findIn K (.ref C_House) "__init__" = some (some (.ref f12)))
    (i12 : PySem.W.isFn K (.ref f12) = true)
    (l12 : K.lookup f12 = some ⟨oc12, od12, .func (PySem.W.fnOf "__init__" "House.__init__" (defArgs s_House_init) (defBody s_House_init) (defScope s_House_init) .none kV12 dc12 pm12 an12 cd12 ct12), sl12⟩)
    (c12 : PySem.W.codeIn K cd12 "House.__init__" = true)
    (k12 : PySem.W.keepIn K (.ref f12) = true)
    (a13 : PySem.W.findIn K (.ref C_House) "dates" = some (some (.ref f13)))
    (i13 : PySem.W.isFn K (.ref f13) = true)
    (l13 : K.lookup f13 = some ⟨oc13, od13, .func (PySem.W.fnOf "dates" "House.dates" (defArgs s_House_dates) (defBody s_House_dates) (defScope s_House_dates) .none kV13 dc13 pm13 an13 cd13 ct13), sl13⟩)
    (c13 : PySem.W.codeIn K cd13 "House.dates" = true)
    (k13 : PySem.W.keepIn K (.ref f13) = true)
    (a14 : PySem.W.findIn K (.ref C_House) "last_count" = some (some (.ref f14)))
    (i14 : PySem.W.isFn K (.ref f14) = true)
    (l14 : K.lookup f14 = some ⟨oc14, od14, .func (PySem.W.fnOf "last_count" "House.last_count" (defArgs s_House_last_count) (defBody s_House_last_count) (defScope s_House_last_count) .none kV14 dc14 pm14 an14 cd14 ct14), sl14⟩)
    (c14 : PySem.W.codeIn K cd14 "House.last_count" = true)
    (k14 : PySem.W.keepIn K (.ref f14) = true)
    (a15 : PySem.W.findIn K (.ref C_House) "can_be_done" = some (some (.ref f15)))
    (i15 : PySem.W.isFn K (.ref f15) = true)
    (l15 : K.lookup f15 = some ⟨oc15, od15, .func (PySem.W.fnOf "can_be_done" "House.can_be_done" (defArgs s_House_can_be_done) (defBody s_House_can_be_done) (defScope s_House_can_be_done) .none kV15 dc15 pm15 an15 cd15 ct15), sl15⟩)
    (c15 : PySem.W.codeIn K cd15 "House.can_be_done" = true)
    (k15 : PySem.W.keepIn K (.ref f15) = true)
    (a16 : PySem.W.findIn K (.ref C_House) "receive" = some (some (.ref f16)))
    (i16 : PySem.W.isFn K (.ref f16) = true)
    (l16 : K.lookup f16 = some ⟨oc16, od16, .func (PySem.W.fnOf "receive" "House.receive" (defArgs s_House_receive) (defBody s_House_receive) (defScope s_House_receive) .none kV16 dc16 pm16 an16 cd16 ct16), sl16⟩)
    (c16 : PySem.W.codeIn K cd16 "House.receive" = true)
    (k16 : PySem.W.keepIn K (.ref f16) = true)
    (a17 : PySem.W.findIn K (.ref C_House) "numbered" = some (some (.ref f17)))
    (i17 : PySem.W.isFn K (.ref f17) = true)
    (l17 : K.lookup f17 = some ⟨oc17, od17, .func (PySem.W.fnOf "numbered" "House.numbered" (defArgs s_House_numbered) (defBody s_House_numbered) (defScope s_House_numbered) .none kV17 dc17 pm17 an17 cd17 ct17), sl17⟩)
    (c17 : PySem.W.codeIn K cd17 "House.numbered" = true)
    (k17 : PySem.W.keepIn K (.ref f17) = true)
    (gCalendar : PySem.W.nsIn K mainGlobals "Calendar" = some (some (.ref C_Calendar)))
    (pgCalendar : PySem.W.plainGet K C_Calendar Str.empty = true)
    (hdCalendar : PySem.W.hasDictIn K C_Calendar = true)
    (poCalendar : PySem.W.plainOver K C_Calendar = true)
    (saCalendar : PySem.W.findIn K (.ref C_Calendar) "__setattr__" = some (some (.builtin "object.__setattr__")))
    (mkCalendar : PySem.W.makesIn K C_Calendar = true)
    (kcCalendar : PySem.W.keepIn K (.ref C_Calendar) = true)
    (nCalendar_house : PySem.W.findIn K (.ref C_Calendar) "house" = some none)
    (nCalendar_devices : PySem.W.findIn K (.ref C_Calendar) "devices" = some none)
    (a18 : PySem.W.findIn K (.ref C_Calendar) "__init__" = some (some (.ref f18)))
    (i18 : PySem.W.isFn K (.ref f18) = true)
    (l18 : K.lookup f18 = some ⟨oc18, od18, .func (PySem.W.fnOf "__init__" "Calendar.__init__" (defArgs s_Calendar_init) (defBody s_Calendar_init) (defScope s_Calendar_init) .none kV18 dc18 pm18 an18 cd18 ct18), sl18⟩)
    (c18 : PySem.W.codeIn K cd18 "Calendar.__init__" = true)
    (k18 : PySem.W.keepIn K (.ref f18) = true)
    (a19 : PySem.W.findIn K (.ref C_Calendar) "answer" = some (some (.ref f19)))
    (i19 : PySem.W.isFn K (.ref f19) = true)
    (l19 : K.lookup f19 = some ⟨oc19, od19, .func (PySem.W.fnOf "answer" "Calendar.answer" (defArgs s_Calendar_answer) (defBody s_Calendar_answer) (defScope s_Calendar_answer) .none kV19 dc19 pm19 an19 cd19 ct19), sl19⟩)
    (c19 : PySem.W.codeIn K cd19 "Calendar.answer" = true)
    (k19 : PySem.W.keepIn K (.ref f19) = true)
    (a20 : PySem.W.nsIn K mainGlobals "carry_out" = some (some (.ref f20)))
    (l20 : K.lookup f20 = some ⟨oc20, od20, .func (PySem.W.fnOf "carry_out" "carry_out" (defArgs s_carry_out) (defBody s_carry_out) (defScope s_carry_out) .none kV20 dc20 pm20 an20 cd20 ct20), sl20⟩)
    (c20 : PySem.W.codeIn K cd20 "carry_out" = true)
    (k20 : PySem.W.keepIn K (.ref f20) = true)
    (a21 : PySem.W.nsIn K mainGlobals "dates_behind" = some (some (.ref f21)))
    (l21 : K.lookup f21 = some ⟨oc21, od21, .func (PySem.W.fnOf "dates_behind" "dates_behind" (defArgs s_dates_behind) (defBody s_dates_behind) (defScope s_dates_behind) .none kV21 dc21 pm21 an21 cd21 ct21), sl21⟩)
    (c21 : PySem.W.codeIn K cd21 "dates_behind" = true)
    (k21 : PySem.W.keepIn K (.ref f21) = true)
    (a22 : PySem.W.nsIn K mainGlobals "stands_against" = some (some (.ref f22)))
    (l22 : K.lookup f22 = some ⟨oc22, od22, .func (PySem.W.fnOf "stands_against" "stands_against" (defArgs s_stands_against) (defBody s_stands_against) (defScope s_stands_against) .none kV22 dc22 pm22 an22 cd22 ct22), sl22⟩)
    (c22 : PySem.W.codeIn K cd22 "stands_against" = true)
    (k22 : PySem.W.keepIn K (.ref f22) = true)
    (a23 : PySem.W.nsIn K mainGlobals "answer_on_device" = some (some (.ref f23)))
    (l23 : K.lookup f23 = some ⟨oc23, od23, .func (PySem.W.fnOf "answer_on_device" "answer_on_device" (defArgs s_answer_on_device) (defBody s_answer_on_device) (defScope s_answer_on_device) .none kV23 dc23 pm23 an23 cd23 ct23), sl23⟩)
    (c23 : PySem.W.codeIn K cd23 "answer_on_device" = true)
    (k23 : PySem.W.keepIn K (.ref f23) = true)
    (a24 : PySem.W.nsIn K mainGlobals "make_date" = some (some (.ref f24)))
    (l24 : K.lookup f24 = some ⟨oc24, od24, .func (PySem.W.fnOf "make_date" "make_date" (defArgs s_make_date) (defBody s_make_date) (defScope s_make_date) .none kV24 dc24 pm24 an24 cd24 ct24), sl24⟩)
    (c24 : PySem.W.codeIn K cd24 "make_date" = true)
    (k24 : PySem.W.keepIn K (.ref f24) = true)
    (a25 : PySem.W.nsIn K mainGlobals "set_field" = some (some (.ref f25)))
    (l25 : K.lookup f25 = some ⟨oc25, od25, .func (PySem.W.fnOf "set_field" "set_field" (defArgs s_set_field) (defBody s_set_field) (defScope s_set_field) .none kV25 dc25 pm25 an25 cd25 ct25), sl25⟩)
    (c25 : PySem.W.codeIn K cd25 "set_field" = true)
    (k25 : PySem.W.keepIn K (.ref f25) = true)
    (a26 : PySem.W.nsIn K mainGlobals "take_out" = some (some (.ref f26)))
    (l26 : K.lookup f26 = some ⟨oc26, od26, .func (PySem.W.fnOf "take_out" "take_out" (defArgs s_take_out) (defBody s_take_out) (defScope s_take_out) .none kV26 dc26 pm26 an26 cd26 ct26), sl26⟩)
    (c26 : PySem.W.codeIn K cd26 "take_out" = true)
    (k26 : PySem.W.keepIn K (.ref f26) = true)
    (a27 : PySem.W.nsIn K mainGlobals "change_shown" = some (some (.ref f27)))
    (l27 : K.lookup f27 = some ⟨oc27, od27, .func (PySem.W.fnOf "change_shown" "change_shown" (defArgs s_change_shown) (defBody s_change_shown) (defScope s_change_shown) .none kV27 dc27 pm27 an27 cd27 ct27), sl27⟩)
    (c27 : PySem.W.codeIn K cd27 "change_shown" = true)
    (k27 : PySem.W.keepIn K (.ref f27) = true)
    (a28 : PySem.W.nsIn K mainGlobals "push" = some (some (.ref f28)))
    (l28 : K.lookup f28 = some ⟨oc28, od28, .func (PySem.W.fnOf "push" "push" (defArgs s_push) (defBody s_push) (defScope s_push) .none kV28 dc28 pm28 an28 cd28 ct28), sl28⟩)
    (c28 : PySem.W.codeIn K cd28 "push" = true)
    (k28 : PySem.W.keepIn K (.ref f28) = true)
    (a29 : PySem.W.nsIn K mainGlobals "pull" = some (some (.ref f29)))
    (l29 : K.lookup f29 = some ⟨oc29, od29, .func (PySem.W.fnOf "pull" "pull" (defArgs s_pull) (defBody s_pull) (defScope s_pull) .none kV29 dc29 pm29 an29 cd29 ct29), sl29⟩)
    (c29 : PySem.W.codeIn K cd29 "pull" = true)
    (k29 : PySem.W.keepIn K (.ref f29) = true)
    (a30 : PySem.W.nsIn K mainGlobals "forget" = some (some (.ref f30)))
    (l30 : K.lookup f30 = some ⟨oc30, od30, .func (PySem.W.fnOf "forget" "forget" (defArgs s_forget) (defBody s_forget) (defScope s_forget) .none kV30 dc30 pm30 an30 cd30 ct30), sl30⟩)
    (c30 : PySem.W.codeIn K cd30 "forget" = true)
    (k30 : PySem.W.keepIn K (.ref f30) = true)
    (a31 : PySem.W.nsIn K mainGlobals "told_dates" = some (some (.ref f31)))
    (l31 : K.lookup f31 = some ⟨oc31, od31, .func (PySem.W.fnOf "told_dates" "told_dates" (defArgs s_told_dates) (defBody s_told_dates) (defScope s_told_dates) .none kV31 dc31 pm31 an31 cd31 ct31), sl31⟩)
    (c31 : PySem.W.codeIn K cd31 "told_dates" = true)
    (k31 : PySem.W.keepIn K (.ref f31) = true)
    (a32 : PySem.W.nsIn K mainGlobals "told_clashes" = some (some (.ref f32)))
    (l32 : K.lookup f32 = some ⟨oc32, od32, .func (PySem.W.fnOf "told_clashes" "told_clashes" (defArgs s_told_clashes) (defBody s_told_clashes) (defScope s_told_clashes) .none kV32 dc32 pm32 an32 cd32 ct32), sl32⟩)
    (c32 : PySem.W.codeIn K cd32 "told_clashes" = true)
    (k32 : PySem.W.keepIn K (.ref f32) = true)
    (a33 : PySem.W.nsIn K mainGlobals "told_state" = some (some (.ref f33)))
    (l33 : K.lookup f33 = some ⟨oc33, od33, .func (PySem.W.fnOf "told_state" "told_state" (defArgs s_told_state) (defBody s_told_state) (defScope s_told_state) .none kV33 dc33 pm33 an33 cd33 ct33), sl33⟩)
    (c33 : PySem.W.codeIn K cd33 "told_state" = true)
    (k33 : PySem.W.keepIn K (.ref f33) = true)
    (a34 : PySem.W.nsIn K mainGlobals "settle" = some (some (.ref f34)))
    (l34 : K.lookup f34 = some ⟨oc34, od34, .func (PySem.W.fnOf "settle" "settle" (defArgs s_settle) (defBody s_settle) (defScope s_settle) .none kV34 dc34 pm34 an34 cd34 ct34), sl34⟩)
    (c34 : PySem.W.codeIn K cd34 "settle" = true)
    (k34 : PySem.W.keepIn K (.ref f34) = true)
    (a35 : PySem.W.nsIn K mainGlobals "settle_once_more" = some (some (.ref f35)))
    (l35 : K.lookup f35 = some ⟨oc35, od35, .func (PySem.W.fnOf "settle_once_more" "settle_once_more" (defArgs s_settle_once_more) (defBody s_settle_once_more) (defScope s_settle_once_more) .none kV35 dc35 pm35 an35 cd35 ct35), sl35⟩)
    (c35 : PySem.W.codeIn K cd35 "settle_once_more" = true)
    (k35 : PySem.W.keepIn K (.ref f35) = true)
    (a36 : PySem.W.nsIn K mainGlobals "answers" = some (some (.ref f36)))
    (l36 : K.lookup f36 = some ⟨oc36, od36, .func (PySem.W.fnOf "answers" "answers" (defArgs s_answers) (defBody s_answers) (defScope s_answers) .none kV36 dc36 pm36 an36 cd36 ct36), sl36⟩)
    (c36 : PySem.W.codeIn K cd36 "answers" = true)
    (k36 : PySem.W.keepIn K (.ref f36) = true)
    (vSET_FIELD : PySem.W.nsIn K mainGlobals "SET_FIELD" = some (some (.int 0 tSET_FIELD)))
    (vTAKE_OUT : PySem.W.nsIn K mainGlobals "TAKE_OUT" = some (some (.int 1 tTAKE_OUT)))
    (vMAKE_DATE : PySem.W.nsIn K mainGlobals "MAKE_DATE" = some (some (.int 2 tMAKE_DATE)))
    (vMOST_MADE : PySem.W.nsIn K mainGlobals "MOST_MADE" = some (some (.int 99 tMOST_MADE)))
    (vMOST_WAITING : PySem.W.nsIn K mainGlobals "MOST_WAITING" = some (some (.int 20 tMOST_WAITING)))
    (vDEVICES : PySem.W.nsIn K mainGlobals "DEVICES" = some (some (.int 3 tDEVICES)))
    (vFIELDS : PySem.W.nsIn K mainGlobals "FIELDS" = some (some (.int 3 tFIELDS)))
    (vLARGEST : PySem.W.nsIn K mainGlobals "LARGEST" = some (some (.int 999 tLARGEST)))
    (vMAKE : PySem.W.nsIn K mainGlobals "MAKE" = some (some (.int 0 tMAKE)))
    (vSET : PySem.W.nsIn K mainGlobals "SET" = some (some (.int 1 tSET)))
    (vREMOVE : PySem.W.nsIn K mainGlobals "REMOVE" = some (some (.int 2 tREMOVE)))
    (vPUSH : PySem.W.nsIn K mainGlobals "PUSH" = some (some (.int 3 tPUSH)))
    (vPULL : PySem.W.nsIn K mainGlobals "PULL" = some (some (.int 4 tPULL)))
    (vFORGET : PySem.W.nsIn K mainGlobals "FORGET" = some (some (.int 5 tFORGET)))
    (vSHOWN : PySem.W.nsIn K mainGlobals "SHOWN" = some (some (.int 6 tSHOWN)))
    (vHOUSE : PySem.W.nsIn K mainGlobals "HOUSE" = some (some (.int 7 tHOUSE)))
    (vCLASHES : PySem.W.nsIn K mainGlobals "CLASHES" = some (some (.int 8 tCLASHES)))
    (vSETTLE : PySem.W.nsIn K mainGlobals "SETTLE" = some (some (.int 9 tSETTLE)))
    (vOUT_OF_BOUNDS : PySem.W.nsIn K mainGlobals "OUT_OF_BOUNDS" = some (some (.int (-1) tOUT_OF_BOUNDS)))
    (vDATE_GONE : PySem.W.nsIn K mainGlobals "DATE_GONE" = some (some (.int (-2) tDATE_GONE)))
    (vNO_DEVICE : PySem.W.nsIn K mainGlobals "NO_DEVICE" = some (some (.int (-3) tNO_DEVICE)))
    (vNOT_SHOWN : PySem.W.nsIn K mainGlobals "NOT_SHOWN" = some (some (.int (-4) tNOT_SHOWN)))
    (vNO_CLASH : PySem.W.nsIn K mainGlobals "NO_CLASH" = some (some (.int (-4) tNO_CLASH)))
    (vFULL : PySem.W.nsIn K mainGlobals "FULL" = some (some (.int (-5) tFULL)))
    (vNOTHING_WAITS : PySem.W.nsIn K mainGlobals "NOTHING_WAITS" = some (some (.int (-6) tNOTHING_WAITS)))
    (vNOTHING_ANSWERED : PySem.W.nsIn K mainGlobals "NOTHING_ANSWERED" = some (some (.int 0 tNOTHING_ANSWERED)))
    (vDONE : PySem.W.nsIn K mainGlobals "DONE" = some (some (.int 1 tDONE)))
    (vNOT_DONE : PySem.W.nsIn K mainGlobals "NOT_DONE" = some (some (.int 2 tNOT_DONE)))
    (vMORE_KNOWN : PySem.W.nsIn K mainGlobals "MORE_KNOWN" = some (some (.int 1 tMORE_KNOWN)))
    (vTOLD_ANEW : PySem.W.nsIn K mainGlobals "TOLD_ANEW" = some (some (.int 2 tTOLD_ANEW)))
    (vPUSH_LOST : PySem.W.nsIn K mainGlobals "PUSH_LOST" = some (some (.int 1 tPUSH_LOST)))
    (vPUSH_ANSWER_LOST : PySem.W.nsIn K mainGlobals "PUSH_ANSWER_LOST" = some (some (.int 2 tPUSH_ANSWER_LOST)))
    (vPULL_LOST : PySem.W.nsIn K mainGlobals "PULL_LOST" = some (some (.int 1 tPULL_LOST)))
    (vLET_GO : PySem.W.nsIn K mainGlobals "LET_GO" = some (some (.int 0 tLET_GO)))
    (vONCE_MORE : PySem.W.nsIn K mainGlobals "ONCE_MORE" = some (some (.int 1 tONCE_MORE)))
    (zany : PySem.W.nsIn K mainGlobals "any" = some none)
    (zlen : PySem.W.nsIn K mainGlobals "len" = some none)
    (zlist : PySem.W.nsIn K mainGlobals "list" = some none)
    (zmax : PySem.W.nsIn K mainGlobals "max" = some none)
    (zrange : PySem.W.nsIn K mainGlobals "range" = some none)
    (gCALL_SIZES : PySem.W.nsIn K mainGlobals "CALL_SIZES" = some (some (.ref aCALL_SIZES)))
    (lCALL_SIZES : K.lookup aCALL_SIZES = some ⟨.type "dict", none, .dict #[⟨0, .int 0 uCALL_SIZES0, .int 4 wCALL_SIZES0⟩, ⟨1, .int 1 uCALL_SIZES1, .int 4 wCALL_SIZES1⟩, ⟨2, .int 2 uCALL_SIZES2, .int 2 wCALL_SIZES2⟩, ⟨3, .int 3 uCALL_SIZES3, .int 2 wCALL_SIZES3⟩, ⟨4, .int 4 uCALL_SIZES4, .int 2 wCALL_SIZES4⟩, ⟨5, .int 5 uCALL_SIZES5, .int 1 wCALL_SIZES5⟩, ⟨6, .int 6 uCALL_SIZES6, .int 1 wCALL_SIZES6⟩, ⟨7, .int 7 uCALL_SIZES7, .int 0 wCALL_SIZES7⟩, ⟨8, .int 8 uCALL_SIZES8, .int 1 wCALL_SIZES8⟩, ⟨9, .int 9 uCALL_SIZES9, .int 3 wCALL_SIZES9⟩, ⟨10, .int 10 uCALL_SIZES10, .int 1 wCALL_SIZES10⟩] nCALL_SIZES, #[]⟩) :
    ∃ A : Ad, mg "answers" = some (.ref A.f_answers) ∧ (∀ (s : Shared) (us : List Value), us.length = (["calls"] : List Str).length → BindsTo s A.d_answers ⟨us, []⟩ ((["calls"] : List Str).zip us)) ∧ All K mg A := by
  have F1 := fun_mk (st := s_Change_init) l1 c1 k1
  have b1 := F1.binds (ps := ["self", "device", "count", "knew", "kind", "date", "field", "what", "fields"]) fun _ _ _ _ _ _ us hl => match us, hl with | [_, _, _, _, _, _, _, _, _], _ => rfl
  have F2 := fun_mk (st := s_Change_with_date) l2 c2 k2
  have b2 := F2.binds (ps := ["self", "date"]) fun _ _ _ _ _ _ us hl => match us, hl with | [_, _], _ => rfl
  have F3 := fun_mk (st := s_Device_init) l3 c3 k3
  have b3 := F3.binds (ps := ["self", "number"]) fun _ _ _ _ _ _ us hl => match us, hl with | [_, _], _ => rfl
  have F4 := fun_mk (st := s_Device_is_full) l4 c4 k4
  have b4 := F4.binds (ps := ["self"]) fun _ _ _ _ _ _ us hl => match us, hl with | [_], _ => rfl
  have F5 := fun_mk (st := s_Device_shown) l5 c5 k5
  have b5 := F5.binds (ps := ["self", "house"]) fun _ _ _ _ _ _ us hl => match us, hl with | [_, _], _ => rfl
  have F6 := fun_mk (st := s_Device_add_change) l6 c6 k6
  have b6 := F6.binds (ps := ["self", "kind", "date", "field", "what", "fields"]) fun _ _ _ _ _ _ us hl => match us, hl with | [_, _, _, _, _, _], _ => rfl
  have F7 := fun_mk (st := s_Device_add_date) l7 c7 k7
  have b7 := F7.binds (ps := ["self", "fields"]) fun _ _ _ _ _ _ us hl => match us, hl with | [_, _], _ => rfl
  have F8 := fun_mk (st := s_Device_hear) l8 c8 k8
  have b8 := F8.binds (ps := ["self", "outcome"]) fun _ _ _ _ _ _ us hl => match us, hl with | [_, _], _ => rfl
  have F9 := fun_mk (st := s_Device_renumber) l9 c9 k9
  have b9 := F9.binds (ps := ["self", "old", "new"]) fun _ _ _ _ _ _ us hl => match us, hl with | [_, _, _], _ => rfl
  have F10 := fun_mk (st := s_Device_learn) l10 c10 k10
  have b10 := F10.binds (ps := ["self", "known"]) fun _ _ _ _ _ _ us hl => match us, hl with | [_, _], _ => rfl
  have F11 := fun_mk (st := s_Outcome_init) l11 c11 k11
  have b11 := F11.binds (ps := ["self", "count", "done", "place", "change"]) fun _ _ _ _ _ _ us hl => match us, hl with | [_, _, _, _, _], _ => rfl
  have F12 := fun_mk (st := s_House_init) l12 c12 k12
  have b12 := F12.binds (ps := ["self"]) fun _ _ _ _ _ _ us hl => match us, hl with | [_], _ => rfl
  have F13 := fun_mk (st := s_House_dates) l13 c13 k13
  have b13 := F13.binds (ps := ["self"]) fun _ _ _ _ _ _ us hl => match us, hl with | [_], _ => rfl
  have F14 := fun_mk (st := s_House_last_count) l14 c14 k14
  have b14 := F14.binds (ps := ["self", "device"]) fun _ _ _ _ _ _ us hl => match us, hl with | [_, _], _ => rfl
  have F15 := fun_mk (st := s_House_can_be_done) l15 c15 k15
  have b15 := F15.binds (ps := ["self", "change"]) fun _ _ _ _ _ _ us hl => match us, hl with | [_, _], _ => rfl
  have F16 := fun_mk (st := s_House_receive) l16 c16 k16
  have b16 := F16.binds (ps := ["self", "change"]) fun _ _ _ _ _ _ us hl => match us, hl with | [_, _], _ => rfl
  have F17 := fun_mk (st := s_House_numbered) l17 c17 k17
  have b17 := F17.binds (ps := ["self", "change"]) fun _ _ _ _ _ _ us hl => match us, hl with | [_, _], _ => rfl
  have F18 := fun_mk (st := s_Calendar_init) l18 c18 k18
  have b18 := F18.binds (ps := ["self"]) fun _ _ _ _ _ _ us hl => match us, hl with | [_], _ => rfl
  have F19 := fun_mk (st := s_Calendar_answer) l19 c19 k19
  have b19 := F19.binds (ps := ["self", "call", "given"]) fun _ _ _ _ _ _ us hl => match us, hl with | [_, _, _], _ => rfl
  have F20 := fun_mk (st := s_carry_out) l20 c20 k20
  have b20 := F20.binds (ps := ["dates", "change"]) fun _ _ _ _ _ _ us hl => match us, hl with | [_, _], _ => rfl
  have F21 := fun_mk (st := s_dates_behind) l21 c21 k21
  have b21 := F21.binds (ps := ["changes"]) fun _ _ _ _ _ _ us hl => match us, hl with | [_], _ => rfl
  have F22 := fun_mk (st := s_stands_against) l22 c22 k22
  have b22 := F22.binds (ps := ["other", "change"]) fun _ _ _ _ _ _ us hl => match us, hl with | [_, _], _ => rfl
  have F23 := fun_mk (st := s_answer_on_device) l23 c23 k23
  have b23 := F23.binds (ps := ["house", "device", "call", "given"]) fun _ _ _ _ _ _ us hl => match us, hl with | [_, _, _, _], _ => rfl
  have F24 := fun_mk (st := s_make_date) l24 c24 k24
  have b24 := F24.binds (ps := ["device", "fields"]) fun _ _ _ _ _ _ us hl => match us, hl with | [_, _], _ => rfl
  have F25 := fun_mk (st := s_set_field) l25 c25 k25
  have b25 := F25.binds (ps := ["house", "device", "date", "field", "what"]) fun _ _ _ _ _ _ us hl => match us, hl with | [_, _, _, _, _], _ => rfl
  have F26 := fun_mk (st := s_take_out) l26 c26 k26
  have b26 := F26.binds (ps := ["house", "device", "date"]) fun _ _ _ _ _ _ us hl => match us, hl with | [_, _, _], _ => rfl
  have F27 := fun_mk (st := s_change_shown) l27 c27 k27
  have b27 := F27.binds (ps := ["house", "device", "kind", "date", "field", "what"]) fun _ _ _ _ _ _ us hl => match us, hl with | [_, _, _, _, _, _], _ => rfl
  have F28 := fun_mk (st := s_push) l28 c28 k28
  have b28 := F28.binds (ps := ["house", "device", "how"]) fun _ _ _ _ _ _ us hl => match us, hl with | [_, _, _], _ => rfl
  have F29 := fun_mk (st := s_pull) l29 c29 k29
  have b29 := F29.binds (ps := ["house", "device", "how"]) fun _ _ _ _ _ _ us hl => match us, hl with | [_, _, _], _ => rfl
  have F30 := fun_mk (st := s_forget) l30 c30 k30
  have b30 := F30.binds (ps := ["house", "floor"]) fun _ _ _ _ _ _ us hl => match us, hl with | [_, _], _ => rfl
  have F31 := fun_mk (st := s_told_dates) l31 c31 k31
  have b31 := F31.binds (ps := ["dates"]) fun _ _ _ _ _ _ us hl => match us, hl with | [_], _ => rfl
  have F32 := fun_mk (st := s_told_clashes) l32 c32 k32
  have b32 := F32.binds (ps := ["clashes"]) fun _ _ _ _ _ _ us hl => match us, hl with | [_], _ => rfl
  have F33 := fun_mk (st := s_told_state) l33 c33 k33
  have b33 := F33.binds (ps := ["house", "device"]) fun _ _ _ _ _ _ us hl => match us, hl with | [_, _], _ => rfl
  have F34 := fun_mk (st := s_settle) l34 c34 k34
  have b34 := F34.binds (ps := ["house", "device", "which", "again"]) fun _ _ _ _ _ _ us hl => match us, hl with | [_, _, _, _], _ => rfl
  have F35 := fun_mk (st := s_settle_once_more) l35 c35 k35
  have b35 := F35.binds (ps := ["house", "device", "which"]) fun _ _ _ _ _ _ us hl => match us, hl with | [_, _, _], _ => rfl
  have F36 := fun_mk (st := s_answers) l36 c36 k36
  have b36 := F36.binds (ps := ["calls"]) fun _ _ _ _ _ _ us hl => match us, hl with | [_], _ => rfl
  exact ⟨⟨C_Change, f1, PySem.W.fnOf "__init__" "Change.__init__" (defArgs s_Change_init) (defBody s_Change_init) (defScope s_Change_init) .none kV1 dc1 pm1 an1 cd1 ct1, f2, PySem.W.fnOf "with_date" "Change.with_date" (defArgs s_Change_with_date) (defBody s_Change_with_date) (defScope s_Change_with_date) .none kV2 dc2 pm2 an2 cd2 ct2, C_Device, f3, PySem.W.fnOf "__init__" "Device.__init__" (defArgs s_Device_init) (defBody s_Device_init) (defScope s_Device_init) .none kV3 dc3 pm3 an3 cd3 ct3, f4, PySem.W.fnOf "is_full" "Device.is_full" (defArgs s_Device_is_full) (defBody s_Device_is_full) (defScope s_Device_is_full) .none kV4 dc4 pm4 an4 cd4 ct4, f5, PySem.W.fnOf "shown" "Device.shown" (defArgs s_Device_shown) (defBody s_Device_shown) (defScope s_Device_shown) .none kV5 dc5 pm5 an5 cd5 ct5, f6, PySem.W.fnOf "add_change" "Device.add_change" (defArgs s_Device_add_change) (defBody s_Device_add_change) (defScope s_Device_add_change) .none kV6 dc6 pm6 an6 cd6 ct6, f7, PySem.W.fnOf "add_date" "Device.add_date" (defArgs s_Device_add_date) (defBody s_Device_add_date) (defScope s_Device_add_date) .none kV7 dc7 pm7 an7 cd7 ct7, f8, PySem.W.fnOf "hear" "Device.hear" (defArgs s_Device_hear) (defBody s_Device_hear) (defScope s_Device_hear) .none kV8 dc8 pm8 an8 cd8 ct8, f9, PySem.W.fnOf "renumber" "Device.renumber" (defArgs s_Device_renumber) (defBody s_Device_renumber) (defScope s_Device_renumber) .none kV9 dc9 pm9 an9 cd9 ct9, f10, PySem.W.fnOf "learn" "Device.learn" (defArgs s_Device_learn) (defBody s_Device_learn) (defScope s_Device_learn) .none kV10 dc10 pm10 an10 cd10 ct10, C_Outcome, f11, PySem.W.fnOf "__init__" "Outcome.__init__" (defArgs s_Outcome_init) (defBody s_Outcome_init) (defScope s_Outcome_init) .none kV11 dc11 pm11 an11 cd11 ct11, C_House, f12, PySem.W.fnOf "__init__" "House.__init__" (defArgs s_House_init) (defBody s_House_init) (defScope s_House_init) .none kV12 dc12 pm12 an12 cd12 ct12, f13, PySem.W.fnOf "dates" "House.dates" (defArgs s_House_dates) (defBody s_House_dates) (defScope s_House_dates) .none kV13 dc13 pm13 an13 cd13 ct13, f14, PySem.W.fnOf "last_count" "House.last_count" (defArgs s_House_last_count) (defBody s_House_last_count) (defScope s_House_last_count) .none kV14 dc14 pm14 an14 cd14 ct14, f15, PySem.W.fnOf "can_be_done" "House.can_be_done" (defArgs s_House_can_be_done) (defBody s_House_can_be_done) (defScope s_House_can_be_done) .none kV15 dc15 pm15 an15 cd15 ct15, f16, PySem.W.fnOf "receive" "House.receive" (defArgs s_House_receive) (defBody s_House_receive) (defScope s_House_receive) .none kV16 dc16 pm16 an16 cd16 ct16, f17, PySem.W.fnOf "numbered" "House.numbered" (defArgs s_House_numbered) (defBody s_House_numbered) (defScope s_House_numbered) .none kV17 dc17 pm17 an17 cd17 ct17, C_Calendar, f18, PySem.W.fnOf "__init__" "Calendar.__init__" (defArgs s_Calendar_init) (defBody s_Calendar_init) (defScope s_Calendar_init) .none kV18 dc18 pm18 an18 cd18 ct18, f19, PySem.W.fnOf "answer" "Calendar.answer" (defArgs s_Calendar_answer) (defBody s_Calendar_answer) (defScope s_Calendar_answer) .none kV19 dc19 pm19 an19 cd19 ct19, f20, PySem.W.fnOf "carry_out" "carry_out" (defArgs s_carry_out) (defBody s_carry_out) (defScope s_carry_out) .none kV20 dc20 pm20 an20 cd20 ct20, f21, PySem.W.fnOf "dates_behind" "dates_behind" (defArgs s_dates_behind) (defBody s_dates_behind) (defScope s_dates_behind) .none kV21 dc21 pm21 an21 cd21 ct21, f22, PySem.W.fnOf "stands_against" "stands_against" (defArgs s_stands_against) (defBody s_stands_against) (defScope s_stands_against) .none kV22 dc22 pm22 an22 cd22 ct22, f23, PySem.W.fnOf "answer_on_device" "answer_on_device" (defArgs s_answer_on_device) (defBody s_answer_on_device) (defScope s_answer_on_device) .none kV23 dc23 pm23 an23 cd23 ct23, f24, PySem.W.fnOf "make_date" "make_date" (defArgs s_make_date) (defBody s_make_date) (defScope s_make_date) .none kV24 dc24 pm24 an24 cd24 ct24, f25, PySem.W.fnOf "set_field" "set_field" (defArgs s_set_field) (defBody s_set_field) (defScope s_set_field) .none kV25 dc25 pm25 an25 cd25 ct25, f26, PySem.W.fnOf "take_out" "take_out" (defArgs s_take_out) (defBody s_take_out) (defScope s_take_out) .none kV26 dc26 pm26 an26 cd26 ct26, f27, PySem.W.fnOf "change_shown" "change_shown" (defArgs s_change_shown) (defBody s_change_shown) (defScope s_change_shown) .none kV27 dc27 pm27 an27 cd27 ct27, f28, PySem.W.fnOf "push" "push" (defArgs s_push) (defBody s_push) (defScope s_push) .none kV28 dc28 pm28 an28 cd28 ct28, f29, PySem.W.fnOf "pull" "pull" (defArgs s_pull) (defBody s_pull) (defScope s_pull) .none kV29 dc29 pm29 an29 cd29 ct29, f30, PySem.W.fnOf "forget" "forget" (defArgs s_forget) (defBody s_forget) (defScope s_forget) .none kV30 dc30 pm30 an30 cd30 ct30, f31, PySem.W.fnOf "told_dates" "told_dates" (defArgs s_told_dates) (defBody s_told_dates) (defScope s_told_dates) .none kV31 dc31 pm31 an31 cd31 ct31, f32, PySem.W.fnOf "told_clashes" "told_clashes" (defArgs s_told_clashes) (defBody s_told_clashes) (defScope s_told_clashes) .none kV32 dc32 pm32 an32 cd32 ct32, f33, PySem.W.fnOf "told_state" "told_state" (defArgs s_told_state) (defBody s_told_state) (defScope s_told_state) .none kV33 dc33 pm33 an33 cd33 ct33, f34, PySem.W.fnOf "settle" "settle" (defArgs s_settle) (defBody s_settle) (defScope s_settle) .none kV34 dc34 pm34 an34 cd34 ct34, f35, PySem.W.fnOf "settle_once_more" "settle_once_more" (defArgs s_settle_once_more) (defBody s_settle_once_more) (defScope s_settle_once_more) .none kV35 dc35 pm35 an35 cd35 ct35, f36, PySem.W.fnOf "answers" "answers" (defArgs s_answers) (defBody s_answers) (defScope s_answers) .none kV36 dc36 pm36 an36 cd36 ct36⟩, PySem.W.mg_of X G a36, fun s us hu => match us, hu with | [_], _ => .of_eq rfl, ⟨⟨pgChange, hdChange, poChange, saChange⟩, PySem.W.mg_of X G gChange, nChange_device, nChange_count, nChange_knew, nChange_kind, nChange_date, nChange_field, nChange_what, nChange_fields, F1, b1, F2, b2, ⟨a2, i2, k2⟩, ⟨mkChange, a1, i1, kcChange⟩, ⟨pgDevice, hdDevice, poDevice, saDevice⟩, PySem.W.mg_of X G gDevice, nDevice_number, nDevice_knows, nDevice_made, nDevice_waiting, nDevice_answered, nDevice_clashes, F3, b3, F4, b4, ⟨a4, i4, k4⟩, F5, b5, ⟨a5, i5, k5⟩, F6, b6, ⟨a6, i6, k6⟩, F7, b7, ⟨a7, i7, k7⟩, F8, b8, ⟨a8, i8, k8⟩, F9, b9, ⟨a9, i9, k9⟩, F10, b10, ⟨a10, i10, k10⟩, ⟨mkDevice, a3, i3, kcDevice⟩, ⟨pgOutcome, hdOutcome, poOutcome, saOutcome⟩, PySem.W.mg_of X G gOutcome, nOutcome_count, nOutcome_done, nOutcome_place, nOutcome_change, F11, b11, ⟨mkOutcome, a11, i11, kcOutcome⟩, ⟨pgHouse, hdHouse, poHouse, saHouse⟩, PySem.W.mg_of X G gHouse, nHouse_changes, nHouse_dates_made, nHouse_floor, nHouse_last_outcomes, F12, b12, F13, b13, ⟨a13, i13, k13⟩, F14, b14, ⟨a14, i14, k14⟩, F15, b15, ⟨a15, i15, k15⟩, F16, b16, ⟨a16, i16, k16⟩, F17, b17, ⟨a17, i17, k17⟩, ⟨mkHouse, a12, i12, kcHouse⟩, ⟨pgCalendar, hdCalendar, poCalendar, saCalendar⟩, PySem.W.mg_of X G gCalendar, nCalendar_house, nCalendar_devices, F18, b18, F19, b19, ⟨a19, i19, k19⟩, ⟨mkCalendar, a18, i18, kcCalendar⟩, F20, b20, PySem.W.mg_of X G a20, F21, b21, PySem.W.mg_of X G a21, F22, b22, PySem.W.mg_of X G a22, F23, b23, PySem.W.mg_of X G a23, F24, b24, PySem.W.mg_of X G a24, F25, b25, PySem.W.mg_of X G a25, F26, b26, PySem.W.mg_of X G a26, F27, b27, PySem.W.mg_of X G a27, F28, b28, PySem.W.mg_of X G a28, F29, b29, PySem.W.mg_of X G a29, F30, b30, PySem.W.mg_of X G a30, F31, b31, PySem.W.mg_of X G a31, F32, b32, PySem.W.mg_of X G a32, F33, b33, PySem.W.mg_of X G a33, F34, b34, PySem.W.mg_of X G a34, F35, b35, PySem.W.mg_of X G a35, F36, b36, PySem.W.mg_of X G a36, ⟨_, PySem.W.mg_of X G vSET_FIELD⟩, ⟨_, PySem.W.mg_of X G vTAKE_OUT⟩, ⟨_, PySem.W.mg_of X G vMAKE_DATE⟩, ⟨_, PySem.W.mg_of X G vMOST_MADE⟩, ⟨_, PySem.W.mg_of X G vMOST_WAITING⟩, ⟨_, PySem.W.mg_of X G vDEVICES⟩, ⟨_, PySem.W.mg_of X G vFIELDS⟩, ⟨_, PySem.W.mg_of X G vLARGEST⟩, ⟨_, PySem.W.mg_of X G vMAKE⟩, ⟨_, PySem.W.mg_of X G vSET⟩, ⟨_, PySem.W.mg_of X G vREMOVE⟩, ⟨_, PySem.W.mg_of X G vPUSH⟩, ⟨_, PySem.W.mg_of X G vPULL⟩, ⟨_, PySem.W.mg_of X G vFORGET⟩, ⟨_, PySem.W.mg_of X G vSHOWN⟩, ⟨_, PySem.W.mg_of X G vHOUSE⟩, ⟨_, PySem.W.mg_of X G vCLASHES⟩, ⟨_, PySem.W.mg_of X G vSETTLE⟩, ⟨_, PySem.W.mg_of X G vOUT_OF_BOUNDS⟩, ⟨_, PySem.W.mg_of X G vDATE_GONE⟩, ⟨_, PySem.W.mg_of X G vNO_DEVICE⟩, ⟨_, PySem.W.mg_of X G vNOT_SHOWN⟩, ⟨_, PySem.W.mg_of X G vNO_CLASH⟩, ⟨_, PySem.W.mg_of X G vFULL⟩, ⟨_, PySem.W.mg_of X G vNOTHING_WAITS⟩, ⟨_, PySem.W.mg_of X G vNOTHING_ANSWERED⟩, ⟨_, PySem.W.mg_of X G vDONE⟩, ⟨_, PySem.W.mg_of X G vNOT_DONE⟩, ⟨_, PySem.W.mg_of X G vMORE_KNOWN⟩, ⟨_, PySem.W.mg_of X G vTOLD_ANEW⟩, ⟨_, PySem.W.mg_of X G vPUSH_LOST⟩, ⟨_, PySem.W.mg_of X G vPUSH_ANSWER_LOST⟩, ⟨_, PySem.W.mg_of X G vPULL_LOST⟩, ⟨_, PySem.W.mg_of X G vLET_GO⟩, ⟨_, PySem.W.mg_of X G vONCE_MORE⟩, PySem.W.mg_none_of X G zany, PySem.W.mg_none_of X G zlen, PySem.W.mg_none_of X G zlist, PySem.W.mg_none_of X G zmax, PySem.W.mg_none_of X G zrange, ⟨_, PySem.W.mg_of X G gCALL_SIZES, intTab_mk lCALL_SIZES ⟨⟨_, _, rfl, rfl, rfl⟩, ⟨_, _, rfl, rfl, rfl⟩, ⟨_, _, rfl, rfl, rfl⟩, ⟨_, _, rfl, rfl, rfl⟩, ⟨_, _, rfl, rfl, rfl⟩, ⟨_, _, rfl, rfl, rfl⟩, ⟨_, _, rfl, rfl, rfl⟩, ⟨_, _, rfl, rfl, rfl⟩, ⟨_, _, rfl, rfl, rfl⟩, ⟨_, _, rfl, rfl, rfl⟩, ⟨_, _, rfl, rfl, rfl⟩, trivial⟩⟩⟩⟩

theorem fin_of {P : Program} {w : World} {K : PySem.W.Frag} {mg : Str → Option Value} {fa : Addr} (hfa : mg "answers" = some (.ref fa))
    (hA : ∃ A : Ad, mg "answers" = some (.ref A.f_answers) ∧ (∀ (s : Shared) (us : List Value), us.length = (["calls"] : List Str).length → BindsTo s A.d_answers ⟨us, []⟩ ((["calls"] : List Str).zip us)) ∧ All K mg A) :
    ∃ fd : FuncData, (∀ (s : Shared) (us : List Value), us.length = (["calls"] : List Str).length → BindsTo s fd ⟨us, []⟩ ((["calls"] : List Str).zip us)) ∧ ∀ base : Heap, K.In base → base.Ns mainGlobals mg → FnOk P w K mg base CX0 9 fa fd ["calls"] (spAns K) := by
  obtain ⟨A, e, b, T⟩ := hA
  have e2 := hfa.symm.trans e
  cases e2
  exact ⟨A.d_answers, b, fun base _ _ => ok_answers T⟩
end CK
open PySem PySem.W PyProof.Rows
set_option maxHeartbeats 0
theorem PySem.Challenge.cw_copieskept_s01_answers_holds : PySem.Challenge.rw_copieskept_s01_answers.Holds := by
  w_on; k_headS; (case hw => exact ⟨[.list [.int 7]], by decide +kernel, by decide +kernel⟩)
  k_fillS
  refine L2.walk_specK (r := PySem.Challenge.rw_copieskept_s01_answers) (k := 9) (CX := L2.CX0) (ps := ["calls"]) (sp := CK.spAns) (by decide +kernel) rfl rfl ⟨rfl, by decide, by decide⟩ (fun w h Y => PySem.W.kIn_of Y) ?F ?S (fun _ _ _ _ z => z)
  case F =>
    intro w mg fa h Y KX G hmg
    refine CK.fin_of hmg ?_
    refine' CK.all_mk KX G ?gChange ?pgChange ?hdChange ?poChange ?saChange ?mkChange ?kcChange ?nChange_device ?nChange_count ?nChange_knew ?nChange_kind ?nChange_date ?nChange_field ?nChange_what ?nChange_fields ?a1 ?i1 ?l1 ?c1 ?k1 ?a2 ?i2 ?l2 ?c2 ?k2 ?gDevice ?pgDevice ?hdDevice ?poDevice ?saDevice ?mkDevice ?kcDevice ?nDevice_number ?nDevice_knows ?nDevice_made ?nDevice_waiting ?nDevice_answered ?nDevice_clashes ?a3 ?i3 ?l3 ?c3 ?k3 ?a4 ?i4 ?l4 ?c4 ?k4 ?a5 ?i5 ?l5 ?c5 ?k5 ?a6 ?i6 ?l6 ?c6 ?k6 ?a7 ?i7 ?l7 ?c7 ?k7 ?a8 ?i8 ?l8 ?c8 ?k8 ?a9 ?i9 ?l9 ?c9 ?k9 ?a10 ?i10 ?l10 ?c10 ?k10 ?gOutcome ?pgOutcome ?hdOutcome ?poOutcome ?saOutcome ?mkOutcome ?kcOutcome ?nOutcome_count ?nOutcome_done ?nOutcome_place ?nOutcome_change ?a11 ?i11 ?l11 ?c11 ?k11 ?gHouse ?pgHouse ?hdHouse ?poHouse ?saHouse ?mkHouse ?kcHouse ?nHouse_changes ?nHouse_dates_made ?nHouse_floor ?nHouse_last_outcomes ?a12 ?i12 ?l12 ?c12 ?k12 ?a13 ?i13 ?l13 ?c13 ?k13 ?a14 ?i14 ?l14 ?c14 ?k14 ?a15 ?i15 ?l15 ?c15 ?k15 ?a16 ?i16 ?l16 ?c16 ?k16 ?a17 ?i17 ?l17 ?c17 ?k17 ?gCalendar ?pgCalendar ?hdCalendar ?poCalendar ?saCalendar ?mkCalendar ?kcCalendar ?nCalendar_house ?nCalendar_devices ?a18 ?i18 ?l18 ?c18 ?k18 ?a19 ?i19 ?l19 ?c19 ?k19 ?a20 ?l20 ?c20 ?k20 ?a21 ?l21 ?c21 ?k21 ?a22 ?l22 ?c22 ?k22 ?a23 ?l23 ?c23 ?k23 ?a24 ?l24 ?c24 ?k24 ?a25 ?l25 ?c25 ?k25 ?a26 ?l26 ?c26 ?k26 ?a27 ?l27 ?c27 ?k27 ?a28 ?l28 ?c28 ?k28 ?a29 ?l29 ?c29 ?k29 ?a30 ?l30 ?c30 ?k30 ?a31 ?l31 ?c31 ?k31 ?a32 ?l32 ?c32 ?k32 ?a33 ?l33 ?c33 ?k33 ?a34 ?l34 ?c34 ?k34 ?a35 ?l35 ?c35 ?k35 ?a36 ?l36 ?c36 ?k36 ?vSET_FIELD ?vTAKE_OUT ?vMAKE_DATE ?vMOST_MADE ?vMOST_WAITING ?vDEVICES ?vFIELDS ?vLARGEST ?vMAKE ?vSET ?vREMOVE ?vPUSH ?vPULL ?vFORGET ?vSHOWN ?vHOUSE ?vCLASHES ?vSETTLE ?vOUT_OF_BOUNDS ?vDATE_GONE ?vNO_DEVICE ?vNOT_SHOWN ?vNO_CLASH ?vFULL ?vNOTHING_WAITS ?vNOTHING_ANSWERED ?vDONE ?vNOT_DONE ?vMORE_KNOWN ?vTOLD_ANEW ?vPUSH_LOST ?vPUSH_ANSWER_LOST ?vPULL_LOST ?vLET_GO ?vONCE_MORE ?zany ?zlen ?zlist ?zmax ?zrange ?gCALL_SIZES ?lCALL_SIZES
    (case gChange => k_is)
    (case pgChange => k_is)
    (case hdChange => k_is)
    (case poChange => k_is)
    (case saChange => k_is)
    (case mkChange => k_is)
    (case kcChange => k_is)
    (case nChange_device => k_is)
    (case nChange_count => k_is)
    (case nChange_knew => k_is)
    (case nChange_kind => k_is)
    (case nChange_date => k_is)
    (case nChange_field => k_is)
    (case nChange_what => k_is)
    (case nChange_fields => k_is)
    (case a1 => k_is)
    (case i1 => k_is)
    (case l1 => k_is)
    (case c1 => k_is)
    (case k1 => k_is)
    (case a2 => k_is)
    (case i2 => k_is)
    (case l2 => k_is)
    (case c2 => k_is)
    (case k2 => k_is)
    (case gDevice => k_is)
    (case pgDevice => k_is)
    (case hdDevice => k_is)
    (case poDevice => k_is)
    (case saDevice => k_is)
    (case mkDevice => k_is)
    (case kcDevice => k_is)
    (case nDevice_number => k_is)
    (case nDevice_knows => k_is)
    (case nDevice_made => k_is)
    (case nDevice_waiting => k_is)
    (case nDevice_answered => k_is)
    (case nDevice_clashes => k_is)
    (case a3 => k_is)
    (case i3 => k_is)
    (case l3 => k_is)
    (case c3 => k_is)
    (case k3 => k_is)
    (case a4 => k_is)
    (case i4 => k_is)
    (case l4 => k_is)
    (case c4 => k_is)
    (case k4 => k_is)
    (case a5 => k_is)
    (case i5 => k_is)
    (case l5 => k_is)
    (case c5 => k_is)
    (case k5 => k_is)
    (case a6 => k_is)
    (case i6 => k_is)
    (case l6 => k_is)
    (case c6 => k_is)
    (case k6 => k_is)
    (case a7 => k_is)
    (case i7 => k_is)
    (case l7 => k_is)
    (case c7 => k_is)
    (case k7 => k_is)
    (case a8 => k_is)
    (case i8 => k_is)
    (case l8 => k_is)
    (case c8 => k_is)
    (case k8 => k_is)
    (case a9 => k_is)
    (case i9 => k_is)
    (case l9 => k_is)
    (case c9 => k_is)
    (case k9 => k_is)
    (case a10 => k_is)
    (case i10 => k_is)
    (case l10 => k_is)
    (case c10 => k_is)
    (case k10 => k_is)
    (case gOutcome => k_is)
    (case pgOutcome => k_is)
    (case hdOutcome => k_is)
    (case poOutcome => k_is)
    (case saOutcome => k_is)
    (case mkOutcome => k_is)
    (case kcOutcome => k_is)
    (case nOutcome_count => k_is)
    (case nOutcome_done => k_is)
    (case nOutcome_place => k_is)
    (case nOutcome_change => k_is)
    (case a11 => k_is)
    (case i11 => k_is)
    (case l11 => k_is)
    (case c11 => k_is)
    (case k11 => k_is)
    (case gHouse => k_is)
    (case pgHouse => k_is)
    (case hdHouse => k_is)
    (case poHouse => k_is)
    (case saHouse => k_is)
    (case mkHouse => k_is)
    (case kcHouse => k_is)
    (case nHouse_changes => k_is)
    (case nHouse_dates_made => k_is)
    (case nHouse_floor => k_is)
    (case nHouse_last_outcomes => k_is)
    (case a12 => k_is)
    (case i12 => k_is)
    (case l12 => k_is)
    (case c12 => k_is)
    (case k12 => k_is)
    (case a13 => k_is)
    (case i13 => k_is)
    (case l13 => k_is)
    (case c13 => k_is)
    (case k13 => k_is)
    (case a14 => k_is)
    (case i14 => k_is)
    (case l14 => k_is)
    (case c14 => k_is)
    (case k14 => k_is)
    (case a15 => k_is)
    (case i15 => k_is)
    (case l15 => k_is)
    (case c15 => k_is)
    (case k15 => k_is)
    (case a16 => k_is)
    (case i16 => k_is)
    (case l16 => k_is)
    (case c16 => k_is)
    (case k16 => k_is)
    (case a17 => k_is)
    (case i17 => k_is)
    (case l17 => k_is)
    (case c17 => k_is)
    (case k17 => k_is)
    (case gCalendar => k_is)
    (case pgCalendar => k_is)
    (case hdCalendar => k_is)
    (case poCalendar => k_is)
    (case saCalendar => k_is)
    (case mkCalendar => k_is)
    (case kcCalendar => k_is)
    (case nCalendar_house => k_is)
    (case nCalendar_devices => k_is)
    (case a18 => k_is)
    (case i18 => k_is)
    (case l18 => k_is)
    (case c18 => k_is)
    (case k18 => k_is)
    (case a19 => k_is)
    (case i19 => k_is)
    (case l19 => k_is)
    (case c19 => k_is)
    (case k19 => k_is)
    (case a20 => k_is)
    (case l20 => k_is)
    (case c20 => k_is)
    (case k20 => k_is)
    (case a21 => k_is)
    (case l21 => k_is)
    (case c21 => k_is)
    (case k21 => k_is)
    (case a22 => k_is)
    (case l22 => k_is)
    (case c22 => k_is)
    (case k22 => k_is)
    (case a23 => k_is)
    (case l23 => k_is)
    (case c23 => k_is)
    (case k23 => k_is)
    (case a24 => k_is)
    (case l24 => k_is)
    (case c24 => k_is)
    (case k24 => k_is)
    (case a25 => k_is)
    (case l25 => k_is)
    (case c25 => k_is)
    (case k25 => k_is)
    (case a26 => k_is)
    (case l26 => k_is)
    (case c26 => k_is)
    (case k26 => k_is)
    (case a27 => k_is)
    (case l27 => k_is)
    (case c27 => k_is)
    (case k27 => k_is)
    (case a28 => k_is)
    (case l28 => k_is)
    (case c28 => k_is)
    (case k28 => k_is)
    (case a29 => k_is)
    (case l29 => k_is)
    (case c29 => k_is)
    (case k29 => k_is)
    (case a30 => k_is)
    (case l30 => k_is)
    (case c30 => k_is)
    (case k30 => k_is)
    (case a31 => k_is)
    (case l31 => k_is)
    (case c31 => k_is)
    (case k31 => k_is)
    (case a32 => k_is)
    (case l32 => k_is)
    (case c32 => k_is)
    (case k32 => k_is)
    (case a33 => k_is)
    (case l33 => k_is)
    (case c33 => k_is)
    (case k33 => k_is)
    (case a34 => k_is)
    (case l34 => k_is)
    (case c34 => k_is)
    (case k34 => k_is)
    (case a35 => k_is)
    (case l35 => k_is)
    (case c35 => k_is)
    (case k35 => k_is)
    (case a36 => k_is)
    (case l36 => k_is)
    (case c36 => k_is)
    (case k36 => k_is)
    (case vSET_FIELD => k_is)
    (case vTAKE_OUT => k_is)
    (case vMAKE_DATE => k_is)
    (case vMOST_MADE => k_is)
    (case vMOST_WAITING => k_is)
    (case vDEVICES => k_is)
    (case vFIELDS => k_is)
    (case vLARGEST => k_is)
    (case vMAKE => k_is)
    (case vSET => k_is)
    (case vREMOVE => k_is)
    (case vPUSH => k_is)
    (case vPULL => k_is)
    (case vFORGET => k_is)
    (case vSHOWN => k_is)
    (case vHOUSE => k_is)
    (case vCLASHES => k_is)
    (case vSETTLE => k_is)
    (case vOUT_OF_BOUNDS => k_is)
    (case vDATE_GONE => k_is)
    (case vNO_DEVICE => k_is)
    (case vNOT_SHOWN => k_is)
    (case vNO_CLASH => k_is)
    (case vFULL => k_is)
    (case vNOTHING_WAITS => k_is)
    (case vNOTHING_ANSWERED => k_is)
    (case vDONE => k_is)
    (case vNOT_DONE => k_is)
    (case vMORE_KNOWN => k_is)
    (case vTOLD_ANEW => k_is)
    (case vPUSH_LOST => k_is)
    (case vPUSH_ANSWER_LOST => k_is)
    (case vPULL_LOST => k_is)
    (case vLET_GO => k_is)
    (case vONCE_MORE => k_is)
    (case zany => k_is)
    (case zlen => k_is)
    (case zlist => k_is)
    (case zmax => k_is)
    (case zrange => k_is)
    (case gCALL_SIZES => k_is)
    (case lCALL_SIZES => k_is)

  case S =>
    intro K H xs a hO hwi hask hx
    cases hx with
    | cons h1 h2 =>
      cases h2
      cases h1 with
      | lst hs ha =>
        have e := L2.ints_dw a.1 _ ha
        subst e
        have q : ((Codec.inLen 0 500 a.1 && a.1.all (Codec.inInt 0 2000)) && true) = true := hwi
        rw [Bool.and_eq_true, Bool.and_eq_true] at q
        exact ⟨_, a.1, rfl, hs, (Codec.inNat_iff.mp q.1.1).2, hask, fun H' p hp => .lst (L2.SqL.of hp) (L2.dw_ints _)⟩
#print axioms PySem.Challenge.cw_copieskept_s01_answers_holds
