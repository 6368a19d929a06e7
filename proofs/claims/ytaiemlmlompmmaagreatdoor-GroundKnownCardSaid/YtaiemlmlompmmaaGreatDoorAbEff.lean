/-
  OPERATIONS THAT WRITE MEMORY, calls left out.
-/
import Derived.Laws.BitsLemmas
import Derived.Test.YtaiemlmlompmmaaGreatDoorAbAlloc
namespace Go.Ab
variable {E : Env}

/-- what such an operation comes to -/
def Done (E : Env) (φ : Ph) (h : Heap) (w : World) (r : Result Value) (v : AV) (h' : Heap) : Prop :=
  ∃ φ' w' v', r = .ok v' w' ∧ VR φ' v v' ∧ OK E φ' h' w' ∧ Fr φ h w φ' h' w'

theorem all_scalar {φ : Ph} {vs : List AV} {vs' : List Value} (h : LR φ vs vs') (hs : vs.all AV.scalar = true) : ∀ v ∈ vs', v.oneCell' = true := by
  intro v hv
  obtain ⟨i, hi⟩ := List.getElem?_of_mem hv
  have hil : i < vs.length := by rw [h.1]; exact (List.getElem?_eq_some_iff.1 hi).1
  have := h.2 i vs[i] v (by simp [hil]) hi
  exact this.scalar (List.all_eq_true.1 hs _ (List.getElem_mem hil))

/-- cells written into a live block -/
theorem write_run {φ : Ph} {h : Heap} {w : World} (ok : OK E φ h w) {i : Nat} {cs : List AV} {e : TypeId} (hg : h.get i = some (.cells cs e false)) {l : Loc} (hφ : φ i = some l)
    {vs : List AV} {vs' : List Value} (hl : LR φ vs vs') (o : Nat) (hle : o + vs.length ≤ cs.length) (hsc : vs.all AV.scalar = true) :
    ∃ w', (storeCells ⟨l.blk, l.off + o, none⟩ vs').run E.P w = .ok () w' ∧ OK E φ (h.put i (some (.cells (setFrom cs o vs) e false))) w' ∧
      Fr φ h w φ (h.put i (some (.cells (setFrom cs o vs) e false))) w' := by
  obtain ⟨C, e', lo, hi, hb, hc⟩ := ok.cells hg hφ
  have hsz := hc.size
  have hlen := hl.1
  have hrun := run_store_row (P := E.P) hb (l.off + o) vs' (by omega) (fun k h1 h2 => hc.free rfl k (by omega) (by omega)) (all_scalar hl hsc)
  refine ⟨_, hrun, ?_⟩
  obtain ⟨h1, h2, h3⟩ := os_setCells vs' w l.blk (l.off + o)
  refine ok.change hg rfl hφ ?_ (fun c hne => heap_setCells_other vs' (Ne.symm hne) _) (size_setCells _ _ _ _) h1 h2 h3
  refine ⟨setArr C (l.off + o) vs', e', lo, hi, heap_setCells vs' hb _, ?_, fun k x hk => ?_, fun _ k a b => hc.free rfl k a (by rw [setFrom_length] at b; exact b), fun h => by cases h⟩
  · rw [setFrom_length, setArr_size]; exact hsz
  · rw [setFrom_get] at hk
    rw [setArr_get]
    split at hk
    · rename_i hin
      rw [if_pos (by omega)]
      obtain ⟨y, hy, hr⟩ := hl.get hk
      exact ⟨y, by rw [show l.off + k - (l.off + o) = k - o by omega]; exact hy, hr⟩
    · rename_i hin
      have hkl : k < cs.length := (List.getElem?_eq_some_iff.1 hk).1
      rw [if_neg (by omega)]
      exact hc.val k x hk

theorem storeA_run {φ : Ph} {h h' : Heap} {w : World} (ok : OK E φ h w) {t : TypeId} {av xv : AV} {a' x' : Value} (ha : VR φ av a') (hx : VR φ xv x') (e : storeA E h t av xv = some h') :
    ∃ w', (Instr.storeAt t a' x').run E.P w = .ok () w' ∧ OK E φ h' w' ∧ Fr φ h w φ h' w' := by
  unfold storeA at e
  split at e
  · rename_i i o
    cases ha with
    | @ptr _ l _ hφ =>
    split at e
    · rename_i cs el n hg hn
      split at e
      · rename_i hc
        simp at e; subst e
        obtain ⟨w', hrun, hok, hfr⟩ := write_run ok hg hφ hx.cells o (by omega) hc.2.2
        refine ⟨w', ?_, hok, hfr⟩
        have hs : x'.cells.size = n := by have := hx.cells.1; simp at this; omega
        simp only [Instr.storeAt, Instr.sureAddr, Sem.run_bind, Sem.run_pure, Result.andThen_ok, storeVar, run_size hn, hs, ne_eq, not_true_eq_false, if_false, hrun]
      · simp at e
    · simp at e
  · simp at e

/-- the first elements of a slice or a string -/
theorem firstA_run {φ : Ph} {h : Heap} {w : World} (ok : OK E φ h w) {size n : Nat} {x : AV} {x' : Value} (hx : VR φ x x') {new : List AV} (e : firstA h size n x = some new) (hn : lenA x = some n ∨ True) :
    ∃ new' : List Value, LR φ new new' ∧ ∀ w', w'.heap = w.heap → (Builtin.firstCells size n x').run E.P w' = .ok new'.toArray w' := by
  unfold firstA at e
  split at e
  · split at e
    · rename_i h0
      simp at e; subst e
      cases hx
      exact ⟨[], LR.nil φ, fun w' _ => by simp [Builtin.firstCells]⟩
    · simp at e
  · split at e
    · rename_i h0
      simp at e; subst e
      cases hx
      exact ⟨[], LR.nil φ, fun w' _ => by subst h0; simp only [Builtin.firstCells, Nat.zero_mul]; rfl⟩
    · simp at e
  · rename_i i o len _ _
    split at e
    · split at e
      · rename_i cs el ro hg
        split at e
        · rename_i hle
          simp at e; subst e
          cases hx with
          | @slice _ l _ _ _ _ hφ =>
          obtain ⟨C, e', lo, hi, hb, hc⟩ := ok.cells hg hφ
          obtain ⟨vs, hvl, hvv, hlr⟩ := hc.range o (n * size) hle
          refine ⟨vs, hlr, fun w' hw => ?_⟩
          rw [← hw] at hb
          have hrow := run_load_row (P := E.P) hb (l.off + o) vs hvv
          rw [hvl] at hrow
          simp only [Builtin.firstCells, hrow]
        · simp at e
      · simp at e
    · simp at e
  · rename_i s
    split at e
    · rename_i hs1
      simp at e; subst e
      generalize hss : AV.str s = s0 at hx
      cases hx <;> cases hss
      rename_i s'
      refine ⟨(s'.data.toList.take n).map (fun b => Value.int .u8 b.toNat), ⟨by simp, fun i p q hp hq => ?_⟩, fun w' _ => ?_⟩
      · rw [← List.map_take, List.getElem?_map] at hp
        rw [List.getElem?_map] at hq
        cases hb : (s'.data.toList.take n)[i]? with
        | none => rw [hb] at hp; simp at hp
        | some b =>
          rw [hb] at hp hq
          simp at hp hq
          subst hp; subst hq
          exact .int _ _
      · simp only [Builtin.firstCells, Sem.run_pure]
        congr 1
        apply Array.ext'
        simp
    · simp at e
  · simp at e

end Go.Ab
namespace Go.Ab
variable {E : Env}

/-- a new name for a block whose name is given up -/
theorem OK.reuse {φ : Ph} {h h' : Heap} {w w' : World} (ok : OK E φ h w) {i : Nat} {o o' : AObj} {l l' : Loc} (hg : h.get i = some o) (hrw : o.rw = true) (hl : φ i = some l) (hb : l'.blk = l.blk)
    (hn : (h.put i none).new o' = some h') (ho : OR E (φ.add h.nx l') o' l' w'.heap[l.blk]?) (hother : ∀ c, c ≠ l.blk → w'.heap[c]? = w.heap[c]?) (hsize : w'.heap.size = w.heap.size)
    (hos : w'.os = w.os) (htape : w'.tape = w.tape) (hout : w'.output = w.output) :
    OK E (φ.add h.nx l') h' w' ∧ Fr φ h w (φ.add h.nx l') h' w' := by
  have hi := Heap.get_lt hg
  obtain ⟨hlt, hnx, hnew, hold⟩ := Heap.new_some hn
  have hpn : (h.put i none).nx = h.nx := rfl
  rw [hpn] at hlt hnx hnew hold
  have hno : φ h.nx = none := by
    cases e : φ h.nx with
    | none => rfl
    | some m => exact absurd (ok.dom _ _ e) (Nat.lt_irrefl _)
  have hle : φ.le (φ.add h.nx l') := fun j m hm => by
    unfold Ph.add; split
    · rename_i e; subst e; rw [hno] at hm; simp at hm
    · exact hm
  have hget : ∀ j p, h'.get j = some p → (j = h.nx ∧ p = o') ∨ (j ≠ h.nx ∧ j ≠ i ∧ h.get j = some p) := fun j p hj => by
    by_cases e : j = h.nx
    · subst e; rw [hnew] at hj; simp at hj; exact .inl ⟨rfl, hj.symm⟩
    · rw [hold j e] at hj
      by_cases e' : i = j
      · subst e'; rw [Heap.get_put_same hi] at hj; simp at hj
      · rw [Heap.get_put_other hi e'] at hj; exact .inr ⟨e, Ne.symm e', hj⟩
  have hadd : ∀ j, j ≠ h.nx → (φ.add h.nx l') j = φ j := fun j hj => by simp [Ph.add, hj]
  have hself : (φ.add h.nx l') h.nx = some l' := by simp [Ph.add]
  refine ⟨⟨fun j m hm => ?_, ?_, ?_, fun g hg => hle _ _ (ok.glob g hg), fun j p m hj hm => ?_, fun j k p q m n hj hk hm hn'' hbb => ?_⟩,
    ⟨hle, fun j hj => hadd j (by omega), by omega, hos, htape, hout, Nat.le_of_eq hsize.symm, fun b _ hn' => hother b (fun e => hn' i o l hg hrw hl e.symm), fun j p m hj hr hm => ?_⟩⟩
  · rw [hnx]
    by_cases e : j = h.nx
    · omega
    · rw [hadd j e] at hm; have := ok.dom j m hm; omega
  · have := ok.nx; omega
  · omega
  · rcases hget j p hj with ⟨rfl, rfl⟩ | ⟨hne, hne', hj'⟩
    · rw [hself] at hm; simp at hm; subst hm; exact hb ▸ ho
    · rw [hadd j hne] at hm
      rw [hother _ (fun e => hne' (ok.inj j i p o m l hj' hg hm hl e))]
      exact (ok.live j p m hj' hm).mono hle
  · rcases hget j p hj with ⟨rfl, rfl⟩ | ⟨hne, hni, hj'⟩ <;> rcases hget k q hk with ⟨rfl, rfl⟩ | ⟨hne', hni', hk'⟩
    · rfl
    · rw [hself] at hm; simp at hm; subst hm
      rw [hadd k hne'] at hn''
      exact absurd (ok.inj k i q o n l hk' hg hn'' hl (hbb.symm.trans hb)) hni'
    · rw [hself] at hn''; simp at hn''; subst hn''
      rw [hadd j hne] at hm
      exact absurd (ok.inj j i p o m l hj' hg hm hl (hbb.trans hb)) hni
    · rw [hadd j hne] at hm; rw [hadd k hne'] at hn''; exact ok.inj _ _ _ _ _ _ hj' hk' hm hn'' hbb
  · rcases hget j p hj with ⟨rfl, rfl⟩ | ⟨hne, hni, hj'⟩
    · rw [hself] at hm; simp at hm; subst hm; exact .inr ⟨i, o, l, hg, hrw, hl, hb.symm⟩
    · rw [hadd j hne] at hm; exact .inr ⟨j, p, m, hj', hr, hm, rfl⟩

theorem growBy_le : ∀ (rounds c newLen : Nat), c < newLen → Builtin.growBy newLen rounds c ≤ 2 * newLen + 1000
  | 0, c, n, h => by simp [Builtin.growBy]; omega
  | r + 1, c, n, h => by
    simp only [Builtin.growBy]
    split
    · omega
    · by_cases hc : c + (c + 768) / 4 < n
      · exact growBy_le r _ n hc
      · cases r with
        | zero => simp only [Builtin.growBy]; omega
        | succ r => simp only [Builtin.growBy]; rw [if_pos (by omega)]; omega
theorem nextslicecap_le {n c : Nat} (h : c < n) : Builtin.nextslicecap n c ≤ 4 * n + 4096 := by
  unfold Builtin.nextslicecap
  split
  · omega
  · split
    · omega
    · have := growBy_le 4 c n h; omega

theorem zeroCells_size (z : Array Value) (n : Nat) : (Builtin.zeroCells z n).size = n * z.size := by simp [Builtin.zeroCells]

/-- append, where there is a new array -/
theorem append_grow_run {P : Program} {w : World} {sT xT ty elem : TypeId} {xd : TypeDesc} (hs : P.underlying sT = some (.slice elem)) (hx : P.underlying xT = some xd) (hxd : ∀ k, xd ≠ .int k)
    {size bytes n : Nat} (hsize : (P.info? elem).map (·.size) = some size) (hbytes : (P.info? elem).map (·.bytes) = some bytes) {z : Value} (hz : ∀ w, (zeroValue elem).run P w = .ok z w) (hzs : z.cells.size = size)
    {base : Option Addr} {len cap : Nat} {x' : Value} (hn : ∀ w, (Builtin.lenOf x').run P w = .ok n w) {old new : List Value} (hold : ∀ w', w'.heap = w.heap → (Builtin.firstCells size len (.slice base len cap)).run P w' = .ok old.toArray w')
    (hnew : ∀ w', w'.heap = w.heap → (Builtin.firstCells size n x').run P w' = .ok new.toArray w') (hlt : cap < len + n) (hsm : (4 * (len + n) + 4096) * (bytes + 1) ≤ 1099511627776) (hol : old.length = len * size) (hnl : new.length = n * size) :
    ∃ nc : Nat, ∃ C : Array Value, len + n ≤ nc ∧ (∃ rest, C.toList = old ++ new ++ rest) ∧ C.size = nc * size ∧
      (Builtin.append_ #[sT, xT] ty #[.slice base len cap, x']).run P w = .ok (.slice (some ⟨w.heap.size, 0, none⟩) (len + n) nc) (w.drew.alloc (.cells C elem)) := by
  let nc := (Question.appendCap (len + n) cap elem).cut (w.tape w.drawn (.appendCap (len + n) cap elem))
  have hnc : len + n ≤ nc := by show len + n ≤ len + n + _; omega
  let C : Array Value := old.toArray ++ new.toArray ++ Builtin.zeroCells z.cells (nc - (len + n))
  refine ⟨nc, C, hnc, ⟨(Builtin.zeroCells z.cells (nc - (len + n))).toList, by simp [C]⟩, ?_, ?_⟩
  · simp only [C, Array.size_append, zeroCells_size, hzs, List.size_toArray, hol, hnl]
    rw [← Nat.add_mul, ← Nat.add_mul]; congr 1; omega
  · obtain ⟨inf, hinf, hb⟩ := run_bytes hbytes w
    obtain ⟨inf', hinf', hb'⟩ := run_bytes hbytes w.drew
    have hxm : (match xd with | .int _ => true | _ => false) = false := by cases xd <;> first | rfl | exact absurd rfl (hxd _)
    have hcap : ¬ len + n ≤ cap := by omega
    have hnsc := nextslicecap_le hlt
    have hmul : (4 * (len + n) + 4096) * (bytes + 1) = (4 * (len + n) + 4096) * bytes + (4 * (len + n) + 4096) := by rw [Nat.mul_add, Nat.mul_one]
    have hsmall : ¬ Builtin.nextslicecap (len + n) cap * bytes > 2 ^ 48 := by
      have : Builtin.nextslicecap (len + n) cap * bytes ≤ (4 * (len + n) + 4096) * bytes := Nat.mul_le_mul_right _ hnsc
      omega
    have hi64 : IntKind.i64.max = 9223372036854775807 := by decide
    have hbig : ¬ (((len + n : Nat) : Int) > IntKind.i64.max) := by rw [hi64]; omega
    have o1 := hold w.drew rfl
    have n1 := hnew w.drew rfl
    have z1 := hz w.drew
    have hf : ((!false) = true) = True := by simp
    simp only [Builtin.append_, List.getElem?_toArray, List.getElem?_cons_zero, List.getElem?_cons_succ, Sem.run_bind, Sem.run_pure, Result.andThen_ok, run_underlying hs, run_underlying hx, run_size hsize, Bool.false_eq_true, if_false, hn, hcap, hinf]
    rw [if_neg (fun h => hbig h.1)]
    simp only [Sem.run_bind, hinf, hb, Result.andThen_ok]
    rw [if_neg hsmall]
    simp only [Sem.run_bind, run_choose, Question.forced, Bool.false_eq_true, if_false, World.drew_eq, Result.andThen_ok, hinf', run_askRoom, o1, hf, if_true, n1, z1, newRow, run_newObj, World.alloc_eq, Sem.run_pure]
    rfl

/-- append, where there is room -/
theorem append_place_run {P : Program} {w w' : World} {sT xT ty elem : TypeId} {xd : TypeDesc} (hs : P.underlying sT = some (.slice elem)) (hx : P.underlying xT = some xd) (hxd : ∀ k, xd ≠ .int k)
    {size n : Nat} (hsize : (P.info? elem).map (·.size) = some size) {b O len cap : Nat} {x' : Value} (hn : ∀ w, (Builtin.lenOf x').run P w = .ok n w) {new : List Value}
    (hnew : (Builtin.firstCells size n x').run P w = .ok new.toArray w) (hle : len + n ≤ cap) (hst : (storeCells ⟨b, O + len * size, none⟩ new).run P w = .ok () w') :
    (Builtin.append_ #[sT, xT] ty #[.slice (some ⟨b, O, none⟩) len cap, x']).run P w = .ok (.slice (some ⟨b, O, none⟩) (len + n) cap) w' := by
  have hxm : (match xd with | .int _ => true | _ => false) = false := by cases xd <;> first | rfl | exact absurd rfl (hxd _)
  have hf : ((!false) = true) = True := by simp
  simp only [Builtin.append_, List.getElem?_toArray, List.getElem?_cons_zero, List.getElem?_cons_succ, Sem.run_bind, Sem.run_pure, Result.andThen_ok, run_underlying hs, run_underlying hx, run_size hsize, hf, Bool.false_eq_true, if_false, if_true, hn, hle, hnew, add_off, hst]

/-- the new array of an append -/
theorem grown_OK {φ : Ph} {h h' : Heap} {w : World} (ok : OK E φ h w) {new : List AV} {elem : TypeId} (hn : h.new (.cells new elem false) = some h') {l : List Value} (hl : LR φ new l)
    {size nc n : Nat} (hsize : sizeT E elem = some size) {C : Array Value} {rest : List Value} (hC : C.toList = l ++ rest) (hCs : C.size = nc * size) (hnc : n ≤ nc) (hll : l.length = n * size) :
    Done E φ h w (.ok (.slice (some ⟨w.heap.size, 0, none⟩) n nc) (w.drew.alloc (.cells C elem))) (.slice h.nx 0 n n true) h' := by
  have hnl : new.length = n * size := by rw [hl.1, hll]
  obtain ⟨hok, hfr, hle⟩ := ok.fresh (w' := w.drew.alloc (.cells C elem)) hn ⟨w.heap.size, 0, nc - n⟩ (by
      refine ⟨C, elem, 0, 0, by rw [show (w.drew.alloc (.cells C elem)).heap = w.heap.push (.cells C elem) from rfl]; simp, ?_, fun k x hk => ?_, fun _ k _ _ => by omega, fun _ => rfl⟩
      · simp only [slackCells, hsize, Option.getD_some, hnl, hCs, Nat.zero_add]
        rw [← Nat.add_mul]; exact Nat.mul_le_mul_right _ (by omega)
      · obtain ⟨y, hy, hr⟩ := hl.get hk
        have hkl : k < l.length := (List.getElem?_eq_some_iff.1 hy).1
        refine ⟨y, ?_, hr.mono (fun i m hm => ?_)⟩
        · have : C.toList[k]? = some y := by rw [hC, List.getElem?_append_left hkl]; exact hy
          simpa using this
        · unfold Ph.add
          split
          · rename_i e; subst e; exact absurd (ok.dom _ _ hm) (Nat.lt_irrefl _)
          · exact hm)
    (fun c hne hc => by
      have : (w.drew.alloc (.cells C elem)).heap[c]? = w.heap[c]? := by
        rw [show (w.drew.alloc (.cells C elem)).heap = w.heap.push (.cells C elem) from rfl, Array.getElem?_push, if_neg (by simpa using hne)]
      exact this) (by simp) (Nat.le_refl _) rfl rfl rfl
  refine ⟨_, _, _, rfl, ?_, hok, hfr⟩
  have := VR.slice (φ := φ.add h.nx ⟨w.heap.size, 0, nc - n⟩) (i := h.nx) (l := ⟨w.heap.size, 0, nc - n⟩) 0 n n true (by simp [Ph.add])
  simp only [capOf, if_true] at this
  rw [show n + (nc - n) = nc by omega] at this
  exact this

theorem Fr.of_kill {φ φ' : Ph} {h h' : Heap} {w w' : World} {i : Nat} (hi : i < 2 ^ depth) (f : Fr φ (h.put i none) w φ' h' w') : Fr φ h w φ' h' w' := by
  have hget : ∀ j p, (h.put i none).get j = some p → h.get j = some p := fun j p hj => by
    by_cases e : i = j
    · subst e; rw [Heap.get_put_same hi] at hj; simp at hj
    · rw [Heap.get_put_other hi e] at hj; exact hj
  exact ⟨f.ext, f.old, f.nx, f.os, f.tape, f.output, f.size, fun b hb hn => f.keep b hb (fun j p m hj => hn j p m (hget j p hj)),
    fun j p m hj hr hm => (f.own j p m hj hr hm).imp id (fun ⟨k, q, n, a, b⟩ => ⟨k, q, n, hget k q a, b⟩)⟩

theorem lenA_run {φ : Ph} {x : AV} {n : Nat} (h : lenA x = some n) {x' : Value} (hx : VR φ x x') (P : Program) (w : World) : (Builtin.lenOf x').run P w = .ok n w := by
  cases x <;> simp [lenA] at h
  · subst h
    generalize hss : AV.str _ = s0 at hx
    cases hx <;> cases hss
    rfl
  · cases hx; subst h; rfl
  · cases hx; subst h; rfl
  · cases hx; subst h; rfl

/-- append(nil, make([]T, n)...) -/
theorem append_make_run {P : Program} {w : World} {sT xT ty elem : TypeId} {kx : IntKind} (hs : P.underlying sT = some (.slice elem)) (hx : P.underlying xT = some (.int kx))
    {size bytes : Nat} (hsize : (P.info? elem).map (·.size) = some size) (hbytes : (P.info? elem).map (·.bytes) = some bytes) {z : Value} (hz : ∀ w, (zeroValue elem).run P w = .ok z w) (hzs : z.cells.size = size)
    {k : IntKind} {n : Int} (hn : 0 < n) (hs0 : 0 < size) (hsm : (4 * n.toNat + 4096) * (bytes + 1) ≤ 1099511627776) :
    ∃ nc : Nat, ∃ C : Array Value, n.toNat ≤ nc ∧ (∃ rest, C.toList = (Builtin.zeroCells z.cells n.toNat).toList ++ rest) ∧ C.size = nc * size ∧
      (Builtin.append_ #[sT, xT] ty #[.slice none 0 0, .int k n]).run P w = .ok (.slice (some ⟨w.heap.size, 0, none⟩) n.toNat nc) (w.drew.alloc (.cells C elem)) := by
  let nc := (Question.appendCap (0 + n.toNat) 0 elem).cut (w.tape w.drawn (.appendCap (0 + n.toNat) 0 elem))
  have hnc : n.toNat ≤ nc := by show n.toNat ≤ 0 + n.toNat + _; omega
  let C : Array Value := #[] ++ Builtin.zeroCells z.cells n.toNat ++ Builtin.zeroCells z.cells (nc - (0 + n.toNat))
  refine ⟨nc, C, hnc, ⟨(Builtin.zeroCells z.cells (nc - (0 + n.toNat))).toList, by simp [C]⟩, ?_, ?_⟩
  · simp only [C, Array.size_append, zeroCells_size, hzs, Array.size_empty, Nat.zero_add]
    rw [← Nat.add_mul]; congr 1; omega
  · obtain ⟨inf, hinf, hb⟩ := run_bytes hbytes w
    obtain ⟨inf', hinf', hb'⟩ := run_bytes hbytes w.drew
    have hmul : (4 * n.toNat + 4096) * (bytes + 1) = (4 * n.toNat + 4096) * bytes + (4 * n.toNat + 4096) := by rw [Nat.mul_add, Nat.mul_one]
    have hnl : n.toNat ≤ 1099511627776 := by omega
    have hwrap : IntKind.i64.wrap n = n := by
      rw [IntKind.wrap_i64]; omega
    have hneg : ¬ n < 0 := by omega
    have hnb : n * (bytes : Int) = ((n.toNat * bytes : Nat) : Int) := by rw [Int.natCast_mul, Int.toNat_of_nonneg (by omega)]
    have hle : n.toNat * bytes ≤ (4 * n.toNat + 4096) * bytes := Nat.mul_le_mul_right _ (by omega)
    have hbig0 : ¬ n * (bytes : Int) > 2 ^ 48 := by rw [hnb]; omega
    have hcap : ¬ 0 + n.toNat ≤ 0 := by omega
    have hnsc := nextslicecap_le (show 0 < 0 + n.toNat by omega)
    have hsmall : ¬ Builtin.nextslicecap (0 + n.toNat) 0 * bytes > 2 ^ 48 := by
      have : Builtin.nextslicecap (0 + n.toNat) 0 * bytes ≤ (4 * (0 + n.toNat) + 4096) * bytes := Nat.mul_le_mul_right _ hnsc
      rw [Nat.zero_add] at this
      rw [Nat.zero_add]
      omega
    have hi64 : IntKind.i64.max = 9223372036854775807 := by decide
    have hbig : ¬ (((0 + n.toNat : Nat) : Int) > IntKind.i64.max) := by rw [hi64]; omega
    have hns : ¬ n.toNat * size = 0 := by
      have h1 : 0 < n.toNat := by omega
      have := Nat.mul_pos h1 hs0; omega
    have z1 := hz w.drew
    have hf : ((!true) = true) = False := by simp
    have hai : ∀ w, (asInt (.int k n)).run P w = .ok n w := fun _ => rfl
    simp only [Builtin.append_, List.getElem?_toArray, List.getElem?_cons_zero, List.getElem?_cons_succ, Sem.run_bind, Sem.run_pure, Result.andThen_ok, run_underlying hs, run_underlying hx, run_size hsize, if_true, hai, hwrap]
    rw [if_neg hneg]
    simp only [Sem.run_bind, hinf, hb, Result.andThen_ok]
    rw [if_neg hbig0]
    simp only [Sem.run_bind, Sem.run_pure, Result.andThen_ok]
    rw [if_neg hcap]
    simp only [Sem.run_bind, Result.andThen_ok, hinf, hb]
    rw [if_neg (fun h => hbig h.1)]
    simp only [Sem.run_bind, hinf, hb, Result.andThen_ok]
    rw [if_neg hsmall]
    simp only [Sem.run_bind, run_choose, Question.forced, Bool.false_eq_true, if_false, World.drew_eq, Result.andThen_ok, hinf', run_askRoom, Builtin.firstCells, hf, if_neg hns, z1, newRow, run_newObj, World.alloc_eq, Sem.run_pure]
    simp only [nc, C, Nat.zero_add]
    rfl

theorem appendA_run {φ : Ph} {h h' : Heap} {w : World} (ok : OK E φ h w) {argTypes : Array TypeId} {s x v : AV} (e : appendA E h argTypes s x = some (v, h')) {s' x' : Value} (hs : VR φ s s') (hx : VR φ x x') (ty : TypeId) :
    Done E φ h w ((Builtin.append_ argTypes ty #[s', x']).run E.P w) v h' := by
  unfold appendA at e
  split at e
  · rename_i sT xT hsT hxT
    split at e
    · rename_i elem xd hus hux
      split at e
      · rename_i hint
        cases xd <;> simp [isIntD] at hint
        have key : (Builtin.append_ argTypes ty #[s', x']).run E.P w = (Builtin.append_ #[sT, xT] ty #[s', x']).run E.P w := by
          unfold Builtin.append_; simp only [hsT, hxT]; rfl
        rw [key]
        unfold appendMakeA at e
        split at e
        · rename_i k0 k size bytes z hsize hbytes hzero
          split at e
          · rename_i hc
            obtain ⟨hk, hs0, hsm, hzl⟩ := hc
            split at e
            · rename_i h1 hnewh
              simp at e; obtain ⟨rfl, rfl⟩ := e
              cases hs; cases hx
              obtain ⟨z', hzr, hzrun⟩ := zeroT_run hzero
              have hzs : z'.cells.size = size := by have := (hzr φ).cells.1; simp at this; omega
              obtain ⟨nc, C, hnc, ⟨rest, hC⟩, hCs, hrun⟩ := append_make_run (P := E.P) (w := w) (ty := ty) (k := k0) hus hux hsize hbytes hzrun hzs hk hs0 hsm
              rw [hrun]
              exact grown_OK (n := k.toNat) ok hnewh (l := (Builtin.zeroCells z'.cells k.toNat).toList) (rep_LR (hzr φ).cells k.toNat) hsize hC hCs hnc (by rw [Array.length_toList, zeroCells_size, hzs])
            · simp at e
          · simp at e
        · simp at e
      rename_i hnint
      have hxd : ∀ k, xd ≠ .int k := fun k he => by subst he; simp [isIntD] at hnint
      split at e
      · rename_i size bytes n hsize hbytes hlen
        split at e
        · rename_i new z hfirst hzero
          split at e
          · rename_i hc
            obtain ⟨hzl, hsc, hnewl⟩ := hc
            obtain ⟨z', hzr, hzrun⟩ := zeroT_run hzero
            have hzs : z'.cells.size = size := by have := (hzr φ).cells.1; simp at this; omega
            obtain ⟨new', hnlr, hnrun⟩ := firstA_run ok hx hfirst (.inr trivial)
            have hnl : new'.length = n * size := by rw [← hnlr.1]; exact hnewl
            -- the argument types, two at least
            have key : (Builtin.append_ argTypes ty #[s', x']).run E.P w = (Builtin.append_ #[sT, xT] ty #[s', x']).run E.P w := by
              unfold Builtin.append_; simp only [hsT, hxT]; rfl
            rw [key]
            split at e
            · -- the nil slice
              cases hs
              split at e
              · rename_i hn0
                simp at e; obtain ⟨rfl, rfl⟩ := e
                subst hn0
                refine ⟨φ, w, _, ?_, .nilslice, ok, Fr.refl φ h w⟩
                have hxm : (match xd with | .int _ => true | _ => false) = false := by cases xd <;> first | rfl | exact absurd rfl (hxd _)
                have hf : ((!false) = true) = True := by simp
                have hn1 := hnrun w rfl
                simp only [Builtin.append_, List.getElem?_toArray, List.getElem?_cons_zero, List.getElem?_cons_succ, Sem.run_bind, Sem.run_pure, Result.andThen_ok, run_underlying hus, run_underlying hux, run_size hsize, hf, Bool.false_eq_true, if_false, if_true, lenA_run hlen hx, hn1, Nat.le_refl, Nat.add_zero]
              · rename_i hn0
                split at e
                · rename_i hsm
                  split at e
                  · rename_i h1 hnewh
                    simp at e; obtain ⟨rfl, rfl⟩ := e
                    obtain ⟨nc, C, hnc, ⟨rest, hC⟩, hCs, hrun⟩ := append_grow_run (P := E.P) (w := w) (ty := ty) hus hux hxd hsize hbytes hzrun hzs (base := none) (len := 0) (cap := 0) (fun w => lenA_run hlen hx E.P w) (old := []) (fun w' _ => by simp [Builtin.firstCells]) (fun w' hw => hnrun w' hw) (by omega) (by simpa using hsm) (by simp) hnl
                    have := grown_OK (n := n) ok hnewh (l := [] ++ new') (by simpa using hnlr) (by simpa using hsize) (by simpa using hC) hCs (by omega) (by simp [hnl])
                    rw [hrun]
                    simp only [Nat.zero_add] at this ⊢
                    exact this
                  · simp at e
                · simp at e
            · rename_i i o len cap op
              cases hs with
              | @slice _ l _ _ _ _ hφ =>
              split at e
              · rename_i cs el hg
                split at e
                · -- room that is known
                  rename_i hroom
                  split at e
                  · rename_i hle
                    simp at e; obtain ⟨rfl, rfl⟩ := e
                    have hcc : cap ≤ capOf op cap l.slack := by unfold capOf; split <;> omega
                    obtain ⟨w', hst, hok, hfr⟩ := write_run ok hg hφ hnlr (o + len * size) (by rw [hnewl, Nat.add_assoc, ← Nat.add_mul]; exact hle) hsc
                    refine ⟨φ, w', _, append_place_run (P := E.P) hus hux hxd hsize (fun w => lenA_run hlen hx E.P w) (hnrun w rfl) (by omega) (by rw [Nat.add_assoc]; exact hst), ?_, hok, hfr⟩
                    have := VR.slice (φ := φ) o (len + n) cap op hφ
                    exact this
                  · simp at e
                · rename_i hroom
                  split at e
                  · rename_i hcnd
                    obtain ⟨hsm, hol, hop⟩ := hcnd
                    split at e
                    · rename_i h1 hnewh
                      simp at e; obtain ⟨rfl, rfl⟩ := e
                      obtain ⟨C0, e0, lo, hi, hb0, hc0⟩ := ok.cells hg hφ
                      obtain ⟨old', hol', holv, holr⟩ := hc0.range o (len * size) hol
                      have hfirst0 : ∀ cp w', w'.heap = w.heap → (Builtin.firstCells size len (.slice (some ⟨l.blk, l.off + o, none⟩) len cp)).run E.P w' = .ok old'.toArray w' := fun cp w' hw => by
                        rw [← hw] at hb0
                        have hrow := run_load_row (P := E.P) hb0 (l.off + o) old' holv
                        rw [hol'] at hrow
                        simp only [Builtin.firstCells, hrow]
                      by_cases hin : len + n ≤ capOf op cap l.slack
                      · -- room that was not known: the very array
                        have hopt : op = true := by
                          cases op with
                          | true => rfl
                          | false => simp [capOf] at hin; omega
                        subst hopt
                        obtain ⟨rfl, hext⟩ := hop rfl
                        simp only [capOf, if_true] at hin ⊢
                        simp only [if_true] at hnewh
                        have hsz := hc0.size
                        simp only [slackCells, hsize, Option.getD_some] at hsz
                        have hmul : (len + n) * size ≤ (cap + l.slack) * size := Nat.mul_le_mul_right _ hin
                        have e1 : (len + n) * size = len * size + n * size := Nat.add_mul _ _ _
                        have e2 : (cap + l.slack) * size = cap * size + l.slack * size := Nat.add_mul _ _ _
                        have hst := run_store_row (P := E.P) hb0 (l.off + o + len * size) new' (by omega) (fun k k1 k2 => hc0.free rfl k (by omega) (by simp only [slackCells, hsize, Option.getD_some]; omega)) (all_scalar hnlr hsc)
                        obtain ⟨p1, p2, p3⟩ := os_setCells new' w l.blk (l.off + o + len * size)
                        obtain ⟨hok, hfr⟩ := ok.reuse (w' := w.setCells l.blk (l.off + o + len * size) new') (l' := ⟨l.blk, l.off + o, cap + l.slack - (len + n)⟩) hg rfl hφ rfl hnewh (by
                            refine ⟨setArr C0 (l.off + o + len * size) new', e0, lo, hi, heap_setCells new' hb0 _, ?_, fun k x hk => ?_, fun _ k a b => hc0.free rfl k (by simp at a; omega) ?_, fun h => by cases h⟩
                            · simp only [slackCells, hsize, Option.getD_some, setArr_size, List.length_append, holr.1, hol', hnlr.1, hnl]
                              rw [Nat.sub_mul]; omega
                            · show ∃ y, (setArr C0 (l.off + o + len * size) new')[l.off + o + k]? = some y ∧ _
                              rw [setArr_get]
                              by_cases hk1 : k < len * size
                              · rw [List.getElem?_append_left (by rw [holr.1, hol']; exact hk1)] at hk
                                obtain ⟨y, hy, hr⟩ := holr.get hk
                                rw [if_neg (by omega)]
                                exact ⟨y, holv k y hy, hr.mono (fun j m hm => by
                                  unfold Ph.add
                                  split
                                  · rename_i ej; subst ej; exact absurd (ok.dom _ _ hm) (Nat.lt_irrefl _)
                                  · exact hm)⟩
                              · rw [List.getElem?_append_right (by rw [holr.1, hol']; omega)] at hk
                                obtain ⟨y, hy, hr⟩ := hnlr.get hk
                                have hyl : k - ((List.take (len * size) (List.drop o cs)).length) < new'.length := (List.getElem?_eq_some_iff.1 hy).1
                                rw [holr.1, hol'] at hyl hy
                                rw [if_pos (by omega)]
                                exact ⟨y, by rw [show l.off + o + k - (l.off + o + len * size) = k - len * size by omega]; exact hy, hr.mono (fun j m hm => by
                                  unfold Ph.add
                                  split
                                  · rename_i ej; subst ej; exact absurd (ok.dom _ _ hm) (Nat.lt_irrefl _)
                                  · exact hm)⟩
                            · simp only [slackCells, hsize, Option.getD_some, List.length_append, holr.1, hol', hnlr.1, hnl] at b ⊢
                              rw [Nat.sub_mul] at b; omega)
                          (fun c hne => heap_setCells_other new' (Ne.symm hne) _) (size_setCells _ _ _ _) p1 p2 p3
                        refine ⟨_, _, _, append_place_run (P := E.P) hus hux hxd hsize (fun w => lenA_run hlen hx E.P w) (hnrun w rfl) hin hst, ?_, hok, hfr⟩
                        have := VR.slice (φ := φ.add h.nx ⟨l.blk, l.off + o, cap + l.slack - (len + n)⟩) (i := h.nx) (l := ⟨l.blk, l.off + o, cap + l.slack - (len + n)⟩) 0 (len + n) (len + n) true (by simp [Ph.add])
                        simp only [capOf, if_true] at this
                        rw [show len + n + (cap + l.slack - (len + n)) = cap + l.slack by omega] at this
                        exact this
                      · -- a new array
                        obtain ⟨nc, C, hnc, ⟨rest, hC⟩, hCs, hrun⟩ := append_grow_run (P := E.P) (w := w) (ty := ty) hus hux hxd hsize hbytes hzrun hzs (base := some ⟨l.blk, l.off + o, none⟩) (len := len) (cap := capOf op cap l.slack) (fun w => lenA_run hlen hx E.P w) (old := old') (fun w' hw => hfirst0 _ w' hw) (fun w' hw => hnrun w' hw) (by omega) hsm hol' hnl
                        rw [hrun]
                        have hlr := holr.append hnlr
                        have hll : (old' ++ new').length = (len + n) * size := by rw [List.length_append, hol', hnl, Nat.add_mul]
                        cases op with
                        | false => exact grown_OK ok hnewh hlr hsize hC hCs hnc hll
                        | true =>
                          have hi := Heap.get_lt hg
                          obtain ⟨φ', w', v', a1, a2, a3, a4⟩ := grown_OK (ok.kill hi) hnewh hlr hsize hC hCs hnc hll
                          exact ⟨φ', w', v', a1, a2, a3, a4.of_kill hi⟩
                    · simp at e
                  · simp at e
              · simp at e
            · simp at e
          · simp at e
        · simp at e
      · simp at e
    · simp at e
  · simp at e

end Go.Ab
