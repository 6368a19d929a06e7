/-
  A FAST RUN: the order of a region that draws, reckoned by eliminators; look-ups of types and functions.
-/
import Derived.Test.YtaiemlmlompmmaaGreatDoorAbFb
namespace Go.Ab.Fa
section
variable {α β : Type}
noncomputable def lhas (l : List Nat) (x : Nat) : Bool := List.rec (motive := fun _ => Bool) false (fun y _ ih => bc (Nat.beq x y) true ih) l
noncomputable def lany (f : α → Bool) (l : List α) : Bool := List.rec (motive := fun _ => Bool) false (fun v _ ih => bc (f v) true ih) l
noncomputable def lfold (f : β → α → β) (l : List α) (b : β) : β := List.rec (motive := fun _ => β → β) (fun b => b) (fun v _ ih b => ih (f b v)) l b
noncomputable def allI (f : α → Nat → Bool) (l : List α) (i : Nat) : Bool := List.rec (motive := fun _ => Nat → Bool) (fun _ => true) (fun v _ ih i => bc (f v i) (canon (Nat.add i 1) ih) false) l i
noncomputable def filtI (f : α → Nat → Bool) (l : List α) (i : Nat) : List Nat := List.rec (motive := fun _ => Nat → List Nat) (fun _ => []) (fun v _ ih i => bc (f v i) (i :: canon (Nat.add i 1) ih) (canon (Nat.add i 1) ih)) l i
noncomputable def lcount (f : α → Bool) (l : List α) : Nat := List.rec (motive := fun _ => Nat) 0 (fun v _ ih => bc (f v) (Nat.add ih 1) ih) l
noncomputable def lwhile (f : α → Bool) (l : List α) : Nat := List.rec (motive := fun _ => Nat) 0 (fun v _ ih => bc (f v) (Nat.add ih 1) 0) l
noncomputable def lgetD (l : List α) (i : Nat) (d : α) : α := ob d (fun x => x) (lnth l i)
/-- a list handed on with its spine evaluated -/
noncomputable def lforce (l : List α) : (List α → β) → β := List.rec (motive := fun _ => (List α → β) → β) (fun k => k []) (fun x _ ih k => ih fun tl => k (x :: tl)) l
theorem lforce_eq (l : List α) (k : List α → β) : lforce l k = k l := by
  induction l generalizing k with
  | nil => rfl
  | cons y tl ih => show lforce tl (fun tl => k (y :: tl)) = _; rw [ih]
noncomputable def lcanon (l : List α) (k : List α → β) : β := List.rec (motive := fun _ => β) (k []) (fun x tl _ => k (x :: tl)) l
theorem lcanon_eq (l : List α) (k : List α → β) : lcanon l k = k l := by cases l <;> rfl
/-- a fold whose state is a list -/
noncomputable def lfoldL (f : List β → α → List β) (l : List α) (b : List β) : List β := List.rec (motive := fun _ => List β → List β) (fun b => b) (fun v _ ih b => lcanon (f b v) ih) l b
theorem lfoldL_eq (f : List β → α → List β) (l : List α) (b : List β) : lfoldL f l b = l.foldl f b := by
  induction l generalizing b with
  | nil => rfl
  | cons y tl ih => show lcanon (f b y) (lfoldL f tl) = _; rw [lcanon_eq, ih]; rfl
theorem bc_eq (b : Bool) (x y : α) : bc b x y = bif b then x else y := by cases b <;> rfl
theorem ob_eq {o : Option α} {d : β} {f : α → β} : ob d f o = match o with | none => d | some a => f a := by cases o <;> rfl
theorem beqN (x y : Nat) : (x == y) = Nat.beq x y := by
  cases h : Nat.beq x y
  · rw [beq_eq_false_iff_ne]; intro e; subst e; rw [Nat.beq_refl] at h; exact absurd h (by simp)
  · rw [Nat.eq_of_beq_eq_true h]; simp
theorem lhas_eq (l : List Nat) (x : Nat) : lhas l x = l.contains x := by
  induction l with
  | nil => rfl
  | cons y tl ih =>
    show bc (Nat.beq x y) true (lhas tl x) = _
    rw [ih, bc_eq, List.contains_cons, beqN]
    cases Nat.beq x y <;> rfl
theorem lany_eq (f : α → Bool) (l : List α) : lany f l = l.any f := by
  induction l with
  | nil => rfl
  | cons y tl ih => show bc (f y) true (lany f tl) = _; rw [ih, bc_eq, List.any_cons]; cases f y <;> rfl
theorem lall_eq (f : α → Bool) (l : List α) : lall f l = l.all f := by
  induction l with
  | nil => rfl
  | cons y tl ih => show bc (f y) (lall f tl) false = _; rw [ih, bc_eq, List.all_cons]; cases f y <;> rfl
theorem lfold_eq (f : β → α → β) (l : List α) (b : β) : lfold f l b = l.foldl f b := by
  induction l generalizing b with
  | nil => rfl
  | cons y tl ih => show lfold f tl (f b y) = _; rw [ih]; rfl
theorem allI_eq (f : α → Nat → Bool) (l : List α) (i : Nat) : allI f l i = (l.zipIdx i).all fun p => f p.1 p.2 := by
  induction l generalizing i with
  | nil => rfl
  | cons y tl ih => show bc (f y i) (canon (i + 1) (allI f tl)) false = _; rw [canon_eq, ih, bc_eq, List.zipIdx_cons, List.all_cons]; cases f y i <;> rfl
theorem filtI_eq (f : α → Nat → Bool) (l : List α) (i : Nat) : filtI f l i = ((l.zipIdx i).filter fun p => f p.1 p.2).map (·.2) := by
  induction l generalizing i with
  | nil => rfl
  | cons y tl ih =>
    show bc (f y i) (i :: canon (i + 1) (filtI f tl)) (canon (i + 1) (filtI f tl)) = _
    rw [canon_eq, ih, bc_eq, List.zipIdx_cons, List.filter_cons]; cases f y i <;> simp
theorem lcount_eq (f : α → Bool) (l : List α) : lcount f l = (l.filter f).length := by
  induction l with
  | nil => rfl
  | cons y tl ih => show bc (f y) (lcount f tl + 1) (lcount f tl) = _; rw [ih, bc_eq, List.filter_cons]; cases f y <;> simp
theorem lwhile_eq (f : α → Bool) (l : List α) : lwhile f l = (l.takeWhile f).length := by
  induction l with
  | nil => rfl
  | cons y tl ih => show bc (f y) (lwhile f tl + 1) 0 = _; rw [ih, bc_eq, List.takeWhile_cons]; cases f y <;> simp
theorem lnth_eq (l : List α) (i : Nat) : lnth l i = l[i]? := by
  induction l generalizing i with
  | nil => rfl
  | cons y tl ih =>
    show bc (Nat.beq i 0) (some y) (lnth tl (i - 1)) = _
    rw [ih, bc_eq]
    cases i with
    | zero => rfl
    | succ i => rw [show Nat.beq (i + 1) 0 = false from rfl]; simp
theorem lgetD_eq (l : List α) (i : Nat) (d : α) : lgetD l i d = l.getD i d := by
  unfold lgetD; rw [lnth_eq, List.getD_eq_getElem?_getD]; cases l[i]? <;> rfl
theorem llen_eq (l : List α) : llen l = l.length := by
  induction l with
  | nil => rfl
  | cons y tl ih => show llen tl + 1 = _; rw [ih]; rfl
theorem lapp_eq (l m : List α) : lapp l m = l ++ m := by
  induction l with
  | nil => rfl
  | cons y tl ih => show y :: lapp tl m = _; rw [ih]; rfl
end

/-! ### Look-ups -/
noncomputable def infoF (p : Program) (t : TypeId) : Option TypeInfo := ob (p.info? t) (fun i => some i) (lnth p.types.toList t)
noncomputable def descF (i : TypeInfo) (p : Program) : Option TypeDesc := TypeDesc.rec (motive := fun _ => Option TypeDesc) (some i.desc) (some i.desc) (fun _ => some i.desc) (fun _ => some i.desc) (fun _ => some i.desc) (some i.desc) (some i.desc)
  (fun _ => some i.desc) (fun _ => some i.desc) (fun _ _ => some i.desc) (fun _ _ => some i.desc) (fun _ _ => some i.desc) (fun _ => some i.desc) (fun _ _ _ => some i.desc) (fun _ => some i.desc) (fun _ => some i.desc)
  (fun _ u => ob none (fun j => some j.desc) (infoF p u)) i.desc
noncomputable def undF (p : Program) (t : TypeId) : Option TypeDesc := ob none (fun i => descF i p) (infoF p t)
theorem infoF_eq (p : Program) (t : TypeId) : infoF p t = p.info? t := by
  unfold infoF; rw [lnth_eq, Array.getElem?_toList]
  cases h : p.types[t]? with
  | none => rfl
  | some i =>
    show some i = p.info? t
    unfold Tables.info?
    obtain ⟨hlt, _⟩ := Array.getElem?_eq_some_iff.mp h
    rw [if_pos hlt, h]
theorem undF_eq (p : Program) (t : TypeId) : undF p t = p.underlying t := by
  unfold undF Program.underlying
  rw [infoF_eq]
  cases p.info? t with
  | none => rfl
  | some i =>
    show descF i p = _
    obtain ⟨d, _⟩ := i
    cases d with
    | named a u => show ob none (fun j => some j.desc) (infoF p u) = Option.map (fun x => x.desc) (p.info? u); rw [infoF_eq]; cases p.info? u <;> rfl
    | _ => rfl
noncomputable def funF (p : Program) (f : FuncId) : Option Func := lnth p.funcs.toList f
theorem funF_eq (p : Program) (f : FuncId) : funF p f = p.funcs[f]? := by
  unfold funF; rw [lnth_eq]; exact Array.getElem?_toList

/-! ### The plan -/
variable (E : Env)
noncomputable def effBF (op : Op) : Bool := match op with
  | .store .. | .mapUpdate .. | .insert .. | .next .. | .panic _ | .defer _ => true
  | .convert _ dst _ => match undF E.P dst with
    | some (.slice _) => true
    | _ => false
  | .call c => match c.callee with
    | .builtin .len | .builtin .cap | .builtin .max | .builtin .min => false
    | .builtin _ => true
    | .value (.func f) => match E.pureExt f with
      | none => true
      | some _ => false
    | _ => true
  | _ => false
theorem effBF_eq (op : Op) : effBF E op = effB E op := by
  unfold effBF effB
  cases op <;> try rfl
  · simp only [undF_eq]
    rename_i dst _
    generalize E.P.underlying dst = u
    cases u with
    | none => rfl
    | some d => cases d <;> rfl
  · rename_i c
    rcases c with ⟨cal, a, t⟩
    cases cal with
    | value x =>
      cases x with
      | func f => simp only; cases E.pureExt f <;> rfl
      | _ => rfl
    | builtin b => cases b <;> rfl
    | _ => rfl
noncomputable def bindF (g : Ground) : Bool := Ground.rec (motive := fun _ => Bool) true true true true (fun _ => false) (fun _ => false) g
noncomputable def edgesF (o : Oper) : List Nat := List.rec (motive := fun _ => List Nat) [] (fun e _ ih => bc (bindF e.ground) (e.on :: ih) ih) o.after.toList
theorem edgesF_eq (o : Oper) : edgesF o = edgesOf o := by
  unfold edgesF edgesOf
  induction o.after.toList with
  | nil => rfl
  | cons e tl ih =>
    show bc (bindF e.ground) (e.on :: _) _ = _
    rw [ih, List.filter_cons]
    obtain ⟨on, g⟩ := e
    cases g <;> rfl
noncomputable def insF (l : List Nat) (x : Nat) : List Nat := bc (lhas l x) l (x :: l)
noncomputable def ancF1 (acc : List (List Nat)) (es : List Nat) : List Nat := lfoldL (fun l e => lfoldL insF (lgetD acc e []) (insF l e)) es []
noncomputable def ancsF (l : List Oper) : List (List Nat) → List (List Nat) := List.rec (motive := fun _ => List (List Nat) → List (List Nat)) (fun acc => acc) (fun o _ ih acc => lforce (ancF1 acc (edgesF o)) fun a => lforce (lapp acc [a]) ih) l
theorem insF_eq (l : List Nat) (x : Nat) : insF l x = if l.contains x then l else x :: l := by
  unfold insF; rw [lhas_eq, bc_eq]; cases l.contains x <;> rfl
theorem ancF1_eq (acc : List (List Nat)) (o : Oper) : ancF1 acc (edgesF o) = (edgesOf o).foldl (fun l e => (acc.getD e []).foldl (fun l x => if l.contains x then l else x :: l) (if l.contains e then l else e :: l)) [] := by
  unfold ancF1
  rw [lfoldL_eq, edgesF_eq]
  congr 1
  funext l e
  rw [lfoldL_eq, lgetD_eq, insF_eq]
  congr 1
  funext l x
  exact insF_eq l x
theorem ancsF_eq : ∀ (l : List Oper) (acc : List (List Nat)), ancsF l acc = ancs l acc
  | [], _ => rfl
  | o :: rest, acc => by
    show lforce (ancF1 acc (edgesF o)) (fun a => lforce (lapp acc [a]) (ancsF rest)) = _
    rw [lforce_eq, lforce_eq, ancsF_eq rest, lapp_eq, ancF1_eq]; rfl
noncomputable def isAncF (an : List (List Nat)) (i j : Nat) : Bool := lhas (lgetD an i []) j
theorem isAncF_eq (an : List (List Nat)) (i j : Nat) : isAncF an i j = isAnc an i j := by
  unfold isAncF isAnc ancOf; rw [lhas_eq, lgetD_eq]
noncomputable def edgesOKF (ops : List Oper) (an : List (List Nat)) : Bool :=
  allI (fun o i => bc (lall (fun e => bc (Nat.ble (Nat.add e 1) i) (isAncF an i e) false) (edgesF o)) (lall (fun j => bc (Nat.ble (Nat.add j 1) i) (lany (fun e => bc (Nat.beq e j) true (isAncF an e j)) (edgesF o)) false) (lgetD an i [])) false) ops 0
theorem decide_lt (a b : Nat) : decide (a < b) = Nat.ble (a + 1) b := by
  by_cases h : a < b
  · rw [decide_eq_true h, Nat.ble_eq_true_of_le h]
  · rw [decide_eq_false h]; symm; rw [Bool.eq_false_iff]; intro e; exact h (Nat.le_of_ble_eq_true e)
theorem bc_and (a b : Bool) : bc a b false = (a && b) := by cases a <;> rfl
theorem bc_or (a b : Bool) : bc a true b = (a || b) := by cases a <;> rfl
theorem edgesOKF_eq (ops : List Oper) (an : List (List Nat)) : edgesOKF ops an = edgesOK ops an := by
  unfold edgesOKF edgesOK
  rw [allI_eq]
  congr 1
  funext ⟨o, i⟩
  simp only [bc_and, bc_or, lall_eq, lany_eq, lgetD_eq, edgesF_eq, isAncF_eq, decide_lt, beqN]
  rfl
noncomputable def tmpL (l : List Operand) : List Nat := List.rec (motive := fun _ => List Nat) [] (fun x _ ih => Operand.rec (motive := fun _ => List Nat) (fun t => t :: ih) (fun _ => ih) (fun _ => ih) (fun _ => ih) x) l
theorem tmpL_eq (l : List Operand) : tmpL l = l.filterMap fun | .tmp t => some t | _ => none := by
  induction l with
  | nil => rfl
  | cons x tl ih =>
    cases x <;> simp only [List.filterMap_cons, ← ih] <;> rfl
noncomputable def opL (op : Op) : List Operand := match op with
  | .move x | .assign x | .box _ x | .load _ x | .nilCheck x | .unOp _ _ x | .convert _ _ x | .fieldAddr _ x _ | .field _ x _ | .extract x _ => [x]
  | .pick c a b => [c, a, b]
  | .store _ a v | .binOp _ _ a v _ | .indexAddr _ a v | .index _ a v => [a, v]
  | .alloc _ => []
  | .call c => lapp (match c.callee with | .value f => [f] | .invoke r _ => [r] | .builtin _ => []) c.args.toList
  | op => op.operands.toList
theorem opL_eq (op : Op) : opL op = op.operands.toList := by
  cases op <;> try rfl
  rename_i c
  obtain ⟨cal, a, t⟩ := c
  cases cal <;> simp [opL, Op.operands, Call.operands, lapp_eq]
noncomputable def slotsOKF (ops : List Oper) (an : List (List Nat)) : Bool :=
  allI (fun o i => bc (ob true (fun g => bc (isAncF an i g.1) (ob false (fun p => ob false (fun _ => true) p.dst) (lnth ops g.1)) false) o.guard)
    (allI (fun p j => bc (Nat.beq i j) true (ob true (fun d => bc (ob true (fun a => bnot (Nat.beq a d)) o.dst) (bc (lhas (tmpL (opL o.op)) d) (bc (isAncF an i j) true (isAncF an j i)) true) false) p.dst)) ops 0) false) ops 0
theorem slotsOKF_eq (ops : List Oper) (an : List (List Nat)) : slotsOKF ops an = slotsOK ops an := by
  unfold slotsOKF slotsOK
  rw [allI_eq]
  congr 1
  funext ⟨o, i⟩
  simp only [bc_and, bc_or, isAncF_eq]
  congr 1
  · obtain ⟨dst, op, ty, pos, after, guard⟩ := o
    cases guard with
    | none => rfl
    | some g =>
      show (isAnc an i g.1 && ob false (fun p => ob false (fun _ => true) p.dst) (lnth ops g.1)) = _
      rw [lnth_eq]
      congr 1
      cases ops[g.1]? with
      | none => rfl
      | some p =>
        show ob false (fun _ => true) p.dst = (p.dst).isSome
        cases p.dst <;> rfl
  · rw [allI_eq]
    congr 1
    funext ⟨p, j⟩
    show (Nat.beq i j || _) = (i == j || _)
    rw [beqN]
    congr 1
    obtain ⟨dst, op, ty, pos, after, guard⟩ := p
    cases dst with
    | none => rfl
    | some d =>
      show (ob true (fun a => bnot (Nat.beq a d)) o.dst && bc (lhas (tmpL (opL o.op)) d) (isAnc an i j || isAnc an j i) true) = (o.dst != some d && (!(tmpsOf o).contains d || isAnc an i j || isAnc an j i))
      congr 1
      · cases o.dst with
        | none => rfl
        | some a =>
          show bnot (Nat.beq a d) = !(some a == some d)
          rw [Option.some_beq_some, beqN]
          cases Nat.beq a d <;> rfl
      · rw [lhas_eq, tmpL_eq, opL_eq, Bool.or_assoc]
        show bc ((tmpsOf o).contains d) _ _ = _
        cases (tmpsOf o).contains d <;> rfl
noncomputable def chainF (an : List (List Nat)) (l : List Nat) : Bool := List.rec (motive := fun _ => Bool) true (fun e rest ih => List.rec (motive := fun _ => Bool) true (fun f _ _ => bc (isAncF an f e) ih false) rest) l
theorem chainF_eq (an : List (List Nat)) : ∀ l, chainF an l = chainOK an l
  | [] => rfl
  | [e] => rfl
  | e :: f :: rest => by
    show bc (isAncF an f e) (chainF an (f :: rest)) false = _
    rw [chainF_eq an (f :: rest), isAncF_eq, bc_and]; rfl
noncomputable def effsF (ops : List Oper) : List Nat := filtI (fun o _ => effBF E o.op) ops 0
theorem effsF_eq (ops : List Oper) : effsF E ops = effsOf E ops := by
  unfold effsF effsOf; rw [filtI_eq]; simp only [effBF_eq]
noncomputable def rankF (effs : List Nat) (an : List (List Nat)) (i : Nat) : Nat := lcount (fun e => isAncF an i e) effs
theorem rankF_eq (effs : List Nat) (an : List (List Nat)) (i : Nat) : rankF effs an i = rank effs an i := by
  unfold rankF rank; rw [lcount_eq]; simp only [isAncF_eq]
noncomputable def groupF (ops : List Oper) (effs : List Nat) (an : List (List Nat)) (k : Nat) : List Nat :=
  lapp (filtI (fun o i => bc (effBF E o.op) false (Nat.beq (rankF effs an i) k)) ops 0) (ob [] (fun x => [x]) (lnth effs k))
theorem groupF_eq (ops : List Oper) (effs : List Nat) (an : List (List Nat)) (k : Nat) : groupF E ops effs an k = group E ops effs an k := by
  unfold groupF group
  rw [lapp_eq, filtI_eq, lnth_eq]
  congr 1
  · congr 1
    congr 1
    funext ⟨o, i⟩
    show bc (effBF E o.op) false (Nat.beq (rankF effs an i) k) = (!effB E o.op && (rank effs an i == k))
    rw [effBF_eq, rankF_eq, beqN]; cases effB E o.op <;> rfl
  · cases effs[k]? <;> rfl
noncomputable def groupsF (ops : List Oper) (effs : List Nat) (an : List (List Nat)) (n : Nat) : Nat → List Nat :=
  Nat.rec (motive := fun _ => Nat → List Nat) (fun _ => []) (fun _ ih k => lapp (groupF E ops effs an k) (canon (Nat.add k 1) ih)) n
theorem groupsF_eq (ops : List Oper) (effs : List Nat) (an : List (List Nat)) : ∀ n k, groupsF E ops effs an n k = groupsFrom E ops effs an n k
  | 0, _ => rfl
  | n + 1, k => by
    show lapp (groupF E ops effs an k) (canon (k + 1) (groupsF E ops effs an n)) = _
    rw [canon_eq, groupsF_eq ops effs an n, lapp_eq, groupF_eq]; rfl
noncomputable def latestF (effs : List Nat) (an : List (List Nat)) (i : Nat) : Nat := lwhile (fun e => bnot (isAncF an e i)) effs
theorem latestF_eq (effs : List Nat) (an : List (List Nat)) (i : Nat) : latestF effs an i = latest effs an i := by
  unfold latestF latest; rw [lwhile_eq]; congr 2; funext e; rw [isAncF_eq]; cases isAnc an e i <;> rfl
noncomputable def rangeF (n : Nat) : List Nat → List Nat := Nat.rec (motive := fun _ => List Nat → List Nat) (fun l => l) (fun m ih l => ih (m :: l)) n
theorem rangeF_eq : ∀ n l, rangeF n l = List.range.loop n l
  | 0, _ => rfl
  | n + 1, l => rangeF_eq n (n :: l)
noncomputable def orderF (ops : List Oper) (an : List (List Nat)) (effs : List Nat) (l : List Nat) : List Nat → Nat → Bool :=
  List.rec (motive := fun _ => List Nat → Nat → Bool) (fun seen k => bc (lall (fun i => lhas seen i) (rangeF (llen ops) [])) (Nat.beq k (llen effs)) false)
    (fun i _ ih seen k => bc (Nat.ble (Nat.add i 1) (llen ops)) (bc (lhas seen i) false (bc (lall (fun j => lhas seen j) (lgetD an i []))
      (bc (ob (effBF E (default : Oper).op) (fun o => effBF E o.op) (lnth ops i)) (bc (ob false (fun e => Nat.beq e i) (lnth effs k)) (canon (Nat.add k 1) (ih (i :: seen))) false)
        (bc (Nat.beq (rankF effs an i) k) (ih (i :: seen) k) false)) false)) false) l
theorem orderF_eq (ops : Array Oper) (an : List (List Nat)) (effs : List Nat) : ∀ l seen k, orderF E ops.toList an effs l seen k = orderOK E ops an effs l seen k
  | [], seen, k => by
    show bc (lall (fun i => lhas seen i) (rangeF (llen ops.toList) [])) (Nat.beq k (llen effs)) false = _
    rw [bc_and, lall_eq, rangeF_eq, llen_eq, llen_eq]
    simp only [lhas_eq]
    unfold orderOK
    rw [beqN, Array.length_toList]
    rfl
  | i :: rest, seen, k => by
    show bc (Nat.ble (i + 1) (llen ops.toList)) (bc (lhas seen i) false (bc (lall (fun j => lhas seen j) (lgetD an i []))
      (bc (ob (effBF E (default : Oper).op) (fun o => effBF E o.op) (lnth ops.toList i)) (bc (ob false (fun e => Nat.beq e i) (lnth effs k)) (canon (k + 1) (orderF E ops.toList an effs rest (i :: seen))) false)
        (bc (Nat.beq (rankF effs an i) k) (orderF E ops.toList an effs rest (i :: seen) k) false)) false)) false = _
    rw [canon_eq, orderF_eq ops an effs rest, orderF_eq ops an effs rest, lall_eq, lgetD_eq, lhas_eq, rankF_eq, llen_eq]
    simp only [lhas_eq]
    rw [show ob (effBF E (default : Oper).op) (fun o => effBF E o.op) (lnth ops.toList i) = effB E ((ops.getD i default).op) by
      rw [lnth_eq, effBF_eq]
      rw [show ops.getD i default = (ops.toList[i]?).getD default by rw [Array.getElem?_toList, Array.getD_eq_getD_getElem?]]
      cases ops.toList[i]? with
      | none => rfl
      | some o => exact effBF_eq E o.op]
    rw [show ob false (fun e => Nat.beq e i) (lnth effs k) = (effs[k]? == some i) by rw [lnth_eq]; cases effs[k]? with
      | none => rfl
      | some e => rw [Option.some_beq_some, beqN]; rfl]
    rw [orderOK, decide_lt]
    simp only [bc_and]
    rw [← beqN (rank effs an i) k, show ops.toList.length = ops.size from Array.length_toList]
    rw [bc_eq, bc_eq]
    show (Nat.ble (i + 1) ops.size && (bif List.contains seen i then false else _)) = _
    unfold ancOf
    cases Nat.ble (i + 1) ops.size <;> cases List.contains seen i <;> cases (an.getD i []).all (fun j => List.contains seen j) <;> cases effB E ((ops.getD i default).op) <;> rfl
noncomputable def nin (x : Nat) (l : List Nat) : Bool := List.rec (motive := fun _ => Bool) true (fun y _ ih => bc (Nat.beq x y) false ih) l
noncomputable def nodupF (l : List Nat) : Bool := List.rec (motive := fun _ => Bool) true (fun x tl ih => bc (nin x tl) ih false) l
theorem nin_eq (x : Nat) (l : List Nat) : nin x l = !l.contains x := by
  induction l with
  | nil => rfl
  | cons y tl ih =>
    show bc (Nat.beq x y) false (nin x tl) = _
    rw [ih, List.contains_cons, beqN]
    cases Nat.beq x y <;> rfl
theorem nodupF_eq : ∀ l, nodupF l = nodup l
  | [] => rfl
  | x :: tl => by
    show bc (nin x tl) (nodupF tl) false = _
    rw [nodupF_eq tl, nin_eq, bc_and]; rfl
/-- the parts of a plan, one after the other -/
noncomputable def planK {R : Type} (ops : Array Oper) (k : Plan → R) (d : R) : R :=
  lforce ops.toList fun l => lforce (ancsF l []) fun an => lforce (effsF E l) fun effs => lforce (groupsF E l effs an (Nat.add (llen effs) 1) 0) fun order =>
  bc (edgesOKF l an) (bc (slotsOKF l an) (bc (chainF an effs) (bc (nodupF effs) (bc (orderF E l an effs order [] 0) (k ⟨an, effs, order⟩) d) d) d) d) d
theorem planK_eq {R : Type} (ops : Array Oper) (k : Plan → R) (d : R) : planK E ops k d = match planOf E ops with | some pl => k pl | none => d := by
  unfold planK planOf
  simp only [lforce_eq, ancsF_eq, effsF_eq, groupsF_eq, edgesOKF_eq, slotsOKF_eq, chainF_eq, nodupF_eq, orderF_eq, llen_eq]
  generalize edgesOK ops.toList (ancs ops.toList []) = a
  generalize slotsOK ops.toList (ancs ops.toList []) = b
  generalize chainOK (ancs ops.toList []) (effsOf E ops.toList) = c
  generalize nodup (effsOf E ops.toList) = e
  show bc a (bc b (bc c (bc e (bc (orderOK E ops _ _ (groupsFrom E ops.toList _ _ ((effsOf E ops.toList).length + 1) 0) [] 0) _ d) d) d) d) d = _
  generalize orderOK E ops (ancs ops.toList []) (effsOf E ops.toList) (groupsFrom E ops.toList (effsOf E ops.toList) (ancs ops.toList []) ((effsOf E ops.toList).length + 1) 0) [] 0 = f
  cases a <;> cases b <;> cases c <;> cases e <;> cases f <;> rfl
end Go.Ab.Fa
