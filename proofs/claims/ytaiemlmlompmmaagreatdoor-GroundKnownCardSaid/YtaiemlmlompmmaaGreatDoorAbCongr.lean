/-
  AN OPERATION LOOKS AT ITS OPERANDS ALONE.
-/
import Derived.Test.YtaiemlmlompmmaaGreatDoorAbOpS
namespace Go.Ab
variable {E : Env}

/-- two frames that say the same of an operation's operands -/
def Agree (E : Env) (ts ts' : List AV) (op : Op) : Prop := ∀ x ∈ op.operands, evs E ts x = evs E ts' x

theorem mapAll_congr {α β : Type} {f g : α → Option β} : ∀ {l : List α} (_ : ∀ x ∈ l, f x = g x), mapAll f l = mapAll g l
  | [], _ => rfl
  | x :: xs, h => by simp only [mapAll, h x (by simp), mapAll_congr (l := xs) (fun y hy => h y (by simp [hy]))]
theorem evAll_congr {ts ts' : List AV} {l : List Operand} (h : ∀ x ∈ l, evs E ts x = evs E ts' x) : evAll E ts l = evAll E ts' l := mapAll_congr h
theorem partsA_congr {ts ts' : List AV} : ∀ {l : List (Nat × Operand)} (_ : ∀ x ∈ l.map (·.2), evs E ts x = evs E ts' x), partsA E ts l = partsA E ts' l
  | [], _ => rfl
  | (i, o) :: l, h => by simp only [partsA, h o (by simp), partsA_congr (l := l) (fun y hy => h y (by simp at hy ⊢; exact .inr hy))]
theorem optOp_congr {ts ts' : List AV} {o : Option Operand} (h : ∀ x ∈ o.toArray, evs E ts x = evs E ts' x) : optOp E ts o = optOp E ts' o := by
  cases o with
  | none => rfl
  | some o => simp only [optOp, h o (by simp)]
theorem callee_congr {ts ts' : List AV} {c : Call} (h : ∀ x ∈ c.operands, evs E ts x = evs E ts' x) : callee E ts c = callee E ts' c := by
  unfold callee
  cases hc : c.callee with
  | value f =>
    have h1 : evs E ts f = evs E ts' f := h f (by simp [Call.operands, hc])
    have h2 : evAll E ts c.args.toList = evAll E ts' c.args.toList := evAll_congr (fun x hx => h x (by simp [Call.operands, hc]; exact .inr (by simpa using hx)))
    simp only [h1, h2]
  | invoke _ _ => rfl
  | builtin _ => rfl

theorem call_args_congr {ts ts' : List AV} {c : Call} (h : ∀ x ∈ c.operands, evs E ts x = evs E ts' x) : evAll E ts c.args.toList = evAll E ts' c.args.toList :=
  evAll_congr (fun x hx => h x (by simp [Call.operands]; exact .inr (by simpa using hx)))

theorem pureA_congr {ts ts' : List AV} {op : Op} (h : Agree E ts ts' op) : pureA E ts op = pureA E ts' op := by
  cases op with
  | call c =>
    have hc := call_args_congr (E := E) (ts := ts) (ts' := ts') (c := c) h
    obtain ⟨callee, args, argTypes⟩ := c
    simp only at hc
    cases callee with
    | builtin b => cases b <;> simp only [pureA, hc]
    | value f => cases f <;> simp only [pureA, hc]
    | invoke r m => simp only [pureA]
  | build t ps =>
    have : partsA E ts ps.toList = partsA E ts' ps.toList := partsA_congr (fun x hx => h x (by simpa [Op.operands] using hx))
    simp only [pureA, this]
  | makeFunc fn first captured =>
    cases fn with
    | func f =>
      have h1 : evAll E ts first.toList = evAll E ts' first.toList := evAll_congr (fun x hx => h x (by simp [Op.operands]; exact .inl (by simpa using hx)))
      have h2 : evAll E ts captured.toList = evAll E ts' captured.toList := evAll_congr (fun x hx => h x (by simp [Op.operands]; exact .inr (by simpa using hx)))
      simp only [pureA, h1, h2]
    | _ => simp only [pureA]
  | slice t x lo hi mx =>
    have h0 : evs E ts x = evs E ts' x := h x (by simp [Op.operands])
    have h1 : optOp E ts lo = optOp E ts' lo := optOp_congr (fun y hy => h y (by simp [Op.operands] at hy ⊢; exact .inr (.inl hy)))
    have h2 : optOp E ts hi = optOp E ts' hi := optOp_congr (fun y hy => h y (by simp [Op.operands] at hy ⊢; exact .inr (.inr (.inl hy))))
    have h3 : optOp E ts mx = optOp E ts' mx := optOp_congr (fun y hy => h y (by simp [Op.operands] at hy ⊢; exact .inr (.inr (.inr hy))))
    simp only [pureA, h0, h1, h2, h3]
  | move x => simp only [pureA, h x (by simp [Op.operands])]
  | assign x => simp only [pureA, h x (by simp [Op.operands])]
  | pick c a b => simp only [pureA, h c (by simp [Op.operands]), h a (by simp [Op.operands]), h b (by simp [Op.operands])]
  | nilCheck x => simp only [pureA, h x (by simp [Op.operands])]
  | binOp o t x y u => simp only [pureA, h x (by simp [Op.operands]), h y (by simp [Op.operands])]
  | unOp o t x => simp only [pureA, h x (by simp [Op.operands])]
  | convert s d x => simp only [pureA, h x (by simp [Op.operands])]
  | makeInterface t x => simp only [pureA, h x (by simp [Op.operands])]
  | fieldAddr s x f => simp only [pureA, h x (by simp [Op.operands])]
  | field s x f => simp only [pureA, h x (by simp [Op.operands])]
  | indexAddr t x i => simp only [pureA, h x (by simp [Op.operands]), h i (by simp [Op.operands])]
  | index t x i => simp only [pureA, h x (by simp [Op.operands]), h i (by simp [Op.operands])]
  | extract x i => simp only [pureA, h x (by simp [Op.operands])]
  | typeAssert x a b ok => simp only [pureA, h x (by simp [Op.operands])]
  | _ => simp only [pureA]

theorem readA_congr {ts ts' : List AV} {op : Op} (h : Agree E ts ts' op) (hp : Heap) : readA E ts hp op = readA E ts' hp op := by
  cases op with
  | call c =>
    have hc := call_args_congr (E := E) (ts := ts) (ts' := ts') (c := c) h
    obtain ⟨callee, args, argTypes⟩ := c
    simp only at hc
    cases callee with
    | builtin b => cases b <;> simp only [readA, hc]
    | value f => simp only [readA]
    | invoke r m => simp only [readA]
  | load t a => simp only [readA, h a (by simp [Op.operands])]
  | convert s d x => simp only [readA, h x (by simp [Op.operands])]
  | lookup t x i ok => simp only [readA, h x (by simp [Op.operands]), h i (by simp [Op.operands])]
  | _ => simp only [readA]

theorem allocA_congr {ts ts' : List AV} {op : Op} (h : Agree E ts ts' op) : allocA E ts op = allocA E ts' op := by
  cases op with
  | buildSlice t n ps =>
    have : partsA E ts ps.toList = partsA E ts' ps.toList := partsA_congr (fun x hx => h x (by simpa [Op.operands] using hx))
    simp only [allocA, this]
  | box t x => simp only [allocA, h x (by simp [Op.operands])]
  | makeSlice t l c => simp only [allocA, h l (by simp [Op.operands]), h c (by simp [Op.operands])]
  | makeMap t r =>
    cases r with
    | none => simp only [allocA]
    | some r => simp only [allocA, h r (by simp [Op.operands])]
  | range t x => simp only [allocA, h x (by simp [Op.operands])]
  | _ => simp only [allocA]

theorem effA_congr {call : CallF} {ts ts' : List AV} {o : Oper} (h : Agree E ts ts' o.op) (hp : Heap) (rc : RC) : effA E call ts hp rc o = effA E call ts' hp rc o := by
  obtain ⟨dst, op, ty, pos, after, guard⟩ := o
  simp only at h
  unfold effA
  cases op with
  | call c =>
    have hc := call_args_congr (E := E) (ts := ts) (ts' := ts') (c := c) h
    have hcal := callee_congr (E := E) (ts := ts) (ts' := ts') (c := c) h
    cases hcc : c.callee with
    | invoke r name =>
      have hr : evs E ts r = evs E ts' r := h r (by simp [Op.operands, Call.operands, hcc])
      simp only [hcc, hc, hr]
    | builtin b => cases b <;> simp only [hcc, hc]
    | value f => simp only [hcc, hcal]
  | defer c => simp only [callee_congr (E := E) (ts := ts) (ts' := ts') (c := c) h]
  | store t a x => simp only [h a (by simp [Op.operands]), h x (by simp [Op.operands])]
  | mapUpdate t m k x => simp only [h m (by simp [Op.operands]), h k (by simp [Op.operands]), h x (by simp [Op.operands])]
  | insert t m k x => simp only [h m (by simp [Op.operands]), h k (by simp [Op.operands]), h x (by simp [Op.operands])]
  | convert s d x => simp only [h x (by simp [Op.operands])]
  | next i s => simp only [h i (by simp [Op.operands])]
  | panic x => simp only [h x (by simp [Op.operands])]
  | _ => rfl

end Go.Ab
