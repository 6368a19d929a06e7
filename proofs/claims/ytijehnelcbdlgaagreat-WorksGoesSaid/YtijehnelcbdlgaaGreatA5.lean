import Derived.Shelf.Strings.OnBuilder
import Derived.Shelf.SlSortCmp.WholeK
import Derived.Shelf.SlSortCmp.NoneTotal
import Derived.Sort.AssemblyPlain
import Derived.Test.YtijehnelcbdlgaaGreatA4
set_option linter.unusedVariables false
set_option linter.unusedSimpArgs false
section
namespace Go.Ab
variable {E:Env} {call:b8}
def Ev (E:Env) (call:b8) (c:Code) (s:St) (e:oP) (s':St):Prop:=∃n0,∀n,n0≤n→exec E call n c s= .ok e s'
theorem Ev.of {c:Code} {s:St} {e:oP} {s':St} (h:∀n,exec E call (n+1) c s= .ok e s'):Ev E call c s e s':=⟨1,fun n hn=>by
 obtain ⟨k,rfl⟩:∃k,n=k+1:=⟨n - 1,by omega⟩
 exact h k⟩
theorem Ev.seq {a b:Code} {s s1 s':St} {e:oP} (h1:Ev E call a s .normal s1) (h2:Ev E call b s1 e s'):Ev E call (.seq a b) s e s':=by
 obtain ⟨n1,h1⟩:=h1
 obtain ⟨n2,h2⟩:=h2
 refine ⟨n1+n2+1,fun n hn=>?_⟩
 obtain ⟨k,rfl⟩:∃k,n=k+1:=⟨n - 1,by omega⟩
 rw[aik,h1 k (by omega),Gl]
 exact h2 k (by omega)
theorem Ev.seq' {a b:Code} {s s':St} {e:oP} (he:e≠ .normal) (h1:Ev E call a s e s'):Ev E call (.seq a b) s e s':=by
 obtain ⟨n1,h1⟩:=h1
 refine ⟨n1+1,fun n hn=>?_⟩
 obtain ⟨k,rfl⟩:∃k,n=k+1:=⟨n - 1,by omega⟩
 rw[aik,h1 k (by omega)]
 cases e with
 | normal=>exact absurd rfl he
 | _=>rfl
theorem Ev.loop {b:Code} {s s1 s':St} {e:oP} (h1:Ev E call b s .normal s1) (h2:Ev E call (.loop b) s1 e s'):Ev E call (.loop b) s e s':=by
 obtain ⟨n1,h1⟩:=h1
 obtain ⟨n2,h2⟩:=h2
 refine ⟨n1+n2+1,fun n hn=>?_⟩
 obtain ⟨k,rfl⟩:∃k,n=k+1:=⟨n - 1,by omega⟩
 rw[abe,h1 k (by omega),Gl]
 exact h2 k (by omega)
theorem Ev.exit {b:Code} {s s':St} {e:oP} (he:e≠ .normal) (h1:Ev E call b s e s'):Ev E call (.loop b) s e s':=by
 obtain ⟨n1,h1⟩:=h1
 refine ⟨n1+1,fun n hn=>?_⟩
 obtain ⟨k,rfl⟩:∃k,n=k+1:=⟨n - 1,by omega⟩
 rw[abe,h1 k (by omega)]
 cases e with
 | normal=>exact absurd rfl he
 | _=>rfl
theorem Ev.ret {b:Code} {s s':St} (h1:Ev E call b s .ret s'):Ev E call (.loop b) s .ret s':=Ev.exit (by simp) h1
theorem Ev.out {b:Code} {s s':St} {i:Nat} (h1:Ev E call b s (.exit i) s'):Ev E call (.loop b) s (.exit i) s':=Ev.exit (by simp) h1
inductive rX where
 | c
 | v (x:AV)
 | q (x:AV)
 | m (x:AV)
 | n (h:az)
 | a (obj:aN) (x:AV) (h:az)
 | e (x:AV) (h:az)
 | p (x:AV) (h:az)
 | b (x:Bool)
 | l (e:oP) (s:St)
def pJ:List Prop→Prop
 | []=>True
 | p::ps=>p∧pJ ps
inductive R where
 | bad
 | at (e:oP) (s:St) (as_:List rX) (ps:List Prop)
def R.go (k:St→List rX→List Prop→R):R→R
 | .at .normal s as_ ps=>k s as_ ps
 | r=>r
theorem R.anl {k:St→List rX→List Prop→R} {r:R} {e:oP} {s:St} {as_:List rX} {ps:List Prop} (h:r.go k= .at e s as_ ps):(∃s1 zN xm,r= .at .normal s1 zN xm∧k s1 zN xm= .at e s as_ ps)∨(r= .at e s as_ ps∧e≠ .normal):=by
 unfold R.go at h
 split at h
 · exact .inl ⟨_,_,_,rfl,h⟩
 · rename_i gX
   refine .inr ⟨h,fun he=>?_⟩
   subst he;exact gX _ _ _ h
def anm (E:Env) (ts:List AV):List Operand→List TypeId→Option AV
 | [x],[t]=>EV (E.P.underlying t) (gn E ts x)
 | _,_=>none
def Gn (c a b:Option AV):Option AV:=match c with
 | some (.bool true)=>a
 | some (.bool false)=>b
 | _=>none
theorem afY {ts:List AV} (c a b:Operand):dY E ts (.pick c a b)=Gn (gn E ts c) (gn E ts a) (gn E ts b):=by
 simp only[dY]
 generalize gn E ts c=x
 cases x with
 | none=>rfl
 | some v=>cases v with
  | bool b=>cases b<;>rfl
  | _=>rfl
theorem abk {c:Bool} {a b:Option AV} (h:c=true):Gn (some (.bool c)) a b=a:=by rw[h];rfl
theorem dD {c:Bool} {a b:Option AV} (h:c=false):Gn (some (.bool c)) a b=b:=by rw[h];rfl
def afZ (E:Env) (ts:List AV) (op:Op):Option AV:=match op with
 | .indexAddr t x i=>hG E (E.P.underlying t) (gn E ts x) (gn E ts i)
 | .index t x i=>Bk E (E.P.underlying t) (gn E ts x) (gn E ts i)
 | .binOp op t x y _=>iK E op t (isConst x) (isConst y) (gn E ts x) (gn E ts y)
 | .pick c a b=>Gn (gn E ts c) (gn E ts a) (gn E ts b)
 | .call c=>match c.callee with
  | .builtin .len=>anm E ts c.args.toList c.argTypes.toList
  | _=>none
 | _=>none
theorem IL {α:Type} {a:Array α} {l:List α} (h:a.toList=l):a=l.toArray:=by rw[←h]
theorem Wk {ts:List AV} {op:Op} {v:AV} (e:afZ E ts op=some v):dY E ts op=some v:=by
 unfold afZ at e
 split at e
 · rw[←Q2] at e;exact e
 · rw[←afX] at e;exact e
 · rename_i o t x y t';exact (afO o t t' x y).trans e
 · rename_i c a b;exact (afY c a b).trans e
 · rename_i c
   obtain ⟨cl,args,tys⟩:=c
   simp only at e
   split at e
   · unfold anm at e
     split at e
     · rename_i x t hx ht
       rw[IL hx,IL ht]
       exact (ank x t).trans e
     · cases e
   · cases e
 · cases e
noncomputable def abl (E:Env) (ts:List AV) (h:az) (op:Op):Option AV:=match op with
 | .load t x=>opK (gn E ts x) (cX E h t) none
 | op=>kF E ts h op
theorem N' {ts:List AV} {h:az} {op:Op} {v:AV} (e:abl E ts h op=some v):kF E ts h op=some v:=by
 unfold abl at e
 split at e
 · rw[lX];exact e
 · exact e
def CH (E:Env) (d:Option TypeDesc) (l c:Option AV):Option (aN×(Nat→AV)):=match d,l,c with
 | some (.slice elem),some (.int _ len),some (.int _ cap)=>match dm E elem,jT E elem,kE E elem with
  | some n,some bytes,some z=>
   if 0≤len∧len≤cap∧cap<2^30∧(bytes:Int)*cap≤2^47∧z.cells.length=n then
    some (.cells (cB z.cells cap.toNat) elem false,fun i=> .slice i 0 len.toNat cap.toNat false)
   else none
  | _,_,_=>none
 | _,_,_=>none
def af0 (E:Env) (ts:List AV) (op:Op):Option (aN×(Nat→AV)):=match op with
 | .makeSlice t l c=>CH E (E.P.underlying t) (gn E ts l) (gn E ts c)
 | op=>jt E ts op
theorem Wl (ts:List AV) (op:Op):af0 E ts op=jt E ts op:=by
 unfold af0
 split
 · rename_i t l c
   simp only[jt]
   generalize E.P.underlying t=d
   generalize gn E ts l=x
   generalize gn E ts c=y
   rfl
 · rfl
noncomputable def af1 (E:Env) (call:b8) (ts:List AV) (h:az) (rc:RC) (o:Oper) (x:AV) (h':az):Prop:=match o.op with
 | .store t a v=>match gn E ts a,gn E ts v with
  | some a,some v=>x=AV.undef∧eS E h t a v=some h'
  | _,_=>False
 | .call c=>match c.callee with
  | .builtin .append=>match lq E ts c.args.toList with
   | some [s,y]=>cb E h c.argTypes s y=some (x,h')
   | _=>False
  | .builtin .copy=>match lq E ts c.args.toList with
   | some [s,y]=>L7 E h c.argTypes s y=some (x,h')
   | _=>False
  | .value _=>match callee E ts c with
   | some (f,args)=>match EA E f with
    | some g=>g args h=some (x,h')
    | none=>call f args h= .ret x h'
   | none=>False
  | _=>j4 E call ts h rc o= .val x h'
 | .convert src dst y=>Ql E h src dst (gn E ts y)=some (x,h')
 | .mapUpdate t m k y=>match gn E ts m,gn E ts k,gn E ts y with
  | some m,some k,some y=>x=AV.undef∧sH E h t m k y=some h'
  | _,_,_=>False
 | _=>j4 E call ts h rc o= .val x h'
theorem Wm {ts:List AV} {h:az} {rc:RC} {o:Oper} {x:AV} {h':az} (e:af1 E call ts h rc o x h'):j4 E call ts h rc o= .val x h':=by
 unfold af1 at e
 split at e
 · rename_i t a v ho
   split at e
   · rename_i a' v' h1 h2
     obtain ⟨rfl,e⟩:=e
     unfold j4
     simp only[ho,h1,h2,e]
   · exact e.elim
 · rename_i c ho
   split at e
   · rename_i hc
     split at e
     · rename_i h1
       unfold j4
       simp only[ho,hc,h1,e]
     · exact e.elim
   · rename_i hc
     split at e
     · rename_i h1
       unfold j4
       simp only[ho,hc,h1,e]
     · exact e.elim
   · rename_i hc
     split at e
     · rename_i h1
       split at e
       · rename_i h2
         unfold j4
         simp only[ho,hc,h1,h2,e]
       · rename_i h2
         unfold j4
         simp only[ho,hc,h1,h2,e]
     · exact e.elim
   · exact e
 · rename_i src dst y ho
   unfold j4
   simp only[ho,e]
 · rename_i t m k y ho
   split at e
   · rename_i m' k' y' h1 h2 h3
     obtain ⟨rfl,e⟩:=e
     unfold j4
     simp only[ho,h1,h2,h3,e]
   · exact e.elim
 · exact e
def Yw {β:Type} (k:List AV→β):List AV→Nat→AV→β
 | [],_,_=>k []
 | _::xs,0,v=>k (v::xs)
 | x::xs,d+1,v=>Yw (fun ys=>k (x::ys)) xs d v
theorem Oa {β:Type}:∀(k:List AV→β) (ts:List AV) (d:Nat) (v:AV),Yw k ts d v=k (ts.set d v)
 | k,[],_,_=>by simp [Yw]
 | k,_::xs,0,v=>rfl
 | k,x::xs,d+1,v=>by rw[Yw,Oa];rfl
def yA (s:St) (d:Option Tmp) (v:AV) (h:az) (as_:List rX) (ps:List Prop):R:=match d with
 | some i=>Yw (fun ts=> .at .normal ⟨ts,h,s.ds,s.rc⟩ as_ ps) s.ts i v
 | none=> .at .normal ⟨s.ts,h,s.ds,s.rc⟩ as_ ps
theorem qB (s:St) (d:Option Tmp) (v:AV) (h:az) (as_:List rX) (ps:List Prop):Go.Ab.yA s d v h as_ ps= .at .normal {s with ts:=gR s.ts d v,h:=h} as_ ps:=by
 cases d with
 | none=>rfl
 | some i=>exact Oa _ _ _ _
noncomputable def Q3 (E:Env) (call:b8) (o:Oper) (s:St) (as_:List rX) (ps:List Prop):R:=match as_ with
 | .c::as_=>match dY E s.ts o.op with
  | some v=>yA s o.dst v s.h as_ ps
  | none=> .bad
 | .v x::as_=>yA s o.dst x s.h as_ ((afZ E s.ts o.op=some x)::ps)
 | .q x::as_=>yA s o.dst x s.h as_ ((dY E s.ts o.op=some x)::ps)
 | .m x::as_=>match dY E s.ts o.op with
  | none=>yA s o.dst x s.h as_ ((abl E s.ts s.h o.op=some x)::ps)
  | some _=> .bad
 | .n h'::as_=>match dY E s.ts o.op,kF E s.ts s.h o.op,jt E s.ts o.op with
  | none,none,some (obj,mk)=>yA s o.dst (mk s.h.nx) h' as_ ((s.h.new obj=some h')::ps)
  | _,_,_=> .bad
 | .a obj x h'::as_=>match dY E s.ts o.op,kF E s.ts s.h o.op with
  | none,none=>yA s o.dst x h' as_ ((∃mk,af0 E s.ts o.op=some (obj,mk)∧mk s.h.nx=x)::(s.h.new obj=some h')::ps)
  | _,_=> .bad
 | .e x h'::as_=>match dY E s.ts o.op,kF E s.ts s.h o.op,jt E s.ts o.op with
  | none,none,none=>yA s o.dst x h' as_ (af1 E call s.ts s.h s.rc o x h'::ps)
  | _,_,_=> .bad
 | .p x h'::as_=>match dY E s.ts o.op,kF E s.ts s.h o.op,jt E s.ts o.op with
  | none,none,none=> .at (.panic x) {s with h:=h'} as_ ((j4 E call s.ts s.h s.rc o= .panic x h')::ps)
  | _,_,_=> .bad
 | _=> .bad
theorem Gp {o:Oper} {s:St} {as_:List rX} {ps:List Prop} {e:oP} {s':St} {Ce:List rX} {xM:List Prop} (hr:Q3 E call o s as_ ps= .at e s' Ce xM) (hp:pJ xM):pJ ps∧opA E call s o= .ok e s':=by
 have seen:∀{x:AV},(dY E s.ts o.op=some x∨(dY E s.ts o.op=none∧kF E s.ts s.h o.op=some x))→opA E call s o= .ok .normal {s with ts:=gR s.ts o.dst x}:=by
  rintro x (h | ⟨h1,h2⟩)<;>unfold opA
  · rw[h]
  · rw[h1,h2]
 unfold Q3 at hr
 split at hr
 · split at hr
   · rename_i v hv
     rw[qB] at hr;cases hr
     exact ⟨hp,seen (.inl hv)⟩
   · cases hr
 · rw[qB] at hr;cases hr
   exact ⟨hp.2,seen (.inl (Wk hp.1))⟩
 · rw[qB] at hr;cases hr
   exact ⟨hp.2,seen (.inl hp.1)⟩
 · split at hr
   · rename_i h1
     rw[qB] at hr;cases hr
     exact ⟨hp.2,seen (.inr ⟨h1,N' hp.1⟩)⟩
   · cases hr
 · split at hr
   · rename_i h1 h2 h3
     rw[qB] at hr;cases hr
     refine ⟨hp.2,?_⟩
     unfold opA
     simp only[h1,h2,h3,hp.1]
   · cases hr
 · split at hr
   · rename_i h1 h2
     rw[qB] at hr;cases hr
     obtain ⟨⟨mk,h3,h4⟩,h5,hp⟩:=hp
     rw[Wl] at h3
     refine ⟨hp,?_⟩
     unfold opA
     simp only[h1,h2,h3,h4,h5]
   · cases hr
 · split at hr
   · rename_i h1 h2 h3
     rw[qB] at hr;cases hr
     refine ⟨hp.2,?_⟩
     unfold opA
     simp only[h1,h2,h3,Wm hp.1]
   · cases hr
 · split at hr
   · rename_i h1 h2 h3
     cases hr
     refine ⟨hp.2,?_⟩
     unfold opA
     simp only[h1,h2,h3,hp.1]
   · cases hr
 · cases hr
inductive Gd where
 | yes
 | no
 | ask (v want:Bool)
def Q4 (want:Bool):Option AV→Gd
 | some (.bool v)=> .ask v want
 | _=> .no
def Ob (ops:Array Oper) (ts:List AV) (g:Option (Nat×Bool)):Gd:=match g with
 | none=> .yes
 | some (j,want)=>match (ops[j]?).bind (·.dst) with
  | none=> .no
  | some d=>Q4 want ts[d]?
theorem Mr (ops:Array Oper) (ts:List AV) (o:Oper):fA ops ts o=(match Ob ops ts o.guard with
 | .yes=>true
 | .no=>false
 | .ask v want=>v==want):=by
 unfold fA Ob
 cases o.guard with
 | none=>rfl
 | some q=>
  obtain ⟨j,want⟩:=q
  simp only
  cases (ops[j]?).bind (·.dst) with
  | none=>rfl
  | some d=>
   simp only
   generalize ts[d]? =y
   unfold Q4
   cases y with
   | none=>rfl
   | some z=>cases z<;>rfl
noncomputable def uq (E:Env) (call:b8) (ops:Array Oper):List Oper→St→List rX→List Prop→R
 | [],s,as_,ps=> .at .normal s as_ ps
 | o::rest,s,as_,ps=>match Ob ops s.ts o.guard with
  | .yes=>(Q3 E call o s as_ ps).go (uq E call ops rest)
  | .no=>(yA s o.dst AV.undef s.h as_ ps).go (uq E call ops rest)
  | .ask v want=>match as_ with
   | .b x::as_=>bif x==want then (Q3 E call o s as_ ((v=x)::ps)).go (uq E call ops rest) else (yA s o.dst AV.undef s.h as_ ((v=x)::ps)).go (uq E call ops rest)
   | _=> .bad
theorem CI {ops:Array Oper}:∀(l:List Oper) (s:St) (as_:List rX) (ps:List Prop) (e:oP) (s':St) (Ce:List rX) (xM:List Prop),uq E call ops l s as_ ps= .at e s' Ce xM→pJ xM→pJ ps∧EB E call ops l s= .ok e s'
 | [],s,as_,ps,e,s',Ce,xM,hr,hp=>by cases hr;exact ⟨hp,rfl⟩
 | o::rest,s,as_,ps,e,s',Ce,xM,hr,hp=>by
  have ih:=CI (ops:=ops) rest
  have ajw:∀(zN:List rX) (xm:List Prop),(Q3 E call o s zN xm).go (uq E call ops rest)= .at e s' Ce xM→pJ xm∧(fA ops s.ts o=true→EB E call ops (o::rest) s= .ok e s'):=by
   intro zN xm h
   rcases R.anl h with ⟨s1,as2,ps2,h1,h2⟩ | ⟨h1,gX⟩
   · obtain ⟨h3,h4⟩:=ih _ _ _ _ _ _ _ h2 hp
     obtain ⟨h5,h6⟩:=Gp h1 h3
     refine ⟨h5,fun hw=>?_⟩
     unfold EB
     rw[if_pos hw,h6];exact h4
   · obtain ⟨h5,h6⟩:=Gp h1 hp
     refine ⟨h5,fun hw=>?_⟩
     unfold EB
     rw[if_pos hw,h6]
     cases e with
     | normal=>exact absurd rfl gX
     | _=>rfl
  have ajx:∀(zN:List rX) (xm:List Prop),(yA s o.dst AV.undef s.h zN xm).go (uq E call ops rest)= .at e s' Ce xM→pJ xm∧(fA ops s.ts o=false→EB E call ops (o::rest) s= .ok e s'):=by
   intro zN xm h
   rw[qB] at h
   obtain ⟨h3,h4⟩:=ih _ _ _ _ _ _ _ (show uq E call ops rest _ zN xm=_ from h) hp
   refine ⟨h3,fun hw=>?_⟩
   unfold EB
   rw[if_neg (by rw[hw];exact Bool.false_ne_true)]
   exact h4
  have hg:=Mr ops s.ts o
  unfold uq at hr
  split at hr
  · rename_i h1;rw[h1] at hg;exact ⟨(ajw _ _ hr).1,(ajw _ _ hr).2 hg⟩
  · rename_i h1;rw[h1] at hg;exact ⟨(ajx _ _ hr).1,(ajx _ _ hr).2 hg⟩
  · rename_i v want h1
    rw[h1] at hg
    split at hr
    · rename_i x zN
      cases hx:x==want with
      | true=>
       rw[hx] at hr
       obtain ⟨⟨h2,h3⟩,h4⟩:=ajw _ _ hr
       exact ⟨h3,h4 (by rw[hg,h2];exact hx)⟩
      | false=>
       rw[hx] at hr
       obtain ⟨⟨h2,h3⟩,h4⟩:=ajx _ _ hr
       exact ⟨h3,h4 (by rw[hg,h2];exact hx)⟩
    · cases hr
inductive RT where
 | bad
 | ok (tr:List Step) (hs:List az) (s:St) (as_:List rX) (ps:List Prop)
def RT.step (x:Step):RT→RT
 | .ok tr hs s as_ ps=> .ok (x::tr) hs s as_ ps
 | .bad=> .bad
def RT.bound (x:Step) (h:az):RT→RT
 | .ok tr hs s as_ ps=> .ok (x::tr) (h::hs) s as_ ps
 | .bad=> .bad
def RT.put (s:St) (d:Option Tmp) (v:AV) (h:az) (k:St→RT):RT:=match d with
 | some i=>Yw (fun ts=>k ⟨ts,h,s.ds,s.rc⟩) s.ts i v
 | none=>k ⟨s.ts,h,s.ds,s.rc⟩
theorem RT.put_eq (s:St) (d:Option Tmp) (v:AV) (h:az) (k:St→RT):RT.put s d v h k=k {s with ts:=gR s.ts d v,h:=h}:=by
 cases d with
 | none=>rfl
 | some i=>exact Oa _ _ _ _
noncomputable def Q5 (E:Env) (call:b8) (i k:Nat) (o:Oper) (s:St) (as_:List rX) (ps:List Prop) (go:Nat→St→List rX→List Prop→RT):RT:=match as_ with
 | .e x h'::as_=>(RT.put s o.dst x h' fun s'=>go (k+1) s' as_ (af1 E call s.ts s.h s.rc o x h'::ps)).bound ⟨i,k,s.ts,x,.V9 h'⟩ s.h
 | _=> .bad
noncomputable def Q6 (E:Env) (i k:Nat) (o:Oper) (s:St) (as_:List rX) (ps:List Prop) (go:Nat→St→List rX→List Prop→RT):RT:=match as_ with
 | .c::as_=>match dY E s.ts o.op with
  | some v=>(RT.put s o.dst v s.h fun s'=>go k s' as_ ps).step ⟨i,k,s.ts,v,.pur⟩
  | none=> .bad
 | .v x::as_=>(RT.put s o.dst x s.h fun s'=>go k s' as_ ((afZ E s.ts o.op=some x)::ps)).step ⟨i,k,s.ts,x,.pur⟩
 | .q x::as_=>(RT.put s o.dst x s.h fun s'=>go k s' as_ ((dY E s.ts o.op=some x)::ps)).step ⟨i,k,s.ts,x,.pur⟩
 | .m x::as_=>match dY E s.ts o.op with
  | none=>(RT.put s o.dst x s.h fun s'=>go k s' as_ ((abl E s.ts s.h o.op=some x)::ps)).step ⟨i,k,s.ts,x,.red⟩
  | some _=> .bad
 | .n h'::as_=>match dY E s.ts o.op,kF E s.ts s.h o.op,jt E s.ts o.op with
  | none,none,some (obj,mk)=>(RT.put s o.dst (mk s.h.nx) h' fun s'=>go k s' as_ ((s.h.new obj=some h')::ps)).step ⟨i,k,s.ts,mk s.h.nx,.V8 s.h.nx obj⟩
  | _,_,_=> .bad
 | .a obj x h'::as_=>match dY E s.ts o.op,kF E s.ts s.h o.op with
  | none,none=>(RT.put s o.dst x h' fun s'=>go k s' as_ ((∃mk,af0 E s.ts o.op=some (obj,mk)∧mk s.h.nx=x)::(s.h.new obj=some h')::ps)).step ⟨i,k,s.ts,x,.V8 s.h.nx obj⟩
  | _,_=> .bad
 | _=> .bad
noncomputable def runT (E:Env) (call:b8) (ops:Array Oper):List Nat→Nat→St→List rX→List Prop→RT
 | [],_,s,as_,ps=> .ok [] [s.h] s as_ ps
 | i::rest,k,s,as_,ps=>match ops[i]? with
  | none=> .bad
  | some o=>match Ob ops s.ts o.guard with
   | .yes=>bif kI E o.op then Q5 E call i k o s as_ ps (runT E call ops rest) else Q6 E i k o s as_ ps (runT E call ops rest)
   | .no=>bif kI E o.op then (RT.put s o.dst AV.undef s.h fun s'=>runT E call ops rest (k+1) s' as_ ps).bound ⟨i,k,s.ts,AV.undef,.off⟩ s.h else (RT.put s o.dst AV.undef s.h fun s'=>runT E call ops rest k s' as_ ps).step ⟨i,k,s.ts,AV.undef,.off⟩
   | .ask v want=>match as_ with
    | .b x::as_=>bif x==want then (bif kI E o.op then Q5 E call i k o s as_ ((v=x)::ps) (runT E call ops rest) else Q6 E i k o s as_ ((v=x)::ps) (runT E call ops rest))
     else (bif kI E o.op then (RT.put s o.dst AV.undef s.h fun s'=>runT E call ops rest (k+1) s' as_ ((v=x)::ps)).bound ⟨i,k,s.ts,AV.undef,.off⟩ s.h else (RT.put s o.dst AV.undef s.h fun s'=>runT E call ops rest k s' as_ ((v=x)::ps)).step ⟨i,k,s.ts,AV.undef,.off⟩)
    | _=> .bad
theorem RT.wg {x:Step} {r:RT} {tr:List Step} {hs:List az} {s:St} {as_:List rX} {ps:List Prop} (h:r.step x= .ok tr hs s as_ ps):∃tr',tr=x::tr'∧r= .ok tr' hs s as_ ps:=by
 cases r with
 | bad=>cases h
 | ok a b c d e=>cases h;exact ⟨_,rfl,rfl⟩
theorem RT.Q7 {x:Step} {g:az} {r:RT} {tr:List Step} {hs:List az} {s:St} {as_:List rX} {ps:List Prop} (h:r.bound x g= .ok tr hs s as_ ps):∃tr' uT,tr=x::tr'∧hs=g::uT∧r= .ok tr' uT s as_ ps:=by
 cases r with
 | bad=>cases h
 | ok a b c d e=>cases h;exact ⟨_,_,rfl,rfl,rfl⟩
theorem IM {ops:Array Oper}:∀(l:List Nat) (k:Nat) (s:St) (as_:List rX) (ps:List Prop) (tr:List Step) (hs:List az) (s':St) (Ce:List rX) (xM:List Prop),
 runT E call ops l k s as_ ps= .ok tr hs s' Ce xM→pJ xM→pJ ps∧fY E call ops l k s= .ok tr hs s'
 | [],k,s,as_,ps,tr,hs,s',Ce,xM,hr,hp=>by cases hr;exact ⟨hp,rfl⟩
 | i::rest,k,s,as_,ps,tr,hs,s',Ce,xM,hr,hp=>by
  have ih:=IM (ops:=ops) rest
  unfold runT at hr
  split at hr
  · cases hr
  rename_i o hi
  have hE:∀{zN:List rX} {xm:List Prop},kI E o.op=true→Q5 E call i k o s zN xm (runT E call ops rest)= .ok tr hs s' Ce xM→pJ xm∧(fA ops s.ts o=true→fY E call ops (i::rest) k s= .ok tr hs s'):=by
   intro zN xm he h
   unfold Q5 at h
   split at h
   · rename_i x h' as2
     rw[RT.put_eq] at h
     obtain ⟨tr1,Ax,rfl,rfl,h9⟩:=RT.Q7 h
     obtain ⟨h1,h2⟩:=ih _ _ _ _ _ _ _ _ _ h9 hp
     refine ⟨h1.2,fun hw=>?_⟩
     unfold fY
     simp only[hi,he,hw,if_true,Wm h1.1,h2]
     rfl
   · cases h
  have hN:∀{zN:List rX} {xm:List Prop},kI E o.op=false→Q6 E i k o s zN xm (runT E call ops rest)= .ok tr hs s' Ce xM→pJ xm∧(fA ops s.ts o=true→fY E call ops (i::rest) k s= .ok tr hs s'):=by
   intro zN xm he h
   unfold Q6 at h
   split at h
   · split at h
     · rename_i v hv
       rw[RT.put_eq] at h
       obtain ⟨tr1,rfl,h9⟩:=RT.wg h
       obtain ⟨h1,h2⟩:=ih _ _ _ _ _ _ _ _ _ h9 hp
       refine ⟨h1,fun hw=>?_⟩
       unfold fY
       simp only[hi,he,hw,if_true,hv,Bool.false_eq_true,if_false]
       rw[h2]
       rfl
     · cases h
   · rw[RT.put_eq] at h
     obtain ⟨tr1,rfl,h9⟩:=RT.wg h
     obtain ⟨h1,h2⟩:=ih _ _ _ _ _ _ _ _ _ h9 hp
     refine ⟨h1.2,fun hw=>?_⟩
     unfold fY
     simp only[hi,he,hw,if_true,Wk h1.1,Bool.false_eq_true,if_false]
     rw[h2]
     rfl
   · rw[RT.put_eq] at h
     obtain ⟨tr1,rfl,h9⟩:=RT.wg h
     obtain ⟨h1,h2⟩:=ih _ _ _ _ _ _ _ _ _ h9 hp
     refine ⟨h1.2,fun hw=>?_⟩
     unfold fY
     simp only[hi,he,hw,if_true,h1.1,Bool.false_eq_true,if_false]
     rw[h2]
     rfl
   · split at h
     · rename_i hv
       rw[RT.put_eq] at h
       obtain ⟨tr1,rfl,h9⟩:=RT.wg h
       obtain ⟨h1,h2⟩:=ih _ _ _ _ _ _ _ _ _ h9 hp
       refine ⟨h1.2,fun hw=>?_⟩
       unfold fY
       simp only[hi,he,hw,if_true,hv,N' h1.1,Bool.false_eq_true,if_false]
       rw[h2]
       rfl
     · cases h
   · split at h
     · rename_i q1 q2 q3
       rw[RT.put_eq] at h
       obtain ⟨tr1,rfl,h9⟩:=RT.wg h
       obtain ⟨h1,h2⟩:=ih _ _ _ _ _ _ _ _ _ h9 hp
       refine ⟨h1.2,fun hw=>?_⟩
       unfold fY
       simp only[hi,he,hw,if_true,q1,q2,q3,h1.1,Bool.false_eq_true,if_false,h2]
       rfl
     · cases h
   · split at h
     · rename_i q1 q2
       rw[RT.put_eq] at h
       obtain ⟨tr1,rfl,h9⟩:=RT.wg h
       obtain ⟨h1,h2⟩:=ih _ _ _ _ _ _ _ _ _ h9 hp
       obtain ⟨⟨mk,h3,h4⟩,h5,h6⟩:=h1
       rw[Wl] at h3
       subst h4
       refine ⟨h6,fun hw=>?_⟩
       unfold fY
       simp only[hi,he,hw,if_true,q1,q2,h3,h5,Bool.false_eq_true,if_false,h2]
       rfl
     · cases h
   · cases h
  have hO:∀{zN:List rX} {xm:List Prop},(bif kI E o.op then (RT.put s o.dst AV.undef s.h fun s'=>runT E call ops rest (k+1) s' zN xm).bound ⟨i,k,s.ts,AV.undef,.off⟩ s.h else (RT.put s o.dst AV.undef s.h fun s'=>runT E call ops rest k s' zN xm).step ⟨i,k,s.ts,AV.undef,.off⟩)= .ok tr hs s' Ce xM→
   pJ xm∧(fA ops s.ts o=false→fY E call ops (i::rest) k s= .ok tr hs s'):=by
   intro zN xm h
   cases he:kI E o.op with
   | true=>
    rw[he,cond_true,RT.put_eq] at h
    obtain ⟨tr1,Ax,rfl,rfl,h9⟩:=RT.Q7 h
    obtain ⟨h1,h2⟩:=ih _ _ _ _ _ _ _ _ _ h9 hp
    refine ⟨h1,fun hw=>?_⟩
    unfold fY
    simp only[hi,he,hw,if_true,Bool.false_eq_true,if_false]
    rw[h2]
    rfl
   | false=>
    rw[he,cond_false,RT.put_eq] at h
    obtain ⟨tr1,rfl,h9⟩:=RT.wg h
    obtain ⟨h1,h2⟩:=ih _ _ _ _ _ _ _ _ _ h9 hp
    refine ⟨h1,fun hw=>?_⟩
    unfold fY
    simp only[hi,he,hw,Bool.false_eq_true,if_false]
    rw[h2]
    rfl
  have hY:∀{zN:List rX} {xm:List Prop},(bif kI E o.op then Q5 E call i k o s zN xm (runT E call ops rest) else Q6 E i k o s zN xm (runT E call ops rest))= .ok tr hs s' Ce xM→
   pJ xm∧(fA ops s.ts o=true→fY E call ops (i::rest) k s= .ok tr hs s'):=by
   intro zN xm h
   cases he:kI E o.op with
   | true=>rw[he] at h;exact hE he h
   | false=>rw[he] at h;exact hN he h
  have hg:=Mr ops s.ts o
  split at hr
  · rename_i h1;rw[h1] at hg;exact ⟨(hY hr).1,(hY hr).2 hg⟩
  · rename_i h1;rw[h1] at hg;exact ⟨(hO hr).1,(hO hr).2 hg⟩
  · rename_i v want h1
    rw[h1] at hg
    split at hr
    · rename_i x zN
      cases hx:x==want with
      | true=>
       rw[hx] at hr
       obtain ⟨⟨h2,h3⟩,h4⟩:=hY hr
       exact ⟨h3,h4 (by rw[hg,h2];exact hx)⟩
      | false=>
       rw[hx] at hr
       obtain ⟨⟨h2,h3⟩,h4⟩:=hO hr
       exact ⟨h3,h4 (by rw[hg,h2];exact hx)⟩
    · cases hr
noncomputable def TU (E:Env) (ops:Array Oper) (x:Step) (h:az) (ps:List Prop):List Prop:=match x.kind with
 | .red=>match ops[x.i]? with
  | some o=>(AV.same 20 x.v x.v=true)::(abl E x.ts h o.op=some x.v)::ps
  | none=>False::ps
 | .V8 n obj=>(∃o,h.get n=some o∧aN.same o obj=true)::ps
 | _=>ps
noncomputable def TV (E:Env) (ops:Array Oper) (x:Step):List az→List Prop→List Prop
 | [],ps=>ps
 | h::hs,ps=>TV E ops x hs (TU E ops x h ps)
noncomputable def CJ (E:Env) (ops:Array Oper) (ez:List Nat) (an:List (List Nat)) (hs:List az):List Step→List Prop→List Prop
 | [],ps=>ps
 | x::tr,ps=>CJ E ops ez an hs tr (TV E ops x ((hs.drop x.k).take (vT ez an x.i+1 - x.k)) ps)
theorem Yx {ops:Array Oper} {x:Step} {h:az} {ps:List Prop} (hc:pJ (TU E ops x h ps)):pJ ps∧vV E ops x h=true:=by
 unfold TU at hc
 unfold vV
 split at hc
 · rename_i hk
   simp only[hk]
   split at hc
   · rename_i o ho
     have jU:ops.getD x.i default=o:=by simp [Array.getD_eq_getD_getElem?,ho]
     simp only[jU,N' hc.2.1,hc.1]
     exact ⟨hc.2.2,trivial⟩
   · exact hc.1.elim
 · rename_i n obj hk
   obtain ⟨⟨o,h1,h2⟩,h3⟩:=hc
   simp only[hk,h1,h2]
   exact ⟨h3,trivial⟩
 · rename_i h1 h2
   refine ⟨hc,?_⟩
   split
   · rename_i hk;exact absurd hk (by assumption)
   · rename_i hk;exact absurd hk (h2 _ _)
   · rfl
theorem Ms {ops:Array Oper} {x:Step}:∀(hs:List az) (ps:List Prop),pJ (TV E ops x hs ps)→pJ ps∧hs.all (vV E ops x)=true
 | [],ps,hc=>⟨hc,rfl⟩
 | h::hs,ps,hc=>by
  obtain ⟨h1,h2⟩:=Ms hs _ hc
  obtain ⟨h3,h4⟩:=Yx h1
  exact ⟨h3,by simp only[List.all_cons,h4,h2,Bool.and_self]⟩
theorem Gq {ops:Array Oper} {ez:List Nat} {an:List (List Nat)} {hs:List az}:∀(tr:List Step) (ps:List Prop),pJ (CJ E ops ez an hs tr ps)→
 pJ ps∧(tr.all fun x=>((hs.drop x.k).take (vT ez an x.i+1 - x.k)).all (vV E ops x))=true
 | [],ps,hc=>⟨hc,rfl⟩
 | x::tr,ps,hc=>by
  obtain ⟨h1,h2⟩:=Gq tr _ hc
  obtain ⟨h3,h4⟩:=Ms _ _ h1
  exact ⟨h3,by simp only[List.all_cons,h4,h2,Bool.and_self]⟩
noncomputable def abm (l:List Nat) (ps:List Prop):List Prop:=match l with
 | []=>ps
 | [_]=>ps
 | l=>(nodup l=true)::ps
noncomputable def Oc (E:Env) (call:b8) (ops:Array Oper) (s:St) (as_:List rX) (ps:List Prop):R:=match Ih E ops with
 | none=> .bad
 | some pl=>match runT E call ops pl.order 0 s as_ ps with
  | .ok tr hs s' Ce xM=> .at .normal s' Ce (abm (Ny tr) (CJ E ops pl.ez pl.an hs tr xM))
  | .bad=> .bad
theorem Lk {ops:Array Oper} {s:St} {as_:List rX} {ps:List Prop} {e:oP} {s':St} {Ce:List rX} {xM:List Prop} (hr:Oc E call ops s as_ ps= .at e s' Ce xM) (hp:pJ xM):pJ ps∧L9 E call ops s= .ok e s':=by
 unfold Oc at hr
 split at hr
 · cases hr
 rename_i pl Yh
 split at hr
 · rename_i tr hs s1 zN xm h1
   cases hr
   have hn:pJ (CJ E ops pl.ez pl.an hs tr xm)∧nodup (Ny tr)=true:=by
    unfold abm at hp
    split at hp
    · rename_i hm;exact ⟨hp,by rw[hm];rfl⟩
    · rename_i hm;exact ⟨hp,by rw[hm];rfl⟩
    · exact ⟨hp.2,hp.1⟩
   obtain ⟨h2,h3⟩:=Gq _ _ hn.1
   obtain ⟨h4,h5⟩:=IM _ _ _ _ _ _ _ _ _ _ h1 h2
   refine ⟨h4,?_⟩
   unfold L9
   simp only[Yh,h5]
   have:EC E ops pl tr hs=true:=by
    unfold EC
    rw[hn.2,Bool.true_and]
    exact h3
   rw[if_pos this]
 · cases hr
noncomputable def run (E:Env) (call:b8):Nat→Code→St→List rX→List Prop→R
 | 0,_,_,_,_=> .bad
 | n+1,c,s,as_,ps=>match c with
  | .skip=> .at .normal s as_ ps
  | .ret=> .at .ret s as_ ps
  | .exit i=> .at (.exit i) s as_ ps
  | .seq a b=>match run E call n a s as_ ps with
   | .at .normal s1 zN xm=>run E call n b s1 zN xm
   | r=>r
  | .cond x a b=>match as_ with
   | .b v::as_=>match gn E s.ts x with
    | some (.bool u)=>bif v then run E call n a s as_ ((u=true)::ps) else run E call n b s as_ ((u=false)::ps)
    | _=> .bad
   | .l e s'::as_=> .at e s' as_ (Ev E call (.cond x a b) s e s'::ps)
   | _=> .bad
  | .block id b=>match run E call n b s as_ ps with
   | .at (.exit j) s1 zN xm=>bif Nat.beq j id then .at .normal s1 zN xm else .at (.exit j) s1 zN xm
   | r=>r
  | .loop b=>match as_ with
   | .l e s'::as_=> .at e s' as_ (Ev E call (.loop b) s e s'::ps)
   | _=> .bad
  | .rangeFunc f xM a b=>match as_ with
   | .l e s'::as_=> .at e s' as_ (Ev E call (.rangeFunc f xM a b) s e s'::ps)
   | _=> .bad
  | .region i ops draw=>match as_ with
   | .l e s'::as_=> .at e s' as_ (Ev E call (.region i ops draw) s e s'::ps)
   | as_=>bif draw then Oc E call ops s as_ ps else uq E call ops ops.toList s as_ ps
  | .scope b=>run E call n b s as_ ps
  | .label _=> .at .normal s as_ ps
  | _=> .bad
theorem Mt:∀(n:Nat) (c:Code) (s:St) (as_:List rX) (ps:List Prop) (e:oP) (s':St) (Ce:List rX) (xM:List Prop),run E call n c s as_ ps= .at e s' Ce xM→pJ xM→pJ ps∧Ev E call c s e s'
 | 0,c,s,as_,ps,e,s',Ce,xM,hr,hp=>by cases hr
 | n+1,c,s,as_,ps,e,s',Ce,xM,hr,hp=>by
  have ih:=Mt n
  unfold run at hr
  split at hr
  · cases hr;exact ⟨hp,.of fun _=>rfl⟩
  · cases hr;exact ⟨hp,.of fun _=>rfl⟩
  · cases hr;exact ⟨hp,.of fun _=>rfl⟩
  · split at hr
    · rename_i s1 zN xm h1
      obtain ⟨h2,h3⟩:=ih _ _ _ _ _ _ _ _ hr hp
      obtain ⟨h4,h5⟩:=ih _ _ _ _ _ _ _ _ h1 h2
      exact ⟨h4,h5.seq h3⟩
    · rename_i gX
      obtain ⟨h4,h5⟩:=ih _ _ _ _ _ _ _ _ hr hp
      refine ⟨h4,h5.seq' fun he=>?_⟩
      subst he;exact gX _ _ _ hr
  · split at hr
    · rename_i v zN
      split at hr
      · rename_i u hu
        cases v with
        | true=>
         obtain ⟨⟨h1,h2⟩,n0,h3⟩:=ih _ _ _ _ _ _ _ _ hr hp
         refine ⟨h2,n0+1,fun n hn=>?_⟩
         obtain ⟨k,rfl⟩:∃k,n=k+1:=⟨n - 1,by omega⟩
         rw[abd,hu,h1,TS];exact h3 k (by omega)
        | false=>
         obtain ⟨⟨h1,h2⟩,n0,h3⟩:=ih _ _ _ _ _ _ _ _ hr hp
         refine ⟨h2,n0+1,fun n hn=>?_⟩
         obtain ⟨k,rfl⟩:∃k,n=k+1:=⟨n - 1,by omega⟩
         rw[abd,hu,h1,Q1];exact h3 k (by omega)
      · cases hr
    · cases hr;exact ⟨hp.2,hp.1⟩
    · cases hr
  · split at hr
    · rename_i id b _ j s1 zN xm h1
      cases hj:Nat.beq j id with
      | true=>
       rw[hj] at hr
       cases hr
       obtain ⟨h2,n0,h3⟩:=ih _ _ _ _ _ _ _ _ h1 hp
       refine ⟨h2,n0+1,fun n hn=>?_⟩
       obtain ⟨k,rfl⟩:∃k,n=k+1:=⟨n - 1,by omega⟩
       rw[N9,h3 k (by omega),Gm,if_pos (Nat.eq_of_beq_eq_true hj)]
      | false=>
       rw[hj] at hr
       cases hr
       obtain ⟨h2,n0,h3⟩:=ih _ _ _ _ _ _ _ _ h1 hp
       refine ⟨h2,n0+1,fun n hn=>?_⟩
       obtain ⟨k,rfl⟩:∃k,n=k+1:=⟨n - 1,by omega⟩
       rw[N9,h3 k (by omega),Gm,if_neg (Nat.ne_of_beq_eq_false hj)]
    · rename_i id b _ gX
      obtain ⟨h2,n0,h3⟩:=ih _ _ _ _ _ _ _ _ hr hp
      refine ⟨h2,n0+1,fun n hn=>?_⟩
      obtain ⟨k,rfl⟩:∃k,n=k+1:=⟨n - 1,by omega⟩
      rw[N9,h3 k (by omega)]
      cases e with
      | exit j=>exact absurd hr (gX _ _ _ _)
      | _=>rfl
  · split at hr
    · cases hr;exact ⟨hp.2,hp.1⟩
    · cases hr
  · split at hr
    · cases hr;exact ⟨hp.2,hp.1⟩
    · cases hr
  · rename_i i ops draw
    split at hr
    · cases hr;exact ⟨hp.2,hp.1⟩
    cases draw with
    | true=>
     simp only[cond_true] at hr
     obtain ⟨h1,h2⟩:=Lk hr hp
     exact ⟨h1,.of fun n=>by rw[afN];exact h2⟩
    | false=>
     simp only[cond_false] at hr
     obtain ⟨h1,h2⟩:=CI _ _ _ _ _ _ _ _ hr hp
     exact ⟨h1,.of fun n=>by rw[abf];exact h2⟩
  · obtain ⟨h1,n0,h2⟩:=ih _ _ _ _ _ _ _ _ hr hp
    exact ⟨h1,n0+1,fun n hn=>by
     obtain ⟨k,rfl⟩:∃k,n=k+1:=⟨n - 1,by omega⟩
     show exec E call k _ s=_
     exact h2 k (by omega)⟩
  · cases hr;exact ⟨hp,.of fun _=>rfl⟩
  · cases hr
theorem TW {n:Nat} {c:Code} {s:St} {al:List rX} {e:oP} {s':St} {ps:List Prop} (hr:run E call n c s al []= .at e s' [] ps) (hp:pJ ps):Ev E call c s e s':=(Mt _ _ _ _ _ _ _ _ _ hr hp).2
theorem j9 {tmpl:(Nat→AV)→List AV} {c:Code} {s:St} {e:oP} {h:az} {ds:List Ae} {rc:RC} {L:List AV} (ev:Ev E call c s e ⟨L,h,ds,rc⟩) (hl:L=tmpl fun k=>L.getD k AV.undef):∃y,Ev E call c s e ⟨tmpl y,h,ds,rc⟩:=by
 refine ⟨fun k=>L.getD k AV.undef,?_⟩
 rw[←hl];exact ev
theorem zO {f:FuncId} {fn:Func} {c:Code} (hf:E.P.funcs[f]? =some fn) (hb:fn.body=some c) {args:List AV} {h h':az} {ts:List AV} {x:oP} (hx:x= .normal∨x= .ret)
 (e:Ev E call c ⟨args++List.replicate (fn.ntmps - args.length) AV.undef,h,[],.no⟩ x ⟨ts,h',[],.no⟩) {vs:List AV} (hr:xN E h' ts fn.results.toList=some vs):∃n0,∀n,n0≤n→AB E call n f args h= .ret (vW vs) h':=by
 obtain ⟨n0,e⟩:=e
 exact ⟨n0,fun n hn=>Yu hf hb hx (e n hn) hr⟩
def xR (E:Env) (call:b8) (f:FuncId) (args:List AV) (h:az) (v:AV) (h':az):Prop:=∃n0,∀n,n0≤n→AB E call n f args h= .ret v h'
theorem aY {f:FuncId} {fn:Func} {c:Code} {args ts0 ts:List AV} {h h':az} {x:oP} {v:AV} (hf:E.P.funcs[f]? =some fn) (hb:fn.body=some c) (ht:args++List.replicate (fn.ntmps - args.length) AV.undef=ts0) (hx:x= .normal∨x= .ret)
 (e:Ev E call c ⟨ts0,h,[],.no⟩ x ⟨ts,h',[],.no⟩) (hr:(xN E h' ts fn.results.toList).map vW=some v):xR E call f args h v h':=by
 subst ht
 cases hv:xN E h' ts fn.results.toList with
 | none=>rw[hv] at hr;cases hr
 | some vs=>
  rw[hv] at hr
  obtain rfl:vW vs=v:=Option.some.inj hr
  exact zO hf hb hx e hv
end Go.Ab
end
section
namespace Go.Ab
variable {E:Env}
theorem IN {t:TypeId} {c d:Bool} {k:IntKind} {a b z:Int} (h:k.wrap (a+b)=z):iK E .add t c d (some (.int k a)) (some (.int k b))=some (.int k z):=by rw[afP,h]
theorem IP {t:TypeId} {c d:Bool} {k:IntKind} {a b z:Int} (h:k.wrap (a - b)=z):iK E .sub t c d (some (.int k a)) (some (.int k b))=some (.int k z):=by rw[afQ,h]
theorem ajy (k:IntKind) (n:Int):AV.scalar (.int k n)=true:=rfl
theorem af2 (b:Bool):AV.scalar (.bool b)=true:=rfl
theorem ajz (b:List UInt8):AV.scalar (.str b)=true:=rfl
theorem ajA (i o:Nat):AV.scalar (.ptr i o)=true:=rfl
theorem abn (i o n c:Nat) (b:Bool):AV.scalar (.slice i o n c b)=true:=rfl
theorem ann:AV.scalar .aw=true:=rfl
theorem ano:AV.scalar .jq=true:=rfl
theorem anp:AV.scalar .gI=true:=rfl
theorem anq:AV.scalar .nilFunc=true:=rfl
theorem anr:AV.scalar .nilIface=true:=rfl
theorem ajB (i:Nat):AV.scalar (.map i)=true:=rfl
theorem IQ {h:az} {t:TypeId} {i o:Nat} {cs:List AV} {e:TypeId} {ro:Bool} {v:AV} (hg:h.get i=some (.cells cs e ro)) (hv:nG E t cs o=some v):cX E h t (.ptr i o)=some v:=by
 simp only[cX,hg,hv]
theorem rY {h h':az} {o:aN} (n:h.new o=some h'):h'.get h.nx=some o:=(az.oW n).2.2.1
theorem wh {h h':az} {o:aN} (n:h.new o=some h'):h'.nx=h.nx+1:=(az.oW n).2.1
theorem qC {h h':az} {o x:aN} {i:Nat} (y:Tidy h) (n:h.new o=some h') (g:h.get i=some x):h'.get i=some x:=by
 have:=y i x g
 rw[(az.oW n).2.2.2 i (by omega)];exact g
theorem wi {h h':az} {o:aN} (y:Tidy h) (n:h.new o=some h'):Has h h':=fun _ _ g=>qC y n g
theorem mq {h h':az} {o:aN} (y:Tidy h) (n:h.new o=some h'):Tidy h':=fun i x g=>by
 obtain ⟨_,h2,h3,h4⟩:=az.oW n
 by_cases hx:i=h.nx
 · omega
 · rw[h4 i hx] at g;have:=y i x g;omega
theorem uv {h:az} (o:aN):∃h',h.new o=some h':=⟨_,az.Nz _ _⟩
theorem vb {h:az} {t e:TypeId} {i o n:Nat} {cs:List AV} {v:AV} (g:h.get i=some (.cells cs e false)) (hs:dm E t=some n) (hv:v.cells.length=n) (ho:o+n≤cs.length) (hk:v.cells.all AV.scalar=true):∃h',eS E h t (.ptr i o) v=some h':=by
 refine ⟨h.put i (some (.cells (setFrom cs o v.cells) e false)),?_⟩
 simp only[eS,g,hs]
 rw[if_pos ⟨hv,ho,hk⟩]
theorem qD {h h':az} {t e:TypeId} {i o:Nat} {cs:List AV} {v:AV} (s:eS E h t (.ptr i o) v=some h') (g:h.get i=some (.cells cs e false)):h'=h.put i (some (.cells (setFrom cs o v.cells) e false)):=by
 simp only[eS,g] at s
 split at s
 · rename_i h1 _
   cases h1
   split at s
   · exact (Option.some.inj s).symm
   · cases s
 · cases s
theorem Mu {h h':az} {t e:TypeId} {i o:Nat} {cs:List AV} {v:AV} (y:Tidy h) (s:eS E h t (.ptr i o) v=some h') (g:h.get i=some (.cells cs e false)):h'.get i=some (.cells (setFrom cs o v.cells) e false):=by
 rw[qD s g]
 have:=y i _ g
 exact az.cY _
theorem Bl {h h':az} {t e:TypeId} {i j o:Nat} {cs:List AV} {v:AV} {x:aN} (y:Tidy h) (s:eS E h t (.ptr i o) v=some h') (g:h.get i=some (.cells cs e false)) (hj:j≠i) (gx:h.get j=some x):h'.get j=some x:=by
 rw[qD s g]
 have:=y i _ g
 rw[az.bQ (Ne.symm hj)];exact gx
theorem IS {h h':az} {t e:TypeId} {i o:Nat} {cs:List AV} {v:AV} (s:eS E h t (.ptr i o) v=some h') (g:h.get i=some (.cells cs e false)):h'.nx=h.nx:=by
 rw[qD s g];exact az.aaK _ _ _
theorem IT {h h':az} {t e:TypeId} {i o:Nat} {cs:List AV} {v:AV} (y:Tidy h) (s:eS E h t (.ptr i o) v=some h') (g:h.get i=some (.cells cs e false)):Tidy h':=fun j x gj=>by
 have hi:=y i _ g
 rw[IS s g]
 by_cases hx:j=i
 · omega
 · rw[qD s g,az.bQ (Ne.symm hx)] at gj
   exact y j x gj
def Ll (h h':az) (b:Nat) (o:aN):Prop:=Tidy h'∧h'.get b=some o∧∀i x,i≠b→h.get i=some x→h'.get i=some x
theorem Ll.has {h0 h h':az} {b:Nat} {o:aN} (c:Ll h h' b o) (a:Has h0 h) (y:Tidy h0) (hb:h0.nx≤b):Has h0 h':=fun i x g=>by
 have:=y i x g
 exact c.2.2 i x (by omega) (a i x g)
end Go.Ab
end
section
namespace Go.Ab
variable {E:Env}
theorem dT {p:Prop} [Decidable p] (h:p):decide p=true:=decide_eq_true h
theorem dF {p:Prop} [Decidable p] (h:¬p):decide p=false:=decide_eq_false h
def bl:Code→List Code
 | .seq a b=>bl a++bl b
 | .cond _ a b=>bl a++bl b
 | .block _ b=>bl b
 | .loop b=>b::bl b
 | .scope b=>bl b
 | .rangeFunc _ _ _ b=>b::bl b
 | _=> []
structure nZ (E:Env) (h:az) (e:TypeId) (n:Nat) (av:AV) (len:Nat) (cs:List AV):Prop where
 size:dm E e=some n
 cells:cs.length=len*n
 small:len<2^60
 lens:EV (some (.slice e)) (some av)=some (.int .i64 (len:Nat))
 block:len=0∨∃p o m c b C f ro,av= .slice p o m c b∧m≤c∧h.get p=some (.cells C f ro)∧(∀j,j<cs.length→C[o+j]? =cs[j]?)
theorem nZ.has {h h':az} {e:TypeId} {n:Nat} {av:AV} {len:Nat} {cs:List AV} (x:nZ E h e n av len cs) (hh:Has h h'):nZ E h' e n av len cs:=
 ⟨x.size,x.cells,x.small,x.lens,x.block.imp id fun ⟨p,o,m,c,b,C,f,ro,h1,h0,h2,h3⟩=>⟨p,o,m,c,b,C,f,ro,h1,h0,hh _ _ h2,h3⟩⟩
theorem nZ.elem {h:az} {e:TypeId} {av:AV} {len:Nat} {cs:List AV} (x:nZ E h e 1 av len cs) (ha:jr E e=some false) {i:Nat} {v:AV} (hv:cs[i]? =some v):
 ∃p q,hG E (some (.slice e)) (some av) (some (.int .i64 (i:Nat)))=some (.ptr p q)∧cX E h e (.ptr p q)=some v:=by
 have hi:=(List.getElem?_eq_some_iff.1 hv).1
 have hl:cs.length=len:=by rw[x.cells,Nat.mul_one]
 rcases x.block with h0 | ⟨p,o,m,c,b,C,f,ro,h1,_,h2,h3⟩
 · omega
 · subst h1
   have hm:m=len:=by
    have:=x.lens
    rw[ju] at this
    simp only[Option.some.injEq,AV.int.injEq,true_and] at this
    omega
   refine ⟨p,o+i*1,mo x.size (by omega),?_⟩
   simp only[cX,h2,nG,ha,Nat.mul_one]
   rw[h3 i hi,hv]
def TX (k:IntKind) (l:List Nat):List AV:=l.map fun (n:Nat)=> .int k (n:Int)
structure yB (E:Env) (h:az) (k:IntKind) (e:TypeId) (av:AV) (l:List Nat):Prop where
 at_:nZ E h e 1 av l.length (TX k l)
 agg:jr E e=some false
 known:av= .aw∨∃p o n c b,av= .slice p o n c b∧(b=true→0<c)
theorem Q8 {k:IntKind} {l:List Nat} {i:Nat} {z:Nat} (h:l[i]? =some z):(TX k l)[i]? =some (.int k (z:Int)):=by simp [TX,h]
theorem yB.len {h:az} {k:IntKind} {e:TypeId} {av:AV} {l:List Nat} (x:yB E h k e av l):EV (some (.slice e)) (some av)=some (.int .i64 (l.length:Nat)):=x.at_.lens
theorem IU (k:IntKind) (l:List Nat):(TX k l).length=l.length:=by simp [TX]
theorem yB.of {h:az} {k:IntKind} {e:TypeId} {l:List Nat} {p o c:Nat} {b:Bool} {C:List AV} {f:TypeId} {ro:Bool} (hs:dm E e=some 1) (ha:jr E e=some false) (hl:l.length<2^60) (hc:l.length≤c) (hb:b=true→0<c) (hg:h.get p=some (.cells C f ro))
 (hv:∀(i:Nat) z,l[i]? =some z→C[o+i]? =some (.int k (z:Int))):yB E h k e (.slice p o l.length c b) l:=
 ⟨⟨hs,by rw[IU];omega,hl,rfl,.inr ⟨p,o,_,c,b,C,f,ro,rfl,hc,hg,fun j hj=>by
   rw[IU] at hj
   rw[hv j l[j] (List.getElem?_eq_getElem hj),Q8 (List.getElem?_eq_getElem hj)]⟩⟩,ha,.inr ⟨p,o,_,c,b,rfl,hb⟩⟩
theorem yB.nil {h:az} {k:IntKind} {e:TypeId} (hs:dm E e=some 1) (ha:jr E e=some false):yB E h k e .aw []:=
 ⟨⟨hs,rfl,by decide,rfl,.inl rfl⟩,ha,.inl rfl⟩
theorem vc {len cap lo hi:Nat} (low high:Option AV) (hl:low=some (.int .i64 (lo:Nat))∨(low=none∧lo=0)) (hh:high=some (.int .i64 (hi:Nat))∨(high=none∧hi=len)) (h1:lo≤hi) (h2:hi≤cap):tJ len cap low high none=some (lo,hi,cap):=by
 have b:∀(x y:Nat),x≤y→A5 (.int .i64 (x:Nat)) y=some x:=fun x y h=>by
  simp only[A5]
  rw[if_pos ⟨by omega,by omega⟩,Int.toNat_natCast]
 unfold tJ
 rcases hh with rfl | ⟨rfl,rfl⟩<;>rcases hl with rfl | ⟨rfl,rfl⟩<;>simp [b,h1,h2]
structure Win (h:az) (av:AV) (p o n:Nat) (C:List AV) (f:TypeId):Prop where
 is:∃c b,av= .slice p o n c b∧n≤c
 get:h.get p=some (.cells C f false)
 fits:o+n≤C.length
theorem Win.len {h:az} {av:AV} {p o n:Nat} {C:List AV} {f e:TypeId} (w:Win h av p o n C f):EV (some (.slice e)) (some av)=some (.int .i64 (n:Nat)):=by
 obtain ⟨c,b,rfl,_⟩:=w.is
 rfl
def Holds (k:IntKind) (C:List AV) (o:Nat) (l:List Nat):Prop:=∀(i z:Nat),l[i]? =some z→C[o+i]? =some (.int k (z:Int))
theorem Win.TX {h:az} {av:AV} {p o n:Nat} {C:List AV} {f e:TypeId} {k:IntKind} {l:List Nat} (w:Win h av p o n C f) (hs:dm E e=some 1) (ha:jr E e=some false) (hn:l.length=n) (hsm:n<2^60) (x:Holds k C o l) (hb:∀c b,av= .slice p o n c b→b=true→0<c):yB E h k e av l:=by
 obtain ⟨c,b,rfl,hc⟩:=w.is
 subst hn
 exact yB.of hs ha hsm hc (hb c b rfl) w.get x
theorem Holds.of {k:IntKind} {C:List AV} {o:Nat} {l:List Nat} (hf:o+l.length≤C.length):Holds k (setFrom C o (TX k l)) o l:=fun i z hz=>by
 have hi:=(List.getElem?_eq_some_iff.1 hz).1
 rw[j5,if_pos ⟨by omega,by rw[IU];omega,by omega⟩,Nat.add_sub_cancel_left,Q8 hz]
end Go.Ab
end
section
namespace Go.Ab
open Go.WideElems Go.RowKit Go.Proofs
variable {E:Env}
end Go.Ab
end
section
namespace Go.Ab
variable {E:Env} {M0:Fa.CD}
theorem xR.unique {call:b8} {f:FuncId} {args:List AV} {h h1 h2:az} {v1 v2:AV} (a:xR E call f args h v1 h1) (b:xR E call f args h v2 h2):v1=v2∧h1=h2:=by
 obtain ⟨n,a⟩:=a
 obtain ⟨m,b⟩:=b
 have:=(a (n+m) (by omega)).symm.trans (b (n+m) (by omega))
 simpa using this
def AV.within (nx:Nat):Nat→AV→Bool
 | 0,_=>false
 | n+1,x=>match x with
  | .bool _ | .int .. | .str _ | .jq | .aw | .gI | .nilFunc | .nilIface | .fJ=>true
  | .ptr i _=>decide (i<nx)
  | .slice i _ _ _ _=>decide (i<nx)
  | .map i=>decide (i<nx)
  | .iface _ v=>AV.within nx n v
  | .agg cs=>cs.all (AV.within nx n)
  | .tuple cs=>cs.all (AV.within nx n)
  | _=>false
theorem VR.within {φ φ':Ph} {nx:Nat} (ho:∀i,i<nx→φ' i=φ i):∀(n:Nat) {x:AV} (_:AV.within nx n x=true) {y:Value},VR φ' x y→VR φ x y
 | 0,_,h,_,_=>by cases h
 | n+1,x,h,y,hv=>by
  have ih:= @VR.within φ φ' nx ho n
  cases hv with
  | bool b=>exact .bool b
  | int k m=>exact .int k m
  | str s=>exact .str s
  | jq=>exact .jq
  | aw=>exact .aw
  | gI=>exact .gI
  | nilFunc=>exact .nilFunc
  | nilIface=>exact .nilIface
  | fJ a c=>exact .fJ a c
  | ptr o hl=>rw[ho _ (of_decide_eq_true h)] at hl;exact .ptr o hl
  | slice o len cap op hl=>rw[ho _ (of_decide_eq_true h)] at hl;exact .slice o len cap op hl
  | map hl=>rw[ho _ (of_decide_eq_true h)] at hl;exact .map hl
  | iface t v v' h'=>exact .iface t v v' (ih (by simpa [AV.within] using h) h')
  | agg cs lj hl hc=>
   refine .agg cs lj hl fun i x y a b=>ih ?_ (hc i x y a b)
   simp only[AV.within,List.all_eq_true] at h
   exact h x (List.mem_of_getElem? a)
  | tuple cs lj hl hc=>
   refine .tuple cs lj hl fun i x y a b=>ih ?_ (hc i x y a b)
   simp only[AV.within,List.all_eq_true] at h
   exact h x (List.mem_of_getElem? a)
  | _=>cases h
theorem kR.Wn {f:FuncId} {args:List AV} {h h':az} {v:AV} (r:kR E f args h v h') (hs:Has h h') (hv:AV.within h.nx 20 v=true):kR E f args h v h:=fun φ w vs ok hl=>by
 obtain ⟨h1,h2⟩:=r φ w vs ok hl
 refine ⟨h1,fun cs=>?_⟩
 obtain ⟨φ',w',v',fr,x1,x2,x3,x4⟩:=h2 cs
 exact ⟨φ,w',v',fr,x1.within x3.old 20 hv,ok.forget x3.ext x2 hs,x3.forget,x4⟩
def ans (E:Env) (call:b8) (l:Nat) (args:List AV) (h:az) (v:AV) (h':az):Prop:=∃n0,∀n,n0≤n→ED E call n l args h= .ret v h'
open Classical in
noncomputable def kG (E:Env) (M0:Fa.CD):Nat→b8
 | 0=>IJ M0
 | d+1=>fun F args h=>match F with
  | .K_ l=>if hy:∃p:AV×az,ans E (kG E M0 d) l args h p.1 p.2 then .ret hy.choose.1 hy.choose.2 else .fail "" none
  | .fn f=>match M0 f args h with
   | some p=> .ret p.1 p.2
   | none=>
    if hx:∃v,∃h',xR E (kG E M0 d) f args h v h'∧Has h h'∧AV.within h.nx 20 v=true then .ret hx.choose h
    else if hy:∃p:AV×az,xR E (kG E M0 d) f args h p.1 p.2 then .ret hy.choose.1 hy.choose.2 else .fail "" none
theorem IV (hE:ml E) (hM:Fa.yx E M0):∀d,kS E (kG E M0 d)
 | 0=>Yv hM
 | d+1=>by
  have ih:=IV hE hM d
  have key:∀{f:FuncId} {args:List AV} {h:az} {o:A6},kG E M0 (d+1) (.fn f) args h=o→(∃v h',o= .ret v h'∧kR E f args h v h')∨o= .fail "" none:=by
   intro f args h o e
   simp only[kG] at e
   split at e
   · rename_i p hp
     exact .inl ⟨_,_,e.symm,hM _ _ _ _ _ hp⟩
   · split at e
     · rename_i hx
       obtain ⟨h',⟨n,h1⟩,h2,h3⟩:=hx.choose_spec
       exact .inl ⟨_,_,e.symm,kR.Wn ((qz hE n ih).1 _ _ _ _ _ (h1 n (Nat.le_refl n))) h2 h3⟩
     · split at e
       · rename_i hy
         obtain ⟨n,h1⟩:=hy.choose_spec
         exact .inl ⟨_,_,e.symm,(qz hE n ih).1 _ _ _ _ _ (h1 n (Nat.le_refl n))⟩
       · exact .inr e.symm
  refine ⟨fun F args h v h' e=>?_,fun F args h v h' e=>?_⟩
  · cases F with
    | K_ l=>
     simp only[kG] at e
     split at e
     · rename_i hy
       cases e
       obtain ⟨n,h1⟩:=hy.choose_spec
       intro φ w vs ok hf hl
       obtain ⟨ll,hφ⟩:=hf
       obtain ⟨f,tmps,assign,body,hy2,jP⟩:=Bj hE ih (h1 n (Nat.le_refl n)) (by simp) ok hφ hl
       exact ⟨_,_,.K_ l ll hφ vs f tmps assign body hy2,fun c cs=>(jP c cs).1 _ _ rfl⟩
     · cases e
    | fn f=>
     rcases key e with ⟨w,k,h1,h2⟩ | h1
     · cases h1;exact h2.any
     · cases h1
  · cases F with
    | K_ l=>
     simp only[kG] at e
     split at e<;>cases e
    | fn f=>
     rcases key e with ⟨w,k,h1,h2⟩ | h1
     · cases h1
     · cases h1
theorem aG {d:Nat} {f:FuncId} {args:List AV} {h h':az} {v:AV} (hm:M0 f args h=none) (hd:xR E (kG E M0 d) f args h v h') (hh:Has h h') (hv:AV.within h.nx 20 v=true):kG E M0 (d+1) (.fn f) args h= .ret v h:=by
 simp only[kG,hm]
 have hx:∃v,∃h',xR E (kG E M0 d) f args h v h'∧Has h h'∧AV.within h.nx 20 v=true:=⟨v,h',hd,hh,hv⟩
 rw[dif_pos hx]
 obtain ⟨k,h1,_,_⟩:=hx.choose_spec
 rw[(h1.unique hd).1]
theorem EW {d:Nat} {f:FuncId} {args:List AV} {h h':az} {v:AV} (hm:M0 f args h=none) (hd:xR E (kG E M0 d) f args h v h') (hv:¬(Has h h'∧AV.within h.nx 20 v=true)):kG E M0 (d+1) (.fn f) args h= .ret v h':=by
 simp only[kG,hm]
 have hx:¬∃v,∃h',xR E (kG E M0 d) f args h v h'∧Has h h'∧AV.within h.nx 20 v=true:=by
  rintro ⟨w,k,h1,h2,h3⟩
  obtain ⟨rfl,rfl⟩:=h1.unique hd
  exact hv ⟨h2,h3⟩
 have hy:∃p:AV×az,xR E (kG E M0 d) f args h p.1 p.2:=⟨(v,h'),hd⟩
 rw[dif_neg hx,dif_pos hy]
 obtain ⟨h1,h2⟩:=hy.choose_spec.unique hd
 rw[h1,h2]
theorem Q9 (hE:ml E) (hM:Fa.yx E M0) {d:Nat} {f:FuncId} {args:List AV} {h h':az} {v:AV} (e:kG E M0 d (.fn f) args h= .ret v h'):kR E f args h v h':=by
 cases d with
 | zero=>
  simp only[kG,IJ] at e
  split at e
  · rename_i p hp
    cases e
    exact hM _ _ _ _ _ hp
  · cases e
 | succ d=>
  simp only[kG] at e
  split at e
  · rename_i p hp
    cases e
    exact hM _ _ _ _ _ hp
  · split at e
    · rename_i hx
      cases e
      obtain ⟨h',⟨n,h1⟩,h2,h3⟩:=hx.choose_spec
      exact kR.Wn ((qz hE n (IV hE hM d)).1 _ _ _ _ _ (h1 n (Nat.le_refl n))) h2 h3
    · split at e
      · rename_i hy
        cases e
        obtain ⟨n,h1⟩:=hy.choose_spec
        exact (qz hE n (IV hE hM d)).1 _ _ _ _ _ (h1 n (Nat.le_refl n))
      · cases e
end Go.Ab
end
section
namespace Go.Ab
variable {E:Env}
end Go.Ab
end
section
namespace Go.Ab
variable {E:Env} {M0:Fa.CD}
structure Grow (h h':az):Prop where
 y:Tidy h'
 a:Has h h'
 n:h.nx≤h'.nx
theorem Grow.refl {h:az} (y:Tidy h):Grow h h:=⟨y,Has.refl h,Nat.le_refl _⟩
theorem Grow.trans {a b c:az} (x:Grow a b) (y:Grow b c):Grow a c:=⟨y.y,x.a.trans y.a,Nat.le_trans x.n y.n⟩
theorem pS {d:Nat} {f:FuncId} {args:List AV} {h h':az} {v:AV} {P:az→Prop} (hm:M0 f args h=none) (hd:xR E (kG E M0 d) f args h v h') (y:Tidy h) (g:Grow h h') (p1:P h') (p2:AV.within h.nx 20 v=true→P h):
 ∃hk,kG E M0 (d+1) (.fn f) args h= .ret v hk∧Grow h hk∧P hk:=by
 by_cases hv:AV.within h.nx 20 v=true
 · exact ⟨h,aG hm hd g.a hv,Grow.refl y,p2 hv⟩
 · exact ⟨h',EW hm hd fun c=>hv c.2,g,p1⟩
theorem TY {d:Nat} {f:FuncId} {args:List AV} {h h':az} {v:AV} (hm:M0 f args h=none) (hd:xR E (kG E M0 d) f args h v h'):
 ∃hk,kG E M0 (d+1) (.fn f) args h= .ret v hk∧(hk=h'∨(hk=h∧Has h h')):=by
 by_cases hv:Has h h'∧AV.within h.nx 20 v=true
 · exact ⟨h,aG hm hd hv.1 hv.2,.inr ⟨rfl,hv.1⟩⟩
 · exact ⟨h',EW hm hd hv,.inl rfl⟩
theorem jL {h:az} {p:Nat} {x o:aN} (y:Tidy h) (g:h.get p=some x):Ll h (h.put p (some o)) p o:=
 ⟨fun i z hz=>by
  by_cases e:i=p
  · subst e;exact y _ _ g
  · rw[az.bQ (Ne.symm e)] at hz;exact y _ _ hz,
  az.cY _,fun i z hi hz=>by rw[az.bQ (Ne.symm hi)];exact hz⟩
def Kept (p:Nat) (h h':az):Prop:=∀i x,i≠p→h.get i=some x→h'.get i=some x
theorem Kept.store {h h':az} {t e:TypeId} {i o:Nat} {cs:List AV} {v:AV} (y:Tidy h) (s:eS E h t (.ptr i o) v=some h') (g:h.get i=some (.cells cs e false)):Kept i h h':=fun _ _ hj gj=>Bl y s g hj gj
theorem sw {e:TypeId} {s bytes n:Nat} {z:AV} (hs:dm E e=some s) (hb:jT E e=some bytes) (hz:kE E e=some z) (hl:z.cells.length=s) (h8:bytes≤1024) (hn:n<2^30):
 CH E (some (.slice e)) (some (.int .i64 (n:Nat))) (some (.int .i64 (n:Nat)))=some (.cells (cB z.cells n) e false,fun i=> .slice i 0 n n false):=by
 have h1:(bytes:Int)*(n:Int)≤1024*2^30:=by
  have:bytes*n≤1024*2^30:=Nat.mul_le_mul h8 (Nat.le_of_lt hn)
  omega
 simp only[CH,hs,hb,hz,hl]
 rw[if_pos ⟨by omega,by omega,by omega,by omega,trivial⟩]
 rfl
theorem ic {e:TypeId} {p n c i:Nat} {op:Bool} {z:Int} (hs:dm E e=some 1) (hi:i<n) (hz:z=(i:Nat)):hG E (some (.slice e)) (some (.slice p 0 n c op)) (some (.int .i64 z))=some (.ptr p i):=by
 subst hz
 have:=mo (E:=E) (e:=e) (i:=p) (o:=0) (len:=n) (c:=c) (z:=i) (b:=op) hs hi
 rw[Nat.zero_add,Nat.mul_one] at this
 exact this
end Go.Ab
end
section
namespace Go.Ab
variable {E:Env}
structure Pk (al:List rX) (p0 ps:List Prop):Prop where
 ok:pJ p0→pJ ps
section
variable {al:List rX} {p0 ps:List Prop}
theorem ZZ {p:List Prop}:Pk [] p p:=⟨id⟩
theorem AA (a:rX) (k:Pk al p0 ps):Pk (a::al) p0 ps:=⟨k.ok⟩
theorem CC (k:Pk al p0 ps):Pk (.c::al) p0 ps:=⟨k.ok⟩
def cs:Nat→List rX→List rX
 | 0,l=>l
 | n+1,l=> .c::cs n l
theorem CN (n:Nat) (k:Pk al p0 ps):Pk (cs n al) p0 ps:=⟨k.ok⟩
theorem HH {P:Prop} (h:P) (k:Pk al (P::p0) ps):Pk al p0 ps:=⟨fun c=>k.ok ⟨h,c⟩⟩
theorem VV {l:Option AV} {x:AV} (h:l=some x) (k:Pk al ((l=some x)::p0) ps):Pk (.v x::al) p0 ps:=⟨fun c=>k.ok ⟨h,c⟩⟩
theorem QQ {l:Option AV} {x:AV} (h:l=some x) (k:Pk al ((l=some x)::p0) ps):Pk (.q x::al) p0 ps:=⟨fun c=>k.ok ⟨h,c⟩⟩
theorem MM {l:Option AV} {x:AV} (h:l=some x) (k:Pk al ((l=some x)::p0) ps):Pk (.m x::al) p0 ps:=⟨fun c=>k.ok ⟨h,c⟩⟩
theorem TT (k:Pk al ((true=true)::p0) ps):Pk (.b true::al) p0 ps:=⟨fun c=>k.ok ⟨rfl,c⟩⟩
theorem FF (k:Pk al ((false=false)::p0) ps):Pk (.b false::al) p0 ps:=⟨fun c=>k.ok ⟨rfl,c⟩⟩
theorem BB {u v:Bool} (h:u=v) (k:Pk al ((u=v)::p0) ps):Pk (.b v::al) p0 ps:=⟨fun c=>k.ok ⟨h,c⟩⟩
theorem EE {call:b8} {f:Fn} {args:List AV} {h h':az} {x:AV} (e:call f args h= .ret x h') (k:Pk al ((call f args h= .ret x h')::p0) ps):Pk (.e x h'::al) p0 ps:=⟨fun c=>k.ok ⟨e,c⟩⟩
theorem SS {h h':az} {t:TypeId} {a v:AV} (s:eS E h t a v=some h') (k:Pk al ((AV.undef=AV.undef∧eS E h t a v=some h')::p0) ps):Pk (.e AV.undef h'::al) p0 ps:=⟨fun c=>k.ok ⟨⟨rfl,s⟩,c⟩⟩
theorem PP {l:Option (AV×az)} {x:AV} {h':az} (e:l=some (x,h')) (k:Pk al ((l=some (x,h'))::p0) ps):Pk (.e x h'::al) p0 ps:=⟨fun c=>k.ok ⟨e,c⟩⟩
theorem NN {h h':az} {obj:aN} (n:h.new obj=some h') (f:Nat→AV) (k:Pk al ((∃mk:Nat→AV,some (obj,f)=some (obj,mk)∧mk h.nx=f h.nx)::(h.new obj=some h')::p0) ps):Pk (.a obj (f h.nx) h'::al) p0 ps:=⟨fun c=>k.ok ⟨⟨f,rfl,rfl⟩,n,c⟩⟩
theorem KK {h h':az} {obj:aN} {l:Option (aN×(Nat→AV))} {f:Nat→AV} (e:l=some (obj,f)) (n:h.new obj=some h') (k:Pk al ((∃mk:Nat→AV,l=some (obj,mk)∧mk h.nx=f h.nx)::(h.new obj=some h')::p0) ps):Pk (.a obj (f h.nx) h'::al) p0 ps:=⟨fun c=>k.ok ⟨⟨f,e,rfl⟩,n,c⟩⟩
theorem LL {call:b8} {b:Code} {s s':St} {e:oP} (ev:Ev E call b s e s') (k:Pk al ((Ev E call b s e s')::p0) ps):Pk (.l e s'::al) p0 ps:=⟨fun c=>k.ok ⟨ev,c⟩⟩
end
@[irreducible] def Wo:R→List AV
  | .at _ s _ _=>s.ts
  | .bad=> []
theorem ant {call:b8} {c:Code} {ts:List AV} {h h':az} {ds:List Ae} {rc:RC} {n:Nat} {e:oP} {al:List rX} {ps:List Prop} (k:Pk al [] ps) (hr:run E call n c ⟨ts,h,ds,rc⟩ al []= .at e ⟨Wo (run E call n c ⟨ts,h,ds,rc⟩ al []),h',ds,rc⟩ [] ps):Ev E call c ⟨ts,h,ds,rc⟩ e ⟨Wo (run E call n c ⟨ts,h,ds,rc⟩ al []),h',ds,rc⟩:=TW hr (k.ok trivial)
def rx (x:Nat→AV):Nat→Nat→List AV→List AV
 | _,0,l=>l
 | i,n+1,l=>x i::rx x (i+1) n l
def iW:Nat→List AV
 | 0=> []
 | n+1=>AV.undef::iW n
end Go.Ab
end
section
set_option linter.unusedVariables false
namespace Go.Ab
open Go.WideElems Go.RowKit Go.Proofs Go.Shelf
variable {E:Env}
structure Pz where
 lo:Int
 hi:Int
 ok:0≤lo∧lo≤1099511627776
instance:Inhabited Pz:=⟨⟨0,0,by decide⟩⟩
def Bm (x:Pz):List Value:=[.int .i64 x.lo,.int .i64 x.hi]
def Ai (x y:Pz):Int:=x.lo - y.lo
def m_ (L:List Pz):List Pz:=(Sort.pdq (ltOf Ai) L.toArray 0 L.toArray.size (Lib.bitLen L.toArray.size) true true).toList
def o5:List Pz→List AV
 | []=> []
 | x::l=> .int .i64 x.lo:: .int .i64 x.hi::o5 l
def rK:List Pz→List Value
 | []=> []
 | x::l=> .int .i64 x.lo:: .int .i64 x.hi::rK l
def Bn:List AV→Option (List Pz)
 | []=>some []
 | .int .i64 a:: .int .i64 b::l=>match Bn l with
  | some r=>if h:0≤a∧a≤1099511627776 then some (⟨a,b,h⟩::r) else none
  | none=>none
 | _=>none
theorem Mv:∀L:List Pz,Bn (o5 L)=some L
 | []=>rfl
 | x::l=>by
  show (match Bn (o5 l) with | some r=>if h:0≤x.lo∧x.lo≤1099511627776 then some ((⟨x.lo,x.hi,h⟩:Pz)::r) else none | none=>none)=_
  rw[Mv l]
  show (if h:0≤x.lo∧x.lo≤1099511627776 then some ((⟨x.lo,x.hi,h⟩:Pz)::l) else none)=_
  rw[dif_pos x.ok]
theorem IW:∀{cs:List AV} {L:List Pz},Bn cs=some L→cs=o5 L
 | [],L,h=>by cases h;rfl
 | .int .i64 a:: .int .i64 b::cs,L,h=>by
  simp only[Bn] at h
  split at h
  · rename_i r hr
    split at h
    · cases h
      rw[IW hr];rfl
    · cases h
  · cases h
theorem oE:∀L:List Pz,(o5 L).length=L.length*2
 | []=>rfl
 | x::l=>by simp only[o5,List.length_cons,oE l];omega
theorem zP:∀L:List Pz,(rK L).length=L.length*2
 | []=>rfl
 | x::l=>by simp only[rK,List.length_cons,zP l];omega
theorem Mw:∀(L:List Pz) (j:Nat),j<L.length*2→(o5 L)[j]? =some (.int .i64 (if j%2=0 then L[j/2]!.lo else L[j/2]!.hi))
 | [],j,h=>by simp at h
 | x::l,0,h=>rfl
 | x::l,1,h=>rfl
 | x::l,j+2,h=>by
  show (o5 l)[j]? =_
  rw[Mw l j (by simp at h;omega),Nat.add_mod_right,Nat.add_div_right j (by decide)]
  rfl
theorem Mx:∀(L:List Pz) (j:Nat),j<L.length*2→(rK L)[j]? =some (.int .i64 (if j%2=0 then L[j/2]!.lo else L[j/2]!.hi))
 | [],j,h=>by simp at h
 | x::l,0,h=>rfl
 | x::l,1,h=>rfl
 | x::l,j+2,h=>by
  show (rK l)[j]? =_
  rw[Mx l j (by simp at h;omega),Nat.add_mod_right,Nat.add_div_right j (by decide)]
  rfl
theorem IX (φ:Ph):∀L:List Pz,LR φ (o5 L) (rK L)
 | []=>LR.nil φ
 | x::l=>LR.cons (.int _ _) (LR.cons (.int _ _) (IX φ l))
theorem wj:∀L:List Pz,(o5 L).all AV.scalar=true
 | []=>rfl
 | x::l=>by show (true&&(true&&(o5 l).all AV.scalar))=true;rw[wj l];rfl
theorem My (d:Array Pz) (j:Nat) (h:j<d.size*2):(Sort.flatK Bm 2 d)[j]! = .int .i64 (if j%2=0 then d.toList[j/2]!.lo else d.toList[j/2]!.hi):=by
 rw[Sort.get_flatK Bm 2 d j h]
 have e:d.toList[j/2]! =d[j/2]! :=by
  rw[getElem!_pos d (j/2) (by omega),getElem!_pos d.toList (j/2) (by rw[Array.length_toList];omega)];simp
 rw[e]
 rcases Nat.mod_two_eq_zero_or_one j with q | q<;>rw[q]<;>rfl
theorem yC (L:List Pz):(m_ L).Perm L∧(m_ L).length=L.length∧∀i j,i<j→j<L.length→(m_ L)[i]!.lo≤(m_ L)[j]!.lo:=by
 have lt:∀x y:Pz,ltOf Ai x y=decide (x.lo<y.lo):=fun x y=>by
  unfold ltOf Ai
  exact decide_eq_decide.2 (by omega)
 have hO:Sort.SWO (ltOf Ai):=by
  refine ⟨fun x=>by rw[lt];simp,fun x y z h1 h2=>?_,fun x y z h1 h2=>?_⟩<;>rw[lt] at * <;>simp at * <;>omega
 have hp:=Sort.pdq_sorts (ltOf Ai) hO L.toArray 0 L.toArray.size (Lib.bitLen L.toArray.size) true true (Nat.zero_le _) (Nat.le_refl _) (Or.inl rfl)
 show (Array.toList (Sort.pdq (ltOf Ai) L.toArray 0 L.toArray.size (Lib.bitLen L.toArray.size) true true)).Perm L∧(Array.toList (Sort.pdq (ltOf Ai) L.toArray 0 L.toArray.size (Lib.bitLen L.toArray.size) true true)).length=L.length∧∀i j,i<j→j<L.length→(Array.toList (Sort.pdq (ltOf Ai) L.toArray 0 L.toArray.size (Lib.bitLen L.toArray.size) true true))[i]!.lo≤(Array.toList (Sort.pdq (ltOf Ai) L.toArray 0 L.toArray.size (Lib.bitLen L.toArray.size) true true))[j]!.lo
 generalize Sort.pdq (ltOf Ai) L.toArray 0 L.toArray.size (Lib.bitLen L.toArray.size) true true=D at hp
 obtain ⟨⟨h1,_,h3⟩,h4⟩:=hp
 have hs:D.size=L.length:=by simpa using h1
 refine ⟨?_,by rw[Array.length_toList,hs],fun i j hij hj=>?_⟩
 · have e1:(D.extract 0 L.toArray.size).toList=D.toList:=by rw[←h1];simp
   have e2:(L.toArray.extract 0 L.toArray.size).toList=L:=by simp
   rw[e1,e2] at h3
   exact h3
 · have:=h4 i j (Nat.zero_le _) hij (by simpa using hj)
   rw[lt] at this
   have e:∀k,k<L.length→D.toList[k]! =D[k]! :=fun k hk=>by
    rw[getElem!_pos D k (by omega),getElem!_pos D.toList k (by rw[Array.length_toList];omega)];simp
   rw[e i (by omega),e j hj]
   have:=of_decide_eq_false this
   omega
theorem arp:Sort.SWO (ltOf Ai):=by
 have lt:∀x y:Pz,ltOf Ai x y=decide (x.lo<y.lo):=fun x y=>by
  unfold ltOf Ai
  exact decide_eq_decide.2 (by omega)
 refine ⟨fun x=>by rw[lt];simp,fun x y z h1 h2=>?_,fun x y z h1 h2=>?_⟩<;>rw[lt] at * <;>simp at * <;>omega
noncomputable def IY (g:Nat) (args:List AV) (h:az):Option (AV×az):=match args with
 | [.aw,.func g' [] []]=>if g'=g then some (.tuple [],h) else none
 | [.slice i 0 n c _,.func g' [] []]=>if g'=g then (match h.get i with
  | some (.cells cs t false)=>(match Bn cs with
   | some L=>if L.length=n∧n≤c∧n<1000000 then some (.tuple [],h.put i (some (.cells (o5 (m_ L)) t false))) else none
   | none=>none)
  | _=>none) else none
 | _=>none
structure Wq (P:Program) (f g:FuncId):Prop where
 nothing:∀(p:Option Addr) (cap:Nat) (fv:Value) (w:World),Calls P f #[.slice p 0 cap,fv] w fun e w'=>e= .returned (.tuple #[])∧w'=w
 row:∀(fB off cap:Nat) (d:Array Pz) (w:World),Sort.HoldsK Bm 2 w fB off d→fB<w.heap.size→d.size<1000000→Calls P f #[.slice (some ⟨fB,off,none⟩) d.size cap,.func (.func g) #[] #[]] w fun e w'=>
  e= .returned (.tuple #[])∧∃n os,w'=sortWorldK Bm 2 w fB off n (Sort.pdq (ltOf Ai) d 0 d.size (Lib.bitLen d.size) true true) os
theorem Q_ {F G:Array Value} (h:G.size=F.size):Sort.setMany F 0 G.toList=G:=by
 apply Array.ext
 · rw[Sort.size_setMany,h]
 · intro i h1 h2
   have e:=Sort.get_setMany G.toList 0 F i (by omega)
   rw[if_pos ⟨Nat.zero_le _,by simpa using h2⟩,Nat.sub_zero] at e
   rw[getElem!_pos _ i h1] at e
   rw[e]
   simp [h2]
theorem abo {f g:FuncId} (eK:∀args w,(callFunc f args).run E.P w= .ok (.enter f args) w) (hc:Wq E.P f g) (args:List AV) (h:az) (v:AV) (h':az) (e:IY g args h=some (v,h')):kR E f args h v h':=by
 intro φ w vs ok hl
 refine ⟨eK _ _,?_⟩
 unfold IY at e
 split at e
 · rename_i g'
   split at e
   · obtain ⟨rfl,rfl⟩:=Prod.mk.inj (Option.some.inj e)
     obtain ⟨x,t2,rfl,hx,hl⟩:=hl.dp
     obtain ⟨y,t3,rfl,hy,hl⟩:=hl.dp
     rw[hl.jJ]
     cases hx with
     | aw=>
     intro lj
     obtain ⟨en,w',fr,⟨rfl,rfl⟩,Ah,K7,hlv⟩:=hc.nothing none 0 y w lj
     exact ⟨φ,_,_,fr,VR.tuple' (LR.nil φ),ok,Fr.refl φ h _,Ah,K7,hlv⟩
   · cases e
 · rename_i i n c op g'
   split at e
   · rename_i hgg
     subst hgg
     split at e
     · rename_i cs t hg
       split at e
       · rename_i L hL
         split at e
         · rename_i Tw
           obtain ⟨hn,hnc,hn6⟩:=Tw
           obtain ⟨rfl,rfl⟩:=Prod.mk.inj (Option.some.inj e)
           obtain ⟨x,t2,rfl,hx,hl⟩:=hl.dp
           obtain ⟨y,t3,rfl,hy,hl⟩:=hl.dp
           rw[hl.jJ]
           obtain ⟨a',b',rfl,la,lb⟩:=hy.Cm
           have ea:a'= #[]:=by have:=la.jJ;simpa using this
           have eb:b'= #[]:=by have:=lb.jJ;simpa using this
           subst ea;subst eb
           have hcs:=IW hL
           subst hcs
           subst hn
           cases hx with
           | @slice _ l _ _ _ _ hφ=>
           obtain ⟨C,e',lo,hi,hwc,hC⟩:=ok.live i _ l hg hφ
           have NA:=hC.size
           have hle:=oE L
           have hblk:l.fB<w.heap.size:=by
            rcases Nat.lt_or_ge l.fB w.heap.size with a | a
            · exact a
            · rw[Array.getElem?_eq_none a] at hwc;cases hwc
           have hH:Sort.HoldsK Bm 2 w l.fB (l.off+0) L.toArray:=fun j hj=>by
            rw[Sort.size_flatK] at hj
            rw[My _ j hj]
            have hj2:j<L.length*2:=by simpa using hj
            obtain ⟨y,hy,hyv⟩:=hC.val j _ (Mw L j hj2)
            cases hyv with
            | int=>
            refine ⟨?_,?_⟩
            · simp only[World.cell?,hwc,Nat.add_zero,id]
              exact hy
            · rw[frozen_of_heap hwc]
              have:=hC.free rfl (l.off+j) (by omega) (by omega)
              simp only[Nat.add_zero,Bool.and_eq_false_iff,decide_eq_false_iff_not]
              omega
           have hps:=yC L
           have key:=hc.row l.fB (l.off+0) (jQ op c l.lr) L.toArray w hH hblk (by simpa using hn6)
           intro lj
           obtain ⟨en,w',fr,⟨rfl,n,os,rfl⟩,Ah,K7,hlv⟩:=key lj
           let d':=Sort.pdq (ltOf Ai) L.toArray 0 L.toArray.size (Lib.bitLen L.toArray.size) true true
           have Yp:d'.size=L.toArray.size:=by have:=hps.2.1;rw[List.size_toArray];exact this
           have Qu:(Sort.flatK Bm 2 d').toList=rK (m_ L):=by
            apply List.ext_getElem?
            intro j
            have z1:(Sort.flatK Bm 2 d').size=L.length*2:=by rw[Sort.size_flatK,Yp];simp
            have z2:(rK (m_ L)).length=L.length*2:=by rw[zP,hps.2.1]
            by_cases hj:j<L.length*2
            · have e1:=My d' j (by rw[Yp];simpa using hj)
              rw[getElem!_pos _ j (by rw[z1];exact hj)] at e1
              rw[Mx _ j (by rw[hps.2.1];exact hj),Array.getElem?_toList,Array.getElem?_eq_getElem (by rw[z1];exact hj),e1]
              rfl
            · rw[List.getElem?_eq_none (by simp only[Array.length_toList,z1];omega),List.getElem?_eq_none (by omega)]
           obtain ⟨w2,lN,qk,sv⟩:=zG ok hg hφ (IX φ (m_ L)) 0 (by rw[oE,oE,hps.2.1];omega) (wj _)
           have jP:=uj (P:=E.P) hwc (l.off+0) (rK (m_ L)) (by rw[zP,hps.2.1];omega) (fun k h1 h2=>hC.free rfl k (by omega) (by rw[zP,hps.2.1] at h2;omega)) (Ba (IX φ (m_ L)) (wj _))
           rw[lN] at jP
           obtain rfl:w2=w.setCells l.fB (l.off+0) (rK (m_ L)):=by injection jP
           have uZ:setFrom (o5 L) 0 (o5 (m_ L))=o5 (m_ L):=by
            apply List.ext_getElem?
            intro k
            rw[j5,oE,oE,hps.2.1,Nat.zero_add,Nat.sub_zero]
            by_cases hk:k<L.length*2
            · rw[if_pos ⟨Nat.zero_le _,hk,hk⟩]
            · rw[if_neg (by omega),List.getElem?_eq_none (by rw[oE];omega),List.getElem?_eq_none (by rw[oE,hps.2.1];omega)]
           rw[uZ] at qk sv
           have arq:Sort.putRowK Bm 2 w l.fB (l.off+0) d'=w.setCells l.fB (l.off+0) (rK (m_ L)):=by
            have e1:w.setCells l.fB (l.off+0+0) (Sort.flatK Bm 2 d').toList=Sort.putRow id w l.fB (l.off+0) (Sort.setMany (Sort.flatK Bm 2 L.toArray) 0 (Sort.flatK Bm 2 d').toList):=by
             conv=>lhs;rw[←Sort.putRow_self id w l.fB (l.off+0) _ hH]
             exact Sort.setCells_putRow _ _ _ _ _ _ (by simp [Yp])
            rw[Q_ (by simp [Yp]),Qu] at e1
            exact e1.symm
           have ars:Below (w.setCells l.fB (l.off+0) (rK (m_ L))).heap.size (w.setCells l.fB (l.off+0) (rK (m_ L))) (sortWorldK Bm 2 w l.fB (l.off+0) n d' os):=by
            have ew:sortWorldK Bm 2 w l.fB (l.off+0) n d' os=Sort.grow (Sort.ahead (w.setCells l.fB (l.off+0) (rK (m_ L))) n) os:=by
             unfold sortWorldK
             rw[←arq];rfl
            rw[ew]
            refine ⟨rfl,rfl,rfl,?_,fun k hk=>?_⟩
            · show _≤((w.setCells l.fB (l.off+0) (rK (m_ L))).heap++os).size
              rw[Array.size_append];omega
            · show ((w.setCells l.fB (l.off+0) (rK (m_ L))).heap++os)[k]? =_
              rw[Array.getElem?_append_left hk]
           have abp:=qk.later ars
           exact ⟨φ,_,_,fr,VR.tuple' (LR.nil φ),abp.1,sv.trans abp.2,Ah,K7,hlv⟩
         · cases e
       · cases e
     · cases e
   · cases e
 · cases e
end Go.Ab
end
