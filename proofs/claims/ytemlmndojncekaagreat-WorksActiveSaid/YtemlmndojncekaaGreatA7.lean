import Derived.ChangeShapes
import Derived.ChangeStays
import Derived.ChangeBook
import Derived.ChangeOld
import Derived.ChangeAgain
import Derived.ChangeCalls
import Derived.Test.YtemlmndojncekaaGreatA6
set_option linter.unusedVariables false
set_option linter.unusedSimpArgs false
section
namespace Go.Ab
open Go.ChangeShapes Go.WideShapes Go.RowKit
variable {E:Env}
def Bd (h:aC):Prop:=∀i o,h.get i=some o→o.rw=false
theorem OK.show {φ:Ph} {h:aC} {w:World} (ok:OK E φ h w) (XA:Bd h) {b off:Nat} {cs:List AV} {e:TypeId} (f':cs≠ []) (hz:∀m,cs≠ [.map m])
 (hC:∀(k:Nat) (x:AV),cs[k]? =some x→∃y,w.cell? ⟨b,off+k,none⟩=some y∧VR φ x y):
 ∃h',h.new (.cells cs e true)=some h'∧OK E (φ.add h.nx ⟨b,off,0⟩) h' w∧φ.le (φ.add h.nx ⟨b,off,0⟩)∧Bd h'∧h'.nx=h.nx+1∧h'.get h.nx=some (.cells cs e true)∧(∀j,j≠h.nx→h'.get j=h.get j)∧(φ.add h.nx ⟨b,off,0⟩) h.nx=some ⟨b,off,0⟩:=by
 obtain ⟨h',hn⟩:∃h',h.new (.cells cs e true)=some h':=by
  exact ⟨_,aC.Ku _ _⟩
 obtain ⟨oa,agb,FD,hold⟩:=aC.m8 hn
 have H_:φ h.nx=none:=by
  cases e:φ h.nx with
  | none=>rfl
  | some m=>exact absurd (ok.E1 _ _ e) (Nat.lt_irrefl _)
 have hle:φ.le (φ.add h.nx ⟨b,off,0⟩):=fun i m hm=>by
  unfold Ph.add;split
  · rename_i e;subst e;rw[H_] at hm;simp at hm
  · exact hm
 have lZ:∀j,j≠h.nx→(φ.add h.nx ⟨b,off,0⟩) j=φ j:=fun j hj=>by simp [Ph.add,hj]
 have iZ:(φ.add h.nx ⟨b,off,0⟩) h.nx=some ⟨b,off,0⟩:=by simp [Ph.add]
 have iH:∀j p,h'.get j=some p→(j=h.nx∧p= .cells cs e true)∨(j≠h.nx∧h.get j=some p):=fun j p hj=>by
  by_cases e:j=h.nx
  · subst e;rw[FD] at hj;simp at hj;exact .inl ⟨rfl,hj.symm⟩
  · rw[hold j e] at hj;exact .inr ⟨e,hj⟩
 have hlen:0<cs.length:=List.length_pos_iff.2 f'
 obtain ⟨y0,hy0,_⟩:=hC 0 cs[0] (by simp [hlen])
 obtain ⟨C,e',lo,hi,hw⟩:∃C e' lo hi,w.heap[b]? =some (.cells C e' (lo,hi)):=by
  unfold World.cell? at hy0
  split at hy0
  · rename_i C e' fz hw;obtain ⟨lo,hi⟩:=fz;exact ⟨C,e',lo,hi,hw⟩
  · cases hy0
 have JA:∀k,w.cell? ⟨b,off+k,none⟩=C[off+k]? :=fun k=>by simp [World.cell?,hw]
 refine ⟨h',hn,⟨fun i m hm=>?_,by rw[agb];exact Nat.le_succ_of_le ok.nx,fun g hg=>hle _ _ (ok.AP g hg),fun j p m hj hm=>?_,fun j k p q m n hj hk hm vz hw hb=>?_⟩,hle,fun j p hj=>?_,agb,FD,hold,iZ⟩
 · rw[agb]
   by_cases e:i=h.nx
   · omega
   · rw[lZ i e] at hm;have:=ok.E1 i m hm;omega
 · rcases iH j p hj with ⟨rfl,rfl⟩ | ⟨Kw,sx⟩
   · rw[iZ] at hm;simp at hm;subst hm
     refine ⟨C,e',lo,hi,hw,?_,fun k x hk=>?_,(fun h=>by cases h),fun _ m hm=>absurd hm (hz m)⟩
     · obtain ⟨y,hy,_⟩:=hC (cs.length - 1) cs[cs.length - 1] (List.getElem?_eq_getElem (by omega))
       rw[JA] at hy
       have:=(Array.getElem?_eq_some_iff.1 hy).1
       simp only[g_,Nat.zero_mul]
       omega
     · obtain ⟨y,hy,hv⟩:=hC k x hk
       rw[JA] at hy
       exact ⟨y,hy,hv.mono hle⟩
   · rw[lZ j Kw] at hm
     exact (ok.live j p m sx hm).mono hle
 · rcases iH j p hj with ⟨rfl,rfl⟩ | ⟨al0,sx⟩<;>rcases iH k q hk with ⟨rfl,rfl⟩ | ⟨al1,Ig⟩
   · rfl
   · rw[XA k q Ig] at hw;rcases hw with h | h<;>cases h
   · rw[XA j p sx] at hw;rcases hw with h | h<;>cases h
   · rw[lZ j al0] at hm;rw[lZ k al1] at vz;exact ok.inj _ _ _ _ _ _ sx Ig hm vz hw hb
 · rcases iH j p hj with ⟨_,rfl⟩ | ⟨_,sx⟩
   · rfl
   · exact XA j p sx
theorem Bd.begin {G:Nat} {l:List Tab}:Bd (nj G l):=fun i o h=>by
 obtain ⟨x,_,_,rfl⟩:=uh h;rfl
theorem Ld {f:FuncId} {avs:List AV} {h h':aC} (r:m_ E f avs h (.bool true) h') {φ:Ph} {w:World} {vs:List Value} (ok:OK E φ h w) (hl:LR φ avs vs) (XA:Bd h):
 Calls E.P f vs.toArray w fun en w'=>en= .returned (.bool true)∧w.keptBut w' (fun _=>False):=fun cs=>by
 obtain ⟨_,kO⟩:=r φ w vs ok hl
 obtain ⟨φ',w',v',fr,hv,_,vA,h1,h2,h3⟩:=kO cs
 cases hv
 refine ⟨.returned (.bool true),w',fr,⟨rfl,vA.os,vA.output,fun i hi=>?_⟩,h1,h2,h3⟩
 rw[vA.Ie i hi (fun j o l' q1 q2 _=>by rw[XA j o q1] at q2;cases q2)]
 cases w.heap[i]? with
 | none=>rfl
 | some o=>cases o with
   | cells c t fz=>exact ⟨rfl,rfl,rfl,fun _ _=>rfl⟩
   | map es c=>exact .inr ⟨rfl,rfl⟩
   | _=>rfl
section
variable {H:Type} {enc:TypeId×Value→H} {w:World} {base:Nat} {spare:Nat→Bool} {held:Bool} {fuel:Nat} {t:TypeId} {x:DataW H×List MemPlace}
end
section
variable {H:Type} {enc:TypeId×Value→H} {P:Program} {w w':World}
theorem Gm (hk:w.keptBut w' (fun _=>False)) {p:MemPlace} (hp:p.block<w.heap.size):w.sameAt w' p:=by
 have h:=hk.block hp (fun _ h=>h.elim)
 cases p with
 | cell b off=>simp only[World.sameAt,World.cell?];rw[show w'.heap[b]? =w.heap[b]? from h]
 | map b=>exact h
theorem JB (hl:laidOutB P=true) (hk:w.keptBut w' (fun _=>False)):∀{ts:List TypeId} {vs:List Value} {ds:List (DataW H)} {ps:List MemPlace},(∀t∈ts,P.readableRec t=true∧t<P.types.size)→
 DataW.TrodAll enc P w 0 (fun _=>true) true ts vs ds ps→DataW.TrodAll enc P w' 0 (fun b=>decide (b<w.heap.size)) true ts vs ds ps
 | [],vs,ds,ps,_,h=>by
   obtain ⟨rfl,rfl,rfl⟩:=trodAll_nil h
   exact trodAll_mk0
 | t::ts,vs,ds,ps,hr,h=>by
   have oa:=DataW.TrodAll.lt h
   obtain ⟨v,tN,d,CD,p,p',rfl,rfl,rfl,⟨n,h1⟩,h2⟩:=trodAll_cons h
   obtain ⟨h3,h4⟩:=hr t (by simp)
   refine trodAll_cons_mk ⟨n,?_⟩ (JB hl hk (fun t ht=>hr t (by simp [ht])) h2)
   exact DataW.trod_stays (kids_book hl h3) (book_sized h3) (fun h=>by cases h) ⟨h4,book_self t⟩ h1 (fun q hq=>Gm hk (oa q (by simp [hq]))) (fun q hq=>by simpa using oa q (by simp [hq]))
end
end Go.Ab
end
section
namespace Go.Ab
variable {E:Env}
end Go.Ab
end
section
namespace Go.Ab
variable {E:Env} {call:bu}
def Ev (E:Env) (call:bu) (c:Code) (s:St) (e:my) (s':St):Prop:=∃n0,∀n,n0≤n→exec E call n c s= .ok e s'
theorem Ev.of {c:Code} {s:St} {e:my} {s':St} (h:∀n,exec E call (n+1) c s= .ok e s'):Ev E call c s e s':=⟨1,fun n hn=>by
 obtain ⟨k,rfl⟩:∃k,n=k+1:=⟨n - 1,by omega⟩
 exact h k⟩
theorem Ev.seq {a b:Code} {s s1 s':St} {e:my} (h1:Ev E call a s .normal s1) (h2:Ev E call b s1 e s'):Ev E call (.seq a b) s e s':=by
 obtain ⟨n1,h1⟩:=h1
 obtain ⟨n2,h2⟩:=h2
 refine ⟨n1+n2+1,fun n hn=>?_⟩
 obtain ⟨k,rfl⟩:∃k,n=k+1:=⟨n - 1,by omega⟩
 rw[aeK,h1 k (by omega),DV]
 exact h2 k (by omega)
theorem Ev.seq' {a b:Code} {s s':St} {e:my} (he:e≠ .normal) (h1:Ev E call a s e s'):Ev E call (.seq a b) s e s':=by
 obtain ⟨n1,h1⟩:=h1
 refine ⟨n1+1,fun n hn=>?_⟩
 obtain ⟨k,rfl⟩:∃k,n=k+1:=⟨n - 1,by omega⟩
 rw[aeK,h1 k (by omega)]
 cases e with
 | normal=>exact absurd rfl he
 | _=>rfl
theorem Ev.loop {b:Code} {s s1 s':St} {e:my} (h1:Ev E call b s .normal s1) (h2:Ev E call (.loop b) s1 e s'):Ev E call (.loop b) s e s':=by
 obtain ⟨n1,h1⟩:=h1
 obtain ⟨n2,h2⟩:=h2
 refine ⟨n1+n2+1,fun n hn=>?_⟩
 obtain ⟨k,rfl⟩:∃k,n=k+1:=⟨n - 1,by omega⟩
 rw[YK,h1 k (by omega),DV]
 exact h2 k (by omega)
theorem Ev.exit {b:Code} {s s':St} {e:my} (he:e≠ .normal) (h1:Ev E call b s e s'):Ev E call (.loop b) s e s':=by
 obtain ⟨n1,h1⟩:=h1
 refine ⟨n1+1,fun n hn=>?_⟩
 obtain ⟨k,rfl⟩:∃k,n=k+1:=⟨n - 1,by omega⟩
 rw[YK,h1 k (by omega)]
 cases e with
 | normal=>exact absurd rfl he
 | _=>rfl
theorem Ev.ret {b:Code} {s s':St} (h1:Ev E call b s .ret s'):Ev E call (.loop b) s .ret s':=Ev.exit (by simp) h1
theorem Ev.out {b:Code} {s s':St} {i:Nat} (h1:Ev E call b s (.exit i) s'):Ev E call (.loop b) s (.exit i) s':=Ev.exit (by simp) h1
inductive pV where
 | c
 | v (x:AV)
 | q (x:AV)
 | m (x:AV)
 | n (h:aC)
 | a (obj:aM) (x:AV) (h:aC)
 | e (x:AV) (h:aC)
 | p (x:AV) (h:aC)
 | b (x:Bool)
 | l (e:my) (s:St)
def nZ:List Prop→Prop
 | []=>True
 | p::ps=>p∧nZ ps
inductive R where
 | bad
 | at (e:my) (s:St) (as:List pV) (ps:List Prop)
def R.go (k:St→List pV→List Prop→R):R→R
 | .at .normal s as ps=>k s as ps
 | r=>r
theorem R.ajg {k:St→List pV→List Prop→R} {r:R} {e:my} {s:St} {as:List pV} {ps:List Prop} (h:r.go k= .at e s as ps):(∃s1 yg vg,r= .at .normal s1 yg vg∧k s1 yg vg= .at e s as ps)∨(r= .at e s as ps∧e≠ .normal):=by
 unfold R.go at h
 split at h
 · exact .inl ⟨_,_,_,rfl,h⟩
 · rename_i f'
   refine .inr ⟨h,fun he=>?_⟩
   subst he;exact f' _ _ _ h
def ajh (E:Env) (ts:List AV):List Operand→List TypeId→Option AV
 | [x],[t]=>cb (E.P.underlying t) (fK E ts x)
 | _,_=>none
def DX (c a b:Option AV):Option AV:=match c with
 | some (.bool true)=>a
 | some (.bool false)=>b
 | _=>none
theorem acU {ts:List AV} (c a b:Operand):bC E ts (.pick c a b)=DX (fK E ts c) (fK E ts a) (fK E ts b):=by
 simp only[bC]
 generalize fK E ts c=x
 cases x with
 | none=>rfl
 | some v=>cases v with
   | bool b=>cases b<;>rfl
   | _=>rfl
theorem YO {c:Bool} {a b:Option AV} (h:c=true):DX (some (.bool c)) a b=a:=by rw[h];rfl
theorem cf {c:Bool} {a b:Option AV} (h:c=false):DX (some (.bool c)) a b=b:=by rw[h];rfl
def acV (E:Env) (ts:List AV) (op:Op):Option AV:=match op with
 | .indexAddr t x i=>bO E (E.P.underlying t) (fK E ts x) (fK E ts i)
 | .index t x i=>zK E (E.P.underlying t) (fK E ts x) (fK E ts i)
 | .binOp op t x y _=>gQ E op t (isConst x) (isConst y) (fK E ts x) (fK E ts y)
 | .pick c a b=>DX (fK E ts c) (fK E ts a) (fK E ts b)
 | .call c=>match c.callee with
   | .builtin .len=>ajh E ts c.args.toList c.argTypes.toList
   | _=>none
 | _=>none
theorem Gn {α:Type} {a:Array α} {l:List α} (h:a.toList=l):a=l.toArray:=by rw[←h]
theorem Tr {ts:List AV} {op:Op} {v:AV} (e:acV E ts op=some v):bC E ts op=some v:=by
 unfold acV at e
 split at e
 · rw[←N9] at e;exact e
 · rw[←acT] at e;exact e
 · rename_i o t x y t';exact (acK o t t' x y).trans e
 · rename_i c a b;exact (acU c a b).trans e
 · rename_i c
   obtain ⟨cl,args,tys⟩:=c
   simp only at e
   split at e
   · unfold ajh at e
     split at e
     · rename_i x t hx ht
       rw[Gn hx,Gn ht]
       exact (ajf x t).trans e
     · cases e
   · cases e
 · cases e
noncomputable def YP (E:Env) (ts:List AV) (h:aC) (op:Op):Option AV:=match op with
 | .load t x=>opK (fK E ts x) (bh E h t) none
 | op=>fp E ts h op
theorem Le {ts:List AV} {h:aC} {op:Op} {v:AV} (e:YP E ts h op=some v):fp E ts h op=some v:=by
 unfold YP at e
 split at e
 · rw[jJ];exact e
 · exact e
def yV (E:Env) (d:Option TypeDesc) (l c:Option AV):Option (aM×(Nat→AV)):=match d,l,c with
 | some (.slice elem),some (.int _ len),some (.int _ cap)=>match ca E elem,kH E elem,iu E elem with
   | some n,some bytes,some z=>
     if 0≤len∧len≤cap∧cap<2^30∧(bytes:Int)*cap≤2^47∧z.cells.length=n then
      some (.cells (bT z.cells cap.toNat) elem false,fun i=> .slice i 0 len.toNat cap.toNat false)
     else none
   | _,_,_=>none
 | _,_,_=>none
def acW (E:Env) (ts:List AV) (op:Op):Option (aM×(Nat→AV)):=match op with
 | .makeSlice t l c=>yV E (E.P.underlying t) (fK E ts l) (fK E ts c)
 | op=>fF E ts op
theorem Ts (ts:List AV) (op:Op):acW E ts op=fF E ts op:=by
 unfold acW
 split
 · rename_i t l c
   simp only[fF]
   generalize E.P.underlying t=d
   generalize fK E ts l=x
   generalize fK E ts c=y
   rfl
 · rfl
noncomputable def acX (E:Env) (call:bu) (ts:List AV) (h:aC) (rc:RC) (o:Oper) (x:AV) (h':aC):Prop:=match o.op with
 | .store t a v=>match fK E ts a,fK E ts v with
   | some a,some v=>x=AV.undef∧dV E h t a v=some h'
   | _,_=>False
 | .call c=>match c.callee with
   | .builtin .append=>match iv E ts c.args.toList with
     | some [s,y]=>du E h c.argTypes s y=some (x,h')
     | _=>False
   | .builtin .copy=>match iv E ts c.args.toList with
     | some [s,y]=>yO E h c.argTypes s y=some (x,h')
     | _=>False
   | .value _=>match callee E ts c with
     | some (f,args)=>match lC E f with
       | some g=>g args h=some (x,h')
       | none=>call f args h= .ret x h'
     | none=>False
   | _=>ea E call ts h rc o= .val x h'
 | .convert src dst y=>Jb E h src dst (fK E ts y)=some (x,h')
 | _=>ea E call ts h rc o= .val x h'
theorem Tt {ts:List AV} {h:aC} {rc:RC} {o:Oper} {x:AV} {h':aC} (e:acX E call ts h rc o x h'):ea E call ts h rc o= .val x h':=by
 unfold acX at e
 split at e
 · rename_i t a v ho
   split at e
   · rename_i a' v' h1 h2
     obtain ⟨rfl,e⟩:=e
     unfold ea
     simp only[ho,h1,h2,e]
   · exact e.elim
 · rename_i c ho
   split at e
   · rename_i hc
     split at e
     · rename_i h1
       unfold ea
       simp only[ho,hc,h1,e]
     · exact e.elim
   · rename_i hc
     split at e
     · rename_i h1
       unfold ea
       simp only[ho,hc,h1,e]
     · exact e.elim
   · rename_i hc
     split at e
     · rename_i h1
       split at e
       · rename_i h2
         unfold ea
         simp only[ho,hc,h1,h2,e]
       · rename_i h2
         unfold ea
         simp only[ho,hc,h1,h2,e]
     · exact e.elim
   · exact e
 · rename_i src dst y ho
   unfold ea
   simp only[ho,e]
 · exact e
def Vq {β:Type} (k:List AV→β):List AV→Nat→AV→β
 | [],_,_=>k []
 | _::xs,0,v=>k (v::xs)
 | x::xs,d+1,v=>Vq (fun ys=>k (x::ys)) xs d v
theorem Lf {β:Type}:∀(k:List AV→β) (ts:List AV) (d:Nat) (v:AV),Vq k ts d v=k (ts.set d v)
 | k,[],_,_=>by simp [Vq]
 | k,_::xs,0,v=>rfl
 | k,x::xs,d+1,v=>by rw[Vq,Lf];rfl
def wC (s:St) (d:Option Tmp) (v:AV) (h:aC) (as:List pV) (ps:List Prop):R:=match d with
 | some i=>Vq (fun ts=> .at .normal ⟨ts,h,s.ds,s.rc⟩ as ps) s.ts i v
 | none=> .at .normal ⟨s.ts,h,s.ds,s.rc⟩ as ps
theorem o4 (s:St) (d:Option Tmp) (v:AV) (h:aC) (as:List pV) (ps:List Prop):Go.Ab.wC s d v h as ps= .at .normal {s with ts:=ew s.ts d v,h:=h} as ps:=by
 cases d with
 | none=>rfl
 | some i=>exact Lf _ _ _ _
noncomputable def N_ (E:Env) (call:bu) (o:Oper) (s:St) (as:List pV) (ps:List Prop):R:=match as with
 | .c::as=>match bC E s.ts o.op with
   | some v=>wC s o.dst v s.h as ps
   | none=> .bad
 | .v x::as=>wC s o.dst x s.h as ((acV E s.ts o.op=some x)::ps)
 | .q x::as=>wC s o.dst x s.h as ((bC E s.ts o.op=some x)::ps)
 | .m x::as=>match bC E s.ts o.op with
   | none=>wC s o.dst x s.h as ((YP E s.ts s.h o.op=some x)::ps)
   | some _=> .bad
 | .n h'::as=>match bC E s.ts o.op,fp E s.ts s.h o.op,fF E s.ts o.op with
   | none,none,some (obj,mk)=>wC s o.dst (mk s.h.nx) h' as ((s.h.new obj=some h')::ps)
   | _,_,_=> .bad
 | .a obj x h'::as=>match bC E s.ts o.op,fp E s.ts s.h o.op with
   | none,none=>wC s o.dst x h' as ((∃mk,acW E s.ts o.op=some (obj,mk)∧mk s.h.nx=x)::(s.h.new obj=some h')::ps)
   | _,_=> .bad
 | .e x h'::as=>match bC E s.ts o.op,fp E s.ts s.h o.op,fF E s.ts o.op with
   | none,none,none=>wC s o.dst x h' as (acX E call s.ts s.h s.rc o x h'::ps)
   | _,_,_=> .bad
 | .p x h'::as=>match bC E s.ts o.op,fp E s.ts s.h o.op,fF E s.ts o.op with
   | none,none,none=> .at (.panic x) {s with h:=h'} as ((ea E call s.ts s.h s.rc o= .panic x h')::ps)
   | _,_,_=> .bad
 | _=> .bad
theorem DY {o:Oper} {s:St} {as:List pV} {ps:List Prop} {e:my} {s':St} {AH:List pV} {vy:List Prop} (hr:N_ E call o s as ps= .at e s' AH vy) (hp:nZ vy):nZ ps∧Kr E call s o= .ok e s':=by
 have seen:∀{x:AV},(bC E s.ts o.op=some x∨(bC E s.ts o.op=none∧fp E s.ts s.h o.op=some x))→Kr E call s o= .ok .normal {s with ts:=ew s.ts o.dst x}:=by
  rintro x (h | ⟨h1,h2⟩)<;>unfold Kr
  · rw[h]
  · rw[h1,h2]
 unfold N_ at hr
 split at hr
 · split at hr
   · rename_i v hv
     rw[o4] at hr;cases hr
     exact ⟨hp,seen (.inl hv)⟩
   · cases hr
 · rw[o4] at hr;cases hr
   exact ⟨hp.2,seen (.inl (Tr hp.1))⟩
 · rw[o4] at hr;cases hr
   exact ⟨hp.2,seen (.inl hp.1)⟩
 · split at hr
   · rename_i h1
     rw[o4] at hr;cases hr
     exact ⟨hp.2,seen (.inr ⟨h1,Le hp.1⟩)⟩
   · cases hr
 · split at hr
   · rename_i h1 h2 h3
     rw[o4] at hr;cases hr
     refine ⟨hp.2,?_⟩
     unfold Kr
     simp only[h1,h2,h3,hp.1]
   · cases hr
 · split at hr
   · rename_i h1 h2
     rw[o4] at hr;cases hr
     obtain ⟨⟨mk,h3,h4⟩,h5,hp⟩:=hp
     rw[Ts] at h3
     refine ⟨hp,?_⟩
     unfold Kr
     simp only[h1,h2,h3,h4,h5]
   · cases hr
 · split at hr
   · rename_i h1 h2 h3
     rw[o4] at hr;cases hr
     refine ⟨hp.2,?_⟩
     unfold Kr
     simp only[h1,h2,h3,Tt hp.1]
   · cases hr
 · split at hr
   · rename_i h1 h2 h3
     cases hr
     refine ⟨hp.2,?_⟩
     unfold Kr
     simp only[h1,h2,h3,hp.1]
   · cases hr
 · cases hr
inductive Gd where
 | yes
 | no
 | ask (v want:Bool)
def N' (want:Bool):Option AV→Gd
 | some (.bool v)=> .ask v want
 | _=> .no
def Lg (ops:Array Oper) (ts:List AV) (g:Option (Nat×Bool)):Gd:=match g with
 | none=> .yes
 | some (j,want)=>match (ops[j]?).bind (·.dst) with
   | none=> .no
   | some d=>N' want ts[d]?
theorem JC (ops:Array Oper) (ts:List AV) (o:Oper):cV ops ts o=(match Lg ops ts o.guard with
 | .yes=>true
 | .no=>false
 | .ask v want=>v==want):=by
 unfold cV Lg
 cases o.guard with
 | none=>rfl
 | some q=>
   obtain ⟨j,want⟩:=q
   simp only
   cases (ops[j]?).bind (·.dst) with
   | none=>rfl
   | some d=>
     simp only
     generalize ts[d]? =y
     unfold N'
     cases y with
     | none=>rfl
     | some z=>cases z<;>rfl
noncomputable def rW (E:Env) (call:bu) (ops:Array Oper):List Oper→St→List pV→List Prop→R
 | [],s,as,ps=> .at .normal s as ps
 | o::rest,s,as,ps=>match Lg ops s.ts o.guard with
   | .yes=>(N_ E call o s as ps).go (rW E call ops rest)
   | .no=>(wC s o.dst AV.undef s.h as ps).go (rW E call ops rest)
   | .ask v want=>match as with
     | .b x::as=>bif x==want then (N_ E call o s as ((v=x)::ps)).go (rW E call ops rest) else (wC s o.dst AV.undef s.h as ((v=x)::ps)).go (rW E call ops rest)
     | _=> .bad
theorem Be {ops:Array Oper}:∀(l:List Oper) (s:St) (as:List pV) (ps:List Prop) (e:my) (s':St) (AH:List pV) (vy:List Prop),rW E call ops l s as ps= .at e s' AH vy→nZ vy→nZ ps∧oV E call ops l s= .ok e s'
 | [],s,as,ps,e,s',AH,vy,hr,hp=>by cases hr;exact ⟨hp,rfl⟩
 | o::rest,s,as,ps,e,s',AH,vy,hr,hp=>by
   have ih:=Be (ops:=ops) rest
   have agc:∀(yg:List pV) (vg:List Prop),(N_ E call o s yg vg).go (rW E call ops rest)= .at e s' AH vy→nZ vg∧(cV ops s.ts o=true→oV E call ops (o::rest) s= .ok e s'):=by
    intro yg vg h
    rcases R.ajg h with ⟨s1,as2,ps2,h1,h2⟩ | ⟨h1,f'⟩
    · obtain ⟨h3,h4⟩:=ih _ _ _ _ _ _ _ h2 hp
      obtain ⟨h5,h6⟩:=DY h1 h3
      refine ⟨h5,fun hw=>?_⟩
      unfold oV
      rw[if_pos hw,h6];exact h4
    · obtain ⟨h5,h6⟩:=DY h1 hp
      refine ⟨h5,fun hw=>?_⟩
      unfold oV
      rw[if_pos hw,h6]
      cases e with
      | normal=>exact absurd rfl f'
      | _=>rfl
   have agd:∀(yg:List pV) (vg:List Prop),(wC s o.dst AV.undef s.h yg vg).go (rW E call ops rest)= .at e s' AH vy→nZ vg∧(cV ops s.ts o=false→oV E call ops (o::rest) s= .ok e s'):=by
    intro yg vg h
    rw[o4] at h
    obtain ⟨h3,h4⟩:=ih _ _ _ _ _ _ _ (show rW E call ops rest _ yg vg=_ from h) hp
    refine ⟨h3,fun hw=>?_⟩
    unfold oV
    rw[if_neg (by rw[hw];exact Bool.false_ne_true)]
    exact h4
   have hg:=JC ops s.ts o
   unfold rW at hr
   split at hr
   · rename_i h1;rw[h1] at hg;exact ⟨(agc _ _ hr).1,(agc _ _ hr).2 hg⟩
   · rename_i h1;rw[h1] at hg;exact ⟨(agd _ _ hr).1,(agd _ _ hr).2 hg⟩
   · rename_i v want h1
     rw[h1] at hg
     split at hr
     · rename_i x yg
       cases hx:x==want with
       | true=>
         rw[hx] at hr
         obtain ⟨⟨h2,h3⟩,h4⟩:=agc _ _ hr
         exact ⟨h3,h4 (by rw[hg,h2];exact hx)⟩
       | false=>
         rw[hx] at hr
         obtain ⟨⟨h2,h3⟩,h4⟩:=agd _ _ hr
         exact ⟨h3,h4 (by rw[hg,h2];exact hx)⟩
     · cases hr
inductive RT where
 | bad
 | ok (tr:List Step) (hs:List aC) (s:St) (as:List pV) (ps:List Prop)
def RT.step (x:Step):RT→RT
 | .ok tr hs s as ps=> .ok (x::tr) hs s as ps
 | .bad=> .bad
def RT.bound (x:Step) (h:aC):RT→RT
 | .ok tr hs s as ps=> .ok (x::tr) (h::hs) s as ps
 | .bad=> .bad
def RT.put (s:St) (d:Option Tmp) (v:AV) (h:aC) (k:St→RT):RT:=match d with
 | some i=>Vq (fun ts=>k ⟨ts,h,s.ds,s.rc⟩) s.ts i v
 | none=>k ⟨s.ts,h,s.ds,s.rc⟩
theorem RT.put_eq (s:St) (d:Option Tmp) (v:AV) (h:aC) (k:St→RT):RT.put s d v h k=k {s with ts:=ew s.ts d v,h:=h}:=by
 cases d with
 | none=>rfl
 | some i=>exact Lf _ _ _ _
noncomputable def Oa (E:Env) (call:bu) (i k:Nat) (o:Oper) (s:St) (as:List pV) (ps:List Prop) (go:Nat→St→List pV→List Prop→RT):RT:=match as with
 | .e x h'::as=>(RT.put s o.dst x h' fun s'=>go (k+1) s' as (acX E call s.ts s.h s.rc o x h'::ps)).bound ⟨i,k,s.ts,x,.yx h'⟩ s.h
 | _=> .bad
noncomputable def Ob (E:Env) (i k:Nat) (o:Oper) (s:St) (as:List pV) (ps:List Prop) (go:Nat→St→List pV→List Prop→RT):RT:=match as with
 | .c::as=>match bC E s.ts o.op with
   | some v=>(RT.put s o.dst v s.h fun s'=>go k s' as ps).step ⟨i,k,s.ts,v,.iV⟩
   | none=> .bad
 | .v x::as=>(RT.put s o.dst x s.h fun s'=>go k s' as ((acV E s.ts o.op=some x)::ps)).step ⟨i,k,s.ts,x,.iV⟩
 | .q x::as=>(RT.put s o.dst x s.h fun s'=>go k s' as ((bC E s.ts o.op=some x)::ps)).step ⟨i,k,s.ts,x,.iV⟩
 | .m x::as=>match bC E s.ts o.op with
   | none=>(RT.put s o.dst x s.h fun s'=>go k s' as ((YP E s.ts s.h o.op=some x)::ps)).step ⟨i,k,s.ts,x,.red⟩
   | some _=> .bad
 | .n h'::as=>match bC E s.ts o.op,fp E s.ts s.h o.op,fF E s.ts o.op with
   | none,none,some (obj,mk)=>(RT.put s o.dst (mk s.h.nx) h' fun s'=>go k s' as ((s.h.new obj=some h')::ps)).step ⟨i,k,s.ts,mk s.h.nx,.vW s.h.nx obj⟩
   | _,_,_=> .bad
 | .a obj x h'::as=>match bC E s.ts o.op,fp E s.ts s.h o.op with
   | none,none=>(RT.put s o.dst x h' fun s'=>go k s' as ((∃mk,acW E s.ts o.op=some (obj,mk)∧mk s.h.nx=x)::(s.h.new obj=some h')::ps)).step ⟨i,k,s.ts,x,.vW s.h.nx obj⟩
   | _,_=> .bad
 | _=> .bad
noncomputable def runT (E:Env) (call:bu) (ops:Array Oper):List Nat→Nat→St→List pV→List Prop→RT
 | [],_,s,as,ps=> .ok [] [s.h] s as ps
 | i::rest,k,s,as,ps=>match ops[i]? with
   | none=> .bad
   | some o=>match Lg ops s.ts o.guard with
     | .yes=>bif gY E o.op then Oa E call i k o s as ps (runT E call ops rest) else Ob E i k o s as ps (runT E call ops rest)
     | .no=>bif gY E o.op then (RT.put s o.dst AV.undef s.h fun s'=>runT E call ops rest (k+1) s' as ps).bound ⟨i,k,s.ts,AV.undef,.off⟩ s.h else (RT.put s o.dst AV.undef s.h fun s'=>runT E call ops rest k s' as ps).step ⟨i,k,s.ts,AV.undef,.off⟩
     | .ask v want=>match as with
       | .b x::as=>bif x==want then (bif gY E o.op then Oa E call i k o s as ((v=x)::ps) (runT E call ops rest) else Ob E i k o s as ((v=x)::ps) (runT E call ops rest))
         else (bif gY E o.op then (RT.put s o.dst AV.undef s.h fun s'=>runT E call ops rest (k+1) s' as ((v=x)::ps)).bound ⟨i,k,s.ts,AV.undef,.off⟩ s.h else (RT.put s o.dst AV.undef s.h fun s'=>runT E call ops rest k s' as ((v=x)::ps)).step ⟨i,k,s.ts,AV.undef,.off⟩)
       | _=> .bad
theorem RT.ui {x:Step} {r:RT} {tr:List Step} {hs:List aC} {s:St} {as:List pV} {ps:List Prop} (h:r.step x= .ok tr hs s as ps):∃P5,tr=x::P5∧r= .ok P5 hs s as ps:=by
 cases r with
 | bad=>cases h
 | ok a b c d e=>cases h;exact ⟨_,rfl,rfl⟩
theorem RT.Oc {x:Step} {g:aC} {r:RT} {tr:List Step} {hs:List aC} {s:St} {as:List pV} {ps:List Prop} (h:r.bound x g= .ok tr hs s as ps):∃P5 tM,tr=x::P5∧hs=g::tM∧r= .ok P5 tM s as ps:=by
 cases r with
 | bad=>cases h
 | ok a b c d e=>cases h;exact ⟨_,_,rfl,rfl,rfl⟩
theorem Gp {ops:Array Oper}:∀(l:List Nat) (k:Nat) (s:St) (as:List pV) (ps:List Prop) (tr:List Step) (hs:List aC) (s':St) (AH:List pV) (vy:List Prop),
 runT E call ops l k s as ps= .ok tr hs s' AH vy→nZ vy→nZ ps∧dE E call ops l k s= .ok tr hs s'
 | [],k,s,as,ps,tr,hs,s',AH,vy,hr,hp=>by cases hr;exact ⟨hp,rfl⟩
 | i::rest,k,s,as,ps,tr,hs,s',AH,vy,hr,hp=>by
   have ih:=Gp (ops:=ops) rest
   unfold runT at hr
   split at hr
   · cases hr
   rename_i o hi
   have hE:∀{yg:List pV} {vg:List Prop},gY E o.op=true→Oa E call i k o s yg vg (runT E call ops rest)= .ok tr hs s' AH vy→nZ vg∧(cV ops s.ts o=true→dE E call ops (i::rest) k s= .ok tr hs s'):=by
    intro yg vg he h
    unfold Oa at h
    split at h
    · rename_i x h' as2
      rw[RT.put_eq] at h
      obtain ⟨SY,vO,rfl,rfl,h9⟩:=RT.Oc h
      obtain ⟨h1,h2⟩:=ih _ _ _ _ _ _ _ _ _ h9 hp
      refine ⟨h1.2,fun hw=>?_⟩
      unfold dE
      simp only[hi,he,hw,if_true,Tt h1.1,h2]
      rfl
    · cases h
   have hN:∀{yg:List pV} {vg:List Prop},gY E o.op=false→Ob E i k o s yg vg (runT E call ops rest)= .ok tr hs s' AH vy→nZ vg∧(cV ops s.ts o=true→dE E call ops (i::rest) k s= .ok tr hs s'):=by
    intro yg vg he h
    unfold Ob at h
    split at h
    · split at h
      · rename_i v hv
        rw[RT.put_eq] at h
        obtain ⟨SY,rfl,h9⟩:=RT.ui h
        obtain ⟨h1,h2⟩:=ih _ _ _ _ _ _ _ _ _ h9 hp
        refine ⟨h1,fun hw=>?_⟩
        unfold dE
        simp only[hi,he,hw,if_true,hv,Bool.false_eq_true,if_false]
        rw[h2]
        rfl
      · cases h
    · rw[RT.put_eq] at h
      obtain ⟨SY,rfl,h9⟩:=RT.ui h
      obtain ⟨h1,h2⟩:=ih _ _ _ _ _ _ _ _ _ h9 hp
      refine ⟨h1.2,fun hw=>?_⟩
      unfold dE
      simp only[hi,he,hw,if_true,Tr h1.1,Bool.false_eq_true,if_false]
      rw[h2]
      rfl
    · rw[RT.put_eq] at h
      obtain ⟨SY,rfl,h9⟩:=RT.ui h
      obtain ⟨h1,h2⟩:=ih _ _ _ _ _ _ _ _ _ h9 hp
      refine ⟨h1.2,fun hw=>?_⟩
      unfold dE
      simp only[hi,he,hw,if_true,h1.1,Bool.false_eq_true,if_false]
      rw[h2]
      rfl
    · split at h
      · rename_i hv
        rw[RT.put_eq] at h
        obtain ⟨SY,rfl,h9⟩:=RT.ui h
        obtain ⟨h1,h2⟩:=ih _ _ _ _ _ _ _ _ _ h9 hp
        refine ⟨h1.2,fun hw=>?_⟩
        unfold dE
        simp only[hi,he,hw,if_true,hv,Le h1.1,Bool.false_eq_true,if_false]
        rw[h2]
        rfl
      · cases h
    · split at h
      · rename_i q1 q2 q3
        rw[RT.put_eq] at h
        obtain ⟨SY,rfl,h9⟩:=RT.ui h
        obtain ⟨h1,h2⟩:=ih _ _ _ _ _ _ _ _ _ h9 hp
        refine ⟨h1.2,fun hw=>?_⟩
        unfold dE
        simp only[hi,he,hw,if_true,q1,q2,q3,h1.1,Bool.false_eq_true,if_false,h2]
        rfl
      · cases h
    · split at h
      · rename_i q1 q2
        rw[RT.put_eq] at h
        obtain ⟨SY,rfl,h9⟩:=RT.ui h
        obtain ⟨h1,h2⟩:=ih _ _ _ _ _ _ _ _ _ h9 hp
        obtain ⟨⟨mk,h3,h4⟩,h5,h6⟩:=h1
        rw[Ts] at h3
        subst h4
        refine ⟨h6,fun hw=>?_⟩
        unfold dE
        simp only[hi,he,hw,if_true,q1,q2,h3,h5,Bool.false_eq_true,if_false,h2]
        rfl
      · cases h
    · cases h
   have hO:∀{yg:List pV} {vg:List Prop},(bif gY E o.op then (RT.put s o.dst AV.undef s.h fun s'=>runT E call ops rest (k+1) s' yg vg).bound ⟨i,k,s.ts,AV.undef,.off⟩ s.h else (RT.put s o.dst AV.undef s.h fun s'=>runT E call ops rest k s' yg vg).step ⟨i,k,s.ts,AV.undef,.off⟩)= .ok tr hs s' AH vy→
    nZ vg∧(cV ops s.ts o=false→dE E call ops (i::rest) k s= .ok tr hs s'):=by
    intro yg vg h
    cases he:gY E o.op with
    | true=>
      rw[he,cond_true,RT.put_eq] at h
      obtain ⟨SY,vO,rfl,rfl,h9⟩:=RT.Oc h
      obtain ⟨h1,h2⟩:=ih _ _ _ _ _ _ _ _ _ h9 hp
      refine ⟨h1,fun hw=>?_⟩
      unfold dE
      simp only[hi,he,hw,if_true,Bool.false_eq_true,if_false]
      rw[h2]
      rfl
    | false=>
      rw[he,cond_false,RT.put_eq] at h
      obtain ⟨SY,rfl,h9⟩:=RT.ui h
      obtain ⟨h1,h2⟩:=ih _ _ _ _ _ _ _ _ _ h9 hp
      refine ⟨h1,fun hw=>?_⟩
      unfold dE
      simp only[hi,he,hw,Bool.false_eq_true,if_false]
      rw[h2]
      rfl
   have hY:∀{yg:List pV} {vg:List Prop},(bif gY E o.op then Oa E call i k o s yg vg (runT E call ops rest) else Ob E i k o s yg vg (runT E call ops rest))= .ok tr hs s' AH vy→
    nZ vg∧(cV ops s.ts o=true→dE E call ops (i::rest) k s= .ok tr hs s'):=by
    intro yg vg h
    cases he:gY E o.op with
    | true=>rw[he] at h;exact hE he h
    | false=>rw[he] at h;exact hN he h
   have hg:=JC ops s.ts o
   split at hr
   · rename_i h1;rw[h1] at hg;exact ⟨(hY hr).1,(hY hr).2 hg⟩
   · rename_i h1;rw[h1] at hg;exact ⟨(hO hr).1,(hO hr).2 hg⟩
   · rename_i v want h1
     rw[h1] at hg
     split at hr
     · rename_i x yg
       cases hx:x==want with
       | true=>
         rw[hx] at hr
         obtain ⟨⟨h2,h3⟩,h4⟩:=hY hr
         exact ⟨h3,h4 (by rw[hg,h2];exact hx)⟩
       | false=>
         rw[hx] at hr
         obtain ⟨⟨h2,h3⟩,h4⟩:=hO hr
         exact ⟨h3,h4 (by rw[hg,h2];exact hx)⟩
     · cases hr
noncomputable def QW (E:Env) (ops:Array Oper) (x:Step) (h:aC) (ps:List Prop):List Prop:=match x.kind with
 | .red=>match ops[x.i]? with
   | some o=>(AV.same 20 x.v x.v=true)::(YP E x.ts h o.op=some x.v)::ps
   | none=>False::ps
 | .vW n obj=>(∃o,h.get n=some o∧aM.same o obj=true)::ps
 | _=>ps
noncomputable def QX (E:Env) (ops:Array Oper) (x:Step):List aC→List Prop→List Prop
 | [],ps=>ps
 | h::hs,ps=>QX E ops x hs (QW E ops x h ps)
noncomputable def Bf (E:Env) (ops:Array Oper) (bQ:List Nat) (an:List (List Nat)) (hs:List aC):List Step→List Prop→List Prop
 | [],ps=>ps
 | x::tr,ps=>Bf E ops bQ an hs tr (QX E ops x ((hs.drop x.k).take (lW bQ an x.i+1 - x.k)) ps)
theorem Vr {ops:Array Oper} {x:Step} {h:aC} {ps:List Prop} (hc:nZ (QW E ops x h ps)):nZ ps∧kW E ops x h=true:=by
 unfold QW at hc
 unfold kW
 split at hc
 · rename_i hk
   simp only[hk]
   split at hc
   · rename_i o ho
     have iH:ops.getD x.i default=o:=by simp [Array.getD_eq_getD_getElem?,ho]
     simp only[iH,Le hc.2.1,hc.1]
     exact ⟨hc.2.2,trivial⟩
   · exact hc.1.elim
 · rename_i n obj hk
   obtain ⟨⟨o,h1,h2⟩,h3⟩:=hc
   simp only[hk,h1,h2]
   exact ⟨h3,trivial⟩
 · rename_i h1 h2
   refine ⟨hc,?_⟩
   split
   · rename_i hk;exact absurd hk (by assumption)
   · rename_i hk;exact absurd hk (h2 _ _)
   · rfl
theorem JD {ops:Array Oper} {x:Step}:∀(hs:List aC) (ps:List Prop),nZ (QX E ops x hs ps)→nZ ps∧hs.all (kW E ops x)=true
 | [],ps,hc=>⟨hc,rfl⟩
 | h::hs,ps,hc=>by
   obtain ⟨h1,h2⟩:=JD hs _ hc
   obtain ⟨h3,h4⟩:=Vr h1
   exact ⟨h3,by simp only[List.all_cons,h4,h2,Bool.and_self]⟩
theorem DZ {ops:Array Oper} {bQ:List Nat} {an:List (List Nat)} {hs:List aC}:∀(tr:List Step) (ps:List Prop),nZ (Bf E ops bQ an hs tr ps)→
 nZ ps∧(tr.all fun x=>((hs.drop x.k).take (lW bQ an x.i+1 - x.k)).all (kW E ops x))=true
 | [],ps,hc=>⟨hc,rfl⟩
 | x::tr,ps,hc=>by
   obtain ⟨h1,h2⟩:=DZ tr _ hc
   obtain ⟨h3,h4⟩:=JD _ _ h1
   exact ⟨h3,by simp only[List.all_cons,h4,h2,Bool.and_self]⟩
noncomputable def YQ (l:List Nat) (ps:List Prop):List Prop:=match l with
 | []=>ps
 | [_]=>ps
 | l=>(nodup l=true)::ps
noncomputable def Lh (E:Env) (call:bu) (ops:Array Oper) (s:St) (as:List pV) (ps:List Prop):R:=match vV E ops with
 | none=> .bad
 | some pl=>match runT E call ops pl.order 0 s as ps with
   | .ok tr hs s' AH vy=> .at .normal s' AH (YQ (tH tr) (Bf E ops pl.bQ pl.an hs tr vy))
   | .bad=> .bad
theorem Iu {ops:Array Oper} {s:St} {as:List pV} {ps:List Prop} {e:my} {s':St} {AH:List pV} {vy:List Prop} (hr:Lh E call ops s as ps= .at e s' AH vy) (hp:nZ vy):nZ ps∧DB E call ops s= .ok e s':=by
 unfold Lh at hr
 split at hr
 · cases hr
 rename_i pl UX
 split at hr
 · rename_i tr hs s1 yg vg h1
   cases hr
   have hn:nZ (Bf E ops pl.bQ pl.an hs tr vg)∧nodup (tH tr)=true:=by
    unfold YQ at hp
    split at hp
    · rename_i hm;exact ⟨hp,by rw[hm];rfl⟩
    · rename_i hm;exact ⟨hp,by rw[hm];rfl⟩
    · exact ⟨hp.2,hp.1⟩
   obtain ⟨h2,h3⟩:=DZ _ _ hn.1
   obtain ⟨h4,h5⟩:=Gp _ _ _ _ _ _ _ _ _ _ h1 h2
   refine ⟨h4,?_⟩
   unfold DB
   simp only[UX,h5]
   have:tI E ops pl tr hs=true:=by
    unfold tI
    rw[hn.2,Bool.true_and]
    exact h3
   rw[if_pos this]
 · cases hr
noncomputable def run (E:Env) (call:bu):Nat→Code→St→List pV→List Prop→R
 | 0,_,_,_,_=> .bad
 | n+1,c,s,as,ps=>match c with
   | .skip=> .at .normal s as ps
   | .ret=> .at .ret s as ps
   | .exit i=> .at (.exit i) s as ps
   | .seq a b=>match run E call n a s as ps with
     | .at .normal s1 yg vg=>run E call n b s1 yg vg
     | r=>r
   | .cond x a b=>match as with
     | .b v::as=>match fK E s.ts x with
       | some (.bool u)=>bif v then run E call n a s as ((u=true)::ps) else run E call n b s as ((u=false)::ps)
       | _=> .bad
     | .l e s'::as=> .at e s' as (Ev E call (.cond x a b) s e s'::ps)
     | _=> .bad
   | .block id b=>match run E call n b s as ps with
     | .at (.exit j) s1 yg vg=>bif Nat.beq j id then .at .normal s1 yg vg else .at (.exit j) s1 yg vg
     | r=>r
   | .loop b=>match as with
     | .l e s'::as=> .at e s' as (Ev E call (.loop b) s e s'::ps)
     | _=> .bad
   | .rangeFunc f vy a b=>match as with
     | .l e s'::as=> .at e s' as (Ev E call (.rangeFunc f vy a b) s e s'::ps)
     | _=> .bad
   | .region i ops draw=>match as with
     | .l e s'::as=> .at e s' as (Ev E call (.region i ops draw) s e s'::ps)
     | as=>bif draw then Lh E call ops s as ps else rW E call ops ops.toList s as ps
   | .scope b=>run E call n b s as ps
   | .label _=> .at .normal s as ps
   | _=> .bad
theorem JE:∀(n:Nat) (c:Code) (s:St) (as:List pV) (ps:List Prop) (e:my) (s':St) (AH:List pV) (vy:List Prop),run E call n c s as ps= .at e s' AH vy→nZ vy→nZ ps∧Ev E call c s e s'
 | 0,c,s,as,ps,e,s',AH,vy,hr,hp=>by cases hr
 | n+1,c,s,as,ps,e,s',AH,vy,hr,hp=>by
   have ih:=JE n
   unfold run at hr
   split at hr
   · cases hr;exact ⟨hp,.of fun _=>rfl⟩
   · cases hr;exact ⟨hp,.of fun _=>rfl⟩
   · cases hr;exact ⟨hp,.of fun _=>rfl⟩
   · split at hr
     · rename_i s1 yg vg h1
       obtain ⟨h2,h3⟩:=ih _ _ _ _ _ _ _ _ hr hp
       obtain ⟨h4,h5⟩:=ih _ _ _ _ _ _ _ _ h1 h2
       exact ⟨h4,h5.seq h3⟩
     · rename_i f'
       obtain ⟨h4,h5⟩:=ih _ _ _ _ _ _ _ _ hr hp
       refine ⟨h4,h5.seq' fun he=>?_⟩
       subst he;exact f' _ _ _ hr
   · split at hr
     · rename_i v yg
       split at hr
       · rename_i u hu
         cases v with
         | true=>
           obtain ⟨⟨h1,h2⟩,n0,h3⟩:=ih _ _ _ _ _ _ _ _ hr hp
           refine ⟨h2,n0+1,fun n hn=>?_⟩
           obtain ⟨k,rfl⟩:∃k,n=k+1:=⟨n - 1,by omega⟩
           rw[YJ,hu,h1,QV];exact h3 k (by omega)
         | false=>
           obtain ⟨⟨h1,h2⟩,n0,h3⟩:=ih _ _ _ _ _ _ _ _ hr hp
           refine ⟨h2,n0+1,fun n hn=>?_⟩
           obtain ⟨k,rfl⟩:∃k,n=k+1:=⟨n - 1,by omega⟩
           rw[YJ,hu,h1,N8];exact h3 k (by omega)
       · cases hr
     · cases hr;exact ⟨hp.2,hp.1⟩
     · cases hr
   · split at hr
     · rename_i id b _ j s1 yg vg h1
       cases hj:Nat.beq j id with
       | true=>
         rw[hj] at hr
         cases hr
         obtain ⟨h2,n0,h3⟩:=ih _ _ _ _ _ _ _ _ h1 hp
         refine ⟨h2,n0+1,fun n hn=>?_⟩
         obtain ⟨k,rfl⟩:∃k,n=k+1:=⟨n - 1,by omega⟩
         rw[Lc,h3 k (by omega),DW,if_pos (Nat.eq_of_beq_eq_true hj)]
       | false=>
         rw[hj] at hr
         cases hr
         obtain ⟨h2,n0,h3⟩:=ih _ _ _ _ _ _ _ _ h1 hp
         refine ⟨h2,n0+1,fun n hn=>?_⟩
         obtain ⟨k,rfl⟩:∃k,n=k+1:=⟨n - 1,by omega⟩
         rw[Lc,h3 k (by omega),DW,if_neg (Nat.ne_of_beq_eq_false hj)]
     · rename_i id b _ f'
       obtain ⟨h2,n0,h3⟩:=ih _ _ _ _ _ _ _ _ hr hp
       refine ⟨h2,n0+1,fun n hn=>?_⟩
       obtain ⟨k,rfl⟩:∃k,n=k+1:=⟨n - 1,by omega⟩
       rw[Lc,h3 k (by omega)]
       cases e with
       | exit j=>exact absurd hr (f' _ _ _ _)
       | _=>rfl
   · split at hr
     · cases hr;exact ⟨hp.2,hp.1⟩
     · cases hr
   · split at hr
     · cases hr;exact ⟨hp.2,hp.1⟩
     · cases hr
   · rename_i i ops draw
     split at hr
     · cases hr;exact ⟨hp.2,hp.1⟩
     cases draw with
     | true=>
       simp only[cond_true] at hr
       obtain ⟨h1,h2⟩:=Iu hr hp
       exact ⟨h1,.of fun n=>by rw[acJ];exact h2⟩
     | false=>
       simp only[cond_false] at hr
       obtain ⟨h1,h2⟩:=Be _ _ _ _ _ _ _ _ hr hp
       exact ⟨h1,.of fun n=>by rw[YL];exact h2⟩
   · obtain ⟨h1,n0,h2⟩:=ih _ _ _ _ _ _ _ _ hr hp
     exact ⟨h1,n0+1,fun n hn=>by
      obtain ⟨k,rfl⟩:∃k,n=k+1:=⟨n - 1,by omega⟩
      show exec E call k _ s=_
      exact h2 k (by omega)⟩
   · cases hr;exact ⟨hp,.of fun _=>rfl⟩
   · cases hr
theorem QY {n:Nat} {c:Code} {s:St} {al:List pV} {e:my} {s':St} {ps:List Prop} (hr:run E call n c s al []= .at e s' [] ps) (hp:nZ ps):Ev E call c s e s':=(JE _ _ _ _ _ _ _ _ _ hr hp).2
theorem kz {tmpl:(Nat→AV)→List AV} {c:Code} {s:St} {e:my} {h:aC} {ds:List tG} {rc:RC} {L:List AV} (ev:Ev E call c s e ⟨L,h,ds,rc⟩) (hl:L=tmpl fun k=>L.getD k AV.undef):∃y,Ev E call c s e ⟨tmpl y,h,ds,rc⟩:=by
 refine ⟨fun k=>L.getD k AV.undef,?_⟩
 rw[←hl];exact ev
theorem yh {f:FuncId} {fn:Func} {c:Code} (hf:E.P.funcs[f]? =some fn) (hb:fn.body=some c) {args:List AV} {h h':aC} {ts:List AV} {x:my} (hx:x= .normal∨x= .ret)
 (e:Ev E call c ⟨args++List.replicate (fn.ntmps - args.length) AV.undef,h,[],.no⟩ x ⟨ts,h',[],.no⟩) {vs:List AV} (hr:mF E h' ts fn.results.toList=some vs):∃n0,∀n,n0≤n→DU E call n f args h= .ret (jF vs) h':=by
 obtain ⟨n0,e⟩:=e
 exact ⟨n0,fun n hn=>Vo hf hb hx (e n hn) hr⟩
def zL (E:Env) (call:bu) (f:FuncId) (args:List AV) (h:aC) (v:AV) (h':aC):Prop:=∃n0,∀n,n0≤n→DU E call n f args h= .ret v h'
theorem bb {f:FuncId} {fn:Func} {c:Code} {args ts0 ts:List AV} {h h':aC} {x:my} {v:AV} (hf:E.P.funcs[f]? =some fn) (hb:fn.body=some c) (ht:args++List.replicate (fn.ntmps - args.length) AV.undef=ts0) (hx:x= .normal∨x= .ret)
 (e:Ev E call c ⟨ts0,h,[],.no⟩ x ⟨ts,h',[],.no⟩) (hr:(mF E h' ts fn.results.toList).map jF=some v):zL E call f args h v h':=by
 subst ht
 cases hv:mF E h' ts fn.results.toList with
 | none=>rw[hv] at hr;cases hr
 | some vs=>
   rw[hv] at hr
   obtain rfl:jF vs=v:=Option.some.inj hr
   exact yh hf hb hx e hv
end Go.Ab
end
section
namespace Go.Ab
variable {E:Env}
theorem Gq {t:TypeId} {c d:Bool} {k:IntKind} {a b z:Int} (h:k.wrap (a+b)=z):gQ E .add t c d (some (.int k a)) (some (.int k b))=some (.int k z):=by rw[acL,h]
theorem Gr {t:TypeId} {c d:Bool} {k:IntKind} {a b z:Int} (h:k.wrap (a - b)=z):gQ E .sub t c d (some (.int k a)) (some (.int k b))=some (.int k z):=by rw[acM,h]
theorem jw {t:TypeId} {c d:Bool} {k:IntKind} {a b z:Int} (hb:b≠0) (h:a.tmod b=z):gQ E .rem t c d (some (.int k a)) (some (.int k b))=some (.int k z):=by simp [gQ,nX,eh,hb,h]
theorem gr (k:IntKind) (n:Int):AV.scalar (.int k n)=true:=rfl
theorem eO (b:Bool):AV.scalar (.bool b)=true:=rfl
theorem gu (b:List UInt8):AV.scalar (.str b)=true:=rfl
theorem gv (i o:Nat):AV.scalar (.ptr i o)=true:=rfl
theorem dG (i o n c:Nat) (b:Bool):AV.scalar (.slice i o n c b)=true:=rfl
theorem jK:AV.scalar .aG=true:=rfl
theorem jL:AV.scalar .iG=true:=rfl
theorem jM:AV.scalar .eZ=true:=rfl
theorem jN:AV.scalar .nilFunc=true:=rfl
theorem jO:AV.scalar .nilIface=true:=rfl
theorem gz (i:Nat):AV.scalar (.map i)=true:=rfl
theorem Gs {h:aC} {t:TypeId} {i o:Nat} {cs:List AV} {e:TypeId} {ro:Bool} {v:AV} (hg:h.get i=some (.cells cs e ro)) (hv:jW E t cs o=some v):bh E h t (.ptr i o)=some v:=by
 simp only[bh,hg,hv]
theorem uj {h h':aC} {o:aM} (n:h.new o=some h'):h'.get h.nx=some o:=(aC.m8 n).2.2.1
theorem zM {h h':aC} {o:aM} (n:h.new o=some h'):h'.nx=h.nx+1:=(aC.m8 n).2.1
theorem wD {h h':aC} {o x:aM} {i:Nat} (y:Tidy h) (n:h.new o=some h') (g:h.get i=some x):h'.get i=some x:=by
 have:=y i x g
 rw[(aC.m8 n).2.2.2 i (by omega)];exact g
theorem yi {h h':aC} {o:aM} (y:Tidy h) (n:h.new o=some h'):Has h h':=fun _ _ g=>wD y n g
theorem nk {h h':aC} {o:aM} (y:Tidy h) (n:h.new o=some h'):Tidy h':=fun i x g=>by
 obtain ⟨_,h2,h3,h4⟩:=aC.m8 n
 by_cases hx:i=h.nx
 · omega
 · rw[h4 i hx] at g;have:=y i x g;omega
theorem zN {h:aC} (o:aM):∃h',h.new o=some h':=⟨_,aC.Ku _ _⟩
theorem wE {h:aC} {t e:TypeId} {i o n:Nat} {cs:List AV} {v:AV} (g:h.get i=some (.cells cs e false)) (hs:ca E t=some n) (hv:v.cells.length=n) (ho:o+n≤cs.length) (hk:v.cells.all AV.scalar=true):∃h',dV E h t (.ptr i o) v=some h':=by
 refine ⟨h.put i (some (.cells (setFrom cs o v.cells) e false)),?_⟩
 simp only[dV,g,hs]
 rw[if_pos ⟨hv,ho,hk⟩]
theorem o5 {h h':aC} {t e:TypeId} {i o:Nat} {cs:List AV} {v:AV} (s:dV E h t (.ptr i o) v=some h') (g:h.get i=some (.cells cs e false)):h'=h.put i (some (.cells (setFrom cs o v.cells) e false)):=by
 simp only[dV,g] at s
 split at s
 · rename_i h1 _
   cases h1
   split at s
   · exact (Option.some.inj s).symm
   · cases s
 · cases s
theorem Vs {h h':aC} {t e:TypeId} {i o:Nat} {cs:List AV} {v:AV} (y:Tidy h) (s:dV E h t (.ptr i o) v=some h') (g:h.get i=some (.cells cs e false)):h'.get i=some (.cells (setFrom cs o v.cells) e false):=by
 rw[o5 s g]
 have:=y i _ g
 exact aC.dP _
theorem QZ {h h':aC} {t e:TypeId} {i j o:Nat} {cs:List AV} {v:AV} {x:aM} (y:Tidy h) (s:dV E h t (.ptr i o) v=some h') (g:h.get i=some (.cells cs e false)) (hj:j≠i) (gx:h.get j=some x):h'.get j=some x:=by
 rw[o5 s g]
 have:=y i _ g
 rw[aC.cu (Ne.symm hj)];exact gx
theorem Od {h h':aC} {t e:TypeId} {i o:Nat} {cs:List AV} {v:AV} (s:dV E h t (.ptr i o) v=some h') (g:h.get i=some (.cells cs e false)):h'.nx=h.nx:=by
 rw[o5 s g];exact aC.afE _ _ _
theorem Q0 {h h':aC} {t e:TypeId} {i o:Nat} {cs:List AV} {v:AV} (y:Tidy h) (s:dV E h t (.ptr i o) v=some h') (g:h.get i=some (.cells cs e false)):Tidy h':=fun j x gj=>by
 have hi:=y i _ g
 rw[Od s g]
 by_cases hx:j=i
 · omega
 · rw[o5 s g,aC.cu (Ne.symm hx)] at gj
   exact y j x gj
def Iv (h h':aC) (b:Nat) (o:aM):Prop:=Tidy h'∧h'.get b=some o∧∀i x,i≠b→h.get i=some x→h'.get i=some x
theorem Iv.has {h0 h h':aC} {b:Nat} {o:aM} (c:Iv h h' b o) (a:Has h0 h) (y:Tidy h0) (hb:h0.nx≤b):Has h0 h':=fun i x g=>by
 have:=y i x g
 exact c.2.2 i x (by omega) (a i x g)
end Go.Ab
end
section
namespace Go.Ab
variable {E:Env}
theorem dT {p:Prop} [Decidable p] (h:p):decide p=true:=decide_eq_true h
theorem dF {p:Prop} [Decidable p] (h:¬p):decide p=false:=decide_eq_false h
def bw:Code→List Code
 | .seq a b=>bw a++bw b
 | .cond _ a b=>bw a++bw b
 | .block _ b=>bw b
 | .loop b=>b::bw b
 | .scope b=>bw b
 | .rangeFunc _ _ _ b=>b::bw b
 | _=> []
structure oI (E:Env) (h:aC) (e:TypeId) (n:Nat) (av:AV) (len:Nat) (cs:List AV):Prop where
 size:ca E e=some n
 cells:cs.length=len*n
 small:len<2^60
 lens:cb (some (.slice e)) (some av)=some (.int .i64 (len:Nat))
 block:len=0∨∃p o m c b C f ro,av= .slice p o m c b∧m≤c∧h.get p=some (.cells C f ro)∧(∀j,j<cs.length→C[o+j]? =cs[j]?)
theorem oI.has {h h':aC} {e:TypeId} {n:Nat} {av:AV} {len:Nat} {cs:List AV} (x:oI E h e n av len cs) (hh:Has h h'):oI E h' e n av len cs:=
 ⟨x.size,x.cells,x.small,x.lens,x.block.imp id fun ⟨p,o,m,c,b,C,f,ro,h1,h0,h2,h3⟩=>⟨p,o,m,c,b,C,f,ro,h1,h0,hh _ _ h2,h3⟩⟩
theorem oI.elem {h:aC} {e:TypeId} {av:AV} {len:Nat} {cs:List AV} (x:oI E h e 1 av len cs) (ha:gq E e=some false) {i:Nat} {v:AV} (hv:cs[i]? =some v):
 ∃p q,bO E (some (.slice e)) (some av) (some (.int .i64 (i:Nat)))=some (.ptr p q)∧bh E h e (.ptr p q)=some v:=by
 have hi:=(List.getElem?_eq_some_iff.1 hv).1
 have hl:cs.length=len:=by rw[x.cells,Nat.mul_one]
 rcases x.block with h0 | ⟨p,o,m,c,b,C,f,ro,h1,_,h2,h3⟩
 · omega
 · subst h1
   have hm:m=len:=by
    have:=x.lens
    rw[kZ] at this
    simp only[Option.some.injEq,AV.int.injEq,true_and] at this
    omega
   refine ⟨p,o+i*1,qO x.size (by omega),?_⟩
   simp only[bh,h2,jW,ha,Nat.mul_one]
   rw[h3 i hi,hv]
def Q1 (k:IntKind) (l:List Nat):List AV:=l.map fun (n:Nat)=> .int k (n:Int)
structure wF (E:Env) (h:aC) (k:IntKind) (e:TypeId) (av:AV) (l:List Nat):Prop where
 at_:oI E h e 1 av l.length (Q1 k l)
 agg:gq E e=some false
 known:av= .aG∨∃p o n c b,av= .slice p o n c b∧(b=true→0<c)
theorem Oe {k:IntKind} {l:List Nat} {i:Nat} {z:Nat} (h:l[i]? =some z):(Q1 k l)[i]? =some (.int k (z:Int)):=by simp [Q1,h]
theorem wF.len {h:aC} {k:IntKind} {e:TypeId} {av:AV} {l:List Nat} (x:wF E h k e av l):cb (some (.slice e)) (some av)=some (.int .i64 (l.length:Nat)):=x.at_.lens
theorem Gt (k:IntKind) (l:List Nat):(Q1 k l).length=l.length:=by simp [Q1]
theorem wF.of {h:aC} {k:IntKind} {e:TypeId} {l:List Nat} {p o c:Nat} {b:Bool} {C:List AV} {f:TypeId} {ro:Bool} (hs:ca E e=some 1) (ha:gq E e=some false) (hl:l.length<2^60) (hc:l.length≤c) (hb:b=true→0<c) (hg:h.get p=some (.cells C f ro))
 (hv:∀(i:Nat) z,l[i]? =some z→C[o+i]? =some (.int k (z:Int))):wF E h k e (.slice p o l.length c b) l:=
 ⟨⟨hs,by rw[Gt];omega,hl,rfl,.inr ⟨p,o,_,c,b,C,f,ro,rfl,hc,hg,fun j hj=>by
   rw[Gt] at hj
   rw[hv j l[j] (List.getElem?_eq_getElem hj),Oe (List.getElem?_eq_getElem hj)]⟩⟩,ha,.inr ⟨p,o,_,c,b,rfl,hb⟩⟩
theorem wF.nil {h:aC} {k:IntKind} {e:TypeId} (hs:ca E e=some 1) (ha:gq E e=some false):wF E h k e .aG []:=
 ⟨⟨hs,rfl,by decide,rfl,.inl rfl⟩,ha,.inl rfl⟩
theorem sO {len cap lo hi:Nat} (low high:Option AV) (hl:low=some (.int .i64 (lo:Nat))∨(low=none∧lo=0)) (hh:high=some (.int .i64 (hi:Nat))∨(high=none∧hi=len)) (h1:lo≤hi) (h2:hi≤cap):mw len cap low high none=some (lo,hi,cap):=by
 have b:∀(x y:Nat),x≤y→qq (.int .i64 (x:Nat)) y=some x:=fun x y h=>by
  simp only[qq]
  rw[if_pos ⟨by omega,by omega⟩,Int.toNat_natCast]
 unfold mw
 rcases hh with rfl | ⟨rfl,rfl⟩<;>rcases hl with rfl | ⟨rfl,rfl⟩<;>simp [b,h1,h2]
structure Win (h:aC) (av:AV) (p o n:Nat) (C:List AV) (f:TypeId):Prop where
 is:∃c b,av= .slice p o n c b∧n≤c
 get:h.get p=some (.cells C f false)
 fits:o+n≤C.length
theorem Win.len {h:aC} {av:AV} {p o n:Nat} {C:List AV} {f e:TypeId} (w:Win h av p o n C f):cb (some (.slice e)) (some av)=some (.int .i64 (n:Nat)):=by
 obtain ⟨c,b,rfl,_⟩:=w.is
 rfl
def Holds (k:IntKind) (C:List AV) (o:Nat) (l:List Nat):Prop:=∀(i z:Nat),l[i]? =some z→C[o+i]? =some (.int k (z:Int))
theorem Win.Q1 {h:aC} {av:AV} {p o n:Nat} {C:List AV} {f e:TypeId} {k:IntKind} {l:List Nat} (w:Win h av p o n C f) (hs:ca E e=some 1) (ha:gq E e=some false) (hn:l.length=n) (hsm:n<2^60) (x:Holds k C o l) (hb:∀c b,av= .slice p o n c b→b=true→0<c):wF E h k e av l:=by
 obtain ⟨c,b,rfl,hc⟩:=w.is
 subst hn
 exact wF.of hs ha hsm hc (hb c b rfl) w.get x
theorem Holds.of {k:IntKind} {C:List AV} {o:Nat} {l:List Nat} (hf:o+l.length≤C.length):Holds k (setFrom C o (Q1 k l)) o l:=fun i z hz=>by
 have hi:=(List.getElem?_eq_some_iff.1 hz).1
 rw[mS,if_pos ⟨by omega,by rw[Gt];omega,by omega⟩,Nat.add_sub_cancel_left,Oe hz]
end Go.Ab
end
section
namespace Go.Ab
variable {E:Env} {M0:Fa.N6}
theorem zL.unique {call:bu} {f:FuncId} {args:List AV} {h h1 h2:aC} {v1 v2:AV} (a:zL E call f args h v1 h1) (b:zL E call f args h v2 h2):v1=v2∧h1=h2:=by
 obtain ⟨n,a⟩:=a
 obtain ⟨m,b⟩:=b
 have:=(a (n+m) (by omega)).symm.trans (b (n+m) (by omega))
 simpa using this
def AV.within (nx:Nat):Nat→AV→Bool
 | 0,_=>false
 | n+1,x=>match x with
   | .bool _ | .int .. | .str _ | .iG | .aG | .eZ | .nilFunc | .nilIface | .fD=>true
   | .ptr i _=>decide (i<nx)
   | .slice i _ _ _ _=>decide (i<nx)
   | .map i=>decide (i<nx)
   | .iface _ v=>AV.within nx n v
   | .agg cs=>cs.all (AV.within nx n)
   | .tuple cs=>cs.all (AV.within nx n)
   | _=>false
theorem VR.within {φ φ':Ph} {nx:Nat} (ho:∀i,i<nx→φ' i=φ i):∀(n:Nat) {x:AV} (_:AV.within nx n x=true) {y:Value},VR φ' x y→VR φ x y
 | 0,_,h,_,_=>by cases h
 | n+1,x,h,y,hv=>by
   have ih:= @VR.within φ φ' nx ho n
   cases hv with
   | bool b=>exact .bool b
   | int k m=>exact .int k m
   | str s=>exact .str s
   | iG=>exact .iG
   | aG=>exact .aG
   | eZ=>exact .eZ
   | nilFunc=>exact .nilFunc
   | nilIface=>exact .nilIface
   | fD a c=>exact .fD a c
   | ptr o hl=>rw[ho _ (of_decide_eq_true h)] at hl;exact .ptr o hl
   | slice o len cap op hl=>rw[ho _ (of_decide_eq_true h)] at hl;exact .slice o len cap op hl
   | map hl=>rw[ho _ (of_decide_eq_true h)] at hl;exact .map hl
   | iface t v v' h'=>exact .iface t v v' (ih (by simpa [AV.within] using h) h')
   | agg cs kr hl hc=>
     refine .agg cs kr hl fun i x y a b=>ih ?_ (hc i x y a b)
     simp only[AV.within,List.all_eq_true] at h
     exact h x (List.mem_of_getElem? a)
   | tuple cs kr hl hc=>
     refine .tuple cs kr hl fun i x y a b=>ih ?_ (hc i x y a b)
     simp only[AV.within,List.all_eq_true] at h
     exact h x (List.mem_of_getElem? a)
   | _=>cases h
theorem m_.Tu {f:FuncId} {args:List AV} {h h':aC} {v:AV} (r:m_ E f args h v h') (hs:Has h h') (hv:AV.within h.nx 20 v=true):m_ E f args h v h:=fun φ w vs ok hl=>by
 obtain ⟨h1,h2⟩:=r φ w vs ok hl
 refine ⟨h1,fun cs=>?_⟩
 obtain ⟨φ',w',v',fr,x1,x2,x3,x4⟩:=h2 cs
 exact ⟨φ,w',v',fr,x1.within x3.old 20 hv,ok.forget x3.ext x2 hs,x3.forget,x4⟩
open Classical in
noncomputable def lQ (E:Env) (M0:Fa.N6):Nat→bu
 | 0=>Gl M0
 | d+1=>fun F args h=>match F with
   | .DA _=> .fail "" none
   | .fn f=>match M0 f args h with
     | some p=> .ret p.1 p.2
     | none=>
       if hx:∃v,∃h',zL E (lQ E M0 d) f args h v h'∧Has h h'∧AV.within h.nx 20 v=true then .ret hx.choose h
       else if hy:∃p:AV×aC,zL E (lQ E M0 d) f args h p.1 p.2 then .ret hy.choose.1 hy.choose.2 else .fail "" none
theorem Gu (hE:me E) (hM:Fa.Lb E M0):∀d,jI E (lQ E M0 d)
 | 0=>Vp hM
 | d+1=>by
   have ih:=Gu hE hM d
   have key:∀{f:FuncId} {args:List AV} {h:aC} {o:lV},lQ E M0 (d+1) (.fn f) args h=o→(∃v h',o= .ret v h'∧m_ E f args h v h')∨o= .fail "" none:=by
    intro f args h o e
    simp only[lQ] at e
    split at e
    · rename_i p hp
      exact .inl ⟨_,_,e.symm,hM _ _ _ _ _ hp⟩
    · split at e
      · rename_i hx
        obtain ⟨h',⟨n,h1⟩,h2,h3⟩:=hx.choose_spec
        exact .inl ⟨_,_,e.symm,m_.Tu ((rG hE n ih).1 _ _ _ _ _ (h1 n (Nat.le_refl n))) h2 h3⟩
      · split at e
        · rename_i hy
          obtain ⟨n,h1⟩:=hy.choose_spec
          exact .inl ⟨_,_,e.symm,(rG hE n ih).1 _ _ _ _ _ (h1 n (Nat.le_refl n))⟩
        · exact .inr e.symm
   refine ⟨fun F args h v h' e=>?_,fun F args h v h' e=>?_⟩
   · cases F with
     | DA l=>cases e
     | fn f=>
       rcases key e with ⟨w,k,h1,h2⟩ | h1
       · cases h1;exact h2.any
       · cases h1
   · cases F with
     | DA l=>cases e
     | fn f=>
       rcases key e with ⟨w,k,h1,h2⟩ | h1
       · cases h1
       · cases h1
theorem aH {d:Nat} {f:FuncId} {args:List AV} {h h':aC} {v:AV} (hm:M0 f args h=none) (hd:zL E (lQ E M0 d) f args h v h') (hh:Has h h') (hv:AV.within h.nx 20 v=true):lQ E M0 (d+1) (.fn f) args h= .ret v h:=by
 simp only[lQ,hm]
 have hx:∃v,∃h',zL E (lQ E M0 d) f args h v h'∧Has h h'∧AV.within h.nx 20 v=true:=⟨v,h',hd,hh,hv⟩
 rw[dif_pos hx]
 obtain ⟨k,h1,_,_⟩:=hx.choose_spec
 rw[(h1.unique hd).1]
theorem JF {d:Nat} {f:FuncId} {args:List AV} {h h':aC} {v:AV} (hm:M0 f args h=none) (hd:zL E (lQ E M0 d) f args h v h') (hv:¬(Has h h'∧AV.within h.nx 20 v=true)):lQ E M0 (d+1) (.fn f) args h= .ret v h':=by
 simp only[lQ,hm]
 have hx:¬∃v,∃h',zL E (lQ E M0 d) f args h v h'∧Has h h'∧AV.within h.nx 20 v=true:=by
  rintro ⟨w,k,h1,h2,h3⟩
  obtain ⟨rfl,rfl⟩:=h1.unique hd
  exact hv ⟨h2,h3⟩
 have hy:∃p:AV×aC,zL E (lQ E M0 d) f args h p.1 p.2:=⟨(v,h'),hd⟩
 rw[dif_neg hx,dif_pos hy]
 obtain ⟨h1,h2⟩:=hy.choose_spec.unique hd
 rw[h1,h2]
theorem Of (hE:me E) (hM:Fa.Lb E M0) {d:Nat} {f:FuncId} {args:List AV} {h h':aC} {v:AV} (e:lQ E M0 d (.fn f) args h= .ret v h'):m_ E f args h v h':=by
 cases d with
 | zero=>
   simp only[lQ,Gl] at e
   split at e
   · rename_i p hp
     cases e
     exact hM _ _ _ _ _ hp
   · cases e
 | succ d=>
   simp only[lQ] at e
   split at e
   · rename_i p hp
     cases e
     exact hM _ _ _ _ _ hp
   · split at e
     · rename_i hx
       cases e
       obtain ⟨h',⟨n,h1⟩,h2,h3⟩:=hx.choose_spec
       exact m_.Tu ((rG hE n (Gu hE hM d)).1 _ _ _ _ _ (h1 n (Nat.le_refl n))) h2 h3
     · split at e
       · rename_i hy
         cases e
         obtain ⟨n,h1⟩:=hy.choose_spec
         exact (rG hE n (Gu hE hM d)).1 _ _ _ _ _ (h1 n (Nat.le_refl n))
       · cases e
end Go.Ab
end
section
namespace Go.Ab
variable {E:Env}
end Go.Ab
end
section
namespace Go.Ab
variable {E:Env} {M0:Fa.N6}
structure bE (h h':aC):Prop where
 y:Tidy h'
 a:Has h h'
 n:h.nx≤h'.nx
theorem bE.refl {h:aC} (y:Tidy h):bE h h:=⟨y,Has.refl h,Nat.le_refl _⟩
theorem bE.trans {a b c:aC} (x:bE a b) (y:bE b c):bE a c:=⟨y.y,x.a.trans y.a,Nat.le_trans x.n y.n⟩
theorem gA {d:Nat} {f:FuncId} {args:List AV} {h h':aC} {v:AV} {P:aC→Prop} (hm:M0 f args h=none) (hd:zL E (lQ E M0 d) f args h v h') (y:Tidy h) (g:bE h h') (p1:P h') (p2:AV.within h.nx 20 v=true→P h):
 ∃hk,lQ E M0 (d+1) (.fn f) args h= .ret v hk∧bE h hk∧P hk:=by
 by_cases hv:AV.within h.nx 20 v=true
 · exact ⟨h,aH hm hd g.a hv,bE.refl y,p2 hv⟩
 · exact ⟨h',JF hm hd fun c=>hv c.2,g,p1⟩
theorem Q2 {d:Nat} {f:FuncId} {args:List AV} {h h':aC} {v:AV} (hm:M0 f args h=none) (hd:zL E (lQ E M0 d) f args h v h'):
 ∃hk,lQ E M0 (d+1) (.fn f) args h= .ret v hk∧(hk=h'∨(hk=h∧Has h h')):=by
 by_cases hv:Has h h'∧AV.within h.nx 20 v=true
 · exact ⟨h,aH hm hd hv.1 hv.2,.inr ⟨rfl,hv.1⟩⟩
 · exact ⟨h',JF hm hd hv,.inl rfl⟩
theorem jD {h:aC} {p:Nat} {x o:aM} (y:Tidy h) (g:h.get p=some x):Iv h (h.put p (some o)) p o:=
 ⟨fun i z hz=>by
  by_cases e:i=p
  · subst e;exact y _ _ g
  · rw[aC.cu (Ne.symm e)] at hz;exact y _ _ hz,
  aC.dP _,fun i z hi hz=>by rw[aC.cu (Ne.symm hi)];exact hz⟩
def Kept (p:Nat) (h h':aC):Prop:=∀i x,i≠p→h.get i=some x→h'.get i=some x
theorem Kept.store {h h':aC} {t e:TypeId} {i o:Nat} {cs:List AV} {v:AV} (y:Tidy h) (s:dV E h t (.ptr i o) v=some h') (g:h.get i=some (.cells cs e false)):Kept i h h':=fun _ _ hj gj=>QZ y s g hj gj
theorem od {e:TypeId} {s bytes n:Nat} {z:AV} (hs:ca E e=some s) (hb:kH E e=some bytes) (hz:iu E e=some z) (hl:z.cells.length=s) (h8:bytes≤1024) (hn:n<2^30):
 yV E (some (.slice e)) (some (.int .i64 (n:Nat))) (some (.int .i64 (n:Nat)))=some (.cells (bT z.cells n) e false,fun i=> .slice i 0 n n false):=by
 have h1:(bytes:Int)*(n:Int)≤1024*2^30:=by
  have:bytes*n≤1024*2^30:=Nat.mul_le_mul h8 (Nat.le_of_lt hn)
  omega
 simp only[yV,hs,hb,hz,hl]
 rw[if_pos ⟨by omega,by omega,by omega,by omega,trivial⟩]
 rfl
theorem jc {e:TypeId} {p n c i:Nat} {op:Bool} {z:Int} (hs:ca E e=some 1) (hi:i<n) (hz:z=(i:Nat)):bO E (some (.slice e)) (some (.slice p 0 n c op)) (some (.int .i64 z))=some (.ptr p i):=by
 subst hz
 have:=qO (E:=E) (e:=e) (i:=p) (o:=0) (len:=n) (c:=c) (z:=i) (b:=op) hs hi
 rw[Nat.zero_add,Nat.mul_one] at this
 exact this
end Go.Ab
end
section
namespace Go.Ab
variable {E:Env}
structure Pk (al:List pV) (p0 ps:List Prop):Prop where
 ok:nZ p0→nZ ps
section
variable {al:List pV} {p0 ps:List Prop}
theorem ZZ {p:List Prop}:Pk [] p p:=⟨id⟩
theorem AA (a:pV) (k:Pk al p0 ps):Pk (a::al) p0 ps:=⟨k.ok⟩
theorem CC (k:Pk al p0 ps):Pk (.c::al) p0 ps:=⟨k.ok⟩
def cs:Nat→List pV→List pV
 | 0,l=>l
 | n+1,l=> .c::cs n l
theorem CN (n:Nat) (k:Pk al p0 ps):Pk (cs n al) p0 ps:=⟨k.ok⟩
theorem HH {P:Prop} (h:P) (k:Pk al (P::p0) ps):Pk al p0 ps:=⟨fun c=>k.ok ⟨h,c⟩⟩
theorem VV {l:Option AV} {x:AV} (h:l=some x) (k:Pk al ((l=some x)::p0) ps):Pk (.v x::al) p0 ps:=⟨fun c=>k.ok ⟨h,c⟩⟩
theorem QQ {l:Option AV} {x:AV} (h:l=some x) (k:Pk al ((l=some x)::p0) ps):Pk (.q x::al) p0 ps:=⟨fun c=>k.ok ⟨h,c⟩⟩
theorem MM {l:Option AV} {x:AV} (h:l=some x) (k:Pk al ((l=some x)::p0) ps):Pk (.m x::al) p0 ps:=⟨fun c=>k.ok ⟨h,c⟩⟩
theorem TT (k:Pk al ((true=true)::p0) ps):Pk (.b true::al) p0 ps:=⟨fun c=>k.ok ⟨rfl,c⟩⟩
theorem FF (k:Pk al ((false=false)::p0) ps):Pk (.b false::al) p0 ps:=⟨fun c=>k.ok ⟨rfl,c⟩⟩
theorem BB {u v:Bool} (h:u=v) (k:Pk al ((u=v)::p0) ps):Pk (.b v::al) p0 ps:=⟨fun c=>k.ok ⟨h,c⟩⟩
theorem EE {call:bu} {f:Fn} {args:List AV} {h h':aC} {x:AV} (e:call f args h= .ret x h') (k:Pk al ((call f args h= .ret x h')::p0) ps):Pk (.e x h'::al) p0 ps:=⟨fun c=>k.ok ⟨e,c⟩⟩
theorem SS {h h':aC} {t:TypeId} {a v:AV} (s:dV E h t a v=some h') (k:Pk al ((AV.undef=AV.undef∧dV E h t a v=some h')::p0) ps):Pk (.e AV.undef h'::al) p0 ps:=⟨fun c=>k.ok ⟨⟨rfl,s⟩,c⟩⟩
theorem PP {l:Option (AV×aC)} {x:AV} {h':aC} (e:l=some (x,h')) (k:Pk al ((l=some (x,h'))::p0) ps):Pk (.e x h'::al) p0 ps:=⟨fun c=>k.ok ⟨e,c⟩⟩
theorem NN {h h':aC} {obj:aM} (n:h.new obj=some h') (f:Nat→AV) (k:Pk al ((∃mk:Nat→AV,some (obj,f)=some (obj,mk)∧mk h.nx=f h.nx)::(h.new obj=some h')::p0) ps):Pk (.a obj (f h.nx) h'::al) p0 ps:=⟨fun c=>k.ok ⟨⟨f,rfl,rfl⟩,n,c⟩⟩
theorem KK {h h':aC} {obj:aM} {l:Option (aM×(Nat→AV))} {f:Nat→AV} (e:l=some (obj,f)) (n:h.new obj=some h') (k:Pk al ((∃mk:Nat→AV,l=some (obj,mk)∧mk h.nx=f h.nx)::(h.new obj=some h')::p0) ps):Pk (.a obj (f h.nx) h'::al) p0 ps:=⟨fun c=>k.ok ⟨⟨f,e,rfl⟩,n,c⟩⟩
theorem LL {call:bu} {b:Code} {s s':St} {e:my} (ev:Ev E call b s e s') (k:Pk al ((Ev E call b s e s')::p0) ps):Pk (.l e s'::al) p0 ps:=⟨fun c=>k.ok ⟨ev,c⟩⟩
end
@[irreducible] def Tv:R→List AV
  | .at _ s _ _=>s.ts
  | .bad=> []
theorem aji {call:bu} {c:Code} {ts:List AV} {h h':aC} {ds:List tG} {rc:RC} {n:Nat} {e:my} {al:List pV} {ps:List Prop} (k:Pk al [] ps) (hr:run E call n c ⟨ts,h,ds,rc⟩ al []= .at e ⟨Tv (run E call n c ⟨ts,h,ds,rc⟩ al []),h',ds,rc⟩ [] ps):Ev E call c ⟨ts,h,ds,rc⟩ e ⟨Tv (run E call n c ⟨ts,h,ds,rc⟩ al []),h',ds,rc⟩:=QY hr (k.ok trivial)
def rx (x:Nat→AV):Nat→Nat→List AV→List AV
 | _,0,l=>l
 | i,n+1,l=>x i::rx x (i+1) n l
def jX:Nat→List AV
 | 0=> []
 | n+1=>AV.undef::jX n
end Go.Ab
end
