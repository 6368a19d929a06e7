import Derived.Test.YtaglmdbkfcpbbaaGreatA3
import Derived.Test.YtaglmdbkfcpbbaaGreatA0
set_option linter.unusedVariables false
set_option linter.unusedSimpArgs false
section
namespace Go.Ab
variable {E:Env}
theorem sJ (hE:jX E) {call:bx} (dB:ie E call) {ops:Array Oper}:∀{l:List Oper} {is:List Nat} (_:is.length=l.length) (_:∀(j i:Nat),is[j]? =some i→l[j]? =ops[i]?) {s s':St} {e:j8} (_:jK E call ops l s= .ok e s')
 {φ:Ph} {a:Act} {w:World} {b:Frame} {k:List Item} {K:Bool→List Frame} (_:SR φ s.ts s.ds a) (_:OK E φ s.h w) (_:mn φ b K s.rc),
 oG E φ s.h w b K k (lone (b.atR a (.inRegion ops is::k)) (cur K s.rc) w) e s'
 | [],is,hl,hi,s,s',e,h,φ,a,w,b,k,K,hs,ok,gF=>by
   cases is with
   | cons _ _=>simp at hl
   | nil=>
     simp [jK] at h;obtain ⟨rfl,rfl⟩:=h
     exact ⟨φ,w,a,_,.normal,hs,ok,Fr.refl _ _ _,gF,.one stepR_region_end⟩
 | o::l,is,hl,hi,s,s',e,h,φ,a,w,b,k,K,hs,ok,gF=>by
   cases is with
   | nil=>simp at hl
   | cons i is=>
     have ho:ops[i]? =some o:=by have:=hi 0 i (by simp);simpa using this.symm
     have Ob:is.length=l.length:=by simpa using hl
     have AW:∀(j i':Nat),is[j]? =some i'→l[j]? =ops[i']? :=fun j i' hj=>by have:=hi (j+1) i' (by simpa using hj);simpa using this
     simp only[jK] at h
     have LV:=sE (ops:=ops) hs.ts o
     split at h
     · rename_i hw
       rw[←LV] at hw
       split at h
       · rename_i s1 ow
         obtain ⟨φ1,w1,a1,e1,x1,x2,x3,x4,x5,x6⟩:=(z8 hE dB ho ow hs ok gF hw (rest:=is) (k:=k)).is
         cases x1
         exact ((sJ hE dB Ob AW h x2 x3 x5).of_steps x6).later x4
       · rename_i eC
         obtain ⟨φ1,w1,a1,e1,x1,x2,x3,x4,x5,x6⟩:=(z8 hE dB ho h hs ok gF hw (rest:=is) (k:=k)).is
         cases x1 with
         | normal=>exact (eC _ h).elim
         | exit=>exact x6.elim
         | ret=>exact x6.elim
         | panic v v' hv=>exact ⟨φ1,w1,a1,_,.panic v v' hv,x2,x3,x4,x5,x6⟩
     · rename_i hw
       have pr:SR φ (dV s.ts o.dst AV.undef) s.ds (a.put o.dst undef):=hs.put o.dst (VR.undef φ)
       refine (sJ hE dB Ob AW h pr ok gF).of_steps (.one ?_)
       have:=stepR_op_skip (P:=E.P) (b:=b) (a:=a) (k:=k) (cs:=cur K s.rc) (w:=w) (ops:=ops) (i:=i) (rest:=is) (by rw[ho];simp;rw[LV];simpa using hw)
       rw[this,ho];rfl
set_option maxHeartbeats 1000000 in
theorem sK (hE:jX E) {call:bx} (dB:ie E call):∀(n:Nat) (c:Code) {s s':St} {e:j8} (_:exec E call n c s= .ok e s')
 {φ:Ph} {a:Act} {w:World} {b:Frame} {k:List Item} {K:Bool→List Frame} (_:SR φ s.ts s.ds a) (_:OK E φ s.h w) (_:mn φ b K s.rc) (_:(E.P.funcs[b.fn]?).isSome=true),
 oG E φ s.h w b K k (lone (b.atR a (.code c::k)) (cur K s.rc) w) e s'∧∀c',c= .loop c'→oG E φ s.h w b K k (lone (b.atR a (.code c':: .inLoop c'::k)) (cur K s.rc) w) e s':=by
 intro n
 induction n with
 | zero=>intro c s s' e h;simp [exec] at h
 | succ n Xs=>
   have ih:∀(c:Code) {s s':St} {e:j8} (_:exec E call n c s= .ok e s')
    {φ:Ph} {a:Act} {w:World} {b:Frame} {k:List Item} {K:Bool→List Frame} (_:SR φ s.ts s.ds a) (_:OK E φ s.h w) (_:mn φ b K s.rc) (_:(E.P.funcs[b.fn]?).isSome=true),
    oG E φ s.h w b K k (lone (b.atR a (.code c::k)) (cur K s.rc) w) e s':=fun c _ _ _ h _ _ _ _ _ _ hs ok gF Cc=>(Xs c h hs ok gF Cc).1
   intro c s s' e h φ a w b k K hs ok gF Cc
   have Oo:∀c',c= .loop c'→oG E φ s.h w b K k (lone (b.atR a (.code c':: .inLoop c'::k)) (cur K s.rc) w) e s':=by
    rintro c rfl
    simp only[exec] at h
    split at h
    · rename_i s1 h1
      obtain ⟨φ1,w1,a1,e1,x1,x2,x3,x4,x5,x6⟩:=(ih c h1 hs ok gF Cc (k:= .inLoop c::k)).is
      cases x1
      exact (((Xs (.loop c) h x2 x3 x5 Cc).2 c rfl).of_steps (Steps.trans x6 (.one stepR_inLoop))).later x4
    · rename_i eC
      obtain ⟨φ1,w1,a1,e1,x1,x2,x3,x4,x5,x6⟩:=(ih c h hs ok gF Cc (k:= .inLoop c::k)).is
      refine ⟨φ1,w1,a1,e1,x1,x2,x3,x4,x5,.pass (x:= .inLoop c) (fun _=>rfl) ?_ x6⟩
      cases x1 with
      | normal=>exact (eC _ h).elim
      | exit=>simp
      | ret=>simp
      | panic=>simp
   refine ⟨?_,Oo⟩
   cases c with
   | skip=>simp [exec] at h;obtain ⟨rfl,rfl⟩:=h;exact ⟨φ,w,a,_,.normal,hs,ok,Fr.refl _ _ _,gF,.one stepR_skip⟩
   | label l=>simp [exec] at h;obtain ⟨rfl,rfl⟩:=h;exact ⟨φ,w,a,_,.normal,hs,ok,Fr.refl _ _ _,gF,.one stepR_label⟩
   | ret=>simp [exec] at h;obtain ⟨rfl,rfl⟩:=h;exact ⟨φ,w,a,_,.ret,hs,ok,Fr.refl _ _ _,gF,k,Steps.refl _ _⟩
   | exit id=>simp [exec] at h;obtain ⟨rfl,rfl⟩:=h;exact ⟨φ,w,a,_,.exit id,hs,ok,Fr.refl _ _ _,gF,k,rfl,Steps.refl _ _⟩
   | seq x y=>
     simp only[exec] at h
     split at h
     · rename_i s1 h1
       obtain ⟨φ1,w1,a1,e1,x1,x2,x3,x4,x5,x6⟩:=(ih x h1 hs ok gF Cc (k:= .code y::k)).is
       cases x1
       exact ((ih y h x2 x3 x5 Cc).of_steps (.head stepR_seq x6)).later x4
     · rename_i eC
       obtain ⟨φ1,w1,a1,e1,x1,x2,x3,x4,x5,x6⟩:=(ih x h hs ok gF Cc (k:= .code y::k)).is
       refine ⟨φ1,w1,a1,e1,x1,x2,x3,x4,x5,.of_steps (.one stepR_seq) (.pass (x:= .code y) (fun _=>rfl) ?_ x6)⟩
       cases x1 with
       | normal=>exact (eC _ h).elim
       | exit=>simp
       | ret=>simp
       | panic=>simp
   | cond x y z=>
     simp only[exec] at h
     split at h
     · rename_i hx
       have h1:=ml ok.gl hs.ts hx
       generalize kr:a.eval x=cv at h1
       cases h1
       exact (ih y h hs ok gF Cc).of_steps (.one (stepR_cond kr))
     · rename_i hx
       have h1:=ml ok.gl hs.ts hx
       generalize kr:a.eval x=cv at h1
       cases h1
       exact (ih z h hs ok gF Cc).of_steps (.one (stepR_cond kr))
     · simp at h
   | block id c=>
     simp only[exec] at h
     split at h
     · rename_i IK s1 h1
       obtain ⟨φ1,w1,a1,e1,x1,x2,x3,x4,x5,x6⟩:=(ih c h1 hs ok gF Cc (k:= .inBlock id::k)).is
       cases x1
       split at h
       · rename_i VF
         simp at h;obtain ⟨rfl,rfl⟩:=h
         obtain ⟨todo,ht,jd⟩:=x6
         exact ⟨φ1,w1,a1,_,.normal,x2,x3,x4,x5,.head stepR_block (Steps.trans jd (.one (stepR_exit (by rw[ht];simp [exitTo,VF]))))⟩
       · rename_i VF
         simp at h;obtain ⟨rfl,rfl⟩:=h
         obtain ⟨todo,ht,jd⟩:=x6
         refine ⟨φ1,w1,a1,_,.exit IK,x2,x3,x4,x5,todo,?_,.head stepR_block jd⟩
         have:(id==IK)=false:=by simp;exact fun h=>VF h.symm
         rw[ht];simp [exitTo,this]
     · rename_i eC
       obtain ⟨φ1,w1,a1,e1,x1,x2,x3,x4,x5,x6⟩:=(ih c h hs ok gF Cc (k:= .inBlock id::k)).is
       cases x1 with
       | normal=>exact ⟨φ1,w1,a1,_,.normal,x2,x3,x4,x5,.head stepR_block (Steps.trans x6 (.one stepR_inBlock))⟩
       | exit IK=>exact (eC _ _ h).elim
       | ret=>exact ⟨φ1,w1,a1,_,.ret,x2,x3,x4,x5,.of_steps (e:= .ret) (k:=k) (.one stepR_block) x6⟩
       | panic v v' hv=>exact ⟨φ1,w1,a1,_,.panic v v' hv,x2,x3,x4,x5,.of_steps (e:= .panic _) (k:=k) (.one stepR_block) x6⟩
   | loop c=>exact (Oo c rfl).of_steps (.one stepR_loop)
   | region id ops draw=>
     simp only[exec] at h
     cases draw with
     | false=>
       have ow:=sJ hE dB (ops:=ops) (l:=ops.toList) (is:=List.range ops.size) (by simp) (fun j i hj=>by
        have:=List.getElem?_eq_some_iff.1 hj
        obtain ⟨h1,h2⟩:=this
        simp at h1 h2;subst h2;simp) h hs ok gF (b:=b) (k:=k)
       exact ow.of_steps (.one stepR_region)
     | true=>
       obtain ⟨h1,h2,⟨rfl,φ',a',w',x1,x2,x3,x4,x5⟩ | ⟨v,rfl,hp⟩⟩:=CG hE hE.mixed dB h hs ok gF (b:=b) (k:=k) id
       · refine ⟨φ',w',a',_,.normal,⟨x1,by rw[h2,x2];exact hs.ds.mono x4.ext⟩,x3,x4,by rw[h1];exact gF.mono x4.ext,?_⟩
         rw[h1];exact x5
       · obtain ⟨φ',a',w',v',todo,x0,x1,x2,x3,x4,x5⟩:=hp.is
         refine ⟨φ',w',a',_,.panic v v' x0,⟨x1,by rw[h2,x2];exact hs.ds.mono x4.ext⟩,x3,x4,by rw[h1];exact gF.mono x4.ext,todo,?_⟩
         rw[h1];exact x5
   | rangeFunc f ps a1 b1=>
     simp only[exec] at h
     exact Bd dB h hs ok gF Cc
   | scope c=>
     simp only[exec] at h
     have s1:∀{m},Steps E.P (lone (b.atR a (.code c:: .inScope c::k)) (cur K s.rc) w) m→Steps E.P (lone (b.atR a (.code (.scope c)::k)) (cur K s.rc) w) m:=fun q=> .head (step_lone_go (by simp [stepG,stepG.exec,Frame.atR])) q
     obtain ⟨φ1,w1,a1,e1,x1,x2,x3,x4,x5,x6⟩:=(ih c h hs ok gF Cc (k:= .inScope c::k)).is
     cases x1 with
     | normal=>exact ⟨φ1,w1,a1,_,.normal,x2,x3,x4,x5,s1 (Steps.trans x6 (.one (step_lone_go (by simp [stepG,stepG.exec,Frame.atR]))))⟩
     | exit IK=>exact ⟨φ1,w1,a1,_,.exit IK,x2,x3,x4,x5,.of_steps (e:= .exit IK) (k:=k) (s1 (Steps.refl _ _)) (.pass (x:= .inScope c) (fun _=>rfl) (by simp) x6)⟩
     | ret=>exact ⟨φ1,w1,a1,_,.ret,x2,x3,x4,x5,.of_steps (e:= .ret) (k:=k) (s1 (Steps.refl _ _)) (.pass (x:= .inScope c) (fun _=>rfl) (by simp) x6)⟩
     | panic v v' hv=>exact ⟨φ1,w1,a1,_,.panic v v' hv,x2,x3,x4,x5,.of_steps (e:= .panic _) (k:=k) (s1 (Steps.refl _ _)) (.pass (x:= .inScope c) (fun _=>rfl) (by simp) x6)⟩
   | goto l=>simp [exec] at h
   | refuse why=>simp [exec] at h
end Go.Ab
end
section
namespace Go.Ab
variable {E:Env}
theorem CJ {φ:Ph} {h:ar} {w:World} (ok:OK E φ h w) {ts:List AV} {tmps:Array Value} (ht:LR φ ts tmps.toList):∀{l:List ResultVar} {vs:List AV} (_:jM E h ts l=some vs),
 ∃pt,LR φ vs pt∧(l.mapM (fun | .tmp t=>pure (tmps.getD t undef) | .cell a t=>do loadVar t (←asAddr (tmps.getD a undef)):ResultVar→Sem Value)).run E.P w= .ok pt w
 | [],vs,h=>by simp [jM] at h;subst h;exact ⟨[],LR.nil φ,rfl⟩
 | r::rest,vs,h=>by
   have gL:∀t,VR φ (ts.getD t AV.undef) (tmps.getD t undef):=fun t=>by
    have:=ht.getD (VR.undef φ) t
    rw[show tmps.getD t undef=tmps.toList.getD t undef by simp [Array.getD_eq_getD_getElem?,List.getD]]
    exact this
   simp only[jM] at h
   split at h
   · simp at h
   · rename_i v hv
     split at h
     · simp at h
     · rename_i ZB ED
       simp at h;subst h
       obtain ⟨pt,hl,hr⟩:=CJ ok ht ED
       cases r with
       | tmp t=>
         simp at hv;subst hv
         refine ⟨tmps.getD t undef::pt,.cons (by simpa using gL t) hl,?_⟩
         simp only[List.mapM_cons,Sem.run_bind,Sem.run_pure,Result.andThen_ok,hr]
       | cell ad t=>
         simp only at hv
         obtain ⟨x',hx,hH⟩:=z4 ok (gL ad) hv
         refine ⟨x'::pt,.cons hx hl,?_⟩
         have Xt:=hH w rfl
         have:(do loadVar t (←asAddr (tmps.getD ad undef)):Sem Value).run E.P w= .ok x' w:=by
          have VG:=gL ad
          unfold bN at hv
          split at hv
          · rename_i i o heq
            rw[heq] at VG
            generalize hq:tmps.getD ad undef=q at VG Xt
            cases VG
            simpa [Instr.loadAt,Instr.sureAddr,asAddr] using Xt
          · simp at hv
         simp only[List.mapM_cons]
         rw[Sem.run_bind,this]
         simp only[Sem.run_bind,Sem.run_pure,Result.andThen_ok,hr]
theorem qL {φ:Ph} {h:ar} {w:World} (ok:OK E φ h w) {ts:List AV} {tmps:Array Value} (ht:LR φ ts tmps.toList) {fn:Func} {vs:List AV} (hv:jM E h ts fn.results.toList=some vs):
 ∃v',VR φ (hG vs) v'∧(results fn tmps).run E.P w= .ok v' w:=by
 obtain ⟨pt,hl,hr⟩:=CJ ok ht hv
 have hm:(fn.results.mapM (fun | .tmp t=>pure (tmps.getD t undef) | .cell a t=>do loadVar t (←asAddr (tmps.getD a undef)):ResultVar→Sem Value)).run E.P w= .ok pt.toArray w:=by
  rw[Array.mapM_eq_mapM_toList]
  show Sem.run E.P (Functor.map List.toArray (_:Sem (List Value))) w=_
  rw[Sem.run_map]
  refine (congrArg (fun r=>Result.andThen r _) hr).trans ?_
  rfl
 refine ⟨if h:pt.toArray.size=1 then pt.toArray[0] else .tuple pt.toArray,?_,?_⟩
 · cases vs with
   | nil=>rw[hl.iX];exact VR.tuple' (LR.nil φ)
   | cons v vs=>
     obtain ⟨y,ys,rfl,hy,sB⟩:=hl.cW
     cases vs with
     | nil=>rw[sB.iX];simpa [hG] using hy
     | cons v2 ZC=>
       obtain ⟨y2,W8,rfl,Xu,VH⟩:=sB.cW
       have:¬(y::y2::W8).toArray.size=1:=by simp
       rw[dif_neg this]
       exact VR.tuple' (.cons hy (.cons Xu VH))
 · unfold results
   rw[Sem.run_bind]
   refine (congrArg (fun r=>Result.andThen r _) hm).trans ?_
   rfl
def bare (f:FuncId) (kind:CallKind):Frame:={fn:=f,tmps:= #[],todo:=[],defers:=[],mode:= .run,kind:=kind,roundOf:=none}
theorem Jy {P:Program} {f:FuncId} {fn:Func} {c:Code} (hf:P.funcs[f]? =some fn) (hb:fn.body=some c) (vs:List Value) (kind:CallKind):
 Frame.enter P f vs.toArray kind=(bare f kind).atR {tmps:=vs.toArray++Array.replicate (fn.ntmps - vs.length) undef,defers:=[]} [.code c]:=by
 simp [Frame.enter,Frame.atR,hf,hb,bare]
theorem qM (hE:jX E) {call:bx} (dB:ie E call) {fuel:Nat} {f:FuncId} {fn:Func} {c:Code} (hf:E.P.funcs[f]? =some fn) (hb:fn.body=some c) {args:List AV} {h:ar} {rc:RC} {e:j8} {s':St}
 (gv:mA E call fuel fn c args h rc= .ok e s') {φ:Ph} {w:World} {vs:List Value} (ok:OK E φ h w) (hl:LR φ args vs) {kind:CallKind} {K:Bool→List Frame} (gF:mn φ (bare f kind) K rc):
 oG E φ h w (bare f kind) K [] (lone (Frame.enter E.P f vs.toArray kind) (cur K rc) w) e s':=by
 rw[Jy hf hb]
 refine (sK hE dB fuel c (s:={ts:=args++List.replicate (fn.ntmps - args.length) AV.undef,h,ds:=[],rc}) gv (a:={tmps:=vs.toArray++Array.replicate (fn.ntmps - vs.length) undef,defers:=[]}) (b:=bare f kind) (k:=[]) ⟨?_,trivial⟩ ok gF (by show (E.P.funcs[f]?).isSome=true;rw[hf];rfl)).1
 have:=hl.append (LR.replicate (VR.undef φ) (fn.ntmps - args.length))
 rw[hl.1] at this
 simpa [hl.1] using this
theorem enters {E:Env} (hE:jX E) {f:FuncId} {fn:Func} {c:Code} (hf:E.P.funcs[f]? =some fn) (hb:fn.body=some c) (vs:Array Value) (w:World):(callFunc f vs).run E.P w= .ok (.enter f vs) w:=by
 have hn:=hE.names f fn hf
 have:(fn.name== "runtime.NumGoroutine")=false:=by rw[beq_eq_false_iff_ne];exact hn
 simp only[callFunc,Sem.run_bind,run_program,Result.andThen_ok,hf,this,Bool.false_eq_true,if_false,hb,Option.isNone_some,Sem.run_pure]
noncomputable def ia (E:Env) (call:bx) (fuel:Nat) (g:FuncId) (as:List AV) (h:ar) (rc:RC):Option (ar×RC):=match E.P.funcs[g]? with
 | none=>none
 | some fg=>match fg.body with
   | none=>none
   | some bg=>match mA E call fuel fg bg as h rc with
     | .ok .normal s'=>if s'.ds.isEmpty&&(jM E s'.h s'.ts fg.results.toList).isSome then some (s'.h,s'.rc) else none
     | .ok .ret s'=>if s'.ds.isEmpty&&(jM E s'.h s'.ts fg.results.toList).isSome then some (s'.h,s'.rc) else none
     | _=>none
theorem qN {φ:Ph} {ds:List Deferred} (h:Oa φ [] ds):ds=[]:=by cases ds with | nil=>rfl | cons _ _=>exact h.elim
def pA (c:Bool→Frame):RC→Frame
 | .done=>{c true with mode:=settle (c true).mode}
 | _=>{c false with mode:=settle (c false).mode}
theorem qO (hE:jX E) {call:bx} (dB:ie E call) {fuel:Nat} {g:FuncId} {as:List AV} {h h':ar} {rc My:RC} (hd:ia E call fuel g as h rc=some (h',My)) {φ:Ph} {w:World} {vs:List Value}
 (ok:OK E φ h w) (hl:LR φ as vs) {c:Bool→Frame} {cs:List Frame} (gF:mn φ (bare g .deferred) (fun x=>c x::cs) rc):
 ∃φ' w',OK E φ' h' w'∧Fr φ h w φ' h' w'∧mn φ' (bare g .deferred) (fun x=>c x::cs) My∧(callFunc g vs.toArray).run E.P w= .ok (.enter g vs.toArray) w∧
  Steps E.P (lone (Frame.enter E.P g vs.toArray .deferred) (cur (fun x=>c x::cs) rc) w)
   (lone (pA c My) cs w'):=by
 unfold ia at hd
 split at hd
 · simp at hd
 rename_i fg hf
 split at hd
 · simp at hd
 rename_i bg hb
 have key:∀(s':St) (e:j8),(e= .normal∨e= .ret)→mA E call fuel fg bg as h rc= .ok e s'→s'.ds.isEmpty=true→(jM E s'.h s'.ts fg.results.toList).isSome=true→s'.h=h'→s'.rc=My→
  ∃φ' w',OK E φ' h' w'∧Fr φ h w φ' h' w'∧mn φ' (bare g .deferred) (fun x=>c x::cs) My∧(callFunc g vs.toArray).run E.P w= .ok (.enter g vs.toArray) w∧
  Steps E.P (lone (Frame.enter E.P g vs.toArray .deferred) (cur (fun x=>c x::cs) rc) w)
   (lone (pA c My) cs w'):=by
  intro s' e he gv EP zC hh hr
  subst hh;subst hr
  obtain ⟨φ',w',a',e',x1,x2,x3,x4,x5,x6⟩:=(qM hE dB hf hb gv ok hl (kind:= .deferred) gF).is
  refine ⟨φ',w',x3,x4,x5,enters hE hf hb _ w,?_⟩
  obtain ⟨pt,VI⟩:=Option.isSome_iff_exists.1 zC
  obtain ⟨v',_,hH⟩:=qL x3 x2.ts VI
  have VJ:a'.defers=[]:=qN (by have:=x2.ds;rw[List.isEmpty_iff.1 EP] at this;exact this)
  have fin:∀todo,step E.P (lone {(bare g .deferred).atR a' todo with mode:= .returning} (cur (fun x=>c x::cs) s'.rc) w')=
   .next (lone (pA c s'.rc) cs w'):=fun todo=>by
   have zw:({(bare g .deferred).atR a' todo with mode:= .returning}:Frame).going E.P w' (.returned v'):=⟨rfl,VJ,fg,hf,hH⟩
   have hk:({(bare g .deferred).atR a' todo with mode:= .returning}:Frame).kind= .deferred:=rfl
   cases Yy:s'.rc with
   | no=>exact step_going_returned (c:=c false) (cs:=cs) hk zw
   | iE v=>exact step_going_returned (c:=c false) (cs:=cs) hk zw
   | done=>exact step_going_returned (c:=c true) (cs:=cs) hk zw
   | Ca l=>exact step_going_returned (c:=c false) (cs:=cs) hk zw
  rcases he with rfl | rfl
  · cases x1
    exact Steps.trans x6 (.head (stepR_end rfl) (.one (fin [])))
  · cases x1
    obtain ⟨todo,hs⟩:=x6
    exact Steps.trans hs (.head (stepR_ret rfl) (.one (fin _)))
 split at hd
 · rename_i s' gv
   split at hd
   · rename_i hc
     simp at hd;obtain ⟨rfl,rfl⟩:=hd
     simp only[Bool.and_eq_true] at hc
     exact key s' .normal (.inl rfl) gv hc.1 hc.2 rfl rfl
   · simp at hd
 · rename_i s' gv
   split at hd
   · rename_i hc
     simp at hd;obtain ⟨rfl,rfl⟩:=hd
     simp only[Bool.and_eq_true] at hc
     exact key s' .ret (.inr rfl) gv hc.1 hc.2 rfl rfl
   · simp at hd
 · simp at hd
theorem jA (hE:jX E) {call:bx} (dB:ie E call) {fuel:Nat}:∀(ds:List pf) {p p':Option AV} {h h':ar} (_:dk (ia E call fuel) ds p h=some (p',h')) {φ:Ph} {w:World} {fr:Frame} {cs:List Frame}
 (_:OK E φ h w) (_:Oa φ ds fr.defers) (_:(p=none∧fr.mode= .returning)∨∃v v',p=some v∧VR φ v v'∧fr.mode= .panicking [{v:=v',recovered:=false}]),
 ∃φ' w' m',OK E φ' h' w'∧Fr φ h w φ' h' w'∧((p'=none∧m'= .returning)∨∃v v',p'=some v∧VR φ' v v'∧m'= .panicking [{v:=v',recovered:=false}])∧
  Steps E.P (lone fr cs w) (lone {fr with defers:=[],mode:=m'} cs w')
 | [],p,p',h,h',hu,φ,w,fr,cs,ok,EP,hp=>by
   simp [dk] at hu;obtain ⟨rfl,rfl⟩:=hu
   have:=qN EP
   refine ⟨φ,w,fr.mode,ok,Fr.refl _ _ _,?_,?_⟩
   · exact hp
   · rw[←this];exact Steps.refl _ _
 | .Rm r::ds,p,p',h,h',hu,φ,w,fr,cs,ok,EP,hp=>by
   cases PE:fr.defers with
   | nil=>rw[PE] at EP;exact EP.elim
   | cons d' u_=>
   rw[PE] at EP
   obtain ⟨⟨l,hl,Mz⟩,Jz⟩:=EP
   have JA:fr.mode≠ .run:=by
    rcases hp with ⟨_,hm⟩ | ⟨v,v',_,_,hm⟩<;>rw[hm]<;>simp
   simp only[dk] at hu
   split at hu
   · rename_i hg
     obtain ⟨_,hb⟩:=ok.live _ _ _ hg hl
     obtain ⟨CE,f1⟩:=ok.VB hg rfl hl (.deferred none)
     have IQ:=step_collected (P:=E.P) (cs:=cs) JA PE Mz (run_takeDeferred hb)
     obtain ⟨φ2,w2,m2,xO,f2,JB,ES⟩:=jA hE dB ds hu (fr:={fr with defers:=[]++u_}) (cs:=cs) CE (by simpa using Jz) hp
     exact ⟨φ2,w2,m2,xO,f1.trans f2,JB,.head IQ ES⟩
   · simp at hu
 | .call df Xv::ds,p,p',h,h',hu,φ,w,fr,cs,ok,EP,hp=>by
   cases PE:fr.defers with
   | nil=>rw[PE] at EP;exact EP.elim
   | cons d' u_=>
   rw[PE] at EP
   obtain ⟨⟨cap,Mz,xA⟩,Jz⟩:=EP
   have JA:fr.mode≠ .run:=by
    rcases hp with ⟨_,hm⟩ | ⟨v,v',_,_,hm⟩<;>rw[hm]<;>simp
   have hinv:∀(IT:(callFunc df (d'.args++cap).toList.toArray).run E.P w= .ok (.enter df (d'.args++cap).toList.toArray) w),(invoke d'.target d'.args).run E.P w= .ok (.enter df (d'.args++cap).toList.toArray) w:=fun IT=>by
    have e:(d'.args++cap).toList.toArray=d'.args++cap:=Array.toArray_toList ..
    rw[e] at IT ⊢
    rw[Mz];exact IT
   have IQ:∀(IT:(callFunc df (d'.args++cap).toList.toArray).run E.P w= .ok (.enter df (d'.args++cap).toList.toArray) w),step E.P (lone fr cs w)= .next (lone (Frame.enter E.P df (d'.args++cap).toList.toArray .deferred) ({fr with defers:=u_}::cs) w):=fun IT=>step_defer JA PE Mz (hinv IT)
   cases p with
   | none=>
     simp only[dk] at hu
     split at hu
     · rename_i h1 Xw Sm
       have hm:fr.mode= .returning:=by
        rcases hp with ⟨_,hm⟩ | ⟨v,v',e,_,_⟩
        · exact hm
        · simp at e
       obtain ⟨φ1,w1,CE,f1,_,IT,jd⟩:=qO hE dB Sm ok xA (c:=fun _=>{fr with defers:=u_}) (cs:=cs) ⟨rfl,fun Em hk=>by simp [tryRecover,show Em.kind= .deferred from hk,hm]⟩
       have uZ:pA (fun _=>{fr with defers:=u_}) Xw={fr with defers:=u_}:=by
        cases Xw<;>simp [pA,hm,settle]
       rw[uZ] at jd
       obtain ⟨φ2,w2,m2,xO,f2,JB,ES⟩:=jA hE dB ds hu (fr:={fr with defers:=u_}) (cs:=cs) CE (Jz.mono f1.ext) (.inl ⟨rfl,hm⟩)
       exact ⟨φ2,w2,m2,xO,f1.trans f2,JB,.head (IQ IT) (Steps.trans jd ES)⟩
     · simp at hu
   | some v=>
     obtain ⟨v',hv,hm⟩:∃v',VR φ v v'∧fr.mode= .panicking [{v:=v',recovered:=false}]:=by
      rcases hp with ⟨e,_⟩ | ⟨v1,v',e,hv,hm⟩
      · simp at e
      · simp at e;subst e;exact ⟨v',hv,hm⟩
     have gF:mn φ (bare df .deferred) (fun x=>(if x then {fr with defers:=u_,mode:= .panicking [{v:=v',recovered:=true}]} else {fr with defers:=u_})::cs) (.iE v):=
      ⟨rfl,⟨v',hv,fun Em hk=>by simp [tryRecover,show Em.kind= .deferred from hk,hm]⟩,fun Em hk=>by simp [tryRecover,show Em.kind= .deferred from hk]⟩
     simp only[dk] at hu
     split at hu
     · rename_i h1 v1 Sm
       obtain ⟨φ1,w1,CE,f1,_,IT,jd⟩:=qO hE dB Sm ok xA (c:=fun x=>if x then {fr with defers:=u_,mode:= .panicking [{v:=v',recovered:=true}]} else {fr with defers:=u_}) (cs:=cs) gF
       have uZ:pA (fun x=>if x then {fr with defers:=u_,mode:= .panicking [{v:=v',recovered:=true}]} else {fr with defers:=u_}) (.iE v1)={fr with defers:=u_}:=by simp [pA,hm,settle]
       rw[uZ] at jd
       simp only[Bool.false_eq_true,if_false,cur] at jd
       obtain ⟨φ2,w2,m2,xO,f2,JB,ES⟩:=jA hE dB ds hu (fr:={fr with defers:=u_}) (cs:=cs) CE (Jz.mono f1.ext) (.inr ⟨v,v',rfl,hv.mono f1.ext,hm⟩)
       exact ⟨φ2,w2,m2,xO,f1.trans f2,JB,.head (IQ IT) (Steps.trans jd ES)⟩
     · rename_i h1 Sm
       obtain ⟨φ1,w1,CE,f1,_,IT,jd⟩:=qO hE dB Sm ok xA (c:=fun x=>if x then {fr with defers:=u_,mode:= .panicking [{v:=v',recovered:=true}]} else {fr with defers:=u_}) (cs:=cs) gF
       have uZ:pA (fun x=>if x then {fr with defers:=u_,mode:= .panicking [{v:=v',recovered:=true}]} else {fr with defers:=u_}) .done={fr with defers:=u_,mode:= .returning}:=by simp [pA,settle]
       rw[uZ] at jd
       simp only[Bool.false_eq_true,if_false,cur] at jd
       obtain ⟨φ2,w2,m2,xO,f2,JB,ES⟩:=jA hE dB ds hu (fr:={fr with defers:=u_,mode:= .returning}) (cs:=cs) CE (Jz.mono f1.ext) (.inl ⟨rfl,rfl⟩)
       exact ⟨φ2,w2,m2,xO,f1.trans f2,JB,.head (IQ IT) (Steps.trans jd ES)⟩
     · simp at hu
theorem CK (hE:jX E) (fuel d:Nat) (ih:ie E (gI E d fuel)):(∀f args h v h',gI E (d+1) fuel (.fn f) args h= .ret v h'→kH E f args h v h')∧(∀f args h v h',gI E (d+1) fuel (.fn f) args h= .panic v h'→F7 E f args h v h'):=by
 have key:∀(f:FuncId) (args:List AV) (h:ar) (out:iT),gI E (d+1) fuel (.fn f) args h=out→(∀why q,out≠ .fail why q)→
  ∃fn c e s p,E.P.funcs[f]? =some fn∧fn.body=some c∧mA E (gI E d fuel) fuel fn c args h .no= .ok e s∧
   ((p=none∧(e= .normal∨e= .ret))∨∃v,p=some v∧e= .panic v)∧
   ((∃v h',out= .panic v h'∧dk (ia E (gI E d fuel) fuel) s.ds p s.h=some (some v,h'))∨
    ∃vs h',out= .ret (hG vs) h'∧dk (ia E (gI E d fuel) fuel) s.ds p s.h=some (none,h')∧jM E h' s.ts fn.results.toList=some vs):=by
  intro f args h out e eC
  simp only[gI] at e
  split at e
  · exact absurd e.symm (eC _ _)
  rename_i fn hf
  split at e
  · exact absurd e.symm (eC _ _)
  rename_i c hb
  have fin:∀(p:Option AV) (s:St),(match dk (ia E (gI E d fuel) fuel) s.ds p s.h with
   | none=>iT.fail "unwind" none
   | some (some v,h')=> .panic v h'
   | some (none,h')=>match jM E h' s.ts fn.results.toList with
     | some vs=> .ret (hG vs) h'
     | none=> .fail "results" none)=out→
   ((∃v h',out= .panic v h'∧dk (ia E (gI E d fuel) fuel) s.ds p s.h=some (some v,h'))∨
    ∃vs h',out= .ret (hG vs) h'∧dk (ia E (gI E d fuel) fuel) s.ds p s.h=some (none,h')∧jM E h' s.ts fn.results.toList=some vs):=by
   intro p s hm
   split at hm
   · exact absurd hm.symm (eC _ _)
   · rename_i v h' hu;exact .inl ⟨v,h',hm.symm,hu⟩
   · rename_i h' hu
     split at hm
     · rename_i vs hv;exact .inr ⟨vs,h',hm.symm,hu,hv⟩
     · exact absurd hm.symm (eC _ _)
  split at e
  · rename_i s gv;exact ⟨fn,c,_,s,none,hf,hb,gv,.inl ⟨rfl,.inl rfl⟩,fin none s e⟩
  · rename_i s gv;exact ⟨fn,c,_,s,none,hf,hb,gv,.inl ⟨rfl,.inr rfl⟩,fin none s e⟩
  · rename_i v s gv;exact ⟨fn,c,_,s,some v,hf,hb,gv,.inr ⟨v,rfl,rfl⟩,fin (some v) s e⟩
  · exact absurd e.symm (eC _ _)
  · exact absurd e.symm (eC _ _)
 have run:∀(f:FuncId) (fn:Func) (c:Code) (args:List AV) (h:ar) (e:j8) (s:St) (p p':Option AV) (h':ar),E.P.funcs[f]? =some fn→fn.body=some c→mA E (gI E d fuel) fuel fn c args h .no= .ok e s→
  ((p=none∧(e= .normal∨e= .ret))∨∃v,p=some v∧e= .panic v)→dk (ia E (gI E d fuel) fuel) s.ds p s.h=some (p',h')→
  ∀(φ:Ph) (w:World) (vs:List Value),OK E φ h w→LR φ args vs→∀cs,∃φ' w' m' tmps todo,OK E φ' h' w'∧Fr φ h w φ' h' w'∧LR φ' s.ts tmps.toList∧
   ((p'=none∧m'= .returning)∨∃v v',p'=some v∧VR φ' v v'∧m'= .panicking [{v:=v',recovered:=false}])∧
   Steps E.P (lone (Frame.enter E.P f vs.toArray .normal) cs w) (lone {(bare f .normal).atR {tmps,defers:=[]} todo with mode:=m'} cs w'):=by
  intro f fn c args h e s p p' h' hf hb gv hp hu φ w vs ok hl cs
  obtain ⟨φ1,w1,a1,e1,x1,x2,x3,x4,x5,x6⟩:=(qM hE ih hf hb gv ok hl (kind:= .normal) (K:=fun _=>cs) ⟨rfl,fun fr hk=>by simp [tryRecover,show fr.kind= .normal from hk]⟩).is
  have CL:cur (fun _=>cs) s.rc=cs:=by cases s.rc<;>rfl
  have JC:cur (fun _=>cs) RC.no=cs:=rfl
  rw[CL] at x6
  rw[JC] at x6
  have hm:∃todo m,((p=none∧m= .returning)∨∃v v',p=some v∧VR φ1 v v'∧m= .panicking [{v:=v',recovered:=false}])∧
   Steps E.P (lone (Frame.enter E.P f vs.toArray .normal) cs w) (lone {(bare f .normal).atR a1 todo with mode:=m} cs w1):=by
   rcases hp with ⟨rfl,rfl | rfl⟩ | ⟨v,rfl,rfl⟩
   · cases x1;exact ⟨[],.returning,.inl ⟨rfl,rfl⟩,Steps.trans x6 (.one (stepR_end rfl))⟩
   · cases x1;obtain ⟨todo,hs⟩:=x6;exact ⟨_,.returning,.inl ⟨rfl,rfl⟩,Steps.trans hs (.one (stepR_ret rfl))⟩
   · cases x1 with
     | panic _ v' hv=>obtain ⟨todo,hs⟩:=x6;exact ⟨todo,_,.inr ⟨v,v',rfl,hv,rfl⟩,hs⟩
  obtain ⟨todo,m,VK,qp⟩:=hm
  obtain ⟨φ2,w2,m2,xO,f2,JB,VL⟩:=jA hE ih s.ds hu (fr:={(bare f .normal).atR a1 todo with mode:=m}) (cs:=cs) x3 x2.ds (by
   rcases VK with ⟨e,em⟩ | ⟨v,v',e,hv,em⟩
   · exact .inl ⟨e,em⟩
   · exact .inr ⟨v,v',e,hv,em⟩)
  exact ⟨φ2,w2,m2,a1.tmps,todo,xO,x4.trans f2,x2.ts.mono f2.ext,JB,Steps.trans qp VL⟩
 refine ⟨fun f args h v h' e=>?_,fun f args h v h' e=>?_⟩
 · obtain ⟨fn,c,e1,s,p,hf,hb,gv,hp,ox⟩:=key f args h _ e (by simp)
   rcases ox with ⟨v1,h1,he,_⟩ | ⟨VM,h1,he,hu,zC⟩
   · simp at he
   · simp at he;obtain ⟨rfl,rfl⟩:=he
     intro φ w vs ok hl
     refine ⟨enters hE hf hb _ w,fun cs=>?_⟩
     obtain ⟨φ',w',m',tmps,todo,qq,fr,ht,hm,hs⟩:=run f fn c args h e1 s p none h' hf hb gv hp hu φ w vs ok hl cs
     obtain ⟨v',hv,hH⟩:=qL qq ht zC
     rcases hm with ⟨_,rfl⟩ | ⟨v,Yz,e,_⟩
     · exact ⟨φ',w',v',_,hv,qq,fr,hs,rfl,rfl,rfl,rfl,fn,hf,hH⟩
     · simp at e
 · obtain ⟨fn,c,e1,s,p,hf,hb,gv,hp,ox⟩:=key f args h _ e (by simp)
   rcases ox with ⟨v1,h1,he,hu⟩ | ⟨VM,h1,he,_⟩
   · simp at he;obtain ⟨rfl,rfl⟩:=he
     intro φ w vs ok hl
     refine ⟨enters hE hf hb _ w,fun cs=>?_⟩
     obtain ⟨φ',w',m',tmps,todo,qq,fr,ht,hm,hs⟩:=run f fn c args h e1 s p (some v) h' hf hb gv hp hu φ w vs ok hl cs
     rcases hm with ⟨e,_⟩ | ⟨v2,v',e,hv,rfl⟩
     · simp at e
     · simp at e;subst e
       exact ⟨φ',w',v',_,hv,qq,fr,hs,rfl,rfl,rfl,fn,hf⟩
   · simp at he
theorem sL {l:Nat} {uQ:Option Code} {s:St} {v:AV} {h':ar} (he:xj l uQ s= .ret v h') {φ:Ph} {w:World} (ok:OK E φ s.h w) {ll:Loc} (hl:φ l=some ll):
 ∃w',v= .bool uQ.isNone∧OK E φ h' w'∧Fr φ s.h w φ h' w'∧(Instr.endRound ll.gG uQ).run E.P w= .ok (.bool uQ.isNone) w':=by
 unfold xj at he
 split at he
 · rename_i st pd ts ps as bd dn hg
   simp only[iT.ret.injEq] at he;obtain ⟨rfl,rfl⟩:=he
   obtain ⟨_,r,hr,ve⟩:=ok.live _ _ _ hg hl
   obtain ⟨CE,f1⟩:=ok.PC (o':= .loop (if uQ.isNone then .ready else .done) uQ ts ps as bd dn) hg rfl hl (O:= .loop {r with state:=if uQ.isNone then .ready else .done,pending:=uQ})
    ⟨by have:=ok.live _ _ _ hg hl;exact this.1,_,rfl,⟨rfl,rfl,ve.tmps,ve.params,ve.assign,ve.body,ve.defers,ve.fn⟩⟩
   exact ⟨_,rfl,CE,f1,run_endRound uQ hr⟩
 · simp at he
theorem CM {φ:Ph}:∀{ps:List Tmp} {args:List AV} {vs:List Value} (_:LR φ args vs) {ts:List AV} {tmps:Array Value} (_:LR φ ts tmps.toList),
 LR φ ((ps.zip args).foldl (fun ts x=>ts.set x.1 x.2) ts) (((ps.zip vs).foldl (fun (tmps:Array Value) (x:Tmp×Value)=>tmps.setIfInBounds x.1 x.2) tmps).toList)
 | [],_,_,_,_,_,ht=>by simpa using ht
 | p::ps,[],vs,hl,ts,tmps,ht=>by rw[hl.iX];simpa using ht
 | p::ps,x::xs,vs,hl,ts,tmps,ht=>by
   obtain ⟨y,ys,rfl,hy,sB⟩:=hl.cW
   simp only[List.zip_cons_cons,List.foldl_cons]
   exact CM sB (by simpa using ht.set hy p)
theorem xU (hE:jX E) {call:bx} (dB:ie E call) {fuel l:Nat} {args:List AV} {h:ar} {out:iT} (ho:sw E call fuel l args h=out) (eC:∀why q,out≠ .fail why q)
 {φ:Ph} {w:World} {vs:List Value} (ok:OK E φ h w) {ll:Loc} (hφ:φ l=some ll) (hl:LR φ args vs):
 ∃f tmps assign body,(Instr.yield ll.gG vs.toArray).run E.P w= .ok (.round ll.gG f tmps assign body) w∧∀c cs,
  (∀v h',out= .ret v h'→∃φ' w' v',VR φ' v v'∧OK E φ' h' w'∧Fr φ h w φ' h' w'∧Steps E.P (lone (Frame.round ll.gG f tmps assign body .normal) (c::cs) w) (lone (c.finish v') cs w'))∧
  (∀v h',out= .panic v h'→∃φ' w' v',VR φ' v v'∧OK E φ' h' w'∧Fr φ h w φ' h' w'∧Steps E.P (lone (Frame.round ll.gG f tmps assign body .normal) (c::cs) w) (lone (c.raise [{v:=v',recovered:=false}]) cs w')):=by
 unfold sw at ho
 split at ho
 · rename_i st pd ts ps as bd dn hg
   split at ho
   · rename_i hlen
     split at ho
     · rename_i s1 YA
       split at ho
       · rename_i Xx O8 N8 Ma O9 O_ Xy
         obtain ⟨YB,r,hr,ve⟩:=ok.live _ _ _ hg hφ
         have I7:vs.toArray.size=r.params.size:=by
          have h1:=congrArg List.length ve.params
          have h2:=hl.1
          simp at h1 ⊢;omega
         refine ⟨r.fn,_,r.assign,r.body,run_yield hr I7,fun c cs=>?_⟩
         have Sn:LR φ ((ps.zip args).foldl (fun ts x=>ts.set x.1 x.2) ts) ((r.params.zip vs.toArray).foldl (fun tmps (t,a)=>tmps.setIfInBounds t a) r.tmps).toList:=by
          have:=CM (ps:=ps) hl ve.tmps
          rw[←Array.foldl_toList,Array.toList_zip,ve.params]
          exact this
         generalize ZD:(r.params.zip vs.toArray).foldl (fun tmps (t,a)=>tmps.setIfInBounds t a) r.tmps=Ga at Sn
         let b:Frame:={fn:=r.fn,tmps:= #[],todo:=[],defers:=[],mode:= .run,kind:= .normal,roundOf:=some ll.gG}
         have hb:b.roundOf=some ll.gG:=rfl
         have hk:b.kind= .normal:=rfl
         have va:Frame.round ll.gG r.fn Ga r.assign r.body .normal=b.atR {tmps:=Ga,defers:=[]} [.code r.assign,.beginRound,.code r.body]:=rfl
         rw[ve.assign,ve.body] at va ⊢
         rw[va]
         have CL:∀rc,cur (fun _=>c::cs) rc=c::cs:=fun rc=>by cases rc<;>rfl
         obtain ⟨φ1,w1,a1,e1,x1,x2,x3,x4,x5,x6⟩:=(sK hE dB fuel as YA (a:={tmps:=Ga,defers:=[]}) (b:=b) (k:=[.beginRound,.code bd]) (K:=fun _=>c::cs) ⟨Sn,trivial⟩ ok ⟨ll,hφ,rfl⟩ ve.fn).1.is
         cases x1
         rw[CL,CL] at x6
         have VN:=x4.ext _ _ hφ
         obtain ⟨So,r1,R8,CO⟩:=x3.live _ _ _ Xy VN
         obtain ⟨xO,f2⟩:=x3.PC (o':= .loop .busy Xx O8 N8 Ma O9 O_) Xy rfl VN (O:= .loop {r1 with state:= .busy})
          ⟨So,_,rfl,⟨rfl,CO.pending,CO.tmps,CO.params,CO.assign,CO.body,CO.defers,CO.fn⟩⟩
         have VO:=stepR_beginRound (P:=E.P) (b:=b) (a:=a1) (k:=[.code bd]) (cs:=c::cs) hb (run_beginRound R8 CO.state)
         have wF:=Steps.trans x6 (.one VO)
         have body:∀(e:j8) (s2:St),exec E call fuel bd {s1 with h:=s1.h.put l (some (.loop .busy Xx O8 N8 Ma O9 O_))}= .ok e s2→
          ∃φ' w' a' e',Ps φ' e e'∧SR φ' s2.ts s2.ds a'∧OK E φ' s2.h w'∧Fr φ h w φ' s2.h w'∧φ' l=some ll∧CH E.P (lone (b.atR {tmps:=Ga,defers:=[]} [.code as,.beginRound,.code bd]) (c::cs) w) b [] (c::cs) e' a' w':=by
          intro e s2 MA
          obtain ⟨φ3,w3,a3,e3,y1,y2,y3,y4,y5,y6⟩:=(sK hE dB fuel bd MA (a:=a1) (b:=b) (k:=[]) (K:=fun _=>c::cs) x2 xO x5 ve.fn).1.is
          rw[CL,CL] at y6
          exact ⟨φ3,w3,a3,e3,y1,y2,y3,(x4.trans f2).trans y4,y4.ext _ _ VN,.of_steps wF y6⟩
         split at ho
         · rename_i s2 MA
           obtain ⟨φ3,w3,a3,e3,y1,y2,y3,y4,Mx,y6⟩:=body _ _ MA
           cases y1
           refine ⟨fun v h' e=>?_,fun v h' e=>?_⟩
           · obtain ⟨w4,rfl,z1,z2,z3⟩:=sL (ho.trans e) y3 Mx
             exact ⟨φ3,w4,_,.bool _,z1,y4.trans z2,Steps.trans y6 (.one (stepR_round_end hb hk z3))⟩
           · rw[e] at ho;unfold xj at ho;split at ho<;>simp at ho
         · rename_i s2 MA
           obtain ⟨φ3,w3,a3,e3,y1,y2,y3,y4,Mx,y6⟩:=body _ _ MA
           cases y1
           refine ⟨fun v h' e=>?_,fun v h' e=>?_⟩
           · obtain ⟨w4,rfl,z1,z2,z3⟩:=sL (ho.trans e) y3 Mx
             obtain ⟨todo,hs⟩:=y6
             exact ⟨φ3,w4,_,.bool _,z1,y4.trans z2,Steps.trans hs (.one (stepR_round_ret hb hk z3))⟩
           · rw[e] at ho;unfold xj at ho;split at ho<;>simp at ho
         · rename_i id s2 MA
           obtain ⟨φ3,w3,a3,e3,y1,y2,y3,y4,Mx,y6⟩:=body _ _ MA
           cases y1
           refine ⟨fun v h' e=>?_,fun v h' e=>?_⟩
           · obtain ⟨w4,rfl,z1,z2,z3⟩:=sL (ho.trans e) y3 Mx
             obtain ⟨todo,ht,hs⟩:=y6
             exact ⟨φ3,w4,_,.bool _,z1,y4.trans z2,Steps.trans hs (.one (stepR_round_exit hb hk ht z3))⟩
           · rw[e] at ho;unfold xj at ho;split at ho<;>simp at ho
         · rename_i v2 s2 MA
           obtain ⟨φ3,w3,a3,e3,y1,y2,y3,y4,Mx,y6⟩:=body _ _ MA
           split at ho
           · rename_i EP
             refine ⟨fun v h' e=>by rw[e] at ho;simp at ho,fun v h' e=>?_⟩
             rw[e] at ho;simp at ho;obtain ⟨rfl,rfl⟩:=ho
             cases y1 with
             | panic _ v' hv=>
               obtain ⟨todo,hs⟩:=y6
               have VJ:a3.defers=[]:=qN (by have:=y2.ds;rw[List.isEmpty_iff.1 EP] at this;exact this)
               obtain ⟨fn,Cc⟩:=Option.isSome_iff_exists.1 ve.fn
               exact ⟨φ3,w3,v',hv,y3,y4,Steps.trans hs (.one (step_leave_panicked ⟨rfl,VJ,fn,Cc⟩))⟩
           · exact absurd ho.symm (eC _ _)
         · exact absurd ho.symm (eC _ _)
       · exact absurd ho.symm (eC _ _)
     · exact absurd ho.symm (eC _ _)
     · exact absurd ho.symm (eC _ _)
   · exact absurd ho.symm (eC _ _)
 · exact absurd ho.symm (eC _ _)
theorem vW (hE:jX E) (fuel:Nat):∀d,ie E (gI E d fuel)
 | 0=>⟨fun f args h v h' e=>by simp [gI] at e,fun f args h v h' e=>by simp [gI] at e⟩
 | d+1=>by
   have ih:=vW hE fuel d
   obtain ⟨k1,k2⟩:=CK hE fuel d ih
   refine ⟨fun F args h v h' e=>?_,fun F args h v h' e=>?_⟩
   · cases F with
     | fn f=>exact (k1 f args h v h' e).any
     | vN l=>
       simp only[gI] at e
       intro φ w vs ok hf hl
       obtain ⟨ll,hφ⟩:=hf
       obtain ⟨f,tmps,assign,body,hy,hH⟩:=xU hE ih e (by simp) ok hφ hl
       exact ⟨_,_,.vN l ll hφ vs f tmps assign body hy,fun c cs=>(hH c cs).1 v h' rfl⟩
   · cases F with
     | fn f=>exact (k2 f args h v h' e).any
     | vN l=>
       simp only[gI] at e
       intro φ w vs ok hf hl
       obtain ⟨ll,hφ⟩:=hf
       obtain ⟨f,tmps,assign,body,hy,hH⟩:=xU hE ih e (by simp) ok hφ hl
       exact ⟨_,_,.vN l ll hφ vs f tmps assign body hy,fun c cs=>(hH c cs).2 v h' rfl⟩
end Go.Ab
end
section
namespace Go.Ab.Fa
structure Acc (T:Type) where
 f:T→AV
structure Sp (T:Type) where
 f:AV→T→T
structure RF where
 T:Type
 N:Nat
 get:Nat→Acc T
 set:Nat→Sp T
 z:T
 JD:∀i,i<N→(get i).f z=AV.undef
 tO:∀i,i<N→∀v r,(get i).f ((set i).f v r)=v
 rL:∀i j,i<N→j<N→i≠j→∀v r,(get j).f ((set i).f v r)=(get j).f r
def MB (i:Nat):Acc (P8 (P8 AV)):=s8 (i/8) fun p=>s8 (i%8) fun q=>⟨fun r=>q (p r)⟩
noncomputable def PF (i:Nat):Sp (P8 (P8 AV)):=e8 (i/8) fun p=>e8 (i%8) fun q=>⟨fun v r=>p (q fun _=>v) r⟩
noncomputable def Uu:RF where
 T:=P8 (P8 AV)
 N:=64
 get:=MB
 set:=PF
 z:=P8.all (P8.all AV.undef)
 JD i h:=by simp only[MB,sa,wY]
 tO i h v r:=by simp only[MB,PF,sa,vM,dt]
 rL i j hi hj h v r:=by
  simp only[MB,PF,sa,vM]
  by_cases h1:i/8=j/8
  · rw[h1,dt,eb (by omega) (by omega) (by omega)]
  · rw[eb (by omega) (by omega) h1]
def MC (i:Nat):Acc (P8 (P8 (P8 AV))):=s8 (i/64) fun o=>s8 (i/8%8) fun p=>s8 (i%8) fun q=>⟨fun r=>q (p (o r))⟩
noncomputable def PG (i:Nat):Sp (P8 (P8 (P8 AV))):=e8 (i/64) fun o=>e8 (i/8%8) fun p=>e8 (i%8) fun q=>⟨fun v r=>o (p (q fun _=>v)) r⟩
noncomputable def Uv:RF where
 T:=P8 (P8 (P8 AV))
 N:=512
 get:=MC
 set:=PG
 z:=P8.all (P8.all (P8.all AV.undef))
 JD i h:=by simp only[MC,sa,wY]
 tO i h v r:=by simp only[MC,PG,sa,vM,dt]
 rL i j hi hj h v r:=by
  simp only[MC,PG,sa,vM]
  by_cases h1:i/64=j/64
  · rw[h1,dt]
    by_cases h2:i/8%8=j/8%8
    · rw[h2,dt,eb (by omega) (by omega) (by omega)]
    · rw[eb (by omega) (by omega) h2]
  · rw[eb (by omega) (by omega) h1]
section
variable (F:RF) (n:Nat)
def eU (r:F.T):List AV:=(List.range n).map fun i=>(F.get i).f r
theorem iv (r:F.T):(eU F n r).length=n:=by simp [eU]
theorem rM (r:F.T) {i:Nat} (h:i<n):(eU F n r)[i]? =some ((F.get i).f r):=by simp [eU,h]
theorem CP (r:F.T) (i:Nat):(eU F n r).getD i AV.undef=if i<n then (F.get i).f r else AV.undef:=by
 rw[List.getD_eq_getElem?_getD]
 split
 · rename_i h;rw[rM F n r h];rfl
 · rw[List.getElem?_eq_none (by rw[iv];omega)];rfl
theorem MD (hn:n≤F.N) (r:F.T) {i:Nat} (h:i<n) (v:AV):(eU F n r).set i v=eU F n ((F.set i).f v r):=by
 apply List.ext_getElem?
 intro j
 rw[List.getElem?_set]
 by_cases hj:j<n
 · rw[rM F n _ hj,rM F n _ hj,iv]
   by_cases e:i=j
   · subst e;simp [F.tO i (by omega),h]
   · rw[if_neg e,F.rL i j (by omega) (by omega) e]
 · rw[List.getElem?_eq_none (l:=eU F n r) (by rw[iv];omega),List.getElem?_eq_none (l:=eU F n _) (by rw[iv];omega),iv]
   rw[if_neg (by omega)]
noncomputable def IU:List AV→F.T→Nat→F.T:=fun l=>List.rec (motive:=fun _=>F.T→Nat→F.T) (fun r _=>r) (fun v _ ih r i=>ih ((F.set i).f v r) (Nat.add i 1)) l
theorem ME (r:F.T) (i:Nat):IU F [] r i=r:=rfl
theorem JE (v:AV) (l:List AV) (r:F.T) (i:Nat):IU F (v::l) r i=IU F l ((F.set i).f v r) (i+1):=rfl
theorem Gb (hn:n≤F.N):∀(l:List AV) (r:F.T) (i:Nat),i+l.length≤n→∀j,j<n→(F.get j).f (IU F l r i)=if i≤j∧j<i+l.length then l.getD (j - i) AV.undef else (F.get j).f r
 | [],r,i,_,j,hj=>by rw[ME,if_neg (by rw[List.length_nil];omega)]
 | v::l,r,i,h,j,hj=>by
   simp only[List.length_cons] at h
   rw[JE,Gb hn l _ (i+1) (by omega) j hj]
   simp only[List.length_cons]
   by_cases h1:i+1≤j∧j<i+1+l.length
   · rw[if_pos h1,if_pos (by omega)]
     obtain ⟨m,hm⟩:∃m,j - i=m+1:=⟨j - i - 1,by omega⟩
     rw[hm,show j -(i+1)=m by omega,List.getD_cons_succ]
   · rw[if_neg h1]
     by_cases h2:i=j
     · subst h2;rw[F.tO i (by omega),if_pos (by omega)];simp
     · rw[F.rL i j (by omega) (by omega) h2,if_neg (by omega)]
theorem Gc (hn:n≤F.N) (l:List AV) (h:l.length≤n):eU F n (IU F l F.z 0)=l++List.replicate (n - l.length) AV.undef:=by
 apply List.ext_getElem?
 intro j
 by_cases hj:j<n
 · rw[rM F n _ hj,Gb F n hn l F.z 0 (by omega) j hj]
   by_cases h1:j<l.length
   · rw[if_pos (by omega),List.getElem?_append_left h1,Nat.sub_zero,List.getD_eq_getElem?_getD,List.getElem?_eq_getElem h1];rfl
   · rw[if_neg (by omega),List.getElem?_append_right (by omega),F.JD j (by omega),List.getElem?_replicate,if_pos (by omega)]
 · rw[List.getElem?_eq_none (by rw[iv];omega),List.getElem?_eq_none (by simp;omega)]
end
end Go.Ab.Fa
end
section
namespace Go.Ab.Fa
section
variable {R:Type}
noncomputable def jg (f:Bool→R) (d:R) (v:AV):R:=
 AV.rec (motive_1:=fun _=>R) (motive_2:=fun _=>Unit) (fun b=>f b) (fun _ _=>d) (fun _=>d) d (fun _ _=>d) d (fun _ _ _ _ _=>d) d (fun _=>d) (fun _ _ _ _ _=>d) (fun _=>d) d (fun _ _ _=>d) d (fun _ _=>d) (fun _ _=>d) d d () (fun _ _ _ _=>()) v
noncomputable def oH (f:IntKind→Int→R) (d:R) (v:AV):R:=
 AV.rec (motive_1:=fun _=>R) (motive_2:=fun _=>Unit) (fun _=>d) (fun k n=>f k n) (fun _=>d) d (fun _ _=>d) d (fun _ _ _ _ _=>d) d (fun _=>d) (fun _ _ _ _ _=>d) (fun _=>d) d (fun _ _ _=>d) d (fun _ _=>d) (fun _ _=>d) d d () (fun _ _ _ _=>()) v
noncomputable def pB (f:List UInt8→R) (d:R) (v:AV):R:=
 AV.rec (motive_1:=fun _=>R) (motive_2:=fun _=>Unit) (fun _=>d) (fun _ _=>d) (fun s=>f s) d (fun _ _=>d) d (fun _ _ _ _ _=>d) d (fun _=>d) (fun _ _ _ _ _=>d) (fun _=>d) d (fun _ _ _=>d) d (fun _ _=>d) (fun _ _=>d) d d () (fun _ _ _ _=>()) v
noncomputable def vf (f:Nat→Nat→R) (d:R) (v:AV):R:=
 AV.rec (motive_1:=fun _=>R) (motive_2:=fun _=>Unit) (fun _=>d) (fun _ _=>d) (fun _=>d) d (fun i o=>f i o) d (fun _ _ _ _ _=>d) d (fun _=>d) (fun _ _ _ _ _=>d) (fun _=>d) d (fun _ _ _=>d) d (fun _ _=>d) (fun _ _=>d) d d () (fun _ _ _ _=>()) v
noncomputable def jh (e:R) (f:Nat→Nat→Nat→Nat→Bool→R) (d:R) (v:AV):R:=
 AV.rec (motive_1:=fun _=>R) (motive_2:=fun _=>Unit) (fun _=>d) (fun _ _=>d) (fun _=>d) d (fun _ _=>d) e (fun i o l c b=>f i o l c b) d (fun _=>d) (fun _ _ _ _ _=>d) (fun _=>d) d (fun _ _ _=>d) d (fun _ _=>d) (fun _ _=>d) d d () (fun _ _ _ _=>()) v
noncomputable def vZ (z d:R) (v:AV):R:=
 AV.rec (motive_1:=fun _=>R) (motive_2:=fun _=>Unit) (fun _=>d) (fun _ _=>d) (fun _=>d) d (fun _ _=>d) d (fun _ _ _ _ _=>d) d (fun _=>d) (fun _ _ _ _ _=>d) (fun _=>d) d (fun _ _ _=>d) d (fun _ _=>d) (fun _ _=>d) z d () (fun _ _ _ _=>()) v
noncomputable def Ge (f:FuncId→List AV→List AV→R) (y:Nat→R) (d:R) (v:AV):R:=
 AV.rec (motive_1:=fun _=>R) (motive_2:=fun _=>Unit) (fun _=>d) (fun _ _=>d) (fun _=>d) d (fun _ _=>d) d (fun _ _ _ _ _=>d) d (fun _=>d) (fun g a b _ _=>f g a b) (fun l=>y l) d (fun _ _ _=>d) d (fun _ _=>d) (fun _ _=>d) d d () (fun _ _ _ _=>()) v
noncomputable def vg (f:List AV→R) (t:List AV→R) (d:R) (v:AV):R:=
 AV.rec (motive_1:=fun _=>R) (motive_2:=fun _=>Unit) (fun _=>d) (fun _ _=>d) (fun _=>d) d (fun _ _=>d) d (fun _ _ _ _ _=>d) d (fun _=>d) (fun _ _ _ _ _=>d) (fun _=>d) d (fun _ _ _=>d) d (fun cs _=>f cs) (fun cs _=>t cs) d d () (fun _ _ _ _=>()) v
noncomputable def pC (f:TypeId→AV→R) (d:R) (v:AV):R:=
 AV.rec (motive_1:=fun _=>R) (motive_2:=fun _=>Unit) (fun _=>d) (fun _ _=>d) (fun _=>d) d (fun _ _=>d) d (fun _ _ _ _ _=>d) d (fun _=>d) (fun _ _ _ _ _=>d) (fun _=>d) d (fun t v _=>f t v) d (fun _ _=>d) (fun _ _=>d) d d () (fun _ _ _ _=>()) v
noncomputable def Be (v:AV):Bool:=
 AV.rec (motive_1:=fun _=>Bool) (motive_2:=fun _=>Unit) (fun _=>false) (fun _ _=>false) (fun _=>false) false (fun _ _=>true) false (fun _ _ _ _ _=>true) false (fun _=>true) (fun _ _ _ _ _=>true) (fun _=>false) false (fun _ _ _=>false) false (fun _ _=>false) (fun _ _=>false) false false () (fun _ _ _ _=>()) v
noncomputable def ob {α:Type} (d:R) (f:α→R) (o:Option α):R:=Option.rec (motive:=fun _=>R) d f o
noncomputable def bc (b:Bool) (x y:R):R:=Bool.rec (motive:=fun _=>R) y x b
noncomputable def vh (f:List AV→TypeId→Bool→R) (d:R) (o:aH):R:=
 aH.rec (motive:=fun _=>R) (fun cs e ro=>f cs e ro) (fun _ _=>d) (fun _ _=>d) (fun _ _ _ _=>d) (fun _ _ _ _ _ _ _=>d) d o
noncomputable def lg (f:Nat→R) (d:R) (n:Int):R:=Int.rec (motive:=fun _=>R) f (fun _=>d) n
noncomputable def PH (a b c d e f g h:R) (k:IntKind):R:=IntKind.rec (motive:=fun _=>R) a b c d e f g h k
end
noncomputable def kc (k:IntKind):Nat:=PH 0 1 2 3 4 5 6 7 k
noncomputable def JF (k j:IntKind):Bool:=Nat.beq (kc k) (kc j)
noncomputable def r6 (k:IntKind):Nat:=PH 128 32768 2147483648 9223372036854775808 256 65536 4294967296 18446744073709551616 k
noncomputable def JG (k:IntKind):Nat:=PH 8 16 32 64 8 16 32 64 k
noncomputable def Oq (k:IntKind):Bool:=PH true true true true false false false false k
noncomputable def sj (k:IntKind) (n:Int):Int:=
 Int.rec (motive:=fun _=>Int) (fun m=>bc (Nat.ble (r6 k) m) (bc (Oq k) (k.wrap (Int.ofNat m)) (Int.ofNat (Nat.mod m (r6 k)))) (Int.ofNat m))
  (fun m=>bc (Oq k) (bc (Nat.ble (r6 k) m) (k.wrap (Int.negSucc m)) (Int.negSucc m)) (k.wrap (Int.negSucc m))) n
noncomputable def nK (a b:Int):Int:=lg (fun x=>lg (fun y=>Int.ofNat (Nat.add x y)) (Int.add a b) b) (Int.add a b) a
noncomputable def MF (a b:Int):Int:=lg (fun x=>lg (fun y=>bc (Nat.ble y x) (Int.ofNat (Nat.sub x y)) (Int.negSucc (Nat.sub (Nat.sub y x) 1))) (Int.sub a b) b) (Int.sub a b) a
noncomputable def JH (a b:Int):Int:=lg (fun x=>lg (fun y=>Int.ofNat (Nat.mul x y)) (Int.mul a b) b) (Int.mul a b) a
noncomputable def Ot (a b:Int):Bool:=
 Int.rec (motive:=fun _=>Bool) (fun x=>Int.rec (motive:=fun _=>Bool) (fun y=>Nat.beq x y) (fun _=>false) b) (fun x=>Int.rec (motive:=fun _=>Bool) (fun _=>false) (fun y=>Nat.beq x y) b) a
noncomputable def MG (a b:Int):Bool:=
 Int.rec (motive:=fun _=>Bool) (fun x=>Int.rec (motive:=fun _=>Bool) (fun y=>Nat.ble (Nat.add x 1) y) (fun _=>false) b) (fun x=>Int.rec (motive:=fun _=>Bool) (fun _=>true) (fun y=>Nat.ble (Nat.add y 1) x) b) a
noncomputable def sM (b:Bool):Bool:=bc b false true
noncomputable def MH (op:BinOp):IntKind→Int→Int→Option AV:=match op with
 | .add=>fun k a b=>some (.int k (sj k (nK a b)))
 | .sub=>fun k a b=>some (.int k (sj k (MF a b)))
 | .mul=>fun k a b=>some (.int k (sj k (JH a b)))
 | .eql=>fun _ a b=>some (.bool (Ot a b))
 | .neq=>fun _ a b=>some (.bool (sM (Ot a b)))
 | .lss=>fun _ a b=>some (.bool (MG a b))
 | .leq=>fun _ a b=>some (.bool (sM (MG b a)))
 | .gtr=>fun _ a b=>some (.bool (MG b a))
 | .geq=>fun _ a b=>some (.bool (sM (MG a b)))
 | .quo=>fun k a b=>lg (fun x=>lg (fun y=>bc (Nat.beq y 0) none (some (.int k (sj k (Int.ofNat (Nat.div x y)))))) (dz .quo k a b) b) (dz .quo k a b) a
 | .rem=>fun k a b=>lg (fun x=>lg (fun y=>bc (Nat.beq y 0) none (some (.int k (Int.ofNat (Nat.mod x y))))) (dz .rem k a b) b) (dz .rem k a b) a
 | .and=>fun k a b=>lg (fun x=>lg (fun y=>bc (Nat.ble (r6 k) x) (dz .and k a b) (bc (Nat.ble (r6 k) y) (dz .and k a b) (some (.int k (Int.ofNat (Nat.land x y)))))) (dz .and k a b) b) (dz .and k a b) a
 | .or=>fun k a b=>lg (fun x=>lg (fun y=>bc (Nat.ble (r6 k) x) (dz .or k a b) (bc (Nat.ble (r6 k) y) (dz .or k a b) (some (.int k (Int.ofNat (Nat.lor x y)))))) (dz .or k a b) b) (dz .or k a b) a
 | op=>fun k a b=>dz op k a b
noncomputable def JI (k:IntKind) (y:Nat):Nat:=bc (Nat.ble (JG k) y) (JG k) y
noncomputable def Sq (k:IntKind) (a b:Int):Option AV:=lg (fun y=>some (.int k (sj k (JH a (Int.ofNat (Nat.pow 2 (JI k y))))))) none b
noncomputable def Sr (k:IntKind) (a b:Int):Option AV:=lg (fun y=>some (.int k (lg (fun x=>Int.ofNat (Nat.div x (Nat.pow 2 (JI k y)))) (a.fdiv (2^(min y k.bits))) a))) none b
section
variable {α:Type}
noncomputable def iG (l:List α):Nat:=List.rec (motive:=fun _=>Nat) 0 (fun _ _ ih=>Nat.add ih 1) l
noncomputable def iH (l:List α):Nat→Option α:=List.rec (motive:=fun _=>Nat→Option α) (fun _=>none) (fun v _ ih o=>bc (Nat.beq o 0) (some v) (ih (Nat.sub o 1))) l
noncomputable def qP (l:List α):Nat→List α:=List.rec (motive:=fun _=>Nat→List α) (fun _=> []) (fun v tl ih o=>bc (Nat.beq o 0) (v::tl) (ih (Nat.sub o 1))) l
noncomputable def qQ (l:List α):Nat→List α:=List.rec (motive:=fun _=>Nat→List α) (fun _=> []) (fun v _ ih o=>bc (Nat.beq o 0) [] (v::ih (Nat.sub o 1))) l
noncomputable def ky (l m:List α):List α:=List.rec (motive:=fun _=>List α) m (fun v _ ih=>v::ih) l
noncomputable def vi (f:α→Bool) (l:List α):Bool:=List.rec (motive:=fun _=>Bool) true (fun v _ ih=>bc (f v) ih false) l
noncomputable def CQ (vs:List α):List α→List α:=
 List.rec (motive:=fun _=>List α→List α) (fun cs=>cs) (fun v _ ih cs=>List.rec (motive:=fun _=>List α) [] (fun _ tl _=>v::ih tl) cs) vs
noncomputable def CS (vs cs:List α):Nat→List α:=
 List.rec (motive:=fun _=>Nat→List α) (fun _=> []) (fun c tl ih o=>bc (Nat.beq o 0) (CQ vs (c::tl)) (c::ih (Nat.sub o 1))) cs
noncomputable def leq (f:α→α→Bool) (l:List α):List α→Bool:=
 List.rec (motive:=fun _=>List α→Bool) (fun m=>List.rec (motive:=fun _=>Bool) true (fun _ _ _=>false) m)
  (fun x _ ih m=>List.rec (motive:=fun _=>Bool) false (fun y tl _=>bc (f x y) (ih tl) false) m) l
end
noncomputable def xV (a b:UInt8):Bool:=Nat.beq a.toBitVec.toFin.val b.toBitVec.toFin.val
noncomputable def MI (v:AV):Bool:=vg (fun _=>false) (fun _=>false) true v
noncomputable def kI (v:AV):List AV:=vg (fun cs=>cs) (fun _=> [v]) [v] v
end Go.Ab.Fa
end
section
namespace Go.Ab.Fa
section
variable {α β:Type}
noncomputable def wG (l:List Nat) (x:Nat):Bool:=List.rec (motive:=fun _=>Bool) false (fun y _ ih=>bc (Nat.beq x y) true ih) l
noncomputable def PI (f:α→Bool) (l:List α):Bool:=List.rec (motive:=fun _=>Bool) false (fun v _ ih=>bc (f v) true ih) l
noncomputable def allI (f:α→Nat→Bool) (l:List α) (i:Nat):Bool:=List.rec (motive:=fun _=>Nat→Bool) (fun _=>true) (fun v _ ih i=>bc (f v i) (canon (Nat.add i 1) ih) false) l i
noncomputable def CT (f:α→Nat→Bool) (l:List α) (i:Nat):List Nat:=List.rec (motive:=fun _=>Nat→List Nat) (fun _=> []) (fun v _ ih i=>bc (f v i) (i::canon (Nat.add i 1) ih) (canon (Nat.add i 1) ih)) l i
noncomputable def Bf (f:α→Bool) (l:List α):Nat:=List.rec (motive:=fun _=>Nat) 0 (fun v _ ih=>bc (f v) (Nat.add ih 1) ih) l
noncomputable def ET (f:α→Bool) (l:List α):Nat:=List.rec (motive:=fun _=>Nat) 0 (fun v _ ih=>bc (f v) (Nat.add ih 1) 0) l
noncomputable def xW (l:List α) (i:Nat) (d:α):α:=ob d (fun x=>x) (iH l i)
noncomputable def oc (l:List α):(List α→β)→β:=List.rec (motive:=fun _=>(List α→β)→β) (fun k=>k []) (fun x _ ih k=>ih fun tl=>k (x::tl)) l
theorem vj (l:List α) (k:List α→β):oc l k=k l:=by
 induction l generalizing k with
 | nil=>rfl
 | cons y tl ih=>show oc tl (fun tl=>k (y::tl))=_;rw[ih]
noncomputable def EU (l:List α) (k:List α→β):β:=List.rec (motive:=fun _=>β) (k []) (fun x tl _=>k (x::tl)) l
theorem HM (l:List α) (k:List α→β):EU l k=k l:=by cases l<;>rfl
noncomputable def Bg (f:List β→α→List β) (l:List α) (b:List β):List β:=List.rec (motive:=fun _=>List β→List β) (fun b=>b) (fun v _ ih b=>EU (f b v) ih) l b
theorem Af (f:List β→α→List β) (l:List α) (b:List β):Bg f l b=l.foldl f b:=by
 induction l generalizing b with
 | nil=>rfl
 | cons y tl ih=>show EU (f b y) (Bg f tl)=_;rw[HM,ih];rfl
theorem qR (b:Bool) (x y:α):bc b x y=bif b then x else y:=by cases b<;>rfl
theorem wH (x y:Nat):(x==y)=Nat.beq x y:=by
 cases h:Nat.beq x y
 · rw[beq_eq_false_iff_ne];intro e;subst e;rw[Nat.beq_refl] at h;exact absurd h (by simp)
 · rw[Nat.eq_of_beq_eq_true h];simp
theorem rO (l:List Nat) (x:Nat):wG l x=l.contains x:=by
 induction l with
 | nil=>rfl
 | cons y tl ih=>
   show bc (Nat.beq x y) true (wG tl x)=_
   rw[ih,qR,List.contains_cons,wH]
   cases Nat.beq x y<;>rfl
theorem MJ (f:α→Bool) (l:List α):PI f l=l.any f:=by
 induction l with
 | nil=>rfl
 | cons y tl ih=>show bc (f y) true (PI f tl)=_;rw[ih,qR,List.any_cons];cases f y<;>rfl
theorem pD (f:α→Bool) (l:List α):vi f l=l.all f:=by
 induction l with
 | nil=>rfl
 | cons y tl ih=>show bc (f y) (vi f tl) false=_;rw[ih,qR,List.all_cons];cases f y<;>rfl
theorem Bh (f:α→Nat→Bool) (l:List α) (i:Nat):allI f l i=(l.zipIdx i).all fun p=>f p.1 p.2:=by
 induction l generalizing i with
 | nil=>rfl
 | cons y tl ih=>show bc (f y i) (canon (i+1) (allI f tl)) false=_;rw[kC,ih,qR,List.zipIdx_cons,List.all_cons];cases f y i<;>rfl
theorem CU (f:α→Nat→Bool) (l:List α) (i:Nat):CT f l i=((l.zipIdx i).filter fun p=>f p.1 p.2).map (·.2):=by
 induction l generalizing i with
 | nil=>rfl
 | cons y tl ih=>
   show bc (f y i) (i::canon (i+1) (CT f tl)) (canon (i+1) (CT f tl))=_
   rw[kC,ih,qR,List.zipIdx_cons,List.filter_cons];cases f y i<;>simp
theorem HN (f:α→Bool) (l:List α):Bf f l=(l.filter f).length:=by
 induction l with
 | nil=>rfl
 | cons y tl ih=>show bc (f y) (Bf f tl+1) (Bf f tl)=_;rw[ih,qR,List.filter_cons];cases f y<;>simp
theorem HO (f:α→Bool) (l:List α):ET f l=(l.takeWhile f).length:=by
 induction l with
 | nil=>rfl
 | cons y tl ih=>show bc (f y) (ET f tl+1) 0=_;rw[ih,qR,List.takeWhile_cons];cases f y<;>simp
theorem gY (l:List α) (i:Nat):iH l i=l[i]? :=by
 induction l generalizing i with
 | nil=>rfl
 | cons y tl ih=>
   show bc (Nat.beq i 0) (some y) (iH tl (i - 1))=_
   rw[ih,qR]
   cases i with
   | zero=>rfl
   | succ i=>rw[show Nat.beq (i+1) 0=false from rfl];simp
theorem tP (l:List α) (i:Nat) (d:α):xW l i d=l.getD i d:=by
 unfold xW;rw[gY,List.getD_eq_getElem?_getD];cases l[i]? <;>rfl
theorem fT (l:List α):iG l=l.length:=by
 induction l with
 | nil=>rfl
 | cons y tl ih=>show iG tl+1=_;rw[ih];rfl
theorem mG (l m:List α):ky l m=l++m:=by
 induction l with
 | nil=>rfl
 | cons y tl ih=>show y::ky tl m=_;rw[ih];rfl
end
noncomputable def vX (p:Program) (t:TypeId):Option TypeInfo:=ob (p.info? t) (fun i=>some i) (iH p.types.toList t)
noncomputable def Ou (i:TypeInfo) (p:Program):Option TypeDesc:=TypeDesc.rec (motive:=fun _=>Option TypeDesc) (some i.desc) (some i.desc) (fun _=>some i.desc) (fun _=>some i.desc) (fun _=>some i.desc) (some i.desc) (some i.desc)
 (fun _=>some i.desc) (fun _=>some i.desc) (fun _ _=>some i.desc) (fun _ _=>some i.desc) (fun _ _=>some i.desc) (fun _=>some i.desc) (fun _ _ _=>some i.desc) (fun _=>some i.desc) (fun _=>some i.desc)
 (fun _ u=>ob none (fun j=>some j.desc) (vX p u)) i.desc
noncomputable def jB (p:Program) (t:TypeId):Option TypeDesc:=ob none (fun i=>Ou i p) (vX p t)
theorem qS (p:Program) (t:TypeId):vX p t=p.info? t:=by
 unfold vX;rw[gY,Array.getElem?_toList]
 cases h:p.types[t]? with
 | none=>rfl
 | some i=>
   show some i=p.info? t
   unfold Tables.info?
   obtain ⟨lf,_⟩:=Array.getElem?_eq_some_iff.mp h
   rw[if_pos lf,h]
theorem iw (p:Program) (t:TypeId):jB p t=p.underlying t:=by
 unfold jB Program.underlying
 rw[qS]
 cases p.info? t with
 | none=>rfl
 | some i=>
   show Ou i p=_
   obtain ⟨d,_⟩:=i
   cases d with
   | named a u=>show ob none (fun j=>some j.desc) (vX p u)=Option.map (fun x=>x.desc) (p.info? u);rw[qS];cases p.info? u<;>rfl
   | _=>rfl
noncomputable def PJ (p:Program) (f:FuncId):Option Func:=iH p.funcs.toList f
theorem MK (p:Program) (f:FuncId):PJ p f=p.funcs[f]? :=by
 unfold PJ;rw[gY];exact Array.getElem?_toList
variable (E:Env)
noncomputable def oI (op:Op):Bool:=match op with
 | .store .. | .mapUpdate .. | .insert .. | .next .. | .panic _ | .defer _=>true
 | .convert _ dst _=>match jB E.P dst with
   | some (.slice _)=>true
   | _=>false
 | .call c=>match c.callee with
   | .builtin .len | .builtin .cap | .builtin .max | .builtin .min=>false
   | .builtin _=>true
   | .value (.func f)=>match E.lJ f with
     | none=>true
     | some _=>false
   | _=>true
 | _=>false
theorem qT (op:Op):oI E op=fG E op:=by
 unfold oI fG
 cases op<;>try rfl
 · simp only[iw]
   rename_i dst _
   generalize E.P.underlying dst=u
   cases u with
   | none=>rfl
   | some d=>cases d<;>rfl
 · rename_i c
   rcases c with ⟨eD,a,t⟩
   cases eD with
   | value x=>
     cases x with
     | func f=>simp only;cases E.lJ f<;>rfl
     | _=>rfl
   | builtin b=>cases b<;>rfl
   | _=>rfl
noncomputable def Ov (g:Ground):Bool:=Ground.rec (motive:=fun _=>Bool) true true true true (fun _=>false) (fun _=>false) g
noncomputable def sN (o:Oper):List Nat:=List.rec (motive:=fun _=>List Nat) [] (fun e _ ih=>bc (Ov e.ground) (e.on::ih) ih) o.after.toList
theorem Ag (o:Oper):sN o=j9 o:=by
 unfold sN j9
 induction o.after.toList with
 | nil=>rfl
 | cons e tl ih=>
   show bc (Ov e.ground) (e.on::_) _=_
   rw[ih,List.filter_cons]
   obtain ⟨on,g⟩:=e
   cases g<;>rfl
noncomputable def ML (l:List Nat) (x:Nat):List Nat:=bc (wG l x) l (x::l)
noncomputable def Gg (acc:List (List Nat)) (es:List Nat):List Nat:=Bg (fun l e=>Bg ML (xW acc e []) (ML l e)) es []
noncomputable def JJ (l:List Oper):List (List Nat)→List (List Nat):=List.rec (motive:=fun _=>List (List Nat)→List (List Nat)) (fun acc=>acc) (fun o _ ih acc=>oc (Gg acc (sN o)) fun a=>oc (ky acc [a]) ih) l
theorem Gh (l:List Nat) (x:Nat):ML l x=if l.contains x then l else x::l:=by
 unfold ML;rw[rO,qR];cases l.contains x<;>rfl
theorem JK (acc:List (List Nat)) (o:Oper):Gg acc (sN o)=(j9 o).foldl (fun l e=>(acc.getD e []).foldl (fun l x=>if l.contains x then l else x::l) (if l.contains e then l else e::l)) []:=by
 unfold Gg
 rw[Af,Ag]
 congr 1
 funext l e
 rw[Af,tP,Gh]
 congr 1
 funext l x
 exact Gh l x
theorem CV:∀(l:List Oper) (acc:List (List Nat)),JJ l acc=Ce l acc
 | [],_=>rfl
 | o::rest,acc=>by
   show oc (Gg acc (sN o)) (fun a=>oc (ky acc [a]) (JJ rest))=_
   rw[vj,vj,CV rest,mG,JK];rfl
noncomputable def m8 (an:List (List Nat)) (i j:Nat):Bool:=wG (xW an i []) j
theorem oJ (an:List (List Nat)) (i j:Nat):m8 an i j=dP an i j:=by
 unfold m8 dP Cf;rw[rO,tP]
noncomputable def xX (ops:List Oper) (an:List (List Nat)):Bool:=
 allI (fun o i=>bc (vi (fun e=>bc (Nat.ble (Nat.add e 1) i) (m8 an i e) false) (sN o)) (vi (fun j=>bc (Nat.ble (Nat.add j 1) i) (PI (fun e=>bc (Nat.beq e j) true (m8 an e j)) (sN o)) false) (xW an i [])) false) ops 0
theorem rP (a b:Nat):decide (a<b)=Nat.ble (a+1) b:=by
 by_cases h:a<b
 · rw[decide_eq_true h,Nat.ble_eq_true_of_le h]
 · rw[decide_eq_false h];symm;rw[Bool.eq_false_iff];intro e;exact h (Nat.le_of_ble_eq_true e)
theorem m9 (a b:Bool):bc a b false=(a&&b):=by cases a<;>rfl
theorem Ow (a b:Bool):bc a true b=(a||b):=by cases a<;>rfl
theorem CW (ops:List Oper) (an:List (List Nat)):xX ops an=wZ ops an:=by
 unfold xX wZ
 rw[Bh]
 congr 1
 funext ⟨o,i⟩
 simp only[m9,Ow,pD,MJ,tP,Ag,oJ,rP,wH]
 rfl
noncomputable def PK (l:List Operand):List Nat:=List.rec (motive:=fun _=>List Nat) [] (fun x _ ih=>Operand.rec (motive:=fun _=>List Nat) (fun t=>t::ih) (fun _=>ih) (fun _=>ih) (fun _=>ih) x) l
theorem MN (l:List Operand):PK l=l.filterMap fun | .tmp t=>some t | _=>none:=by
 induction l with
 | nil=>rfl
 | cons x tl ih=>
   cases x<;>simp only[List.filterMap_cons,←ih]<;>rfl
noncomputable def Uw (op:Op):List Operand:=match op with
 | .move x | .assign x | .box _ x | .load _ x | .nilCheck x | .unOp _ _ x | .convert _ _ x | .fieldAddr _ x _ | .field _ x _ | .extract x _=> [x]
 | .pick c a b=> [c,a,b]
 | .store _ a v | .binOp _ _ a v _ | .indexAddr _ a v | .index _ a v=> [a,v]
 | .alloc _=> []
 | .call c=>ky (match c.callee with | .value f=> [f] | .invoke r _=> [r] | .builtin _=> []) c.args.toList
 | op=>op.operands.toList
theorem PL (op:Op):Uw op=op.operands.toList:=by
 cases op<;>try rfl
 rename_i c
 obtain ⟨eD,a,t⟩:=c
 cases eD<;>simp [Uw,Op.operands,Call.operands,mG]
noncomputable def xY (ops:List Oper) (an:List (List Nat)):Bool:=
 allI (fun o i=>bc (ob true (fun g=>bc (m8 an i g.1) (ob false (fun p=>ob false (fun _=>true) p.dst) (iH ops g.1)) false) o.guard)
  (allI (fun p j=>bc (Nat.beq i j) true (ob true (fun d=>bc (ob true (fun a=>sM (Nat.beq a d)) o.dst) (bc (wG (PK (Uw o.op)) d) (bc (m8 an i j) true (m8 an j i)) true) false) p.dst)) ops 0) false) ops 0
theorem CX (ops:List Oper) (an:List (List Nat)):xY ops an=w7 ops an:=by
 unfold xY w7
 rw[Bh]
 congr 1
 funext ⟨o,i⟩
 simp only[m9,Ow,oJ]
 congr 1
 · obtain ⟨dst,op,ty,pos,after,guard⟩:=o
   cases guard with
   | none=>rfl
   | some g=>
     show (dP an i g.1&&ob false (fun p=>ob false (fun _=>true) p.dst) (iH ops g.1))=_
     rw[gY]
     congr 1
     cases ops[g.1]? with
     | none=>rfl
     | some p=>
       show ob false (fun _=>true) p.dst=(p.dst).isSome
       cases p.dst<;>rfl
 · rw[Bh]
   congr 1
   funext ⟨p,j⟩
   show (Nat.beq i j||_)=(i==j||_)
   rw[wH]
   congr 1
   obtain ⟨dst,op,ty,pos,after,guard⟩:=p
   cases dst with
   | none=>rfl
   | some d=>
     show (ob true (fun a=>sM (Nat.beq a d)) o.dst&&bc (wG (PK (Uw o.op)) d) (dP an i j||dP an j i) true)=(o.dst !=some d&&(!(tmpsOf o).contains d||dP an i j||dP an j i))
     congr 1
     · cases o.dst with
       | none=>rfl
       | some a=>
         show sM (Nat.beq a d)= !(some a==some d)
         rw[Option.some_beq_some,wH]
         cases Nat.beq a d<;>rfl
     · rw[rO,MN,PL,Bool.or_assoc]
       show bc ((tmpsOf o).contains d) _ _=_
       cases (tmpsOf o).contains d<;>rfl
noncomputable def EV (an:List (List Nat)) (l:List Nat):Bool:=List.rec (motive:=fun _=>Bool) true (fun e rest ih=>List.rec (motive:=fun _=>Bool) true (fun f _ _=>bc (m8 an f e) ih false) rest) l
theorem Ah (an:List (List Nat)):∀l,EV an l=rE an l
 | []=>rfl
 | [e]=>rfl
 | e::f::rest=>by
   show bc (m8 an f e) (EV an (f::rest)) false=_
   rw[Ah an (f::rest),oJ,m9];rfl
noncomputable def JL (ops:List Oper):List Nat:=CT (fun o _=>oI E o.op) ops 0
theorem JM (ops:List Oper):JL E ops=mi E ops:=by
 unfold JL mi;rw[CU];simp only[qT]
noncomputable def Ai (bZ:List Nat) (an:List (List Nat)) (i:Nat):Nat:=Bf (fun e=>m8 an i e) bZ
theorem CY (bZ:List Nat) (an:List (List Nat)) (i:Nat):Ai bZ an i=AQ bZ an i:=by
 unfold Ai AQ;rw[HN];simp only[oJ]
noncomputable def Bi (ops:List Oper) (bZ:List Nat) (an:List (List Nat)) (k:Nat):List Nat:=
 ky (CT (fun o i=>bc (oI E o.op) false (Nat.beq (Ai bZ an i) k)) ops 0) (ob [] (fun x=> [x]) (iH bZ k))
theorem HQ (ops:List Oper) (bZ:List Nat) (an:List (List Nat)) (k:Nat):Bi E ops bZ an k=group E ops bZ an k:=by
 unfold Bi group
 rw[mG,CU,gY]
 congr 1
 · congr 1
   congr 1
   funext ⟨o,i⟩
   show bc (oI E o.op) false (Nat.beq (Ai bZ an i) k)=(!fG E o.op&&(AQ bZ an i==k))
   rw[qT,CY,wH];cases fG E o.op<;>rfl
 · cases bZ[k]? <;>rfl
noncomputable def Bj (ops:List Oper) (bZ:List Nat) (an:List (List Nat)) (n:Nat):Nat→List Nat:=
 Nat.rec (motive:=fun _=>Nat→List Nat) (fun _=> []) (fun _ ih k=>ky (Bi E ops bZ an k) (canon (Nat.add k 1) ih)) n
theorem xZ (ops:List Oper) (bZ:List Nat) (an:List (List Nat)):∀n k,Bj E ops bZ an n k=mQ E ops bZ an n k
 | 0,_=>rfl
 | n+1,k=>by
   show ky (Bi E ops bZ an k) (canon (k+1) (Bj E ops bZ an n))=_
   rw[kC,xZ ops bZ an n,mG,HQ];rfl
noncomputable def w8 (bZ:List Nat) (an:List (List Nat)) (i:Nat):Nat:=ET (fun e=>sM (m8 an e i)) bZ
theorem EW (bZ:List Nat) (an:List (List Nat)) (i:Nat):w8 bZ an i=jL bZ an i:=by
 unfold w8 jL;rw[HO];congr 2;funext e;rw[oJ];cases dP an e i<;>rfl
noncomputable def EX (n:Nat):List Nat→List Nat:=Nat.rec (motive:=fun _=>List Nat→List Nat) (fun l=>l) (fun m ih l=>ih (m::l)) n
theorem Aj:∀n l,EX n l=List.range.loop n l
 | 0,_=>rfl
 | n+1,l=>Aj n (n::l)
noncomputable def Bk (ops:List Oper) (an:List (List Nat)) (bZ:List Nat) (l:List Nat):List Nat→Nat→Bool:=
 List.rec (motive:=fun _=>List Nat→Nat→Bool) (fun seen k=>bc (vi (fun i=>wG seen i) (EX (iG ops) [])) (Nat.beq k (iG bZ)) false)
  (fun i _ ih seen k=>bc (Nat.ble (Nat.add i 1) (iG ops)) (bc (wG seen i) false (bc (vi (fun j=>wG seen j) (xW an i []))
   (bc (ob (oI E (default:Oper).op) (fun o=>oI E o.op) (iH ops i)) (bc (ob false (fun e=>Nat.beq e i) (iH bZ k)) (canon (Nat.add k 1) (ih (i::seen))) false)
    (bc (Nat.beq (Ai bZ an i) k) (ih (i::seen) k) false)) false)) false) l
theorem vk (ops:Array Oper) (an:List (List Nat)) (bZ:List Nat):∀l seen k,Bk E ops.toList an bZ l seen k=j_ E ops an bZ l seen k
 | [],seen,k=>by
   show bc (vi (fun i=>wG seen i) (EX (iG ops.toList) [])) (Nat.beq k (iG bZ)) false=_
   rw[m9,pD,Aj,fT,fT]
   simp only[rO]
   unfold j_
   rw[wH,Array.length_toList]
   rfl
 | i::rest,seen,k=>by
   show bc (Nat.ble (i+1) (iG ops.toList)) (bc (wG seen i) false (bc (vi (fun j=>wG seen j) (xW an i []))
    (bc (ob (oI E (default:Oper).op) (fun o=>oI E o.op) (iH ops.toList i)) (bc (ob false (fun e=>Nat.beq e i) (iH bZ k)) (canon (k+1) (Bk E ops.toList an bZ rest (i::seen))) false)
     (bc (Nat.beq (Ai bZ an i) k) (Bk E ops.toList an bZ rest (i::seen) k) false)) false)) false=_
   rw[kC,vk ops an bZ rest,vk ops an bZ rest,pD,tP,rO,CY,fT]
   simp only[rO]
   rw[show ob (oI E (default:Oper).op) (fun o=>oI E o.op) (iH ops.toList i)=fG E ((ops.getD i default).op) by
    rw[gY,qT]
    rw[show ops.getD i default=(ops.toList[i]?).getD default by rw[Array.getElem?_toList,Array.getD_eq_getD_getElem?]]
    cases ops.toList[i]? with
    | none=>rfl
    | some o=>exact qT E o.op]
   rw[show ob false (fun e=>Nat.beq e i) (iH bZ k)=(bZ[k]? ==some i) by rw[gY];cases bZ[k]? with
    | none=>rfl
    | some e=>rw[Option.some_beq_some,wH];rfl]
   rw[j_,rP]
   simp only[m9]
   rw[←wH (AQ bZ an i) k,show ops.toList.length=ops.size from Array.length_toList]
   rw[qR,qR]
   show (Nat.ble (i+1) ops.size&&(bif List.contains seen i then false else _))=_
   unfold Cf
   cases Nat.ble (i+1) ops.size<;>cases List.contains seen i<;>cases (an.getD i []).all (fun j=>List.contains seen j)<;>cases fG E ((ops.getD i default).op)<;>rfl
noncomputable def Ux (x:Nat) (l:List Nat):Bool:=List.rec (motive:=fun _=>Bool) true (fun y _ ih=>bc (Nat.beq x y) false ih) l
noncomputable def Bl (l:List Nat):Bool:=List.rec (motive:=fun _=>Bool) true (fun x tl ih=>bc (Ux x tl) ih false) l
theorem PM (x:Nat) (l:List Nat):Ux x l= !l.contains x:=by
 induction l with
 | nil=>rfl
 | cons y tl ih=>
   show bc (Nat.beq x y) false (Ux x tl)=_
   rw[ih,List.contains_cons,wH]
   cases Nat.beq x y<;>rfl
theorem vl:∀l,Bl l=nodup l
 | []=>rfl
 | x::tl=>by
   show bc (Ux x tl) (Bl tl) false=_
   rw[vl tl,PM,m9];rfl
noncomputable def JN {R:Type} (ops:Array Oper) (k:lu→R) (d:R):R:=
 oc ops.toList fun l=>oc (JJ l []) fun an=>oc (JL E l) fun bZ=>oc (Bj E l bZ an (Nat.add (iG bZ) 1) 0) fun order=>
 bc (xX l an) (bc (xY l an) (bc (EV an bZ) (bc (Bl bZ) (bc (Bk E l an bZ order [] 0) (k ⟨an,bZ,order⟩) d) d) d) d) d
theorem JO {R:Type} (ops:Array Oper) (k:lu→R) (d:R):JN E ops k d=match qy E ops with | some pl=>k pl | none=>d:=by
 unfold JN qy
 simp only[vj,CV,JM,xZ,CW,CX,Ah,vl,vk,fT]
 generalize wZ ops.toList (Ce ops.toList [])=a
 generalize w7 ops.toList (Ce ops.toList [])=b
 generalize rE (Ce ops.toList []) (mi E ops.toList)=c
 generalize nodup (mi E ops.toList)=e
 show bc a (bc b (bc c (bc e (bc (j_ E ops _ _ (mQ E ops.toList _ _ ((mi E ops.toList).length+1) 0) [] 0) _ d) d) d) d) d=_
 generalize j_ E ops (Ce ops.toList []) (mi E ops.toList) (mQ E ops.toList (mi E ops.toList) (Ce ops.toList []) ((mi E ops.toList).length+1) 0) [] 0=f
 cases a<;>cases b<;>cases c<;>cases e<;>cases f<;>rfl
end Go.Ab.Fa
end
