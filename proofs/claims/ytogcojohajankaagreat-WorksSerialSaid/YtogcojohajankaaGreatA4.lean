import Derived.Test.YtogcojohajankaaGreatA3
import Derived.Test.YtogcojohajankaaGreatA0
set_option linter.unusedVariables false
set_option linter.unusedSimpArgs false
section
namespace Go.Ab
variable {E:Env}
theorem yF (hE:l6 E) {call:bm} (dY:ju E call) {ops:Array Oper}:∀{l:List Oper} {is:List Nat} (_:is.length=l.length) (_:∀(j i:Nat),is[j]? =some i→l[j]? =ops[i]?) {s s':St} {e:lY} (_:lN E call ops l s= .ok e s')
 {φ:Ph} {a:Act} {w:World} {b:Frame} {k:List Item} {K:Bool→List Frame} (_:SR φ s.ts s.ds a) (_:OK E φ s.h w) (_:o8 φ b K s.rc),
 rV E φ s.h w b K k (lone (b.atR a (.inRegion ops is::k)) (cur K s.rc) w) e s'
 | [],is,hl,hi,s,s',e,h,φ,a,w,b,k,K,hs,ok,iv=>by
   cases is with
   | cons _ _=>simp at hl
   | nil=>
     simp [lN] at h;obtain ⟨rfl,rfl⟩:=h
     exact ⟨φ,w,a,_,.normal,hs,ok,Fr.refl _ _ _,iv,.one stepR_region_end⟩
 | o::l,is,hl,hi,s,s',e,h,φ,a,w,b,k,K,hs,ok,iv=>by
   cases is with
   | nil=>simp at hl
   | cons i is=>
     have ho:ops[i]? =some o:=by have:=hi 0 i (by simp);simpa using this.symm
     have hl':is.length=l.length:=by simpa using hl
     have JO:∀(j i':Nat),is[j]? =some i'→l[j]? =ops[i']? :=fun j i' hj=>by have:=hi (j+1) i' (by simpa using hj);simpa using this
     simp only[lN] at h
     have ZS:=yA (ops:=ops) hs.ts o
     split at h
     · rename_i hw
       rw[←ZS] at hw
       split at h
       · rename_i s1 rM
         obtain ⟨φ1,w1,a1,e1,x1,x2,x3,x4,x5,x6⟩:=(IA hE dY ho rM hs ok iv hw (rest:=is) (k:=k)).is
         cases x1
         exact ((yF hE dY hl' JO h x2 x3 x5).of_steps x6).later x4
       · rename_i fH
         obtain ⟨φ1,w1,a1,e1,x1,x2,x3,x4,x5,x6⟩:=(IA hE dY ho h hs ok iv hw (rest:=is) (k:=k)).is
         cases x1 with
         | normal=>exact (fH _ h).elim
         | exit=>exact x6.elim
         | ret=>exact x6.elim
         | panic v v' hv=>exact ⟨φ1,w1,a1,_,.panic v v' hv,x2,x3,x4,x5,x6⟩
     · rename_i hw
       have s7:SR φ (dA s.ts o.dst AV.undef) s.ds (a.put o.dst undef):=hs.put o.dst (VR.undef φ)
       refine (yF hE dY hl' JO h s7 ok iv).of_steps (.one ?_)
       have:=stepR_op_skip (P:=E.P) (b:=b) (a:=a) (k:=k) (cs:=cur K s.rc) (w:=w) (ops:=ops) (i:=i) (rest:=is) (by rw[ho];simp;rw[ZS];simpa using hw)
       rw[this,ho];rfl
set_option maxHeartbeats 1000000 in
theorem yG (hE:l6 E) {call:bm} (dY:ju E call):∀(n:Nat) (c:Code) {s s':St} {e:lY} (_:exec E call n c s= .ok e s')
 {φ:Ph} {a:Act} {w:World} {b:Frame} {k:List Item} {K:Bool→List Frame} (_:SR φ s.ts s.ds a) (_:OK E φ s.h w) (_:o8 φ b K s.rc) (_:(E.P.funcs[b.fn]?).isSome=true),
 rV E φ s.h w b K k (lone (b.atR a (.code c::k)) (cur K s.rc) w) e s'∧∀c',c= .loop c'→rV E φ s.h w b K k (lone (b.atR a (.code c':: .inLoop c'::k)) (cur K s.rc) w) e s':=by
 intro n
 induction n with
 | zero=>intro c s s' e h;simp [exec] at h
 | succ n ih2=>
   have ih:∀(c:Code) {s s':St} {e:lY} (_:exec E call n c s= .ok e s')
    {φ:Ph} {a:Act} {w:World} {b:Frame} {k:List Item} {K:Bool→List Frame} (_:SR φ s.ts s.ds a) (_:OK E φ s.h w) (_:o8 φ b K s.rc) (_:(E.P.funcs[b.fn]?).isSome=true),
    rV E φ s.h w b K k (lone (b.atR a (.code c::k)) (cur K s.rc) w) e s':=fun c _ _ _ h _ _ _ _ _ _ hs ok iv L6=>(ih2 c h hs ok iv L6).1
   intro c s s' e h φ a w b k K hs ok iv L6
   have ac4:∀c',c= .loop c'→rV E φ s.h w b K k (lone (b.atR a (.code c':: .inLoop c'::k)) (cur K s.rc) w) e s':=by
    rintro c rfl
    simp only[exec] at h
    split at h
    · rename_i s1 h1
      obtain ⟨φ1,w1,a1,e1,x1,x2,x3,x4,x5,x6⟩:=(ih c h1 hs ok iv L6 (k:= .inLoop c::k)).is
      cases x1
      exact (((ih2 (.loop c) h x2 x3 x5 L6).2 c rfl).of_steps (Steps.trans x6 (.one stepR_inLoop))).later x4
    · rename_i fH
      obtain ⟨φ1,w1,a1,e1,x1,x2,x3,x4,x5,x6⟩:=(ih c h hs ok iv L6 (k:= .inLoop c::k)).is
      refine ⟨φ1,w1,a1,e1,x1,x2,x3,x4,x5,.pass (x:= .inLoop c) (fun _=>rfl) ?_ x6⟩
      cases x1 with
      | normal=>exact (fH _ h).elim
      | exit=>simp
      | ret=>simp
      | panic=>simp
   refine ⟨?_,ac4⟩
   cases c with
   | skip=>simp [exec] at h;obtain ⟨rfl,rfl⟩:=h;exact ⟨φ,w,a,_,.normal,hs,ok,Fr.refl _ _ _,iv,.one stepR_skip⟩
   | label l=>simp [exec] at h;obtain ⟨rfl,rfl⟩:=h;exact ⟨φ,w,a,_,.normal,hs,ok,Fr.refl _ _ _,iv,.one stepR_label⟩
   | ret=>simp [exec] at h;obtain ⟨rfl,rfl⟩:=h;exact ⟨φ,w,a,_,.ret,hs,ok,Fr.refl _ _ _,iv,k,Steps.refl _ _⟩
   | exit id=>simp [exec] at h;obtain ⟨rfl,rfl⟩:=h;exact ⟨φ,w,a,_,.exit id,hs,ok,Fr.refl _ _ _,iv,k,rfl,Steps.refl _ _⟩
   | seq x y=>
     simp only[exec] at h
     split at h
     · rename_i s1 h1
       obtain ⟨φ1,w1,a1,e1,x1,x2,x3,x4,x5,x6⟩:=(ih x h1 hs ok iv L6 (k:= .code y::k)).is
       cases x1
       exact ((ih y h x2 x3 x5 L6).of_steps (.head stepR_seq x6)).later x4
     · rename_i fH
       obtain ⟨φ1,w1,a1,e1,x1,x2,x3,x4,x5,x6⟩:=(ih x h hs ok iv L6 (k:= .code y::k)).is
       refine ⟨φ1,w1,a1,e1,x1,x2,x3,x4,x5,.of_steps (.one stepR_seq) (.pass (x:= .code y) (fun _=>rfl) ?_ x6)⟩
       cases x1 with
       | normal=>exact (fH _ h).elim
       | exit=>simp
       | ret=>simp
       | panic=>simp
   | cond x y z=>
     simp only[exec] at h
     split at h
     · rename_i hx
       have h1:=o6 ok.gl hs.ts hx
       generalize mD:a.eval x=cv at h1
       cases h1
       exact (ih y h hs ok iv L6).of_steps (.one (stepR_cond mD))
     · rename_i hx
       have h1:=o6 ok.gl hs.ts hx
       generalize mD:a.eval x=cv at h1
       cases h1
       exact (ih z h hs ok iv L6).of_steps (.one (stepR_cond mD))
     · simp at h
   | block id c=>
     simp only[exec] at h
     split at h
     · rename_i U1 s1 h1
       obtain ⟨φ1,w1,a1,e1,x1,x2,x3,x4,x5,x6⟩:=(ih c h1 hs ok iv L6 (k:= .inBlock id::k)).is
       cases x1
       split at h
       · rename_i hid
         simp at h;obtain ⟨rfl,rfl⟩:=h
         obtain ⟨todo,ht,kB⟩:=x6
         exact ⟨φ1,w1,a1,_,.normal,x2,x3,x4,x5,.head stepR_block (Steps.trans kB (.one (stepR_exit (by rw[ht];simp [exitTo,hid]))))⟩
       · rename_i hid
         simp at h;obtain ⟨rfl,rfl⟩:=h
         obtain ⟨todo,ht,kB⟩:=x6
         refine ⟨φ1,w1,a1,_,.exit U1,x2,x3,x4,x5,todo,?_,.head stepR_block kB⟩
         have:(id==U1)=false:=by simp;exact fun h=>hid h.symm
         rw[ht];simp [exitTo,this]
     · rename_i fH
       obtain ⟨φ1,w1,a1,e1,x1,x2,x3,x4,x5,x6⟩:=(ih c h hs ok iv L6 (k:= .inBlock id::k)).is
       cases x1 with
       | normal=>exact ⟨φ1,w1,a1,_,.normal,x2,x3,x4,x5,.head stepR_block (Steps.trans x6 (.one stepR_inBlock))⟩
       | exit U1=>exact (fH _ _ h).elim
       | ret=>exact ⟨φ1,w1,a1,_,.ret,x2,x3,x4,x5,.of_steps (e:= .ret) (k:=k) (.one stepR_block) x6⟩
       | panic v v' hv=>exact ⟨φ1,w1,a1,_,.panic v v' hv,x2,x3,x4,x5,.of_steps (e:= .panic _) (k:=k) (.one stepR_block) x6⟩
   | loop c=>exact (ac4 c rfl).of_steps (.one stepR_loop)
   | region id ops draw=>
     simp only[exec] at h
     cases draw with
     | false=>
       have rM:=yF hE dY (ops:=ops) (l:=ops.toList) (is:=List.range ops.size) (by simp) (fun j i hj=>by
        have:=List.getElem?_eq_some_iff.1 hj
        obtain ⟨h1,h2⟩:=this
        simp at h1 h2;subst h2;simp) h hs ok iv (b:=b) (k:=k)
       exact rM.of_steps (.one stepR_region)
     | true=>
       obtain ⟨h1,h2,⟨rfl,φ',a',w',x1,x2,x3,x4,x5⟩ | ⟨v,rfl,hp⟩⟩:=MA hE hE.mixed dY h hs ok iv (b:=b) (k:=k) id
       · refine ⟨φ',w',a',_,.normal,⟨x1,by rw[h2,x2];exact hs.ds.mono x4.ext⟩,x3,x4,by rw[h1];exact iv.mono x4.ext,?_⟩
         rw[h1];exact x5
       · obtain ⟨φ',a',w',v',todo,x0,x1,x2,x3,x4,x5⟩:=hp.is
         refine ⟨φ',w',a',_,.panic v v' x0,⟨x1,by rw[h2,x2];exact hs.ds.mono x4.ext⟩,x3,x4,by rw[h1];exact iv.mono x4.ext,todo,?_⟩
         rw[h1];exact x5
   | rangeFunc f ps a1 b1=>
     simp only[exec] at h
     exact J7 dY h hs ok iv L6
   | scope c=>
     simp only[exec] at h
     have s1:∀{m},Steps E.P (lone (b.atR a (.code c:: .inScope c::k)) (cur K s.rc) w) m→Steps E.P (lone (b.atR a (.code (.scope c)::k)) (cur K s.rc) w) m:=fun q=> .head (step_lone_go (by simp [stepG,stepG.exec,Frame.atR])) q
     obtain ⟨φ1,w1,a1,e1,x1,x2,x3,x4,x5,x6⟩:=(ih c h hs ok iv L6 (k:= .inScope c::k)).is
     cases x1 with
     | normal=>exact ⟨φ1,w1,a1,_,.normal,x2,x3,x4,x5,s1 (Steps.trans x6 (.one (step_lone_go (by simp [stepG,stepG.exec,Frame.atR]))))⟩
     | exit U1=>exact ⟨φ1,w1,a1,_,.exit U1,x2,x3,x4,x5,.of_steps (e:= .exit U1) (k:=k) (s1 (Steps.refl _ _)) (.pass (x:= .inScope c) (fun _=>rfl) (by simp) x6)⟩
     | ret=>exact ⟨φ1,w1,a1,_,.ret,x2,x3,x4,x5,.of_steps (e:= .ret) (k:=k) (s1 (Steps.refl _ _)) (.pass (x:= .inScope c) (fun _=>rfl) (by simp) x6)⟩
     | panic v v' hv=>exact ⟨φ1,w1,a1,_,.panic v v' hv,x2,x3,x4,x5,.of_steps (e:= .panic _) (k:=k) (s1 (Steps.refl _ _)) (.pass (x:= .inScope c) (fun _=>rfl) (by simp) x6)⟩
   | goto l=>simp [exec] at h
   | refuse why=>simp [exec] at h
end Go.Ab
end
section
namespace Go.Ab
variable {E:Env}
theorem MD {φ:Ph} {h:aw} {w:World} (ok:OK E φ h w) {ts:List AV} {tmps:Array Value} (ht:LR φ ts tmps.toList):∀{l:List ResultVar} {vs:List AV} (_:lZ E h ts l=some vs),
 ∃s9,LR φ vs s9∧(l.mapM (fun | .tmp t=>pure (tmps.getD t undef) | .cell a t=>do loadVar t (←asAddr (tmps.getD a undef)):ResultVar→Sem Value)).run E.P w= .ok s9 w
 | [],vs,h=>by simp [lZ] at h;subst h;exact ⟨[],LR.nil φ,rfl⟩
 | r::rest,vs,h=>by
   have ie:∀t,VR φ (ts.getD t AV.undef) (tmps.getD t undef):=fun t=>by
    have:=ht.getD (VR.undef φ) t
    rw[show tmps.getD t undef=tmps.toList.getD t undef by simp [Array.getD_eq_getD_getElem?,List.getD]]
    exact this
   simp only[lZ] at h
   split at h
   · simp at h
   · rename_i v hv
     split at h
     · simp at h
     · rename_i vs0 Pd
       simp at h;subst h
       obtain ⟨s9,hl,hr⟩:=MD ok ht Pd
       cases r with
       | tmp t=>
         simp at hv;subst hv
         refine ⟨tmps.getD t undef::s9,.cons (by simpa using ie t) hl,?_⟩
         simp only[List.mapM_cons,Sem.run_bind,Sem.run_pure,Result.andThen_ok,hr]
       | cell ad t=>
         simp only at hv
         obtain ⟨x',hx,jf⟩:=Ix ok (ie ad) hv
         refine ⟨x'::s9,.cons hx hl,?_⟩
         have hr0:=jf w rfl
         have:(do loadVar t (←asAddr (tmps.getD ad undef)):Sem Value).run E.P w= .ok x' w:=by
          have hv2:=ie ad
          unfold aY at hv
          split at hv
          · rename_i i o heq
            rw[heq] at hv2
            generalize hq:tmps.getD ad undef=q at hv2 hr0
            cases hv2
            simpa [Instr.loadAt,Instr.sureAddr,asAddr] using hr0
          · simp at hv
         simp only[List.mapM_cons]
         rw[Sem.run_bind,this]
         simp only[Sem.run_bind,Sem.run_pure,Result.andThen_ok,hr]
theorem vv {φ:Ph} {h:aw} {w:World} (ok:OK E φ h w) {ts:List AV} {tmps:Array Value} (ht:LR φ ts tmps.toList) {fn:Func} {vs:List AV} (hv:lZ E h ts fn.results.toList=some vs):
 ∃v',VR φ (je vs) v'∧(results fn tmps).run E.P w= .ok v' w:=by
 obtain ⟨s9,hl,hr⟩:=MD ok ht hv
 have hm:(fn.results.mapM (fun | .tmp t=>pure (tmps.getD t undef) | .cell a t=>do loadVar t (←asAddr (tmps.getD a undef)):ResultVar→Sem Value)).run E.P w= .ok s9.toArray w:=by
  rw[Array.mapM_eq_mapM_toList]
  show Sem.run E.P (Functor.map List.toArray (_:Sem (List Value))) w=_
  rw[Sem.run_map]
  refine (congrArg (fun r=>Result.andThen r _) hr).trans ?_
  rfl
 refine ⟨if h:s9.toArray.size=1 then s9.toArray[0] else .tuple s9.toArray,?_,?_⟩
 · cases vs with
   | nil=>rw[hl.kA];exact VR.tuple' (LR.nil φ)
   | cons v vs=>
     obtain ⟨y,ys,rfl,hy,yx⟩:=hl.dM
     cases vs with
     | nil=>rw[yx.kA];simpa [je] using hy
     | cons v2 vs2=>
       obtain ⟨y2,ys2,rfl,hy2,aj1⟩:=yx.dM
       have:¬(y::y2::ys2).toArray.size=1:=by simp
       rw[dif_neg this]
       exact VR.tuple' (.cons hy (.cons hy2 aj1))
 · unfold results
   rw[Sem.run_bind]
   refine (congrArg (fun r=>Result.andThen r _) hm).trans ?_
   rfl
def bare (f:FuncId) (kind:CallKind):Frame:={fn:=f,tmps:= #[],todo:=[],defers:=[],mode:= .run,kind:=kind,roundOf:=none}
theorem VY {P:Program} {f:FuncId} {fn:Func} {c:Code} (hf:P.funcs[f]? =some fn) (hb:fn.body=some c) (vs:List Value) (kind:CallKind):
 Frame.enter P f vs.toArray kind=(bare f kind).atR {tmps:=vs.toArray++Array.replicate (fn.ntmps - vs.length) undef,defers:=[]} [.code c]:=by
 simp [Frame.enter,Frame.atR,hf,hb,bare]
theorem vw (hE:l6 E) {call:bm} (dY:ju E call) {fuel:Nat} {f:FuncId} {fn:Func} {c:Code} (hf:E.P.funcs[f]? =some fn) (hb:fn.body=some c) {args:List AV} {h:aw} {rc:RC} {e:lY} {s':St}
 (ig:pj E call fuel fn c args h rc= .ok e s') {φ:Ph} {w:World} {vs:List Value} (ok:OK E φ h w) (hl:LR φ args vs) {kind:CallKind} {K:Bool→List Frame} (iv:o8 φ (bare f kind) K rc):
 rV E φ h w (bare f kind) K [] (lone (Frame.enter E.P f vs.toArray kind) (cur K rc) w) e s':=by
 rw[VY hf hb]
 refine (yG hE dY fuel c (s:={ts:=args++List.replicate (fn.ntmps - args.length) AV.undef,h,ds:=[],rc}) ig (a:={tmps:=vs.toArray++Array.replicate (fn.ntmps - vs.length) undef,defers:=[]}) (b:=bare f kind) (k:=[]) ⟨?_,trivial⟩ ok iv (by show (E.P.funcs[f]?).isSome=true;rw[hf];rfl)).1
 have:=hl.append (LR.replicate (VR.undef φ) (fn.ntmps - args.length))
 rw[hl.1] at this
 simpa [hl.1] using this
theorem enters {E:Env} (hE:l6 E) {f:FuncId} {fn:Func} {c:Code} (hf:E.P.funcs[f]? =some fn) (hb:fn.body=some c) (vs:Array Value) (w:World):(callFunc f vs).run E.P w= .ok (.enter f vs) w:=by
 have hn:=hE.names f fn hf
 have:(fn.name== "runtime.NumGoroutine")=false:=by rw[beq_eq_false_iff_ne];exact hn
 simp only[callFunc,Sem.run_bind,run_program,Result.andThen_ok,hf,this,Bool.false_eq_true,if_false,hb,Option.isNone_some,Sem.run_pure]
noncomputable def jr (E:Env) (call:bm) (fuel:Nat) (g:FuncId) (as:List AV) (h:aw) (rc:RC):Option (aw×RC):=match E.P.funcs[g]? with
 | none=>none
 | some fg=>match fg.body with
   | none=>none
   | some bg=>match pj E call fuel fg bg as h rc with
     | .ok .normal s'=>if s'.ds.isEmpty&&(lZ E s'.h s'.ts fg.results.toList).isSome then some (s'.h,s'.rc) else none
     | .ok .ret s'=>if s'.ds.isEmpty&&(lZ E s'.h s'.ts fg.results.toList).isSome then some (s'.h,s'.rc) else none
     | _=>none
theorem vx {φ:Ph} {ds:List Deferred} (h:DsR φ [] ds):ds=[]:=by cases ds with | nil=>rfl | cons _ _=>exact h.elim
def tf (c:Bool→Frame):RC→Frame
 | .done=>{c true with mode:=settle (c true).mode}
 | _=>{c false with mode:=settle (c false).mode}
theorem vy (hE:l6 E) {call:bm} (dY:ju E call) {fuel:Nat} {g:FuncId} {as:List AV} {h h':aw} {rc rc':RC} (hd:jr E call fuel g as h rc=some (h',rc')) {φ:Ph} {w:World} {vs:List Value}
 (ok:OK E φ h w) (hl:LR φ as vs) {c:Bool→Frame} {cs:List Frame} (iv:o8 φ (bare g .deferred) (fun x=>c x::cs) rc):
 ∃φ' w',OK E φ' h' w'∧Fr φ h w φ' h' w'∧o8 φ' (bare g .deferred) (fun x=>c x::cs) rc'∧(callFunc g vs.toArray).run E.P w= .ok (.enter g vs.toArray) w∧
  Steps E.P (lone (Frame.enter E.P g vs.toArray .deferred) (cur (fun x=>c x::cs) rc) w)
   (lone (tf c rc') cs w'):=by
 unfold jr at hd
 split at hd
 · simp at hd
 rename_i fg hf
 split at hd
 · simp at hd
 rename_i bg hb
 have key:∀(s':St) (e:lY),(e= .normal∨e= .ret)→pj E call fuel fg bg as h rc= .ok e s'→s'.ds.isEmpty=true→(lZ E s'.h s'.ts fg.results.toList).isSome=true→s'.h=h'→s'.rc=rc'→
  ∃φ' w',OK E φ' h' w'∧Fr φ h w φ' h' w'∧o8 φ' (bare g .deferred) (fun x=>c x::cs) rc'∧(callFunc g vs.toArray).run E.P w= .ok (.enter g vs.toArray) w∧
  Steps E.P (lone (Frame.enter E.P g vs.toArray .deferred) (cur (fun x=>c x::cs) rc) w)
   (lone (tf c rc') cs w'):=by
  intro s' e he ig Ps HE hh hr
  subst hh;subst hr
  obtain ⟨φ',w',a',e',x1,x2,x3,x4,x5,x6⟩:=(vw hE dY hf hb ig ok hl (kind:= .deferred) iv).is
  refine ⟨φ',w',x3,x4,x5,enters hE hf hb _ w,?_⟩
  obtain ⟨s9,aj2⟩:=Option.isSome_iff_exists.1 HE
  obtain ⟨v',_,jf⟩:=vv x3 x2.ts aj2
  have hdn:a'.defers=[]:=vx (by have:=x2.ds;rw[List.isEmpty_iff.1 Ps] at this;exact this)
  have fin:∀todo,step E.P (lone {(bare g .deferred).atR a' todo with mode:= .returning} (cur (fun x=>c x::cs) s'.rc) w')=
   .next (lone (tf c s'.rc) cs w'):=fun todo=>by
   have Hx:({(bare g .deferred).atR a' todo with mode:= .returning}:Frame).going E.P w' (.returned v'):=⟨rfl,hdn,fg,hf,jf⟩
   have hk:({(bare g .deferred).atR a' todo with mode:= .returning}:Frame).kind= .deferred:=rfl
   cases aml:s'.rc with
   | no=>exact step_going_returned (c:=c false) (cs:=cs) hk Hx
   | j5 v=>exact step_going_returned (c:=c false) (cs:=cs) hk Hx
   | done=>exact step_going_returned (c:=c true) (cs:=cs) hk Hx
   | L4 l=>exact step_going_returned (c:=c false) (cs:=cs) hk Hx
  rcases he with rfl | rfl
  · cases x1
    exact Steps.trans x6 (.head (stepR_end rfl) (.one (fin [])))
  · cases x1
    obtain ⟨todo,hs⟩:=x6
    exact Steps.trans hs (.head (stepR_ret rfl) (.one (fin _)))
 split at hd
 · rename_i s' ig
   split at hd
   · rename_i hc
     simp at hd;obtain ⟨rfl,rfl⟩:=hd
     simp only[Bool.and_eq_true] at hc
     exact key s' .normal (.inl rfl) ig hc.1 hc.2 rfl rfl
   · simp at hd
 · rename_i s' ig
   split at hd
   · rename_i hc
     simp at hd;obtain ⟨rfl,rfl⟩:=hd
     simp only[Bool.and_eq_true] at hc
     exact key s' .ret (.inr rfl) ig hc.1 hc.2 rfl rfl
   · simp at hd
 · simp at hd
theorem lu (hE:l6 E) {call:bm} (dY:ju E call) {fuel:Nat}:∀(ds:List sX) {p p':Option AV} {h h':aw} (_:dv (jr E call fuel) ds p h=some (p',h')) {φ:Ph} {w:World} {fr:Frame} {cs:List Frame}
 (_:OK E φ h w) (_:DsR φ ds fr.defers) (_:(p=none∧fr.mode= .returning)∨∃v v',p=some v∧VR φ v v'∧fr.mode= .panicking [{v:=v',recovered:=false}]),
 ∃φ' w' m',OK E φ' h' w'∧Fr φ h w φ' h' w'∧((p'=none∧m'= .returning)∨∃v v',p'=some v∧VR φ' v v'∧m'= .panicking [{v:=v',recovered:=false}])∧
  Steps E.P (lone fr cs w) (lone {fr with defers:=[],mode:=m'} cs w')
 | [],p,p',h,h',hu,φ,w,fr,cs,ok,Ps,hp=>by
   simp [dv] at hu;obtain ⟨rfl,rfl⟩:=hu
   have:=vx Ps
   refine ⟨φ,w,fr.mode,ok,Fr.refl _ _ _,?_,?_⟩
   · exact hp
   · rw[←this];exact Steps.refl _ _
 | .col r::ds,p,p',h,h',hu,φ,w,fr,cs,ok,Ps,hp=>by
   cases hfd:fr.defers with
   | nil=>rw[hfd] at Ps;exact Ps.elim
   | cons d' BQ=>
   rw[hfd] at Ps
   obtain ⟨⟨l,hl,aap⟩,VZ⟩:=Ps
   have V0:fr.mode≠ .run:=by
    rcases hp with ⟨_,hm⟩ | ⟨v,v',_,_,hm⟩<;>rw[hm]<;>simp
   simp only[dv] at hu
   split at hu
   · rename_i hg
     obtain ⟨_,hb⟩:=ok.live _ _ _ hg hl
     obtain ⟨Mz,f1⟩:=ok.ajZ hg rfl hl (.deferred none)
     have Tt:=step_collected (P:=E.P) (cs:=cs) V0 hfd aap (run_takeDeferred hb)
     obtain ⟨φ2,w2,m2,EV,f2,V1,Pu⟩:=lu hE dY ds hu (fr:={fr with defers:=[]++BQ}) (cs:=cs) Mz (by simpa using VZ) hp
     exact ⟨φ2,w2,m2,EV,f1.trans f2,V1,.head Tt Pu⟩
   · simp at hu
 | .call df alP::ds,p,p',h,h',hu,φ,w,fr,cs,ok,Ps,hp=>by
   cases hfd:fr.defers with
   | nil=>rw[hfd] at Ps;exact Ps.elim
   | cons d' BQ=>
   rw[hfd] at Ps
   obtain ⟨⟨cap,aap,ED⟩,VZ⟩:=Ps
   have V0:fr.mode≠ .run:=by
    rcases hp with ⟨_,hm⟩ | ⟨v,v',_,_,hm⟩<;>rw[hm]<;>simp
   have hinv:∀(U7:(callFunc df (d'.args++cap).toList.toArray).run E.P w= .ok (.enter df (d'.args++cap).toList.toArray) w),(invoke d'.target d'.args).run E.P w= .ok (.enter df (d'.args++cap).toList.toArray) w:=fun U7=>by
    have e:(d'.args++cap).toList.toArray=d'.args++cap:=Array.toArray_toList ..
    rw[e] at U7 ⊢
    rw[aap];exact U7
   have Tt:∀(U7:(callFunc df (d'.args++cap).toList.toArray).run E.P w= .ok (.enter df (d'.args++cap).toList.toArray) w),step E.P (lone fr cs w)= .next (lone (Frame.enter E.P df (d'.args++cap).toList.toArray .deferred) ({fr with defers:=BQ}::cs) w):=fun U7=>step_defer V0 hfd aap (hinv U7)
   cases p with
   | none=>
     simp only[dv] at hu
     split at hu
     · rename_i h1 rc1 hcd
       have hm:fr.mode= .returning:=by
        rcases hp with ⟨_,hm⟩ | ⟨v,v',e,_,_⟩
        · exact hm
        · simp at e
       obtain ⟨φ1,w1,Mz,f1,_,U7,kB⟩:=vy hE dY hcd ok ED (c:=fun _=>{fr with defers:=BQ}) (cs:=cs) ⟨rfl,fun OX hk=>by simp [tryRecover,show OX.kind= .deferred from hk,hm]⟩
       have BP:tf (fun _=>{fr with defers:=BQ}) rc1={fr with defers:=BQ}:=by
        cases rc1<;>simp [tf,hm,settle]
       rw[BP] at kB
       obtain ⟨φ2,w2,m2,EV,f2,V1,Pu⟩:=lu hE dY ds hu (fr:={fr with defers:=BQ}) (cs:=cs) Mz (VZ.mono f1.ext) (.inl ⟨rfl,hm⟩)
       exact ⟨φ2,w2,m2,EV,f1.trans f2,V1,.head (Tt U7) (Steps.trans kB Pu)⟩
     · simp at hu
   | some v=>
     obtain ⟨v',hv,hm⟩:∃v',VR φ v v'∧fr.mode= .panicking [{v:=v',recovered:=false}]:=by
      rcases hp with ⟨e,_⟩ | ⟨v1,v',e,hv,hm⟩
      · simp at e
      · simp at e;subst e;exact ⟨v',hv,hm⟩
     have iv:o8 φ (bare df .deferred) (fun x=>(if x then {fr with defers:=BQ,mode:= .panicking [{v:=v',recovered:=true}]} else {fr with defers:=BQ})::cs) (.j5 v):=
      ⟨rfl,⟨v',hv,fun OX hk=>by simp [tryRecover,show OX.kind= .deferred from hk,hm]⟩,fun OX hk=>by simp [tryRecover,show OX.kind= .deferred from hk]⟩
     simp only[dv] at hu
     split at hu
     · rename_i h1 v1 hcd
       obtain ⟨φ1,w1,Mz,f1,_,U7,kB⟩:=vy hE dY hcd ok ED (c:=fun x=>if x then {fr with defers:=BQ,mode:= .panicking [{v:=v',recovered:=true}]} else {fr with defers:=BQ}) (cs:=cs) iv
       have BP:tf (fun x=>if x then {fr with defers:=BQ,mode:= .panicking [{v:=v',recovered:=true}]} else {fr with defers:=BQ}) (.j5 v1)={fr with defers:=BQ}:=by simp [tf,hm,settle]
       rw[BP] at kB
       simp only[Bool.false_eq_true,if_false,cur] at kB
       obtain ⟨φ2,w2,m2,EV,f2,V1,Pu⟩:=lu hE dY ds hu (fr:={fr with defers:=BQ}) (cs:=cs) Mz (VZ.mono f1.ext) (.inr ⟨v,v',rfl,hv.mono f1.ext,hm⟩)
       exact ⟨φ2,w2,m2,EV,f1.trans f2,V1,.head (Tt U7) (Steps.trans kB Pu)⟩
     · rename_i h1 hcd
       obtain ⟨φ1,w1,Mz,f1,_,U7,kB⟩:=vy hE dY hcd ok ED (c:=fun x=>if x then {fr with defers:=BQ,mode:= .panicking [{v:=v',recovered:=true}]} else {fr with defers:=BQ}) (cs:=cs) iv
       have BP:tf (fun x=>if x then {fr with defers:=BQ,mode:= .panicking [{v:=v',recovered:=true}]} else {fr with defers:=BQ}) .done={fr with defers:=BQ,mode:= .returning}:=by simp [tf,settle]
       rw[BP] at kB
       simp only[Bool.false_eq_true,if_false,cur] at kB
       obtain ⟨φ2,w2,m2,EV,f2,V1,Pu⟩:=lu hE dY ds hu (fr:={fr with defers:=BQ,mode:= .returning}) (cs:=cs) Mz (VZ.mono f1.ext) (.inl ⟨rfl,rfl⟩)
       exact ⟨φ2,w2,m2,EV,f1.trans f2,V1,.head (Tt U7) (Steps.trans kB Pu)⟩
     · simp at hu
theorem ME (hE:l6 E) (fuel d:Nat) (ih:ju E (iA E d fuel)):(∀f args h v h',iA E (d+1) fuel (.fn f) args h= .ret v h'→mV E f args h v h')∧(∀f args h v h',iA E (d+1) fuel (.fn f) args h= .panic v h'→Rm E f args h v h'):=by
 have key:∀(f:FuncId) (args:List AV) (h:aw) (out:ko),iA E (d+1) fuel (.fn f) args h=out→(∀why q,out≠ .fail why q)→
  ∃fn c e s p,E.P.funcs[f]? =some fn∧fn.body=some c∧pj E (iA E d fuel) fuel fn c args h .no= .ok e s∧
   ((p=none∧(e= .normal∨e= .ret))∨∃v,p=some v∧e= .panic v)∧
   ((∃v h',out= .panic v h'∧dv (jr E (iA E d fuel) fuel) s.ds p s.h=some (some v,h'))∨
    ∃vs h',out= .ret (je vs) h'∧dv (jr E (iA E d fuel) fuel) s.ds p s.h=some (none,h')∧lZ E h' s.ts fn.results.toList=some vs):=by
  intro f args h out e fH
  simp only[iA] at e
  split at e
  · exact absurd e.symm (fH _ _)
  rename_i fn hf
  split at e
  · exact absurd e.symm (fH _ _)
  rename_i c hb
  have fin:∀(p:Option AV) (s:St),(match dv (jr E (iA E d fuel) fuel) s.ds p s.h with
   | none=>ko.fail "unwind" none
   | some (some v,h')=> .panic v h'
   | some (none,h')=>match lZ E h' s.ts fn.results.toList with
     | some vs=> .ret (je vs) h'
     | none=> .fail "results" none)=out→
   ((∃v h',out= .panic v h'∧dv (jr E (iA E d fuel) fuel) s.ds p s.h=some (some v,h'))∨
    ∃vs h',out= .ret (je vs) h'∧dv (jr E (iA E d fuel) fuel) s.ds p s.h=some (none,h')∧lZ E h' s.ts fn.results.toList=some vs):=by
   intro p s hm
   split at hm
   · exact absurd hm.symm (fH _ _)
   · rename_i v h' hu;exact .inl ⟨v,h',hm.symm,hu⟩
   · rename_i h' hu
     split at hm
     · rename_i vs hv;exact .inr ⟨vs,h',hm.symm,hu,hv⟩
     · exact absurd hm.symm (fH _ _)
  split at e
  · rename_i s ig;exact ⟨fn,c,_,s,none,hf,hb,ig,.inl ⟨rfl,.inl rfl⟩,fin none s e⟩
  · rename_i s ig;exact ⟨fn,c,_,s,none,hf,hb,ig,.inl ⟨rfl,.inr rfl⟩,fin none s e⟩
  · rename_i v s ig;exact ⟨fn,c,_,s,some v,hf,hb,ig,.inr ⟨v,rfl,rfl⟩,fin (some v) s e⟩
  · exact absurd e.symm (fH _ _)
  · exact absurd e.symm (fH _ _)
 have run:∀(f:FuncId) (fn:Func) (c:Code) (args:List AV) (h:aw) (e:lY) (s:St) (p p':Option AV) (h':aw),E.P.funcs[f]? =some fn→fn.body=some c→pj E (iA E d fuel) fuel fn c args h .no= .ok e s→
  ((p=none∧(e= .normal∨e= .ret))∨∃v,p=some v∧e= .panic v)→dv (jr E (iA E d fuel) fuel) s.ds p s.h=some (p',h')→
  ∀(φ:Ph) (w:World) (vs:List Value),OK E φ h w→LR φ args vs→∀cs,∃φ' w' m' tmps todo,OK E φ' h' w'∧Fr φ h w φ' h' w'∧LR φ' s.ts tmps.toList∧
   ((p'=none∧m'= .returning)∨∃v v',p'=some v∧VR φ' v v'∧m'= .panicking [{v:=v',recovered:=false}])∧
   Steps E.P (lone (Frame.enter E.P f vs.toArray .normal) cs w) (lone {(bare f .normal).atR {tmps,defers:=[]} todo with mode:=m'} cs w'):=by
  intro f fn c args h e s p p' h' hf hb ig hp hu φ w vs ok hl cs
  obtain ⟨φ1,w1,a1,e1,x1,x2,x3,x4,x5,x6⟩:=(vw hE ih hf hb ig ok hl (kind:= .normal) (K:=fun _=>cs) ⟨rfl,fun fr hk=>by simp [tryRecover,show fr.kind= .normal from hk]⟩).is
  have MF:cur (fun _=>cs) s.rc=cs:=by cases s.rc<;>rfl
  have V2:cur (fun _=>cs) RC.no=cs:=rfl
  rw[MF] at x6
  rw[V2] at x6
  have hm:∃todo m,((p=none∧m= .returning)∨∃v v',p=some v∧VR φ1 v v'∧m= .panicking [{v:=v',recovered:=false}])∧
   Steps E.P (lone (Frame.enter E.P f vs.toArray .normal) cs w) (lone {(bare f .normal).atR a1 todo with mode:=m} cs w1):=by
   rcases hp with ⟨rfl,rfl | rfl⟩ | ⟨v,rfl,rfl⟩
   · cases x1;exact ⟨[],.returning,.inl ⟨rfl,rfl⟩,Steps.trans x6 (.one (stepR_end rfl))⟩
   · cases x1;obtain ⟨todo,hs⟩:=x6;exact ⟨_,.returning,.inl ⟨rfl,rfl⟩,Steps.trans hs (.one (stepR_ret rfl))⟩
   · cases x1 with
     | panic _ v' hv=>obtain ⟨todo,hs⟩:=x6;exact ⟨todo,_,.inr ⟨v,v',rfl,hv,rfl⟩,hs⟩
  obtain ⟨todo,m,hmp,vb⟩:=hm
  obtain ⟨φ2,w2,m2,EV,f2,V1,hs2⟩:=lu hE ih s.ds hu (fr:={(bare f .normal).atR a1 todo with mode:=m}) (cs:=cs) x3 x2.ds (by
   rcases hmp with ⟨e,em⟩ | ⟨v,v',e,hv,em⟩
   · exact .inl ⟨e,em⟩
   · exact .inr ⟨v,v',e,hv,em⟩)
  exact ⟨φ2,w2,m2,a1.tmps,todo,EV,x4.trans f2,x2.ts.mono f2.ext,V1,Steps.trans vb hs2⟩
 refine ⟨fun f args h v h' e=>?_,fun f args h v h' e=>?_⟩
 · obtain ⟨fn,c,e1,s,p,hf,hb,ig,hp,rN⟩:=key f args h _ e (by simp)
   rcases rN with ⟨v1,h1,he,_⟩ | ⟨vs1,h1,he,hu,HE⟩
   · simp at he
   · simp at he;obtain ⟨rfl,rfl⟩:=he
     intro φ w vs ok hl
     refine ⟨enters hE hf hb _ w,fun cs=>?_⟩
     obtain ⟨φ',w',m',tmps,todo,uy,fr,ht,hm,hs⟩:=run f fn c args h e1 s p none h' hf hb ig hp hu φ w vs ok hl cs
     obtain ⟨v',hv,jf⟩:=vv uy ht HE
     rcases hm with ⟨_,rfl⟩ | ⟨v,v'',e,_⟩
     · exact ⟨φ',w',v',_,hv,uy,fr,hs,rfl,rfl,rfl,rfl,fn,hf,jf⟩
     · simp at e
 · obtain ⟨fn,c,e1,s,p,hf,hb,ig,hp,rN⟩:=key f args h _ e (by simp)
   rcases rN with ⟨v1,h1,he,hu⟩ | ⟨vs1,h1,he,_⟩
   · simp at he;obtain ⟨rfl,rfl⟩:=he
     intro φ w vs ok hl
     refine ⟨enters hE hf hb _ w,fun cs=>?_⟩
     obtain ⟨φ',w',m',tmps,todo,uy,fr,ht,hm,hs⟩:=run f fn c args h e1 s p (some v) h' hf hb ig hp hu φ w vs ok hl cs
     rcases hm with ⟨e,_⟩ | ⟨v2,v',e,hv,rfl⟩
     · simp at e
     · simp at e;subst e
       exact ⟨φ',w',v',_,hv,uy,fr,hs,rfl,rfl,rfl,fn,hf⟩
   · simp at he
theorem yH {l:Nat} {BF:Option Code} {s:St} {v:AV} {h':aw} (he:Er l BF s= .ret v h') {φ:Ph} {w:World} (ok:OK E φ s.h w) {ll:Loc} (hl:φ l=some ll):
 ∃w',v= .bool BF.isNone∧OK E φ h' w'∧Fr φ s.h w φ h' w'∧(Instr.endRound ll.iw BF).run E.P w= .ok (.bool BF.isNone) w':=by
 unfold Er at he
 split at he
 · rename_i st pd ts ps as bd dn hg
   simp only[ko.ret.injEq] at he;obtain ⟨rfl,rfl⟩:=he
   obtain ⟨_,r,hr,BW⟩:=ok.live _ _ _ hg hl
   obtain ⟨Mz,f1⟩:=ok.ad7 (o':= .loop (if BF.isNone then .ready else .done) BF ts ps as bd dn) hg rfl hl (O:= .loop {r with state:=if BF.isNone then .ready else .done,pending:=BF})
    ⟨by have:=ok.live _ _ _ hg hl;exact this.1,_,rfl,⟨rfl,rfl,BW.tmps,BW.params,BW.assign,BW.body,BW.defers,BW.fn⟩⟩
   exact ⟨_,rfl,Mz,f1,run_endRound BF hr⟩
 · simp at he
theorem MG {φ:Ph}:∀{ps:List Tmp} {args:List AV} {vs:List Value} (_:LR φ args vs) {ts:List AV} {tmps:Array Value} (_:LR φ ts tmps.toList),
 LR φ ((ps.zip args).foldl (fun ts x=>ts.set x.1 x.2) ts) (((ps.zip vs).foldl (fun (tmps:Array Value) (x:Tmp×Value)=>tmps.setIfInBounds x.1 x.2) tmps).toList)
 | [],_,_,_,_,_,ht=>by simpa using ht
 | p::ps,[],vs,hl,ts,tmps,ht=>by rw[hl.kA];simpa using ht
 | p::ps,x::xs,vs,hl,ts,tmps,ht=>by
   obtain ⟨y,ys,rfl,hy,yx⟩:=hl.dM
   simp only[List.zip_cons_cons,List.foldl_cons]
   exact MG yx (by simpa using ht.set hy p)
theorem EZ (hE:l6 E) {call:bm} (dY:ju E call) {fuel l:Nat} {args:List AV} {h:aw} {out:ko} (ho:yr E call fuel l args h=out) (fH:∀why q,out≠ .fail why q)
 {φ:Ph} {w:World} {vs:List Value} (ok:OK E φ h w) {ll:Loc} (hφ:φ l=some ll) (hl:LR φ args vs):
 ∃f tmps assign body,(Instr.yield ll.iw vs.toArray).run E.P w= .ok (.round ll.iw f tmps assign body) w∧∀c cs,
  (∀v h',out= .ret v h'→∃φ' w' v',VR φ' v v'∧OK E φ' h' w'∧Fr φ h w φ' h' w'∧Steps E.P (lone (Frame.round ll.iw f tmps assign body .normal) (c::cs) w) (lone (c.finish v') cs w'))∧
  (∀v h',out= .panic v h'→∃φ' w' v',VR φ' v v'∧OK E φ' h' w'∧Fr φ h w φ' h' w'∧Steps E.P (lone (Frame.round ll.iw f tmps assign body .normal) (c::cs) w) (lone (c.raise [{v:=v',recovered:=false}]) cs w')):=by
 unfold yr at ho
 split at ho
 · rename_i st pd ts ps as bd dn hg
   split at ho
   · rename_i hlen
     split at ho
     · rename_i s1 hx1
       split at ho
       · rename_i pd2 ts2 ps2 as2 bd2 dn2 hg1
         obtain ⟨amm,r,hr,BW⟩:=ok.live _ _ _ hg hφ
         have Mc:vs.toArray.size=r.params.size:=by
          have h1:=congrArg List.length BW.params
          have h2:=hl.1
          simp at h1 ⊢;omega
         refine ⟨r.fn,_,r.assign,r.body,run_yield hr Mc,fun c cs=>?_⟩
         have aha:LR φ ((ps.zip args).foldl (fun ts x=>ts.set x.1 x.2) ts) ((r.params.zip vs.toArray).foldl (fun tmps (t,a)=>tmps.setIfInBounds t a) r.tmps).toList:=by
          have:=MG (ps:=ps) hl BW.tmps
          rw[←Array.foldl_toList,Array.toList_zip,BW.params]
          exact this
         generalize htm:(r.params.zip vs.toArray).foldl (fun tmps (t,a)=>tmps.setIfInBounds t a) r.tmps=Rs at aha
         let b:Frame:={fn:=r.fn,tmps:= #[],todo:=[],defers:=[],mode:= .run,kind:= .normal,roundOf:=some ll.iw}
         have hb:b.roundOf=some ll.iw:=rfl
         have hk:b.kind= .normal:=rfl
         have BR:Frame.round ll.iw r.fn Rs r.assign r.body .normal=b.atR {tmps:=Rs,defers:=[]} [.code r.assign,.beginRound,.code r.body]:=rfl
         rw[BW.assign,BW.body] at BR ⊢
         rw[BR]
         have MF:∀rc,cur (fun _=>c::cs) rc=c::cs:=fun rc=>by cases rc<;>rfl
         obtain ⟨φ1,w1,a1,e1,x1,x2,x3,x4,x5,x6⟩:=(yG hE dY fuel as hx1 (a:={tmps:=Rs,defers:=[]}) (b:=b) (k:=[.beginRound,.code bd]) (K:=fun _=>c::cs) ⟨aha,trivial⟩ ok ⟨ll,hφ,rfl⟩ BW.fn).1.is
         cases x1
         rw[MF,MF] at x6
         have hφ1:=x4.ext _ _ hφ
         obtain ⟨ahb,r1,hr1,MH⟩:=x3.live _ _ _ hg1 hφ1
         obtain ⟨EV,f2⟩:=x3.ad7 (o':= .loop .busy pd2 ts2 ps2 as2 bd2 dn2) hg1 rfl hφ1 (O:= .loop {r1 with state:= .busy})
          ⟨ahb,_,rfl,⟨rfl,MH.pending,MH.tmps,MH.params,MH.assign,MH.body,MH.defers,MH.fn⟩⟩
         have aj3:=stepR_beginRound (P:=E.P) (b:=b) (a:=a1) (k:=[.code bd]) (cs:=c::cs) hb (run_beginRound hr1 MH.state)
         have DE:=Steps.trans x6 (.one aj3)
         have body:∀(e:lY) (s2:St),exec E call fuel bd {s1 with h:=s1.h.put l (some (.loop .busy pd2 ts2 ps2 as2 bd2 dn2))}= .ok e s2→
          ∃φ' w' a' e',ExR φ' e e'∧SR φ' s2.ts s2.ds a'∧OK E φ' s2.h w'∧Fr φ h w φ' s2.h w'∧φ' l=some ll∧MB E.P (lone (b.atR {tmps:=Rs,defers:=[]} [.code as,.beginRound,.code bd]) (c::cs) w) b [] (c::cs) e' a' w':=by
          intro e s2 hx2
          obtain ⟨φ3,w3,a3,e3,y1,y2,y3,y4,y5,y6⟩:=(yG hE dY fuel bd hx2 (a:=a1) (b:=b) (k:=[]) (K:=fun _=>c::cs) x2 EV x5 BW.fn).1.is
          rw[MF,MF] at y6
          exact ⟨φ3,w3,a3,e3,y1,y2,y3,(x4.trans f2).trans y4,y4.ext _ _ hφ1,.of_steps DE y6⟩
         split at ho
         · rename_i s2 hx2
           obtain ⟨φ3,w3,a3,e3,y1,y2,y3,y4,hl3,y6⟩:=body _ _ hx2
           cases y1
           refine ⟨fun v h' e=>?_,fun v h' e=>?_⟩
           · obtain ⟨w4,rfl,z1,z2,z3⟩:=yH (ho.trans e) y3 hl3
             exact ⟨φ3,w4,_,.bool _,z1,y4.trans z2,Steps.trans y6 (.one (stepR_round_end hb hk z3))⟩
           · rw[e] at ho;unfold Er at ho;split at ho<;>simp at ho
         · rename_i s2 hx2
           obtain ⟨φ3,w3,a3,e3,y1,y2,y3,y4,hl3,y6⟩:=body _ _ hx2
           cases y1
           refine ⟨fun v h' e=>?_,fun v h' e=>?_⟩
           · obtain ⟨w4,rfl,z1,z2,z3⟩:=yH (ho.trans e) y3 hl3
             obtain ⟨todo,hs⟩:=y6
             exact ⟨φ3,w4,_,.bool _,z1,y4.trans z2,Steps.trans hs (.one (stepR_round_ret hb hk z3))⟩
           · rw[e] at ho;unfold Er at ho;split at ho<;>simp at ho
         · rename_i id s2 hx2
           obtain ⟨φ3,w3,a3,e3,y1,y2,y3,y4,hl3,y6⟩:=body _ _ hx2
           cases y1
           refine ⟨fun v h' e=>?_,fun v h' e=>?_⟩
           · obtain ⟨w4,rfl,z1,z2,z3⟩:=yH (ho.trans e) y3 hl3
             obtain ⟨todo,ht,hs⟩:=y6
             exact ⟨φ3,w4,_,.bool _,z1,y4.trans z2,Steps.trans hs (.one (stepR_round_exit hb hk ht z3))⟩
           · rw[e] at ho;unfold Er at ho;split at ho<;>simp at ho
         · rename_i v2 s2 hx2
           obtain ⟨φ3,w3,a3,e3,y1,y2,y3,y4,hl3,y6⟩:=body _ _ hx2
           split at ho
           · rename_i Ps
             refine ⟨fun v h' e=>by rw[e] at ho;simp at ho,fun v h' e=>?_⟩
             rw[e] at ho;simp at ho;obtain ⟨rfl,rfl⟩:=ho
             cases y1 with
             | panic _ v' hv=>
               obtain ⟨todo,hs⟩:=y6
               have hdn:a3.defers=[]:=vx (by have:=y2.ds;rw[List.isEmpty_iff.1 Ps] at this;exact this)
               obtain ⟨fn,L6⟩:=Option.isSome_iff_exists.1 BW.fn
               exact ⟨φ3,w3,v',hv,y3,y4,Steps.trans hs (.one (step_leave_panicked ⟨rfl,hdn,fn,L6⟩))⟩
           · exact absurd ho.symm (fH _ _)
         · exact absurd ho.symm (fH _ _)
       · exact absurd ho.symm (fH _ _)
     · exact absurd ho.symm (fH _ _)
     · exact absurd ho.symm (fH _ _)
   · exact absurd ho.symm (fH _ _)
 · exact absurd ho.symm (fH _ _)
theorem CW (hE:l6 E) (fuel:Nat):∀d,ju E (iA E d fuel)
 | 0=>⟨fun f args h v h' e=>by simp [iA] at e,fun f args h v h' e=>by simp [iA] at e⟩
 | d+1=>by
   have ih:=CW hE fuel d
   obtain ⟨k1,k2⟩:=ME hE fuel d ih
   refine ⟨fun F args h v h' e=>?_,fun F args h v h' e=>?_⟩
   · cases F with
     | fn f=>exact (k1 f args h v h' e).any
     | CJ l=>
       simp only[iA] at e
       intro φ w vs ok hf hl
       obtain ⟨ll,hφ⟩:=hf
       obtain ⟨f,tmps,assign,body,hy,jf⟩:=EZ hE ih e (by simp) ok hφ hl
       exact ⟨_,_,.CJ l ll hφ vs f tmps assign body hy,fun c cs=>(jf c cs).1 v h' rfl⟩
   · cases F with
     | fn f=>exact (k2 f args h v h' e).any
     | CJ l=>
       simp only[iA] at e
       intro φ w vs ok hf hl
       obtain ⟨ll,hφ⟩:=hf
       obtain ⟨f,tmps,assign,body,hy,jf⟩:=EZ hE ih e (by simp) ok hφ hl
       exact ⟨_,_,.CJ l ll hφ vs f tmps assign body hy,fun c cs=>(jf c cs).2 v h' rfl⟩
end Go.Ab
end
section
namespace Go.Ab.Fa
structure Acc (T:Type) where
 f:T→AV
structure Upd (T:Type) where
 f:AV→T→T
structure RF where
 T:Type
 N:Nat
 get:Nat→Acc T
 set:Nat→Upd T
 z:T
 V3:∀i,i<N→(get i).f z=AV.undef
 z_:∀i,i<N→∀v r,(get i).f ((set i).f v r)=v
 wX:∀i j,i<N→j<N→i≠j→∀v r,(get j).f ((set i).f v r)=(get j).f r
def aaq (i:Nat):Acc (P8 (P8 AV)):=s8 (i/8) fun p=>s8 (i%8) fun q=>⟨fun r=>q (p r)⟩
noncomputable def ad9 (i:Nat):Upd (P8 (P8 AV)):=e8 (i/8) fun p=>e8 (i%8) fun q=>⟨fun v r=>p (q fun _=>v) r⟩
noncomputable def rf2:RF where
 T:=P8 (P8 AV)
 N:=64
 get:=aaq
 set:=ad9
 z:=P8.all (P8.all AV.undef)
 V3 i h:=by simp only[aaq,xN,D7]
 z_ i h v r:=by simp only[aaq,ad9,xN,CI,dE]
 wX i j hi hj h v r:=by
  simp only[aaq,ad9,xN,CI]
  by_cases h1:i/8=j/8
  · rw[h1,dE,eZ (by omega) (by omega) (by omega)]
  · rw[eZ (by omega) (by omega) h1]
def aar (i:Nat):Acc (P8 (P8 (P8 AV))):=s8 (i/64) fun o=>s8 (i/8%8) fun p=>s8 (i%8) fun q=>⟨fun r=>q (p (o r))⟩
noncomputable def aea (i:Nat):Upd (P8 (P8 (P8 AV))):=e8 (i/64) fun o=>e8 (i/8%8) fun p=>e8 (i%8) fun q=>⟨fun v r=>o (p (q fun _=>v)) r⟩
noncomputable def rf3:RF where
 T:=P8 (P8 (P8 AV))
 N:=512
 get:=aar
 set:=aea
 z:=P8.all (P8.all (P8.all AV.undef))
 V3 i h:=by simp only[aar,xN,D7]
 z_ i h v r:=by simp only[aar,aea,xN,CI,dE]
 wX i j hi hj h v r:=by
  simp only[aar,aea,xN,CI]
  by_cases h1:i/64=j/64
  · rw[h1,dE]
    by_cases h2:i/8%8=j/8%8
    · rw[h2,dE,eZ (by omega) (by omega) (by omega)]
    · rw[eZ (by omega) (by omega) h2]
  · rw[eZ (by omega) (by omega) h1]
section
variable (F:RF) (n:Nat)
def gn (r:F.T):List AV:=(List.range n).map fun i=>(F.get i).f r
theorem jW (r:F.T):(gn F n r).length=n:=by simp [gn]
theorem wY (r:F.T) {i:Nat} (h:i<n):(gn F n r)[i]? =some ((F.get i).f r):=by simp [gn,h]
theorem MI (r:F.T) (i:Nat):(gn F n r).getD i AV.undef=if i<n then (F.get i).f r else AV.undef:=by
 rw[List.getD_eq_getElem?_getD]
 split
 · rename_i h;rw[wY F n r h];rfl
 · rw[List.getElem?_eq_none (by rw[jW];omega)];rfl
theorem aas (hn:n≤F.N) (r:F.T) {i:Nat} (h:i<n) (v:AV):(gn F n r).set i v=gn F n ((F.set i).f v r):=by
 apply List.ext_getElem?
 intro j
 rw[List.getElem?_set]
 by_cases hj:j<n
 · rw[wY F n _ hj,wY F n _ hj,jW]
   by_cases e:i=j
   · subst e;simp [F.z_ i (by omega),h]
   · rw[if_neg e,F.wX i j (by omega) (by omega) e]
 · rw[List.getElem?_eq_none (l:=gn F n r) (by rw[jW];omega),List.getElem?_eq_none (l:=gn F n _) (by rw[jW];omega),jW]
   rw[if_neg (by omega)]
noncomputable def U8:List AV→F.T→Nat→F.T:=fun l=>List.rec (motive:=fun _=>F.T→Nat→F.T) (fun r _=>r) (fun v _ ih r i=>ih ((F.set i).f v r) (Nat.add i 1)) l
theorem aat (r:F.T) (i:Nat):U8 F [] r i=r:=rfl
theorem V4 (v:AV) (l:List AV) (r:F.T) (i:Nat):U8 F (v::l) r i=U8 F l ((F.set i).f v r) (i+1):=rfl
theorem Rt (hn:n≤F.N):∀(l:List AV) (r:F.T) (i:Nat),i+l.length≤n→∀j,j<n→(F.get j).f (U8 F l r i)=if i≤j∧j<i+l.length then l.getD (j - i) AV.undef else (F.get j).f r
 | [],r,i,_,j,hj=>by rw[aat,if_neg (by rw[List.length_nil];omega)]
 | v::l,r,i,h,j,hj=>by
   simp only[List.length_cons] at h
   rw[V4,Rt hn l _ (i+1) (by omega) j hj]
   simp only[List.length_cons]
   by_cases h1:i+1≤j∧j<i+1+l.length
   · rw[if_pos h1,if_pos (by omega)]
     obtain ⟨m,hm⟩:∃m,j - i=m+1:=⟨j - i - 1,by omega⟩
     rw[hm,show j -(i+1)=m by omega,List.getD_cons_succ]
   · rw[if_neg h1]
     by_cases h2:i=j
     · subst h2;rw[F.z_ i (by omega),if_pos (by omega)];simp
     · rw[F.wX i j (by omega) (by omega) h2,if_neg (by omega)]
theorem Ru (hn:n≤F.N) (l:List AV) (h:l.length≤n):gn F n (U8 F l F.z 0)=l++List.replicate (n - l.length) AV.undef:=by
 apply List.ext_getElem?
 intro j
 by_cases hj:j<n
 · rw[wY F n _ hj,Rt F n hn l F.z 0 (by omega) j hj]
   by_cases h1:j<l.length
   · rw[if_pos (by omega),List.getElem?_append_left h1,Nat.sub_zero,List.getD_eq_getElem?_getD,List.getElem?_eq_getElem h1];rfl
   · rw[if_neg (by omega),List.getElem?_append_right (by omega),F.V3 j (by omega),List.getElem?_replicate,if_pos (by omega)]
 · rw[List.getElem?_eq_none (by rw[jW];omega),List.getElem?_eq_none (by simp;omega)]
end
end Go.Ab.Fa
end
section
namespace Go.Ab.Fa
section
variable {R:Type}
noncomputable def kP (f:Bool→R) (d:R) (v:AV):R:=
 AV.rec (motive_1:=fun _=>R) (motive_2:=fun _=>Unit) (fun b=>f b) (fun _ _=>d) (fun _=>d) d (fun _ _=>d) d (fun _ _ _ _ _=>d) d (fun _=>d) (fun _ _ _ _ _=>d) (fun _=>d) d (fun _ _ _=>d) d (fun _ _=>d) (fun _ _=>d) d d () (fun _ _ _ _=>()) v
noncomputable def p_ (f:IntKind→Int→R) (d:R) (v:AV):R:=
 AV.rec (motive_1:=fun _=>R) (motive_2:=fun _=>Unit) (fun _=>d) (fun k n=>f k n) (fun _=>d) d (fun _ _=>d) d (fun _ _ _ _ _=>d) d (fun _=>d) (fun _ _ _ _ _=>d) (fun _=>d) d (fun _ _ _=>d) d (fun _ _=>d) (fun _ _=>d) d d () (fun _ _ _ _=>()) v
noncomputable def tg (f:List UInt8→R) (d:R) (v:AV):R:=
 AV.rec (motive_1:=fun _=>R) (motive_2:=fun _=>Unit) (fun _=>d) (fun _ _=>d) (fun s=>f s) d (fun _ _=>d) d (fun _ _ _ _ _=>d) d (fun _=>d) (fun _ _ _ _ _=>d) (fun _=>d) d (fun _ _ _=>d) d (fun _ _=>d) (fun _ _=>d) d d () (fun _ _ _ _=>()) v
noncomputable def BX (f:Nat→Nat→R) (d:R) (v:AV):R:=
 AV.rec (motive_1:=fun _=>R) (motive_2:=fun _=>Unit) (fun _=>d) (fun _ _=>d) (fun _=>d) d (fun i o=>f i o) d (fun _ _ _ _ _=>d) d (fun _=>d) (fun _ _ _ _ _=>d) (fun _=>d) d (fun _ _ _=>d) d (fun _ _=>d) (fun _ _=>d) d d () (fun _ _ _ _=>()) v
noncomputable def kQ (e:R) (f:Nat→Nat→Nat→Nat→Bool→R) (d:R) (v:AV):R:=
 AV.rec (motive_1:=fun _=>R) (motive_2:=fun _=>Unit) (fun _=>d) (fun _ _=>d) (fun _=>d) d (fun _ _=>d) e (fun i o l c b=>f i o l c b) d (fun _=>d) (fun _ _ _ _ _=>d) (fun _=>d) d (fun _ _ _=>d) d (fun _ _=>d) (fun _ _=>d) d d () (fun _ _ _ _=>()) v
noncomputable def vZ (z d:R) (v:AV):R:=
 AV.rec (motive_1:=fun _=>R) (motive_2:=fun _=>Unit) (fun _=>d) (fun _ _=>d) (fun _=>d) d (fun _ _=>d) d (fun _ _ _ _ _=>d) d (fun _=>d) (fun _ _ _ _ _=>d) (fun _=>d) d (fun _ _ _=>d) d (fun _ _=>d) (fun _ _=>d) z d () (fun _ _ _ _=>()) v
noncomputable def Rv (f:FuncId→List AV→List AV→R) (y:Nat→R) (d:R) (v:AV):R:=
 AV.rec (motive_1:=fun _=>R) (motive_2:=fun _=>Unit) (fun _=>d) (fun _ _=>d) (fun _=>d) d (fun _ _=>d) d (fun _ _ _ _ _=>d) d (fun _=>d) (fun g a b _ _=>f g a b) (fun l=>y l) d (fun _ _ _=>d) d (fun _ _=>d) (fun _ _=>d) d d () (fun _ _ _ _=>()) v
noncomputable def BY (f:List AV→R) (t:List AV→R) (d:R) (v:AV):R:=
 AV.rec (motive_1:=fun _=>R) (motive_2:=fun _=>Unit) (fun _=>d) (fun _ _=>d) (fun _=>d) d (fun _ _=>d) d (fun _ _ _ _ _=>d) d (fun _=>d) (fun _ _ _ _ _=>d) (fun _=>d) d (fun _ _ _=>d) d (fun cs _=>f cs) (fun cs _=>t cs) d d () (fun _ _ _ _=>()) v
noncomputable def th (f:TypeId→AV→R) (d:R) (v:AV):R:=
 AV.rec (motive_1:=fun _=>R) (motive_2:=fun _=>Unit) (fun _=>d) (fun _ _=>d) (fun _=>d) d (fun _ _=>d) d (fun _ _ _ _ _=>d) d (fun _=>d) (fun _ _ _ _ _=>d) (fun _=>d) d (fun t v _=>f t v) d (fun _ _=>d) (fun _ _=>d) d d () (fun _ _ _ _=>()) v
noncomputable def J8 (v:AV):Bool:=
 AV.rec (motive_1:=fun _=>Bool) (motive_2:=fun _=>Unit) (fun _=>false) (fun _ _=>false) (fun _=>false) false (fun _ _=>true) false (fun _ _ _ _ _=>true) false (fun _=>true) (fun _ _ _ _ _=>true) (fun _=>false) false (fun _ _ _=>false) false (fun _ _=>false) (fun _ _=>false) false false () (fun _ _ _ _=>()) v
noncomputable def ob {α:Type} (d:R) (f:α→R) (o:Option α):R:=Option.rec (motive:=fun _=>R) d f o
noncomputable def bc (b:Bool) (x y:R):R:=Bool.rec (motive:=fun _=>R) y x b
noncomputable def BZ (f:List AV→TypeId→Bool→R) (d:R) (o:aH):R:=
 aH.rec (motive:=fun _=>R) (fun cs e ro=>f cs e ro) (fun _ _=>d) (fun _ _=>d) (fun _ _ _ _=>d) (fun _ _ _ _ _ _ _=>d) d o
noncomputable def mu (f:Nat→R) (d:R) (n:Int):R:=Int.rec (motive:=fun _=>R) f (fun _=>d) n
noncomputable def kEl (a b c d e f g h:R) (k:IntKind):R:=IntKind.rec (motive:=fun _=>R) a b c d e f g h k
end
noncomputable def kc (k:IntKind):Nat:=kEl 0 1 2 3 4 5 6 7 k
noncomputable def V5 (k j:IntKind):Bool:=Nat.beq (kc k) (kc j)
noncomputable def xx (k:IntKind):Nat:=kEl 128 32768 2147483648 9223372036854775808 256 65536 4294967296 18446744073709551616 k
noncomputable def V6 (k:IntKind):Nat:=kEl 8 16 32 64 8 16 32 64 k
noncomputable def ksg (k:IntKind):Bool:=kEl true true true true false false false false k
noncomputable def xS (k:IntKind) (n:Int):Int:=
 Int.rec (motive:=fun _=>Int) (fun m=>bc (Nat.ble (xx k) m) (bc (ksg k) (k.wrap (Int.ofNat m)) (Int.ofNat (Nat.mod m (xx k)))) (Int.ofNat m))
  (fun m=>bc (ksg k) (bc (Nat.ble (xx k) m) (k.wrap (Int.negSucc m)) (Int.negSucc m)) (k.wrap (Int.negSucc m))) n
noncomputable def rn (a b:Int):Int:=mu (fun x=>mu (fun y=>Int.ofNat (Nat.add x y)) (Int.add a b) b) (Int.add a b) a
noncomputable def vz (a b:Int):Int:=mu (fun x=>mu (fun y=>bc (Nat.ble y x) (Int.ofNat (Nat.sub x y)) (Int.negSucc (Nat.sub (Nat.sub y x) 1))) (Int.sub a b) b) (Int.sub a b) a
noncomputable def V7 (a b:Int):Int:=mu (fun x=>mu (fun y=>Int.ofNat (Nat.mul x y)) (Int.mul a b) b) (Int.mul a b) a
noncomputable def ieq (a b:Int):Bool:=
 Int.rec (motive:=fun _=>Bool) (fun x=>Int.rec (motive:=fun _=>Bool) (fun y=>Nat.beq x y) (fun _=>false) b) (fun x=>Int.rec (motive:=fun _=>Bool) (fun _=>false) (fun y=>Nat.beq x y) b) a
noncomputable def ilt (a b:Int):Bool:=
 Int.rec (motive:=fun _=>Bool) (fun x=>Int.rec (motive:=fun _=>Bool) (fun y=>Nat.ble (Nat.add x 1) y) (fun _=>false) b) (fun x=>Int.rec (motive:=fun _=>Bool) (fun _=>true) (fun y=>Nat.ble (Nat.add y 1) x) b) a
noncomputable def yI (b:Bool):Bool:=bc b false true
noncomputable def aau (op:BinOp):IntKind→Int→Int→Option AV:=match op with
 | .add=>fun k a b=>some (.int k (xS k (rn a b)))
 | .sub=>fun k a b=>some (.int k (xS k (vz a b)))
 | .mul=>fun k a b=>some (.int k (xS k (V7 a b)))
 | .eql=>fun _ a b=>some (.bool (ieq a b))
 | .neq=>fun _ a b=>some (.bool (yI (ieq a b)))
 | .lss=>fun _ a b=>some (.bool (ilt a b))
 | .leq=>fun _ a b=>some (.bool (yI (ilt b a)))
 | .gtr=>fun _ a b=>some (.bool (ilt b a))
 | .geq=>fun _ a b=>some (.bool (yI (ilt a b)))
 | .quo=>fun k a b=>mu (fun x=>mu (fun y=>bc (Nat.beq y 0) none (some (.int k (xS k (Int.ofNat (Nat.div x y)))))) (dU .quo k a b) b) (dU .quo k a b) a
 | .rem=>fun k a b=>mu (fun x=>mu (fun y=>bc (Nat.beq y 0) none (some (.int k (Int.ofNat (Nat.mod x y))))) (dU .rem k a b) b) (dU .rem k a b) a
 | .and=>fun k a b=>mu (fun x=>mu (fun y=>bc (Nat.ble (xx k) x) (dU .and k a b) (bc (Nat.ble (xx k) y) (dU .and k a b) (some (.int k (Int.ofNat (Nat.land x y)))))) (dU .and k a b) b) (dU .and k a b) a
 | .or=>fun k a b=>mu (fun x=>mu (fun y=>bc (Nat.ble (xx k) x) (dU .or k a b) (bc (Nat.ble (xx k) y) (dU .or k a b) (some (.int k (Int.ofNat (Nat.lor x y)))))) (dU .or k a b) b) (dU .or k a b) a
 | op=>fun k a b=>dU op k a b
noncomputable def V8 (k:IntKind) (y:Nat):Nat:=bc (Nat.ble (V6 k) y) (V6 k) y
noncomputable def ahc (k:IntKind) (a b:Int):Option AV:=mu (fun y=>some (.int k (xS k (V7 a (Int.ofNat (Nat.pow 2 (V8 k y))))))) none b
noncomputable def ahd (k:IntKind) (a b:Int):Option AV:=mu (fun y=>some (.int k (mu (fun x=>Int.ofNat (Nat.div x (Nat.pow 2 (V8 k y)))) (a.fdiv (2^(min y k.bits))) a))) none b
section
variable {α:Type}
noncomputable def j7 (l:List α):Nat:=List.rec (motive:=fun _=>Nat) 0 (fun _ _ ih=>Nat.add ih 1) l
noncomputable def j8 (l:List α):Nat→Option α:=List.rec (motive:=fun _=>Nat→Option α) (fun _=>none) (fun v _ ih o=>bc (Nat.beq o 0) (some v) (ih (Nat.sub o 1))) l
noncomputable def vA (l:List α):Nat→List α:=List.rec (motive:=fun _=>Nat→List α) (fun _=> []) (fun v tl ih o=>bc (Nat.beq o 0) (v::tl) (ih (Nat.sub o 1))) l
noncomputable def vB (l:List α):Nat→List α:=List.rec (motive:=fun _=>Nat→List α) (fun _=> []) (fun v _ ih o=>bc (Nat.beq o 0) [] (v::ih (Nat.sub o 1))) l
noncomputable def mN (l m:List α):List α:=List.rec (motive:=fun _=>List α) m (fun v _ ih=>v::ih) l
noncomputable def B0 (f:α→Bool) (l:List α):Bool:=List.rec (motive:=fun _=>Bool) true (fun v _ ih=>bc (f v) ih false) l
noncomputable def MJ (vs:List α):List α→List α:=
 List.rec (motive:=fun _=>List α→List α) (fun cs=>cs) (fun v _ ih cs=>List.rec (motive:=fun _=>List α) [] (fun _ tl _=>v::ih tl) cs) vs
noncomputable def MK (vs cs:List α):Nat→List α:=
 List.rec (motive:=fun _=>Nat→List α) (fun _=> []) (fun c tl ih o=>bc (Nat.beq o 0) (MJ vs (c::tl)) (c::ih (Nat.sub o 1))) cs
noncomputable def leq (f:α→α→Bool) (l:List α):List α→Bool:=
 List.rec (motive:=fun _=>List α→Bool) (fun m=>List.rec (motive:=fun _=>Bool) true (fun _ _ _=>false) m)
  (fun x _ ih m=>List.rec (motive:=fun _=>Bool) false (fun y tl _=>bc (f x y) (ih tl) false) m) l
end
noncomputable def E0 (a b:UInt8):Bool:=Nat.beq a.toBitVec.toFin.val b.toBitVec.toFin.val
noncomputable def aav (v:AV):Bool:=BY (fun _=>false) (fun _=>false) true v
noncomputable def mW (v:AV):List AV:=BY (fun cs=>cs) (fun _=> [v]) [v] v
end Go.Ab.Fa
end
section
namespace Go.Ab.Fa
section
variable {α β:Type}
noncomputable def DF (l:List Nat) (x:Nat):Bool:=List.rec (motive:=fun _=>Bool) false (fun y _ ih=>bc (Nat.beq x y) true ih) l
noncomputable def aeb (f:α→Bool) (l:List α):Bool:=List.rec (motive:=fun _=>Bool) false (fun v _ ih=>bc (f v) true ih) l
noncomputable def allI (f:α→Nat→Bool) (l:List α) (i:Nat):Bool:=List.rec (motive:=fun _=>Nat→Bool) (fun _=>true) (fun v _ ih i=>bc (f v i) (canon (Nat.add i 1) ih) false) l i
noncomputable def ML (f:α→Nat→Bool) (l:List α) (i:Nat):List Nat:=List.rec (motive:=fun _=>Nat→List Nat) (fun _=> []) (fun v _ ih i=>bc (f v i) (i::canon (Nat.add i 1) ih) (canon (Nat.add i 1) ih)) l i
noncomputable def J9 (f:α→Bool) (l:List α):Nat:=List.rec (motive:=fun _=>Nat) 0 (fun v _ ih=>bc (f v) (Nat.add ih 1) ih) l
noncomputable def Pv (f:α→Bool) (l:List α):Nat:=List.rec (motive:=fun _=>Nat) 0 (fun v _ ih=>bc (f v) (Nat.add ih 1) 0) l
noncomputable def E1 (l:List α) (i:Nat) (d:α):α:=ob d (fun x=>x) (j8 l i)
noncomputable def rp (l:List α):(List α→β)→β:=List.rec (motive:=fun _=>(List α→β)→β) (fun k=>k []) (fun x _ ih k=>ih fun tl=>k (x::tl)) l
theorem B1 (l:List α) (k:List α→β):rp l k=k l:=by
 induction l generalizing k with
 | nil=>rfl
 | cons y tl ih=>show rp tl (fun tl=>k (y::tl))=_;rw[ih]
noncomputable def Pw (l:List α) (k:List α→β):β:=List.rec (motive:=fun _=>β) (k []) (fun x tl _=>k (x::tl)) l
theorem Tx (l:List α) (k:List α→β):Pw l k=k l:=by cases l<;>rfl
noncomputable def J_ (f:List β→α→List β) (l:List α) (b:List β):List β:=List.rec (motive:=fun _=>List β→List β) (fun b=>b) (fun v _ ih b=>Pw (f b v) ih) l b
theorem IG (f:List β→α→List β) (l:List α) (b:List β):J_ f l b=l.foldl f b:=by
 induction l generalizing b with
 | nil=>rfl
 | cons y tl ih=>show Pw (f b y) (J_ f tl)=_;rw[Tx,ih];rfl
theorem vC (b:Bool) (x y:α):bc b x y=bif b then x else y:=by cases b<;>rfl
theorem DG (x y:Nat):(x==y)=Nat.beq x y:=by
 cases h:Nat.beq x y
 · rw[beq_eq_false_iff_ne];intro e;subst e;rw[Nat.beq_refl] at h;exact absurd h (by simp)
 · rw[Nat.eq_of_beq_eq_true h];simp
theorem wZ (l:List Nat) (x:Nat):DF l x=l.contains x:=by
 induction l with
 | nil=>rfl
 | cons y tl ih=>
   show bc (Nat.beq x y) true (DF tl x)=_
   rw[ih,vC,List.contains_cons,DG]
   cases Nat.beq x y<;>rfl
theorem aaw (f:α→Bool) (l:List α):aeb f l=l.any f:=by
 induction l with
 | nil=>rfl
 | cons y tl ih=>show bc (f y) true (aeb f tl)=_;rw[ih,vC,List.any_cons];cases f y<;>rfl
theorem ti (f:α→Bool) (l:List α):B0 f l=l.all f:=by
 induction l with
 | nil=>rfl
 | cons y tl ih=>show bc (f y) (B0 f tl) false=_;rw[ih,vC,List.all_cons];cases f y<;>rfl
theorem J' (f:α→Nat→Bool) (l:List α) (i:Nat):allI f l i=(l.zipIdx i).all fun p=>f p.1 p.2:=by
 induction l generalizing i with
 | nil=>rfl
 | cons y tl ih=>show bc (f y i) (canon (i+1) (allI f tl)) false=_;rw[mR,ih,vC,List.zipIdx_cons,List.all_cons];cases f y i<;>rfl
theorem MN (f:α→Nat→Bool) (l:List α) (i:Nat):ML f l i=((l.zipIdx i).filter fun p=>f p.1 p.2).map (·.2):=by
 induction l generalizing i with
 | nil=>rfl
 | cons y tl ih=>
   show bc (f y i) (i::canon (i+1) (ML f tl)) (canon (i+1) (ML f tl))=_
   rw[mR,ih,vC,List.zipIdx_cons,List.filter_cons];cases f y i<;>simp
theorem Ty (f:α→Bool) (l:List α):J9 f l=(l.filter f).length:=by
 induction l with
 | nil=>rfl
 | cons y tl ih=>show bc (f y) (J9 f tl+1) (J9 f tl)=_;rw[ih,vC,List.filter_cons];cases f y<;>simp
theorem Tz (f:α→Bool) (l:List α):Pv f l=(l.takeWhile f).length:=by
 induction l with
 | nil=>rfl
 | cons y tl ih=>show bc (f y) (Pv f tl+1) 0=_;rw[ih,vC,List.takeWhile_cons];cases f y<;>simp
theorem iR (l:List α) (i:Nat):j8 l i=l[i]? :=by
 induction l generalizing i with
 | nil=>rfl
 | cons y tl ih=>
   show bc (Nat.beq i 0) (some y) (j8 tl (i - 1))=_
   rw[ih,vC]
   cases i with
   | zero=>rfl
   | succ i=>rw[show Nat.beq (i+1) 0=false from rfl];simp
theorem Aa (l:List α) (i:Nat) (d:α):E1 l i d=l.getD i d:=by
 unfold E1;rw[iR,List.getD_eq_getElem?_getD];cases l[i]? <;>rfl
theorem g_ (l:List α):j7 l=l.length:=by
 induction l with
 | nil=>rfl
 | cons y tl ih=>show j7 tl+1=_;rw[ih];rfl
theorem pB (l m:List α):mN l m=l++m:=by
 induction l with
 | nil=>rfl
 | cons y tl ih=>show y::mN tl m=_;rw[ih];rfl
end
noncomputable def CX (p:Program) (t:TypeId):Option TypeInfo:=ob (p.info? t) (fun i=>some i) (j8 p.types.toList t)
noncomputable def ac5 (i:TypeInfo) (p:Program):Option TypeDesc:=TypeDesc.rec (motive:=fun _=>Option TypeDesc) (some i.desc) (some i.desc) (fun _=>some i.desc) (fun _=>some i.desc) (fun _=>some i.desc) (some i.desc) (some i.desc)
 (fun _=>some i.desc) (fun _=>some i.desc) (fun _ _=>some i.desc) (fun _ _=>some i.desc) (fun _ _=>some i.desc) (fun _=>some i.desc) (fun _ _ _=>some i.desc) (fun _=>some i.desc) (fun _=>some i.desc)
 (fun _ u=>ob none (fun j=>some j.desc) (CX p u)) i.desc
noncomputable def lx (p:Program) (t:TypeId):Option TypeDesc:=ob none (fun i=>ac5 i p) (CX p t)
theorem vD (p:Program) (t:TypeId):CX p t=p.info? t:=by
 unfold CX;rw[iR,Array.getElem?_toList]
 cases h:p.types[t]? with
 | none=>rfl
 | some i=>
   show some i=p.info? t
   unfold Tables.info?
   obtain ⟨nN,_⟩:=Array.getElem?_eq_some_iff.mp h
   rw[if_pos nN,h]
theorem jX (p:Program) (t:TypeId):lx p t=p.underlying t:=by
 unfold lx Program.underlying
 rw[vD]
 cases p.info? t with
 | none=>rfl
 | some i=>
   show ac5 i p=_
   obtain ⟨d,_⟩:=i
   cases d with
   | named a u=>show ob none (fun j=>some j.desc) (CX p u)=Option.map (fun x=>x.desc) (p.info? u);rw[vD];cases p.info? u<;>rfl
   | _=>rfl
noncomputable def aec (p:Program) (f:FuncId):Option Func:=j8 p.funcs.toList f
theorem aax (p:Program) (f:FuncId):aec p f=p.funcs[f]? :=by
 unfold aec;rw[iR];exact Array.getElem?_toList
variable (E:Env)
noncomputable def rW (op:Op):Bool:=match op with
 | .store .. | .mapUpdate .. | .insert .. | .next .. | .panic _ | .defer _=>true
 | .convert _ dst _=>match lx E.P dst with
   | some (.slice _)=>true
   | _=>false
 | .call c=>match c.callee with
   | .builtin .len | .builtin .cap | .builtin .max | .builtin .min=>false
   | .builtin _=>true
   | .value (.func f)=>match E.n9 f with
     | none=>true
     | some _=>false
   | _=>true
 | _=>false
theorem vE (op:Op):rW E op=gP E op:=by
 unfold rW gP
 cases op<;>try rfl
 · simp only[jX]
   rename_i dst _
   generalize E.P.underlying dst=u
   cases u with
   | none=>rfl
   | some d=>cases d<;>rfl
 · rename_i c
   rcases c with ⟨cU,a,t⟩
   cases cU with
   | value x=>
     cases x with
     | func f=>simp only;cases E.n9 f<;>rfl
     | _=>rfl
   | builtin b=>cases b<;>rfl
   | _=>rfl
noncomputable def ac6 (g:Ground):Bool:=Ground.rec (motive:=fun _=>Bool) true true true true (fun _=>false) (fun _=>false) g
noncomputable def yJ (o:Oper):List Nat:=List.rec (motive:=fun _=>List Nat) [] (fun e _ ih=>bc (ac6 e.ground) (e.on::ih) ih) o.after.toList
theorem IH (o:Oper):yJ o=mh o:=by
 unfold yJ mh
 induction o.after.toList with
 | nil=>rfl
 | cons e tl ih=>
   show bc (ac6 e.ground) (e.on::_) _=_
   rw[ih,List.filter_cons]
   obtain ⟨on,g⟩:=e
   cases g<;>rfl
noncomputable def aay (l:List Nat) (x:Nat):List Nat:=bc (DF l x) l (x::l)
noncomputable def Rw (acc:List (List Nat)) (es:List Nat):List Nat:=J_ (fun l e=>J_ aay (E1 acc e []) (aay l e)) es []
noncomputable def V9 (l:List Oper):List (List Nat)→List (List Nat):=List.rec (motive:=fun _=>List (List Nat)→List (List Nat)) (fun acc=>acc) (fun o _ ih acc=>rp (Rw acc (yJ o)) fun a=>rp (mN acc [a]) ih) l
theorem Rx (l:List Nat) (x:Nat):aay l x=if l.contains x then l else x::l:=by
 unfold aay;rw[wZ,vC];cases l.contains x<;>rfl
theorem V_ (acc:List (List Nat)) (o:Oper):Rw acc (yJ o)=(mh o).foldl (fun l e=>(acc.getD e []).foldl (fun l x=>if l.contains x then l else x::l) (if l.contains e then l else e::l)) []:=by
 unfold Rw
 rw[IG,IH]
 congr 1
 funext l e
 rw[IG,Aa,Rx]
 congr 1
 funext l x
 exact Rx l x
theorem MO:∀(l:List Oper) (acc:List (List Nat)),V9 l acc=Ma l acc
 | [],_=>rfl
 | o::rest,acc=>by
   show rp (Rw acc (yJ o)) (fun a=>rp (mN acc [a]) (V9 rest))=_
   rw[B1,B1,MO rest,pB,V_];rfl
noncomputable def qa (an:List (List Nat)) (i j:Nat):Bool:=DF (E1 an i []) j
theorem rX (an:List (List Nat)) (i j:Nat):qa an i j=eM an i j:=by
 unfold qa eM Mb;rw[wZ,Aa]
noncomputable def E2 (ops:List Oper) (an:List (List Nat)):Bool:=
 allI (fun o i=>bc (B0 (fun e=>bc (Nat.ble (Nat.add e 1) i) (qa an i e) false) (yJ o)) (B0 (fun j=>bc (Nat.ble (Nat.add j 1) i) (aeb (fun e=>bc (Nat.beq e j) true (qa an e j)) (yJ o)) false) (E1 an i [])) false) ops 0
theorem w7 (a b:Nat):decide (a<b)=Nat.ble (a+1) b:=by
 by_cases h:a<b
 · rw[decide_eq_true h,Nat.ble_eq_true_of_le h]
 · rw[decide_eq_false h];symm;rw[Bool.eq_false_iff];intro e;exact h (Nat.le_of_ble_eq_true e)
theorem qb (a b:Bool):bc a b false=(a&&b):=by cases a<;>rfl
theorem ac7 (a b:Bool):bc a true b=(a||b):=by cases a<;>rfl
theorem MP (ops:List Oper) (an:List (List Nat)):E2 ops an=D8 ops an:=by
 unfold E2 D8
 rw[J']
 congr 1
 funext ⟨o,i⟩
 simp only[qb,ac7,ti,aaw,Aa,IH,rX,w7,DG]
 rfl
noncomputable def aed (l:List Operand):List Nat:=List.rec (motive:=fun _=>List Nat) [] (fun x _ ih=>Operand.rec (motive:=fun _=>List Nat) (fun t=>t::ih) (fun _=>ih) (fun _=>ih) (fun _=>ih) x) l
theorem aaz (l:List Operand):aed l=l.filterMap fun | .tmp t=>some t | _=>none:=by
 induction l with
 | nil=>rfl
 | cons x tl ih=>
   cases x<;>simp only[List.filterMap_cons,←ih]<;>rfl
noncomputable def opL (op:Op):List Operand:=match op with
 | .move x | .assign x | .box _ x | .load _ x | .nilCheck x | .unOp _ _ x | .convert _ _ x | .fieldAddr _ x _ | .field _ x _ | .extract x _=> [x]
 | .pick c a b=> [c,a,b]
 | .store _ a v | .binOp _ _ a v _ | .indexAddr _ a v | .index _ a v=> [a,v]
 | .alloc _=> []
 | .call c=>mN (match c.callee with | .value f=> [f] | .invoke r _=> [r] | .builtin _=> []) c.args.toList
 | op=>op.operands.toList
theorem aee (op:Op):opL op=op.operands.toList:=by
 cases op<;>try rfl
 rename_i c
 obtain ⟨cU,a,t⟩:=c
 cases cU<;>simp [opL,Op.operands,Call.operands,pB]
noncomputable def E3 (ops:List Oper) (an:List (List Nat)):Bool:=
 allI (fun o i=>bc (ob true (fun g=>bc (qa an i g.1) (ob false (fun p=>ob false (fun _=>true) p.dst) (j8 ops g.1)) false) o.guard)
  (allI (fun p j=>bc (Nat.beq i j) true (ob true (fun d=>bc (ob true (fun a=>yI (Nat.beq a d)) o.dst) (bc (DF (aed (opL o.op)) d) (bc (qa an i j) true (qa an j i)) true) false) p.dst)) ops 0) false) ops 0
theorem MQ (ops:List Oper) (an:List (List Nat)):E3 ops an=D9 ops an:=by
 unfold E3 D9
 rw[J']
 congr 1
 funext ⟨o,i⟩
 simp only[qb,ac7,rX]
 congr 1
 · obtain ⟨dst,op,ty,pos,after,guard⟩:=o
   cases guard with
   | none=>rfl
   | some g=>
     show (eM an i g.1&&ob false (fun p=>ob false (fun _=>true) p.dst) (j8 ops g.1))=_
     rw[iR]
     congr 1
     cases ops[g.1]? with
     | none=>rfl
     | some p=>
       show ob false (fun _=>true) p.dst=(p.dst).isSome
       cases p.dst<;>rfl
 · rw[J']
   congr 1
   funext ⟨p,j⟩
   show (Nat.beq i j||_)=(i==j||_)
   rw[DG]
   congr 1
   obtain ⟨dst,op,ty,pos,after,guard⟩:=p
   cases dst with
   | none=>rfl
   | some d=>
     show (ob true (fun a=>yI (Nat.beq a d)) o.dst&&bc (DF (aed (opL o.op)) d) (eM an i j||eM an j i) true)=(o.dst !=some d&&(!(tmpsOf o).contains d||eM an i j||eM an j i))
     congr 1
     · cases o.dst with
       | none=>rfl
       | some a=>
         show yI (Nat.beq a d)= !(some a==some d)
         rw[Option.some_beq_some,DG]
         cases Nat.beq a d<;>rfl
     · rw[wZ,aaz,aee,Bool.or_assoc]
       show bc ((tmpsOf o).contains d) _ _=_
       cases (tmpsOf o).contains d<;>rfl
noncomputable def Px (an:List (List Nat)) (l:List Nat):Bool:=List.rec (motive:=fun _=>Bool) true (fun e rest ih=>List.rec (motive:=fun _=>Bool) true (fun f _ _=>bc (qa an f e) ih false) rest) l
theorem II (an:List (List Nat)):∀l,Px an l=wJ an l
 | []=>rfl
 | [e]=>rfl
 | e::f::rest=>by
   show bc (qa an f e) (Px an (f::rest)) false=_
   rw[II an (f::rest),rX,qb];rfl
noncomputable def V' (ops:List Oper):List Nat:=ML (fun o _=>rW E o.op) ops 0
theorem Wa (ops:List Oper):V' E ops=o4 E ops:=by
 unfold V' o4;rw[MN];simp only[vE]
noncomputable def IJ (bT:List Nat) (an:List (List Nat)) (i:Nat):Nat:=J9 (fun e=>qa an i e) bT
theorem MR (bT:List Nat) (an:List (List Nat)) (i:Nat):IJ bT an i=JK bT an i:=by
 unfold IJ JK;rw[Ty];simp only[rX]
noncomputable def Ka (ops:List Oper) (bT:List Nat) (an:List (List Nat)) (k:Nat):List Nat:=
 mN (ML (fun o i=>bc (rW E o.op) false (Nat.beq (IJ bT an i) k)) ops 0) (ob [] (fun x=> [x]) (j8 bT k))
theorem TA (ops:List Oper) (bT:List Nat) (an:List (List Nat)) (k:Nat):Ka E ops bT an k=group E ops bT an k:=by
 unfold Ka group
 rw[pB,MN,iR]
 congr 1
 · congr 1
   congr 1
   funext ⟨o,i⟩
   show bc (rW E o.op) false (Nat.beq (IJ bT an i) k)=(!gP E o.op&&(JK bT an i==k))
   rw[vE,MR,DG];cases gP E o.op<;>rfl
 · cases bT[k]? <;>rfl
noncomputable def Kb (ops:List Oper) (bT:List Nat) (an:List (List Nat)) (n:Nat):Nat→List Nat:=
 Nat.rec (motive:=fun _=>Nat→List Nat) (fun _=> []) (fun _ ih k=>mN (Ka E ops bT an k) (canon (Nat.add k 1) ih)) n
theorem E4 (ops:List Oper) (bT:List Nat) (an:List (List Nat)):∀n k,Kb E ops bT an n k=pP E ops bT an n k
 | 0,_=>rfl
 | n+1,k=>by
   show mN (Ka E ops bT an k) (canon (k+1) (Kb E ops bT an n))=_
   rw[mR,E4 ops bT an n,pB,TA];rfl
noncomputable def D_ (bT:List Nat) (an:List (List Nat)) (i:Nat):Nat:=Pv (fun e=>yI (qa an e i)) bT
theorem Py (bT:List Nat) (an:List (List Nat)) (i:Nat):D_ bT an i=lO bT an i:=by
 unfold D_ lO;rw[Tz];congr 2;funext e;rw[rX];cases eM an e i<;>rfl
noncomputable def Pz (n:Nat):List Nat→List Nat:=Nat.rec (motive:=fun _=>List Nat→List Nat) (fun l=>l) (fun m ih l=>ih (m::l)) n
theorem IK:∀n l,Pz n l=List.range.loop n l
 | 0,_=>rfl
 | n+1,l=>IK n (n::l)
noncomputable def Kc (ops:List Oper) (an:List (List Nat)) (bT:List Nat) (l:List Nat):List Nat→Nat→Bool:=
 List.rec (motive:=fun _=>List Nat→Nat→Bool) (fun seen k=>bc (B0 (fun i=>DF seen i) (Pz (j7 ops) [])) (Nat.beq k (j7 bT)) false)
  (fun i _ ih seen k=>bc (Nat.ble (Nat.add i 1) (j7 ops)) (bc (DF seen i) false (bc (B0 (fun j=>DF seen j) (E1 an i []))
   (bc (ob (rW E (default:Oper).op) (fun o=>rW E o.op) (j8 ops i)) (bc (ob false (fun e=>Nat.beq e i) (j8 bT k)) (canon (Nat.add k 1) (ih (i::seen))) false)
    (bc (Nat.beq (IJ bT an i) k) (ih (i::seen) k) false)) false)) false) l
theorem B2 (ops:Array Oper) (an:List (List Nat)) (bT:List Nat):∀l seen k,Kc E ops.toList an bT l seen k=mi E ops an bT l seen k
 | [],seen,k=>by
   show bc (B0 (fun i=>DF seen i) (Pz (j7 ops.toList) [])) (Nat.beq k (j7 bT)) false=_
   rw[qb,ti,IK,g_,g_]
   simp only[wZ]
   unfold mi
   rw[DG,Array.length_toList]
   rfl
 | i::rest,seen,k=>by
   show bc (Nat.ble (i+1) (j7 ops.toList)) (bc (DF seen i) false (bc (B0 (fun j=>DF seen j) (E1 an i []))
    (bc (ob (rW E (default:Oper).op) (fun o=>rW E o.op) (j8 ops.toList i)) (bc (ob false (fun e=>Nat.beq e i) (j8 bT k)) (canon (k+1) (Kc E ops.toList an bT rest (i::seen))) false)
     (bc (Nat.beq (IJ bT an i) k) (Kc E ops.toList an bT rest (i::seen) k) false)) false)) false=_
   rw[mR,B2 ops an bT rest,B2 ops an bT rest,ti,Aa,wZ,MR,g_]
   simp only[wZ]
   rw[show ob (rW E (default:Oper).op) (fun o=>rW E o.op) (j8 ops.toList i)=gP E ((ops.getD i default).op) by
    rw[iR,vE]
    rw[show ops.getD i default=(ops.toList[i]?).getD default by rw[Array.getElem?_toList,Array.getD_eq_getD_getElem?]]
    cases ops.toList[i]? with
    | none=>rfl
    | some o=>exact vE E o.op]
   rw[show ob false (fun e=>Nat.beq e i) (j8 bT k)=(bT[k]? ==some i) by rw[iR];cases bT[k]? with
    | none=>rfl
    | some e=>rw[Option.some_beq_some,DG];rfl]
   rw[mi,w7]
   simp only[qb]
   rw[←DG (JK bT an i) k,show ops.toList.length=ops.size from Array.length_toList]
   rw[vC,vC]
   show (Nat.ble (i+1) ops.size&&(bif List.contains seen i then false else _))=_
   unfold Mb
   cases Nat.ble (i+1) ops.size<;>cases List.contains seen i<;>cases (an.getD i []).all (fun j=>List.contains seen j)<;>cases gP E ((ops.getD i default).op)<;>rfl
noncomputable def nin (x:Nat) (l:List Nat):Bool:=List.rec (motive:=fun _=>Bool) true (fun y _ ih=>bc (Nat.beq x y) false ih) l
noncomputable def Ke (l:List Nat):Bool:=List.rec (motive:=fun _=>Bool) true (fun x tl ih=>bc (nin x tl) ih false) l
theorem aef (x:Nat) (l:List Nat):nin x l= !l.contains x:=by
 induction l with
 | nil=>rfl
 | cons y tl ih=>
   show bc (Nat.beq x y) false (nin x tl)=_
   rw[ih,List.contains_cons,DG]
   cases Nat.beq x y<;>rfl
theorem B3:∀l,Ke l=nodup l
 | []=>rfl
 | x::tl=>by
   show bc (nin x tl) (Ke tl) false=_
   rw[B3 tl,aef,qb];rfl
noncomputable def Wb {R:Type} (ops:Array Oper) (k:nL→R) (d:R):R:=
 rp ops.toList fun l=>rp (V9 l []) fun an=>rp (V' E l) fun bT=>rp (Kb E l bT an (Nat.add (j7 bT) 1) 0) fun order=>
 bc (E2 l an) (bc (E3 l an) (bc (Px an bT) (bc (Ke bT) (bc (Kc E l an bT order [] 0) (k ⟨an,bT,order⟩) d) d) d) d) d
theorem Wc {R:Type} (ops:Array Oper) (k:nL→R) (d:R):Wb E ops k d=match vh E ops with | some pl=>k pl | none=>d:=by
 unfold Wb vh
 simp only[B1,MO,Wa,E4,MP,MQ,II,B3,B2,g_]
 generalize D8 ops.toList (Ma ops.toList [])=a
 generalize D9 ops.toList (Ma ops.toList [])=b
 generalize wJ (Ma ops.toList []) (o4 E ops.toList)=c
 generalize nodup (o4 E ops.toList)=e
 show bc a (bc b (bc c (bc e (bc (mi E ops _ _ (pP E ops.toList _ _ ((o4 E ops.toList).length+1) 0) [] 0) _ d) d) d) d) d=_
 generalize mi E ops (Ma ops.toList []) (o4 E ops.toList) (pP E ops.toList (o4 E ops.toList) (Ma ops.toList []) ((o4 E ops.toList).length+1) 0) [] 0=f
 cases a<;>cases b<;>cases c<;>cases e<;>cases f<;>rfl
end Go.Ab.Fa
end
