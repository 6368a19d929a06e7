import Derived.Test.YthapgpflpcffnaaGreatDoorA3
import Derived.Test.YthapgpflpcffnaaGreatDoorA0
set_option linter.unusedVariables false
set_option linter.unusedSimpArgs false
section
namespace Go.Ab
variable {E:Env}
theorem nM (hE:fm E) {call:aI} (bG:dy E call) {ops:Array Oper}:∀{l:List Oper} {is:List Nat} (_:is.length=l.length) (_:∀(j i:Nat),is[j]? =some i→l[j]? =ops[i]?) {s s':St} {e:fi} (_:eV E call ops l s= .ok e s')
 {φ:Ph} {a:Act} {w:World} {b:Frame} {k:List Item} {K:Bool→List Frame} (_:SR φ s.ts s.ds a) (_:OK E φ s.h w) (_:ia φ b K s.rc),
 jX E φ s.h w b K k (lone (b.atR a (.inRegion ops is::k)) (cur K s.rc) w) e s'
 | [],is,hl,hi,s,s',e,h,φ,a,w,b,k,K,hs,ok,cU=>by
   cases is with
   | cons _ _=>simp at hl
   | nil=>
     simp [eV] at h;obtain ⟨rfl,rfl⟩:=h
     exact ⟨φ,w,a,_,.normal,hs,ok,Fr.refl _ _ _,cU,.one stepR_region_end⟩
 | o::l,is,hl,hi,s,s',e,h,φ,a,w,b,k,K,hs,ok,cU=>by
   cases is with
   | nil=>simp at hl
   | cons i is=>
     have ho:ops[i]? =some o:=by have:=hi 0 i (by simp);simpa using this.symm
     have JT:is.length=l.length:=by simpa using hl
     have xf:∀(j i':Nat),is[j]? =some i'→l[j]? =ops[i']? :=fun j i' hj=>by have:=hi (j+1) i' (by simpa using hj);simpa using this
     simp only[eV] at h
     have JV:=nH (ops:=ops) hs.ts o
     split at h
     · rename_i hw
       rw[←JV] at hw
       split at h
       · rename_i s1 jP
         obtain ⟨φ1,w1,a1,e1,x1,x2,x3,x4,x5,x6⟩:=(vK hE bG ho jP hs ok cU hw (rest:=is) (k:=k)).is
         cases x1
         exact ((nM hE bG JT xf h x2 x3 x5).of_steps x6).later x4
       · rename_i bY
         obtain ⟨φ1,w1,a1,e1,x1,x2,x3,x4,x5,x6⟩:=(vK hE bG ho h hs ok cU hw (rest:=is) (k:=k)).is
         cases x1 with
         | normal=>exact (bY _ h).elim
         | exit=>exact x6.elim
         | ret=>exact x6.elim
         | panic v v' hv=>exact ⟨φ1,w1,a1,_,.panic v v' hv,x2,x3,x4,x5,x6⟩
     · rename_i hw
       have kn:SR φ (bR s.ts o.dst AV.undef) s.ds (a.put o.dst undef):=hs.put o.dst (VR.undef φ)
       refine (nM hE bG JT xf h kn ok cU).of_steps (.one ?_)
       have:=stepR_op_skip (P:=E.P) (b:=b) (a:=a) (k:=k) (cs:=cur K s.rc) (w:=w) (ops:=ops) (i:=i) (rest:=is) (by rw[ho];simp;rw[JV];simpa using hw)
       rw[this,ho];rfl
set_option maxHeartbeats 1000000 in
theorem nN (hE:fm E) {call:aI} (bG:dy E call):∀(n:Nat) (c:Code) {s s':St} {e:fi} (_:exec E call n c s= .ok e s')
 {φ:Ph} {a:Act} {w:World} {b:Frame} {k:List Item} {K:Bool→List Frame} (_:SR φ s.ts s.ds a) (_:OK E φ s.h w) (_:ia φ b K s.rc) (_:(E.P.funcs[b.fn]?).isSome=true),
 jX E φ s.h w b K k (lone (b.atR a (.code c::k)) (cur K s.rc) w) e s'∧∀c',c= .loop c'→jX E φ s.h w b K k (lone (b.atR a (.code c':: .inLoop c'::k)) (cur K s.rc) w) e s':=by
 intro n
 induction n with
 | zero=>intro c s s' e h;simp [exec] at h
 | succ n WB=>
   have ih:∀(c:Code) {s s':St} {e:fi} (_:exec E call n c s= .ok e s')
    {φ:Ph} {a:Act} {w:World} {b:Frame} {k:List Item} {K:Bool→List Frame} (_:SR φ s.ts s.ds a) (_:OK E φ s.h w) (_:ia φ b K s.rc) (_:(E.P.funcs[b.fn]?).isSome=true),
    jX E φ s.h w b K k (lone (b.atR a (.code c::k)) (cur K s.rc) w) e s':=fun c _ _ _ h _ _ _ _ _ _ hs ok cU vd=>(WB c h hs ok cU vd).1
   intro c s s' e h φ a w b k K hs ok cU vd
   have MC:∀c',c= .loop c'→jX E φ s.h w b K k (lone (b.atR a (.code c':: .inLoop c'::k)) (cur K s.rc) w) e s':=by
    rintro c rfl
    simp only[exec] at h
    split at h
    · rename_i s1 h1
      obtain ⟨φ1,w1,a1,e1,x1,x2,x3,x4,x5,x6⟩:=(ih c h1 hs ok cU vd (k:= .inLoop c::k)).is
      cases x1
      exact (((WB (.loop c) h x2 x3 x5 vd).2 c rfl).of_steps (Steps.trans x6 (.one stepR_inLoop))).later x4
    · rename_i bY
      obtain ⟨φ1,w1,a1,e1,x1,x2,x3,x4,x5,x6⟩:=(ih c h hs ok cU vd (k:= .inLoop c::k)).is
      refine ⟨φ1,w1,a1,e1,x1,x2,x3,x4,x5,.pass (x:= .inLoop c) (fun _=>rfl) ?_ x6⟩
      cases x1 with
      | normal=>exact (bY _ h).elim
      | exit=>simp
      | ret=>simp
      | panic=>simp
   refine ⟨?_,MC⟩
   cases c with
   | skip=>simp [exec] at h;obtain ⟨rfl,rfl⟩:=h;exact ⟨φ,w,a,_,.normal,hs,ok,Fr.refl _ _ _,cU,.one stepR_skip⟩
   | label l=>simp [exec] at h;obtain ⟨rfl,rfl⟩:=h;exact ⟨φ,w,a,_,.normal,hs,ok,Fr.refl _ _ _,cU,.one stepR_label⟩
   | ret=>simp [exec] at h;obtain ⟨rfl,rfl⟩:=h;exact ⟨φ,w,a,_,.ret,hs,ok,Fr.refl _ _ _,cU,k,Steps.refl _ _⟩
   | exit id=>simp [exec] at h;obtain ⟨rfl,rfl⟩:=h;exact ⟨φ,w,a,_,.exit id,hs,ok,Fr.refl _ _ _,cU,k,rfl,Steps.refl _ _⟩
   | seq x y=>
     simp only[exec] at h
     split at h
     · rename_i s1 h1
       obtain ⟨φ1,w1,a1,e1,x1,x2,x3,x4,x5,x6⟩:=(ih x h1 hs ok cU vd (k:= .code y::k)).is
       cases x1
       exact ((ih y h x2 x3 x5 vd).of_steps (.head stepR_seq x6)).later x4
     · rename_i bY
       obtain ⟨φ1,w1,a1,e1,x1,x2,x3,x4,x5,x6⟩:=(ih x h hs ok cU vd (k:= .code y::k)).is
       refine ⟨φ1,w1,a1,e1,x1,x2,x3,x4,x5,.of_steps (.one stepR_seq) (.pass (x:= .code y) (fun _=>rfl) ?_ x6)⟩
       cases x1 with
       | normal=>exact (bY _ h).elim
       | exit=>simp
       | ret=>simp
       | panic=>simp
   | cond x y z=>
     simp only[exec] at h
     split at h
     · rename_i hx
       have h1:=hZ ok.gl hs.ts hx
       generalize fG:a.eval x=cv at h1
       cases h1
       exact (ih y h hs ok cU vd).of_steps (.one (stepR_cond fG))
     · rename_i hx
       have h1:=hZ ok.gl hs.ts hx
       generalize fG:a.eval x=cv at h1
       cases h1
       exact (ih z h hs ok cU vd).of_steps (.one (stepR_cond fG))
     · simp at h
   | block id c=>
     simp only[exec] at h
     split at h
     · rename_i FK s1 h1
       obtain ⟨φ1,w1,a1,e1,x1,x2,x3,x4,x5,x6⟩:=(ih c h1 hs ok cU vd (k:= .inBlock id::k)).is
       cases x1
       split at h
       · rename_i Ua
         simp at h;obtain ⟨rfl,rfl⟩:=h
         obtain ⟨todo,ht,er⟩:=x6
         exact ⟨φ1,w1,a1,_,.normal,x2,x3,x4,x5,.head stepR_block (Steps.trans er (.one (stepR_exit (by rw[ht];simp [exitTo,Ua]))))⟩
       · rename_i Ua
         simp at h;obtain ⟨rfl,rfl⟩:=h
         obtain ⟨todo,ht,er⟩:=x6
         refine ⟨φ1,w1,a1,_,.exit FK,x2,x3,x4,x5,todo,?_,.head stepR_block er⟩
         have:(id==FK)=false:=by simp;exact fun h=>Ua h.symm
         rw[ht];simp [exitTo,this]
     · rename_i bY
       obtain ⟨φ1,w1,a1,e1,x1,x2,x3,x4,x5,x6⟩:=(ih c h hs ok cU vd (k:= .inBlock id::k)).is
       cases x1 with
       | normal=>exact ⟨φ1,w1,a1,_,.normal,x2,x3,x4,x5,.head stepR_block (Steps.trans x6 (.one stepR_inBlock))⟩
       | exit FK=>exact (bY _ _ h).elim
       | ret=>exact ⟨φ1,w1,a1,_,.ret,x2,x3,x4,x5,.of_steps (e:= .ret) (k:=k) (.one stepR_block) x6⟩
       | panic v v' hv=>exact ⟨φ1,w1,a1,_,.panic v v' hv,x2,x3,x4,x5,.of_steps (e:= .panic _) (k:=k) (.one stepR_block) x6⟩
   | loop c=>exact (MC c rfl).of_steps (.one stepR_loop)
   | region id ops draw=>
     simp only[exec] at h
     cases draw with
     | false=>
       have jP:=nM hE bG (ops:=ops) (l:=ops.toList) (is:=List.range ops.size) (by simp) (fun j i hj=>by
        have:=List.getElem?_eq_some_iff.1 hj
        obtain ⟨h1,h2⟩:=this
        simp at h1 h2;subst h2;simp) h hs ok cU (b:=b) (k:=k)
       exact jP.of_steps (.one stepR_region)
     | true=>
       obtain ⟨h1,h2,⟨rfl,φ',a',w',x1,x2,x3,x4,x5⟩ | ⟨v,rfl,hp⟩⟩:=zD hE hE.mixed bG h hs ok cU (b:=b) (k:=k) id
       · refine ⟨φ',w',a',_,.normal,⟨x1,by rw[h2,x2];exact hs.ds.mono x4.ext⟩,x3,x4,by rw[h1];exact cU.mono x4.ext,?_⟩
         rw[h1];exact x5
       · obtain ⟨φ',a',w',v',todo,x0,x1,x2,x3,x4,x5⟩:=hp.is
         refine ⟨φ',w',a',_,.panic v v' x0,⟨x1,by rw[h2,x2];exact hs.ds.mono x4.ext⟩,x3,x4,by rw[h1];exact cU.mono x4.ext,todo,?_⟩
         rw[h1];exact x5
   | rangeFunc f ps a1 b1=>
     simp only[exec] at h
     exact xG bG h hs ok cU vd
   | scope c=>
     simp only[exec] at h
     have s1:∀{m},Steps E.P (lone (b.atR a (.code c:: .inScope c::k)) (cur K s.rc) w) m→Steps E.P (lone (b.atR a (.code (.scope c)::k)) (cur K s.rc) w) m:=fun q=> .head (step_lone_go (by simp [stepG,stepG.exec,Frame.atR])) q
     obtain ⟨φ1,w1,a1,e1,x1,x2,x3,x4,x5,x6⟩:=(ih c h hs ok cU vd (k:= .inScope c::k)).is
     cases x1 with
     | normal=>exact ⟨φ1,w1,a1,_,.normal,x2,x3,x4,x5,s1 (Steps.trans x6 (.one (step_lone_go (by simp [stepG,stepG.exec,Frame.atR]))))⟩
     | exit FK=>exact ⟨φ1,w1,a1,_,.exit FK,x2,x3,x4,x5,.of_steps (e:= .exit FK) (k:=k) (s1 (Steps.refl _ _)) (.pass (x:= .inScope c) (fun _=>rfl) (by simp) x6)⟩
     | ret=>exact ⟨φ1,w1,a1,_,.ret,x2,x3,x4,x5,.of_steps (e:= .ret) (k:=k) (s1 (Steps.refl _ _)) (.pass (x:= .inScope c) (fun _=>rfl) (by simp) x6)⟩
     | panic v v' hv=>exact ⟨φ1,w1,a1,_,.panic v v' hv,x2,x3,x4,x5,.of_steps (e:= .panic _) (k:=k) (s1 (Steps.refl _ _)) (.pass (x:= .inScope c) (fun _=>rfl) (by simp) x6)⟩
   | goto l=>simp [exec] at h
   | refuse why=>simp [exec] at h
end Go.Ab
end
section
namespace Go.Ab
variable {E:Env}
theorem zG {φ:Ph} {h:ah} {w:World} (ok:OK E φ h w) {ts:List AV} {tmps:Array Value} (ht:LR φ ts tmps.toList):∀{l:List ResultVar} {vs:List AV} (_:fB E h ts l=some vs),
 ∃jw,LR φ vs jw∧(l.mapM (fun | .tmp t=>pure (tmps.getD t undef) | .cell a t=>do loadVar t (←asAddr (tmps.getD a undef)):ResultVar→Sem Value)).run E.P w= .ok jw w
 | [],vs,h=>by simp [fB] at h;subst h;exact ⟨[],LR.nil φ,rfl⟩
 | r::rest,vs,h=>by
   have cX:∀t,VR φ (ts.getD t AV.undef) (tmps.getD t undef):=fun t=>by
    have:=ht.getD (VR.undef φ) t
    rw[show tmps.getD t undef=tmps.toList.getD t undef by simp [Array.getD_eq_getD_getElem?,List.getD]]
    exact this
   simp only[fB] at h
   split at h
   · simp at h
   · rename_i v hv
     split at h
     · simp at h
     · rename_i vs0 BK
       simp at h;subst h
       obtain ⟨jw,hl,hr⟩:=zG ok ht BK
       cases r with
       | tmp t=>
         simp at hv;subst hv
         refine ⟨tmps.getD t undef::jw,.cons (by simpa using cX t) hl,?_⟩
         simp only[List.mapM_cons,Sem.run_bind,Sem.run_pure,Result.andThen_ok,hr]
       | cell ad t=>
         simp only at hv
         obtain ⟨x',hx,dq⟩:=vH ok (cX ad) hv
         refine ⟨x'::jw,.cons hx hl,?_⟩
         have WC:=dq w rfl
         have:(do loadVar t (←asAddr (tmps.getD ad undef)):Sem Value).run E.P w= .ok x' w:=by
          have Ey:=cX ad
          unfold aM at hv
          split at hv
          · rename_i i o heq
            rw[heq] at Ey
            generalize hq:tmps.getD ad undef=q at Ey WC
            cases Ey
            simpa [Instr.loadAt,Instr.sureAddr,asAddr] using WC
          · simp at hv
         simp only[List.mapM_cons]
         rw[Sem.run_bind,this]
         simp only[Sem.run_bind,Sem.run_pure,Result.andThen_ok,hr]
theorem lX {φ:Ph} {h:ah} {w:World} (ok:OK E φ h w) {ts:List AV} {tmps:Array Value} (ht:LR φ ts tmps.toList) {fn:Func} {vs:List AV} (hv:fB E h ts fn.results.toList=some vs):
 ∃v',VR φ (dp vs) v'∧(results fn tmps).run E.P w= .ok v' w:=by
 obtain ⟨jw,hl,hr⟩:=zG ok ht hv
 have hm:(fn.results.mapM (fun | .tmp t=>pure (tmps.getD t undef) | .cell a t=>do loadVar t (←asAddr (tmps.getD a undef)):ResultVar→Sem Value)).run E.P w= .ok jw.toArray w:=by
  rw[Array.mapM_eq_mapM_toList]
  show Sem.run E.P (Functor.map List.toArray (_:Sem (List Value))) w=_
  rw[Sem.run_map]
  refine (congrArg (fun r=>Result.andThen r _) hr).trans ?_
  rfl
 refine ⟨if h:jw.toArray.size=1 then jw.toArray[0] else .tuple jw.toArray,?_,?_⟩
 · cases vs with
   | nil=>rw[hl.dg];exact VR.tuple' (LR.nil φ)
   | cons v vs=>
     obtain ⟨y,ys,rfl,hy,ng⟩:=hl.bw
     cases vs with
     | nil=>rw[ng.dg];simpa [dp] using hy
     | cons v2 vs2=>
       obtain ⟨y2,Tt,rfl,Yd,Ub⟩:=ng.bw
       have:¬(y::y2::Tt).toArray.size=1:=by simp
       rw[dif_neg this]
       exact VR.tuple' (.cons hy (.cons Yd Ub))
 · unfold results
   rw[Sem.run_bind]
   refine (congrArg (fun r=>Result.andThen r _) hm).trans ?_
   rfl
def bare (f:FuncId) (kind:CallKind):Frame:={fn:=f,tmps:= #[],todo:=[],defers:=[],mode:= .run,kind:=kind,roundOf:=none}
theorem GF {P:Program} {f:FuncId} {fn:Func} {c:Code} (hf:P.funcs[f]? =some fn) (hb:fn.body=some c) (vs:List Value) (kind:CallKind):
 Frame.enter P f vs.toArray kind=(bare f kind).atR {tmps:=vs.toArray++Array.replicate (fn.ntmps - vs.length) undef,defers:=[]} [.code c]:=by
 simp [Frame.enter,Frame.atR,hf,hb,bare]
theorem lY (hE:fm E) {call:aI} (bG:dy E call) {fuel:Nat} {f:FuncId} {fn:Func} {c:Code} (hf:E.P.funcs[f]? =some fn) (hb:fn.body=some c) {args:List AV} {h:ah} {rc:RC} {e:fi} {s':St}
 (cP:ij E call fuel fn c args h rc= .ok e s') {φ:Ph} {w:World} {vs:List Value} (ok:OK E φ h w) (hl:LR φ args vs) {kind:CallKind} {K:Bool→List Frame} (cU:ia φ (bare f kind) K rc):
 jX E φ h w (bare f kind) K [] (lone (Frame.enter E.P f vs.toArray kind) (cur K rc) w) e s':=by
 rw[GF hf hb]
 refine (nN hE bG fuel c (s:={ts:=args++List.replicate (fn.ntmps - args.length) AV.undef,h,ds:=[],rc}) cP (a:={tmps:=vs.toArray++Array.replicate (fn.ntmps - vs.length) undef,defers:=[]}) (b:=bare f kind) (k:=[]) ⟨?_,trivial⟩ ok cU (by show (E.P.funcs[f]?).isSome=true;rw[hf];rfl)).1
 have:=hl.append (LR.replicate (VR.undef φ) (fn.ntmps - args.length))
 rw[hl.1] at this
 simpa [hl.1] using this
theorem enters {E:Env} (hE:fm E) {f:FuncId} {fn:Func} {c:Code} (hf:E.P.funcs[f]? =some fn) (hb:fn.body=some c) (vs:Array Value) (w:World):(callFunc f vs).run E.P w= .ok (.enter f vs) w:=by
 have hn:=hE.names f fn hf
 have:(fn.name== "runtime.NumGoroutine")=false:=by rw[beq_eq_false_iff_ne];exact hn
 simp only[callFunc,Sem.run_bind,run_program,Result.andThen_ok,hf,this,Bool.false_eq_true,if_false,hb,Option.isNone_some,Sem.run_pure]
noncomputable def dv (E:Env) (call:aI) (fuel:Nat) (g:FuncId) (as_:List AV) (h:ah) (rc:RC):Option (ah×RC):=match E.P.funcs[g]? with
 | none=>none
 | some fg=>match fg.body with
   | none=>none
   | some bg=>match ij E call fuel fg bg as_ h rc with
     | .ok .normal s'=>if s'.ds.isEmpty&&(fB E s'.h s'.ts fg.results.toList).isSome then some (s'.h,s'.rc) else none
     | .ok .ret s'=>if s'.ds.isEmpty&&(fB E s'.h s'.ts fg.results.toList).isSome then some (s'.h,s'.rc) else none
     | _=>none
theorem lZ {φ:Ph} {ds:List Deferred} (h:Mr φ [] ds):ds=[]:=by cases ds with | nil=>rfl | cons _ _=>exact h.elim
def ky (c:Bool→Frame):RC→Frame
 | .done=>{c true with mode:=settle (c true).mode}
 | _=>{c false with mode:=settle (c false).mode}
theorem l5 (hE:fm E) {call:aI} (bG:dy E call) {fuel:Nat} {g:FuncId} {as_:List AV} {h h':ah} {rc Kw:RC} (hd:dv E call fuel g as_ h rc=some (h',Kw)) {φ:Ph} {w:World} {vs:List Value}
 (ok:OK E φ h w) (hl:LR φ as_ vs) {c:Bool→Frame} {cs:List Frame} (cU:ia φ (bare g .deferred) (fun x=>c x::cs) rc):
 ∃φ' w',OK E φ' h' w'∧Fr φ h w φ' h' w'∧ia φ' (bare g .deferred) (fun x=>c x::cs) Kw∧(callFunc g vs.toArray).run E.P w= .ok (.enter g vs.toArray) w∧
  Steps E.P (lone (Frame.enter E.P g vs.toArray .deferred) (cur (fun x=>c x::cs) rc) w)
   (lone (ky c Kw) cs w'):=by
 unfold dv at hd
 split at hd
 · simp at hd
 rename_i fg hf
 split at hd
 · simp at hd
 rename_i bg hb
 have key:∀(s':St) (e:fi),(e= .normal∨e= .ret)→ij E call fuel fg bg as_ h rc= .ok e s'→s'.ds.isEmpty=true→(fB E s'.h s'.ts fg.results.toList).isSome=true→s'.h=h'→s'.rc=Kw→
  ∃φ' w',OK E φ' h' w'∧Fr φ h w φ' h' w'∧ia φ' (bare g .deferred) (fun x=>c x::cs) Kw∧(callFunc g vs.toArray).run E.P w= .ok (.enter g vs.toArray) w∧
  Steps E.P (lone (Frame.enter E.P g vs.toArray .deferred) (cur (fun x=>c x::cs) rc) w)
   (lone (ky c Kw) cs w'):=by
  intro s' e he cP BY vm hh hr
  subst hh;subst hr
  obtain ⟨φ',w',a',e',x1,x2,x3,x4,x5,x6⟩:=(lY hE bG hf hb cP ok hl (kind:= .deferred) cU).is
  refine ⟨φ',w',x3,x4,x5,enters hE hf hb _ w,?_⟩
  obtain ⟨jw,Uc⟩:=Option.isSome_iff_exists.1 vm
  obtain ⟨v',_,dq⟩:=lX x3 x2.ts Uc
  have Ud:a'.defers=[]:=lZ (by have:=x2.ds;rw[List.isEmpty_iff.1 BY] at this;exact this)
  have fin:∀todo,step E.P (lone {(bare g .deferred).atR a' todo with mode:= .returning} (cur (fun x=>c x::cs) s'.rc) w')=
   .next (lone (ky c s'.rc) cs w'):=fun todo=>by
   have vg:({(bare g .deferred).atR a' todo with mode:= .returning}:Frame).going E.P w' (.returned v'):=⟨rfl,Ud,fg,hf,dq⟩
   have hk:({(bare g .deferred).atR a' todo with mode:= .returning}:Frame).kind= .deferred:=rfl
   cases Ye:s'.rc with
   | no=>exact step_going_returned (c:=c false) (cs:=cs) hk vg
   | dV v=>exact step_going_returned (c:=c false) (cs:=cs) hk vg
   | done=>exact step_going_returned (c:=c true) (cs:=cs) hk vg
   | y_ l=>exact step_going_returned (c:=c false) (cs:=cs) hk vg
  rcases he with rfl | rfl
  · cases x1
    exact Steps.trans x6 (.head (stepR_end rfl) (.one (fin [])))
  · cases x1
    obtain ⟨todo,hs⟩:=x6
    exact Steps.trans hs (.head (stepR_ret rfl) (.one (fin _)))
 split at hd
 · rename_i s' cP
   split at hd
   · rename_i hc
     simp at hd;obtain ⟨rfl,rfl⟩:=hd
     simp only[Bool.and_eq_true] at hc
     exact key s' .normal (.inl rfl) cP hc.1 hc.2 rfl rfl
   · simp at hd
 · rename_i s' cP
   split at hd
   · rename_i hc
     simp at hd;obtain ⟨rfl,rfl⟩:=hd
     simp only[Bool.and_eq_true] at hc
     exact key s' .ret (.inr rfl) cP hc.1 hc.2 rfl rfl
   · simp at hd
 · simp at hd
theorem eQ (hE:fm E) {call:aI} (bG:dy E call) {fuel:Nat}:∀(ds:List iI) {p p':Option AV} {h h':ah} (_:bA (dv E call fuel) ds p h=some (p',h')) {φ:Ph} {w:World} {fr:Frame} {cs:List Frame}
 (_:OK E φ h w) (_:Mr φ ds fr.defers) (_:(p=none∧fr.mode= .returning)∨∃v v',p=some v∧VR φ v v'∧fr.mode= .panicking [{v:=v',recovered:=false}]),
 ∃φ' w' m',OK E φ' h' w'∧Fr φ h w φ' h' w'∧((p'=none∧m'= .returning)∨∃v v',p'=some v∧VR φ' v v'∧m'= .panicking [{v:=v',recovered:=false}])∧
  Steps E.P (lone fr cs w) (lone {fr with defers:=[],mode:=m'} cs w')
 | [],p,p',h,h',hu,φ,w,fr,cs,ok,BY,hp=>by
   simp [bA] at hu;obtain ⟨rfl,rfl⟩:=hu
   have:=lZ BY
   refine ⟨φ,w,fr.mode,ok,Fr.refl _ _ _,?_,?_⟩
   · exact hp
   · rw[←this];exact Steps.refl _ _
 | .Pn r::ds,p,p',h,h',hu,φ,w,fr,cs,ok,BY,hp=>by
   cases NO:fr.defers with
   | nil=>rw[NO] at BY;exact BY.elim
   | cons d' pX=>
   rw[NO] at BY
   obtain ⟨⟨l,hl,Kx⟩,GG⟩:=BY
   have GH:fr.mode≠ .run:=by
    rcases hp with ⟨_,hm⟩ | ⟨v,v',_,_,hm⟩<;>rw[hm]<;>simp
   simp only[bA] at hu
   split at hu
   · rename_i hg
     obtain ⟨_,hb⟩:=ok.live _ _ _ hg hl
     obtain ⟨zC,f1⟩:=ok.shut hg rfl hl (.deferred none)
     have FP:=step_collected (P:=E.P) (cs:=cs) GH NO Kx (run_takeDeferred hb)
     obtain ⟨φ2,w2,m2,sM,f2,GI,BZ⟩:=eQ hE bG ds hu (fr:={fr with defers:=[]++pX}) (cs:=cs) zC (by simpa using GG) hp
     exact ⟨φ2,w2,m2,sM,f1.trans f2,GI,.head FP BZ⟩
   · simp at hu
 | .call df WD::ds,p,p',h,h',hu,φ,w,fr,cs,ok,BY,hp=>by
   cases NO:fr.defers with
   | nil=>rw[NO] at BY;exact BY.elim
   | cons d' pX=>
   rw[NO] at BY
   obtain ⟨⟨cap,Kx,sw⟩,GG⟩:=BY
   have GH:fr.mode≠ .run:=by
    rcases hp with ⟨_,hm⟩ | ⟨v,v',_,_,hm⟩<;>rw[hm]<;>simp
   have hinv:∀(FQ:(callFunc df (d'.args++cap).toList.toArray).run E.P w= .ok (.enter df (d'.args++cap).toList.toArray) w),(invoke d'.target d'.args).run E.P w= .ok (.enter df (d'.args++cap).toList.toArray) w:=fun FQ=>by
    have e:(d'.args++cap).toList.toArray=d'.args++cap:=Array.toArray_toList ..
    rw[e] at FQ ⊢
    rw[Kx];exact FQ
   have FP:∀(FQ:(callFunc df (d'.args++cap).toList.toArray).run E.P w= .ok (.enter df (d'.args++cap).toList.toArray) w),step E.P (lone fr cs w)= .next (lone (Frame.enter E.P df (d'.args++cap).toList.toArray .deferred) ({fr with defers:=pX}::cs) w):=fun FQ=>step_defer GH NO Kx (hinv FQ)
   cases p with
   | none=>
     simp only[bA] at hu
     split at hu
     · rename_i h1 WE Qv
       have hm:fr.mode= .returning:=by
        rcases hp with ⟨_,hm⟩ | ⟨v,v',e,_,_⟩
        · exact hm
        · simp at e
       obtain ⟨φ1,w1,zC,f1,_,FQ,er⟩:=l5 hE bG Qv ok sw (c:=fun _=>{fr with defers:=pX}) (cs:=cs) ⟨rfl,fun Br hk=>by simp [tryRecover,show Br.kind= .deferred from hk,hm]⟩
       have pW:ky (fun _=>{fr with defers:=pX}) WE={fr with defers:=pX}:=by
        cases WE<;>simp [ky,hm,settle]
       rw[pW] at er
       obtain ⟨φ2,w2,m2,sM,f2,GI,BZ⟩:=eQ hE bG ds hu (fr:={fr with defers:=pX}) (cs:=cs) zC (GG.mono f1.ext) (.inl ⟨rfl,hm⟩)
       exact ⟨φ2,w2,m2,sM,f1.trans f2,GI,.head (FP FQ) (Steps.trans er BZ)⟩
     · simp at hu
   | some v=>
     obtain ⟨v',hv,hm⟩:∃v',VR φ v v'∧fr.mode= .panicking [{v:=v',recovered:=false}]:=by
      rcases hp with ⟨e,_⟩ | ⟨v1,v',e,hv,hm⟩
      · simp at e
      · simp at e;subst e;exact ⟨v',hv,hm⟩
     have cU:ia φ (bare df .deferred) (fun x=>(if x then {fr with defers:=pX,mode:= .panicking [{v:=v',recovered:=true}]} else {fr with defers:=pX})::cs) (.dV v):=
      ⟨rfl,⟨v',hv,fun Br hk=>by simp [tryRecover,show Br.kind= .deferred from hk,hm]⟩,fun Br hk=>by simp [tryRecover,show Br.kind= .deferred from hk]⟩
     simp only[bA] at hu
     split at hu
     · rename_i h1 v1 Qv
       obtain ⟨φ1,w1,zC,f1,_,FQ,er⟩:=l5 hE bG Qv ok sw (c:=fun x=>if x then {fr with defers:=pX,mode:= .panicking [{v:=v',recovered:=true}]} else {fr with defers:=pX}) (cs:=cs) cU
       have pW:ky (fun x=>if x then {fr with defers:=pX,mode:= .panicking [{v:=v',recovered:=true}]} else {fr with defers:=pX}) (.dV v1)={fr with defers:=pX}:=by simp [ky,hm,settle]
       rw[pW] at er
       simp only[Bool.false_eq_true,if_false,cur] at er
       obtain ⟨φ2,w2,m2,sM,f2,GI,BZ⟩:=eQ hE bG ds hu (fr:={fr with defers:=pX}) (cs:=cs) zC (GG.mono f1.ext) (.inr ⟨v,v',rfl,hv.mono f1.ext,hm⟩)
       exact ⟨φ2,w2,m2,sM,f1.trans f2,GI,.head (FP FQ) (Steps.trans er BZ)⟩
     · rename_i h1 Qv
       obtain ⟨φ1,w1,zC,f1,_,FQ,er⟩:=l5 hE bG Qv ok sw (c:=fun x=>if x then {fr with defers:=pX,mode:= .panicking [{v:=v',recovered:=true}]} else {fr with defers:=pX}) (cs:=cs) cU
       have pW:ky (fun x=>if x then {fr with defers:=pX,mode:= .panicking [{v:=v',recovered:=true}]} else {fr with defers:=pX}) .done={fr with defers:=pX,mode:= .returning}:=by simp [ky,settle]
       rw[pW] at er
       simp only[Bool.false_eq_true,if_false,cur] at er
       obtain ⟨φ2,w2,m2,sM,f2,GI,BZ⟩:=eQ hE bG ds hu (fr:={fr with defers:=pX,mode:= .returning}) (cs:=cs) zC (GG.mono f1.ext) (.inl ⟨rfl,rfl⟩)
       exact ⟨φ2,w2,m2,sM,f1.trans f2,GI,.head (FP FQ) (Steps.trans er BZ)⟩
     · simp at hu
theorem zH (hE:fm E) (fuel d:Nat) (ih:dy E (cW E d fuel)):(∀f args h v h',cW E (d+1) fuel (.fn f) args h= .ret v h'→eA E f args h v h')∧(∀f args h v h',cW E (d+1) fuel (.fn f) args h= .panic v h'→C4 E f args h v h'):=by
 have key:∀(f:FuncId) (args:List AV) (h:ah) (out:eg),cW E (d+1) fuel (.fn f) args h=out→(∀why q,out≠ .fail why q)→
  ∃fn c e s p,E.P.funcs[f]? =some fn∧fn.body=some c∧ij E (cW E d fuel) fuel fn c args h .no= .ok e s∧
   ((p=none∧(e= .normal∨e= .ret))∨∃v,p=some v∧e= .panic v)∧
   ((∃v h',out= .panic v h'∧bA (dv E (cW E d fuel) fuel) s.ds p s.h=some (some v,h'))∨
    ∃vs h',out= .ret (dp vs) h'∧bA (dv E (cW E d fuel) fuel) s.ds p s.h=some (none,h')∧fB E h' s.ts fn.results.toList=some vs):=by
  intro f args h out e bY
  simp only[cW] at e
  split at e
  · exact absurd e.symm (bY _ _)
  rename_i fn hf
  split at e
  · exact absurd e.symm (bY _ _)
  rename_i c hb
  have fin:∀(p:Option AV) (s:St),(match bA (dv E (cW E d fuel) fuel) s.ds p s.h with
   | none=>eg.fail "unwind" none
   | some (some v,h')=> .panic v h'
   | some (none,h')=>match fB E h' s.ts fn.results.toList with
     | some vs=> .ret (dp vs) h'
     | none=> .fail "results" none)=out→
   ((∃v h',out= .panic v h'∧bA (dv E (cW E d fuel) fuel) s.ds p s.h=some (some v,h'))∨
    ∃vs h',out= .ret (dp vs) h'∧bA (dv E (cW E d fuel) fuel) s.ds p s.h=some (none,h')∧fB E h' s.ts fn.results.toList=some vs):=by
   intro p s hm
   split at hm
   · exact absurd hm.symm (bY _ _)
   · rename_i v h' hu;exact .inl ⟨v,h',hm.symm,hu⟩
   · rename_i h' hu
     split at hm
     · rename_i vs hv;exact .inr ⟨vs,h',hm.symm,hu,hv⟩
     · exact absurd hm.symm (bY _ _)
  split at e
  · rename_i s cP;exact ⟨fn,c,_,s,none,hf,hb,cP,.inl ⟨rfl,.inl rfl⟩,fin none s e⟩
  · rename_i s cP;exact ⟨fn,c,_,s,none,hf,hb,cP,.inl ⟨rfl,.inr rfl⟩,fin none s e⟩
  · rename_i v s cP;exact ⟨fn,c,_,s,some v,hf,hb,cP,.inr ⟨v,rfl,rfl⟩,fin (some v) s e⟩
  · exact absurd e.symm (bY _ _)
  · exact absurd e.symm (bY _ _)
 have run:∀(f:FuncId) (fn:Func) (c:Code) (args:List AV) (h:ah) (e:fi) (s:St) (p p':Option AV) (h':ah),E.P.funcs[f]? =some fn→fn.body=some c→ij E (cW E d fuel) fuel fn c args h .no= .ok e s→
  ((p=none∧(e= .normal∨e= .ret))∨∃v,p=some v∧e= .panic v)→bA (dv E (cW E d fuel) fuel) s.ds p s.h=some (p',h')→
  ∀(φ:Ph) (w:World) (vs:List Value),OK E φ h w→LR φ args vs→∀cs,∃φ' w' m' tmps todo,OK E φ' h' w'∧Fr φ h w φ' h' w'∧LR φ' s.ts tmps.toList∧
   ((p'=none∧m'= .returning)∨∃v v',p'=some v∧VR φ' v v'∧m'= .panicking [{v:=v',recovered:=false}])∧
   Steps E.P (lone (Frame.enter E.P f vs.toArray .normal) cs w) (lone {(bare f .normal).atR {tmps,defers:=[]} todo with mode:=m'} cs w'):=by
  intro f fn c args h e s p p' h' hf hb cP hp hu φ w vs ok hl cs
  obtain ⟨φ1,w1,a1,e1,x1,x2,x3,x4,x5,x6⟩:=(lY hE ih hf hb cP ok hl (kind:= .normal) (K:=fun _=>cs) ⟨rfl,fun fr hk=>by simp [tryRecover,show fr.kind= .normal from hk]⟩).is
  have zI:cur (fun _=>cs) s.rc=cs:=by cases s.rc<;>rfl
  have GJ:cur (fun _=>cs) RC.no=cs:=rfl
  rw[zI] at x6
  rw[GJ] at x6
  have hm:∃todo m,((p=none∧m= .returning)∨∃v v',p=some v∧VR φ1 v v'∧m= .panicking [{v:=v',recovered:=false}])∧
   Steps E.P (lone (Frame.enter E.P f vs.toArray .normal) cs w) (lone {(bare f .normal).atR a1 todo with mode:=m} cs w1):=by
   rcases hp with ⟨rfl,rfl | rfl⟩ | ⟨v,rfl,rfl⟩
   · cases x1;exact ⟨[],.returning,.inl ⟨rfl,rfl⟩,Steps.trans x6 (.one (stepR_end rfl))⟩
   · cases x1;obtain ⟨todo,hs⟩:=x6;exact ⟨_,.returning,.inl ⟨rfl,rfl⟩,Steps.trans hs (.one (stepR_ret rfl))⟩
   · cases x1 with
     | panic _ v' hv=>obtain ⟨todo,hs⟩:=x6;exact ⟨todo,_,.inr ⟨v,v',rfl,hv,rfl⟩,hs⟩
  obtain ⟨todo,m,Ue,kq⟩:=hm
  obtain ⟨φ2,w2,m2,sM,f2,GI,Uf⟩:=eQ hE ih s.ds hu (fr:={(bare f .normal).atR a1 todo with mode:=m}) (cs:=cs) x3 x2.ds (by
   rcases Ue with ⟨e,em⟩ | ⟨v,v',e,hv,em⟩
   · exact .inl ⟨e,em⟩
   · exact .inr ⟨v,v',e,hv,em⟩)
  exact ⟨φ2,w2,m2,a1.tmps,todo,sM,x4.trans f2,x2.ts.mono f2.ext,GI,Steps.trans kq Uf⟩
 refine ⟨fun f args h v h' e=>?_,fun f args h v h' e=>?_⟩
 · obtain ⟨fn,c,e1,s,p,hf,hb,cP,hp,jQ⟩:=key f args h _ e (by simp)
   rcases jQ with ⟨v1,h1,he,_⟩ | ⟨Ug,h1,he,hu,vm⟩
   · simp at he
   · simp at he;obtain ⟨rfl,rfl⟩:=he
     intro φ w vs ok hl
     refine ⟨enters hE hf hb _ w,fun cs=>?_⟩
     obtain ⟨φ',w',m',tmps,todo,lD,fr,ht,hm,hs⟩:=run f fn c args h e1 s p none h' hf hb cP hp hu φ w vs ok hl cs
     obtain ⟨v',hv,dq⟩:=lX lD ht vm
     rcases hm with ⟨_,rfl⟩ | ⟨v,Yf,e,_⟩
     · exact ⟨φ',w',v',_,hv,lD,fr,hs,rfl,rfl,rfl,rfl,fn,hf,dq⟩
     · simp at e
 · obtain ⟨fn,c,e1,s,p,hf,hb,cP,hp,jQ⟩:=key f args h _ e (by simp)
   rcases jQ with ⟨v1,h1,he,hu⟩ | ⟨Ug,h1,he,_⟩
   · simp at he;obtain ⟨rfl,rfl⟩:=he
     intro φ w vs ok hl
     refine ⟨enters hE hf hb _ w,fun cs=>?_⟩
     obtain ⟨φ',w',m',tmps,todo,lD,fr,ht,hm,hs⟩:=run f fn c args h e1 s p (some v) h' hf hb cP hp hu φ w vs ok hl cs
     rcases hm with ⟨e,_⟩ | ⟨v2,v',e,hv,rfl⟩
     · simp at e
     · simp at e;subst e
       exact ⟨φ',w',v',_,hv,lD,fr,hs,rfl,rfl,rfl,fn,hf⟩
   · simp at he
theorem nO {l:Nat} {jump:Option Code} {s:St} {v:AV} {h':ah} (he:sg l jump s= .ret v h') {φ:Ph} {w:World} (ok:OK E φ s.h w) {ll:Loc} (hl:φ l=some ll):
 ∃w',v= .bool jump.isNone∧OK E φ h' w'∧Fr φ s.h w φ h' w'∧(Instr.endRound ll.cH jump).run E.P w= .ok (.bool jump.isNone) w':=by
 unfold sg at he
 split at he
 · rename_i st pd ts ps as_ bd dn hg
   simp only[eg.ret.injEq] at he;obtain ⟨rfl,rfl⟩:=he
   obtain ⟨_,r,hr,p7⟩:=ok.live _ _ _ hg hl
   obtain ⟨zC,f1⟩:=ok.NL (o':= .loop (if jump.isNone then .ready else .done) jump ts ps as_ bd dn) hg rfl hl (O:= .loop {r with state:=if jump.isNone then .ready else .done,pending:=jump})
    ⟨by have:=ok.live _ _ _ hg hl;exact this.1,_,rfl,⟨rfl,rfl,p7.tmps,p7.params,p7.assign,p7.body,p7.defers,p7.fn⟩⟩
   exact ⟨_,rfl,zC,f1,run_endRound jump hr⟩
 · simp at he
theorem zJ {φ:Ph}:∀{ps:List Tmp} {args:List AV} {vs:List Value} (_:LR φ args vs) {ts:List AV} {tmps:Array Value} (_:LR φ ts tmps.toList),
 LR φ ((ps.zip args).foldl (fun ts x=>ts.set x.1 x.2) ts) (((ps.zip vs).foldl (fun (tmps:Array Value) (x:Tmp×Value)=>tmps.setIfInBounds x.1 x.2) tmps).toList)
 | [],_,_,_,_,_,ht=>by simpa using ht
 | p::ps,[],vs,hl,ts,tmps,ht=>by rw[hl.dg];simpa using ht
 | p::ps,x::xs,vs,hl,ts,tmps,ht=>by
   obtain ⟨y,ys,rfl,hy,ng⟩:=hl.bw
   simp only[List.zip_cons_cons,List.foldl_cons]
   exact zJ ng (by simpa using ht.set hy p)
theorem sQ (hE:fm E) {call:aI} (bG:dy E call) {fuel l:Nat} {args:List AV} {h:ah} {out:eg} (ho:nC E call fuel l args h=out) (bY:∀why q,out≠ .fail why q)
 {φ:Ph} {w:World} {vs:List Value} (ok:OK E φ h w) {ll:Loc} (hφ:φ l=some ll) (hl:LR φ args vs):
 ∃f tmps assign body,(Instr.yield ll.cH vs.toArray).run E.P w= .ok (.round ll.cH f tmps assign body) w∧∀c cs,
  (∀v h',out= .ret v h'→∃φ' w' v',VR φ' v v'∧OK E φ' h' w'∧Fr φ h w φ' h' w'∧Steps E.P (lone (Frame.round ll.cH f tmps assign body .normal) (c::cs) w) (lone (c.finish v') cs w'))∧
  (∀v h',out= .panic v h'→∃φ' w' v',VR φ' v v'∧OK E φ' h' w'∧Fr φ h w φ' h' w'∧Steps E.P (lone (Frame.round ll.cH f tmps assign body .normal) (c::cs) w) (lone (c.raise [{v:=v',recovered:=false}]) cs w')):=by
 unfold nC at ho
 split at ho
 · rename_i st pd ts ps as_ bd dn hg
   split at ho
   · rename_i hlen
     split at ho
     · rename_i s1 Yg
       split at ho
       · rename_i WG Nj Mn J7 Nk Nl Uh
         obtain ⟨Yh,r,hr,p7⟩:=ok.live _ _ _ hg hφ
         have F9:vs.toArray.size=r.params.size:=by
          have h1:=congrArg List.length p7.params
          have h2:=hl.1
          simp at h1 ⊢;omega
         refine ⟨r.fn,_,r.assign,r.body,run_yield hr F9,fun c cs=>?_⟩
         have Qw:LR φ ((ps.zip args).foldl (fun ts x=>ts.set x.1 x.2) ts) ((r.params.zip vs.toArray).foldl (fun tmps (t,a)=>tmps.setIfInBounds t a) r.tmps).toList:=by
          have:=zJ (ps:=ps) hl p7.tmps
          rw[←Array.foldl_toList,Array.toList_zip,p7.params]
          exact this
         generalize htm:(r.params.zip vs.toArray).foldl (fun tmps (t,a)=>tmps.setIfInBounds t a) r.tmps=C_ at Qw
         let b:Frame:={fn:=r.fn,tmps:= #[],todo:=[],defers:=[],mode:= .run,kind:= .normal,roundOf:=some ll.cH}
         have hb:b.roundOf=some ll.cH:=rfl
         have hk:b.kind= .normal:=rfl
         have pY:Frame.round ll.cH r.fn C_ r.assign r.body .normal=b.atR {tmps:=C_,defers:=[]} [.code r.assign,.beginRound,.code r.body]:=rfl
         rw[p7.assign,p7.body] at pY ⊢
         rw[pY]
         have zI:∀rc,cur (fun _=>c::cs) rc=c::cs:=fun rc=>by cases rc<;>rfl
         obtain ⟨φ1,w1,a1,e1,x1,x2,x3,x4,x5,x6⟩:=(nN hE bG fuel as_ Yg (a:={tmps:=C_,defers:=[]}) (b:=b) (k:=[.beginRound,.code bd]) (K:=fun _=>c::cs) ⟨Qw,trivial⟩ ok ⟨ll,hφ,rfl⟩ p7.fn).1.is
         cases x1
         rw[zI,zI] at x6
         have Ui:=x4.ext _ _ hφ
         obtain ⟨Qx,r1,Qb,zK⟩:=x3.live _ _ _ Uh Ui
         obtain ⟨sM,f2⟩:=x3.NL (o':= .loop .busy WG Nj Mn J7 Nk Nl) Uh rfl Ui (O:= .loop {r1 with state:= .busy})
          ⟨Qx,_,rfl,⟨rfl,zK.pending,zK.tmps,zK.params,zK.assign,zK.body,zK.defers,zK.fn⟩⟩
         have Uj:=stepR_beginRound (P:=E.P) (b:=b) (a:=a1) (k:=[.code bd]) (cs:=c::cs) hb (run_beginRound Qb zK.state)
         have oH:=Steps.trans x6 (.one Uj)
         have body:∀(e:fi) (s2:St),exec E call fuel bd {s1 with h:=s1.h.put l (some (.loop .busy WG Nj Mn J7 Nk Nl))}= .ok e s2→
          ∃φ' w' a' e',NA φ' e e'∧SR φ' s2.ts s2.ds a'∧OK E φ' s2.h w'∧Fr φ h w φ' s2.h w'∧φ' l=some ll∧zE E.P (lone (b.atR {tmps:=C_,defers:=[]} [.code as_,.beginRound,.code bd]) (c::cs) w) b [] (c::cs) e' a' w':=by
          intro e s2 Ky
          obtain ⟨φ3,w3,a3,e3,y1,y2,y3,y4,y5,y6⟩:=(nN hE bG fuel bd Ky (a:=a1) (b:=b) (k:=[]) (K:=fun _=>c::cs) x2 sM x5 p7.fn).1.is
          rw[zI,zI] at y6
          exact ⟨φ3,w3,a3,e3,y1,y2,y3,(x4.trans f2).trans y4,y4.ext _ _ Ui,.of_steps oH y6⟩
         split at ho
         · rename_i s2 Ky
           obtain ⟨φ3,w3,a3,e3,y1,y2,y3,y4,Kv,y6⟩:=body _ _ Ky
           cases y1
           refine ⟨fun v h' e=>?_,fun v h' e=>?_⟩
           · obtain ⟨w4,rfl,z1,z2,z3⟩:=nO (ho.trans e) y3 Kv
             exact ⟨φ3,w4,_,.bool _,z1,y4.trans z2,Steps.trans y6 (.one (stepR_round_end hb hk z3))⟩
           · rw[e] at ho;unfold sg at ho;split at ho<;>simp at ho
         · rename_i s2 Ky
           obtain ⟨φ3,w3,a3,e3,y1,y2,y3,y4,Kv,y6⟩:=body _ _ Ky
           cases y1
           refine ⟨fun v h' e=>?_,fun v h' e=>?_⟩
           · obtain ⟨w4,rfl,z1,z2,z3⟩:=nO (ho.trans e) y3 Kv
             obtain ⟨todo,hs⟩:=y6
             exact ⟨φ3,w4,_,.bool _,z1,y4.trans z2,Steps.trans hs (.one (stepR_round_ret hb hk z3))⟩
           · rw[e] at ho;unfold sg at ho;split at ho<;>simp at ho
         · rename_i id s2 Ky
           obtain ⟨φ3,w3,a3,e3,y1,y2,y3,y4,Kv,y6⟩:=body _ _ Ky
           cases y1
           refine ⟨fun v h' e=>?_,fun v h' e=>?_⟩
           · obtain ⟨w4,rfl,z1,z2,z3⟩:=nO (ho.trans e) y3 Kv
             obtain ⟨todo,ht,hs⟩:=y6
             exact ⟨φ3,w4,_,.bool _,z1,y4.trans z2,Steps.trans hs (.one (stepR_round_exit hb hk ht z3))⟩
           · rw[e] at ho;unfold sg at ho;split at ho<;>simp at ho
         · rename_i v2 s2 Ky
           obtain ⟨φ3,w3,a3,e3,y1,y2,y3,y4,Kv,y6⟩:=body _ _ Ky
           split at ho
           · rename_i BY
             refine ⟨fun v h' e=>by rw[e] at ho;simp at ho,fun v h' e=>?_⟩
             rw[e] at ho;simp at ho;obtain ⟨rfl,rfl⟩:=ho
             cases y1 with
             | panic _ v' hv=>
               obtain ⟨todo,hs⟩:=y6
               have Ud:a3.defers=[]:=lZ (by have:=y2.ds;rw[List.isEmpty_iff.1 BY] at this;exact this)
               obtain ⟨fn,vd⟩:=Option.isSome_iff_exists.1 p7.fn
               exact ⟨φ3,w3,v',hv,y3,y4,Steps.trans hs (.one (step_leave_panicked ⟨rfl,Ud,fn,vd⟩))⟩
           · exact absurd ho.symm (bY _ _)
         · exact absurd ho.symm (bY _ _)
       · exact absurd ho.symm (bY _ _)
     · exact absurd ho.symm (bY _ _)
     · exact absurd ho.symm (bY _ _)
   · exact absurd ho.symm (bY _ _)
 · exact absurd ho.symm (bY _ _)
theorem qU (hE:fm E) (fuel:Nat):∀d,dy E (cW E d fuel)
 | 0=>⟨fun f args h v h' e=>by simp [cW] at e,fun f args h v h' e=>by simp [cW] at e⟩
 | d+1=>by
   have ih:=qU hE fuel d
   obtain ⟨k1,k2⟩:=zH hE fuel d ih
   refine ⟨fun F args h v h' e=>?_,fun F args h v h' e=>?_⟩
   · cases F with
     | fn f=>exact (k1 f args h v h' e).any
     | qK l=>
       simp only[cW] at e
       intro φ w vs ok hf hl
       obtain ⟨ll,hφ⟩:=hf
       obtain ⟨f,tmps,assign,body,hy,dq⟩:=sQ hE ih e (by simp) ok hφ hl
       exact ⟨_,_,.qK l ll hφ vs f tmps assign body hy,fun c cs=>(dq c cs).1 v h' rfl⟩
   · cases F with
     | fn f=>exact (k2 f args h v h' e).any
     | qK l=>
       simp only[cW] at e
       intro φ w vs ok hf hl
       obtain ⟨ll,hφ⟩:=hf
       obtain ⟨f,tmps,assign,body,hy,dq⟩:=sQ hE ih e (by simp) ok hφ hl
       exact ⟨_,_,.qK l ll hφ vs f tmps assign body hy,fun c cs=>(dq c cs).2 v h' rfl⟩
end Go.Ab
end
section
namespace Go.Ab.Fa
structure Acc (T:Type) where
 f:T→AV
structure Qy (T:Type) where
 f:AV→T→T
structure RF where
 T:Type
 N:Nat
 get:Nat→Acc T
 set:Nat→Qy T
 z:T
 GK:∀i,i<N→(get i).f z=AV.undef
 oL:∀i,i<N→∀v r,(get i).f ((set i).f v r)=v
 mU:∀i j,i<N→j<N→i≠j→∀v r,(get j).f ((set i).f v r)=(get j).f r
def Kz (i:Nat):Acc (P8 (P8 AV)):=s8 (i/8) fun p=>s8 (i%8) fun q=>⟨fun r=>q (p r)⟩
noncomputable def jY (i:Nat):Qy (P8 (P8 AV)):=e8 (i/8) fun p=>e8 (i%8) fun q=>⟨fun v r=>p (q fun _=>v) r⟩
noncomputable def SZ:RF where
 T:=P8 (P8 AV)
 N:=64
 get:=Kz
 set:=jY
 z:=P8.all (P8.all AV.undef)
 GK i h:=by simp only[Kz,nk,rV]
 oL i h v r:=by simp only[Kz,jY,nk,qJ,bB]
 mU i j hi hj h v r:=by
  simp only[Kz,jY,nk,qJ]
  by_cases h1:i/8=j/8
  · rw[h1,bB,bU (by omega) (by omega) (by omega)]
  · rw[bU (by omega) (by omega) h1]
def KA (i:Nat):Acc (P8 (P8 (P8 AV))):=s8 (i/64) fun o=>s8 (i/8%8) fun p=>s8 (i%8) fun q=>⟨fun r=>q (p (o r))⟩
noncomputable def NP (i:Nat):Qy (P8 (P8 (P8 AV))):=e8 (i/64) fun o=>e8 (i/8%8) fun p=>e8 (i%8) fun q=>⟨fun v r=>o (p (q fun _=>v)) r⟩
noncomputable def S0:RF where
 T:=P8 (P8 (P8 AV))
 N:=512
 get:=KA
 set:=NP
 z:=P8.all (P8.all (P8.all AV.undef))
 GK i h:=by simp only[KA,nk,rV]
 oL i h v r:=by simp only[KA,NP,nk,qJ,bB]
 mU i j hi hj h v r:=by
  simp only[KA,NP,nk,qJ]
  by_cases h1:i/64=j/64
  · rw[h1,bB]
    by_cases h2:i/8%8=j/8%8
    · rw[h2,bB,bU (by omega) (by omega) (by omega)]
    · rw[bU (by omega) (by omega) h2]
  · rw[bU (by omega) (by omega) h1]
section
variable (F:RF) (n:Nat)
def cf (r:F.T):List AV:=(List.range n).map fun i=>(F.get i).f r
theorem dP (r:F.T):(cf F n r).length=n:=by simp [cf]
theorem mV (r:F.T) {i:Nat} (h:i<n):(cf F n r)[i]? =some ((F.get i).f r):=by simp [cf,h]
theorem zL (r:F.T) (i:Nat):(cf F n r).getD i AV.undef=if i<n then (F.get i).f r else AV.undef:=by
 rw[List.getD_eq_getElem?_getD]
 split
 · rename_i h;rw[mV F n r h];rfl
 · rw[List.getElem?_eq_none (by rw[dP];omega)];rfl
theorem KB (hn:n≤F.N) (r:F.T) {i:Nat} (h:i<n) (v:AV):(cf F n r).set i v=cf F n ((F.set i).f v r):=by
 apply List.ext_getElem?
 intro j
 rw[List.getElem?_set]
 by_cases hj:j<n
 · rw[mV F n _ hj,mV F n _ hj,dP]
   by_cases e:i=j
   · subst e;simp [F.oL i (by omega),h]
   · rw[if_neg e,F.mU i j (by omega) (by omega) e]
 · rw[List.getElem?_eq_none (l:=cf F n r) (by rw[dP];omega),List.getElem?_eq_none (l:=cf F n _) (by rw[dP];omega),dP]
   rw[if_neg (by omega)]
noncomputable def FR:List AV→F.T→Nat→F.T:=fun l=>List.rec (motive:=fun _=>F.T→Nat→F.T) (fun r _=>r) (fun v _ ih r i=>ih ((F.set i).f v r) (Nat.add i 1)) l
theorem KC (r:F.T) (i:Nat):FR F [] r i=r:=rfl
theorem GM (v:AV) (l:List AV) (r:F.T) (i:Nat):FR F (v::l) r i=FR F l ((F.set i).f v r) (i+1):=rfl
theorem Da (hn:n≤F.N):∀(l:List AV) (r:F.T) (i:Nat),i+l.length≤n→∀j,j<n→(F.get j).f (FR F l r i)=if i≤j∧j<i+l.length then l.getD (j - i) AV.undef else (F.get j).f r
 | [],r,i,_,j,hj=>by rw[KC,if_neg (by rw[List.length_nil];omega)]
 | v::l,r,i,h,j,hj=>by
   simp only[List.length_cons] at h
   rw[GM,Da hn l _ (i+1) (by omega) j hj]
   simp only[List.length_cons]
   by_cases h1:i+1≤j∧j<i+1+l.length
   · rw[if_pos h1,if_pos (by omega)]
     obtain ⟨m,hm⟩:∃m,j - i=m+1:=⟨j - i - 1,by omega⟩
     rw[hm,show j -(i+1)=m by omega,List.getD_cons_succ]
   · rw[if_neg h1]
     by_cases h2:i=j
     · subst h2;rw[F.oL i (by omega),if_pos (by omega)];simp
     · rw[F.mU i j (by omega) (by omega) h2,if_neg (by omega)]
theorem Db (hn:n≤F.N) (l:List AV) (h:l.length≤n):cf F n (FR F l F.z 0)=l++List.replicate (n - l.length) AV.undef:=by
 apply List.ext_getElem?
 intro j
 by_cases hj:j<n
 · rw[mV F n _ hj,Da F n hn l F.z 0 (by omega) j hj]
   by_cases h1:j<l.length
   · rw[if_pos (by omega),List.getElem?_append_left h1,Nat.sub_zero,List.getD_eq_getElem?_getD,List.getElem?_eq_getElem h1];rfl
   · rw[if_neg (by omega),List.getElem?_append_right (by omega),F.GK j (by omega),List.getElem?_replicate,if_pos (by omega)]
 · rw[List.getElem?_eq_none (by rw[dP];omega),List.getElem?_eq_none (by simp;omega)]
end
end Go.Ab.Fa
end
section
namespace Go.Ab.Fa
section
variable {R:Type}
noncomputable def eB (f:Bool→R) (d:R) (v:AV):R:=
 AV.rec (motive_1:=fun _=>R) (motive_2:=fun _=>Unit) (fun b=>f b) (fun _ _=>d) (fun _=>d) d (fun _ _=>d) d (fun _ _ _ _ _=>d) d (fun _=>d) (fun _ _ _ _ _=>d) (fun _=>d) d (fun _ _ _=>d) d (fun _ _=>d) (fun _ _=>d) d d () (fun _ _ _ _=>()) v
noncomputable def ic (f:IntKind→Int→R) (d:R) (v:AV):R:=
 AV.rec (motive_1:=fun _=>R) (motive_2:=fun _=>Unit) (fun _=>d) (fun k n=>f k n) (fun _=>d) d (fun _ _=>d) d (fun _ _ _ _ _=>d) d (fun _=>d) (fun _ _ _ _ _=>d) (fun _=>d) d (fun _ _ _=>d) d (fun _ _=>d) (fun _ _=>d) d d () (fun _ _ _ _=>()) v
noncomputable def jJ (f:List UInt8→R) (d:R) (v:AV):R:=
 AV.rec (motive_1:=fun _=>R) (motive_2:=fun _=>Unit) (fun _=>d) (fun _ _=>d) (fun s=>f s) d (fun _ _=>d) d (fun _ _ _ _ _=>d) d (fun _=>d) (fun _ _ _ _ _=>d) (fun _=>d) d (fun _ _ _=>d) d (fun _ _=>d) (fun _ _=>d) d d () (fun _ _ _ _=>()) v
noncomputable def p_ (f:Nat→Nat→R) (d:R) (v:AV):R:=
 AV.rec (motive_1:=fun _=>R) (motive_2:=fun _=>Unit) (fun _=>d) (fun _ _=>d) (fun _=>d) d (fun i o=>f i o) d (fun _ _ _ _ _=>d) d (fun _=>d) (fun _ _ _ _ _=>d) (fun _=>d) d (fun _ _ _=>d) d (fun _ _=>d) (fun _ _=>d) d d () (fun _ _ _ _=>()) v
noncomputable def eC (e:R) (f:Nat→Nat→Nat→Nat→Bool→R) (d:R) (v:AV):R:=
 AV.rec (motive_1:=fun _=>R) (motive_2:=fun _=>Unit) (fun _=>d) (fun _ _=>d) (fun _=>d) d (fun _ _=>d) e (fun i o l c b=>f i o l c b) d (fun _=>d) (fun _ _ _ _ _=>d) (fun _=>d) d (fun _ _ _=>d) d (fun _ _=>d) (fun _ _=>d) d d () (fun _ _ _ _=>()) v
noncomputable def vZ (z d:R) (v:AV):R:=
 AV.rec (motive_1:=fun _=>R) (motive_2:=fun _=>Unit) (fun _=>d) (fun _ _=>d) (fun _=>d) d (fun _ _=>d) d (fun _ _ _ _ _=>d) d (fun _=>d) (fun _ _ _ _ _=>d) (fun _=>d) d (fun _ _ _=>d) d (fun _ _=>d) (fun _ _=>d) z d () (fun _ _ _ _=>()) v
noncomputable def Dc (f:FuncId→List AV→List AV→R) (y:Nat→R) (d:R) (v:AV):R:=
 AV.rec (motive_1:=fun _=>R) (motive_2:=fun _=>Unit) (fun _=>d) (fun _ _=>d) (fun _=>d) d (fun _ _=>d) d (fun _ _ _ _ _=>d) d (fun _=>d) (fun g a b _ _=>f g a b) (fun l=>y l) d (fun _ _ _=>d) d (fun _ _=>d) (fun _ _=>d) d d () (fun _ _ _ _=>()) v
noncomputable def qa (f:List AV→R) (t:List AV→R) (d:R) (v:AV):R:=
 AV.rec (motive_1:=fun _=>R) (motive_2:=fun _=>Unit) (fun _=>d) (fun _ _=>d) (fun _=>d) d (fun _ _=>d) d (fun _ _ _ _ _=>d) d (fun _=>d) (fun _ _ _ _ _=>d) (fun _=>d) d (fun _ _ _=>d) d (fun cs _=>f cs) (fun cs _=>t cs) d d () (fun _ _ _ _=>()) v
noncomputable def kz (f:TypeId→AV→R) (d:R) (v:AV):R:=
 AV.rec (motive_1:=fun _=>R) (motive_2:=fun _=>Unit) (fun _=>d) (fun _ _=>d) (fun _=>d) d (fun _ _=>d) d (fun _ _ _ _ _=>d) d (fun _=>d) (fun _ _ _ _ _=>d) (fun _=>d) d (fun t v _=>f t v) d (fun _ _=>d) (fun _ _=>d) d d () (fun _ _ _ _=>()) v
noncomputable def xH (v:AV):Bool:=
 AV.rec (motive_1:=fun _=>Bool) (motive_2:=fun _=>Unit) (fun _=>false) (fun _ _=>false) (fun _=>false) false (fun _ _=>true) false (fun _ _ _ _ _=>true) false (fun _=>true) (fun _ _ _ _ _=>true) (fun _=>false) false (fun _ _ _=>false) false (fun _ _=>false) (fun _ _=>false) false false () (fun _ _ _ _=>()) v
noncomputable def ob {α:Type} (d:R) (f:α→R) (o:Option α):R:=Option.rec (motive:=fun _=>R) d f o
noncomputable def bc (b:Bool) (x y:R):R:=Bool.rec (motive:=fun _=>R) y x b
noncomputable def qb (f:List AV→TypeId→Bool→R) (d:R) (o:aF):R:=
 aF.rec (motive:=fun _=>R) (fun cs e ro=>f cs e ro) (fun _ _=>d) (fun _ _=>d) (fun _ _ _ _=>d) (fun _ _ _ _ _ _ _=>d) d o
noncomputable def eD (f:Nat→R) (d:R) (n:Int):R:=Int.rec (motive:=fun _=>R) f (fun _=>d) n
noncomputable def KD (a b c d e f g h:R) (k:IntKind):R:=IntKind.rec (motive:=fun _=>R) a b c d e f g h k
end
noncomputable def kc (k:IntKind):Nat:=KD 0 1 2 3 4 5 6 7 k
noncomputable def GN (k j:IntKind):Bool:=Nat.beq (kc k) (kc j)
noncomputable def nh (k:IntKind):Nat:=KD 128 32768 2147483648 9223372036854775808 256 65536 4294967296 18446744073709551616 k
noncomputable def GO (k:IntKind):Nat:=KD 8 16 32 64 8 16 32 64 k
noncomputable def MD (k:IntKind):Bool:=KD true true true true false false false false k
noncomputable def nu (k:IntKind) (n:Int):Int:=
 Int.rec (motive:=fun _=>Int) (fun m=>bc (Nat.ble (nh k) m) (bc (MD k) (k.wrap (Int.ofNat m)) (Int.ofNat (Nat.mod m (nh k)))) (Int.ofNat m))
  (fun m=>bc (MD k) (bc (Nat.ble (nh k) m) (k.wrap (Int.negSucc m)) (Int.negSucc m)) (k.wrap (Int.negSucc m))) n
noncomputable def kA (a b:Int):Int:=eD (fun x=>eD (fun y=>Int.ofNat (Nat.add x y)) (Int.add a b) b) (Int.add a b) a
noncomputable def cY (a b:Int):Int:=eD (fun x=>eD (fun y=>bc (Nat.ble y x) (Int.ofNat (Nat.sub x y)) (Int.negSucc (Nat.sub (Nat.sub y x) 1))) (Int.sub a b) b) (Int.sub a b) a
noncomputable def zM (a b:Int):Int:=eD (fun x=>eD (fun y=>Int.ofNat (Nat.mul x y)) (Int.mul a b) b) (Int.mul a b) a
noncomputable def ME (a b:Int):Bool:=
 Int.rec (motive:=fun _=>Bool) (fun x=>Int.rec (motive:=fun _=>Bool) (fun y=>Nat.beq x y) (fun _=>false) b) (fun x=>Int.rec (motive:=fun _=>Bool) (fun _=>false) (fun y=>Nat.beq x y) b) a
noncomputable def KE (a b:Int):Bool:=
 Int.rec (motive:=fun _=>Bool) (fun x=>Int.rec (motive:=fun _=>Bool) (fun y=>Nat.ble (Nat.add x 1) y) (fun _=>false) b) (fun x=>Int.rec (motive:=fun _=>Bool) (fun _=>true) (fun y=>Nat.ble (Nat.add y 1) x) b) a
noncomputable def nP (b:Bool):Bool:=bc b false true
noncomputable def KF (op:BinOp):IntKind→Int→Int→Option AV:=match op with
 | .add=>fun k a b=>some (.int k (nu k (kA a b)))
 | .sub=>fun k a b=>some (.int k (nu k (cY a b)))
 | .mul=>fun k a b=>some (.int k (nu k (zM a b)))
 | .eql=>fun _ a b=>some (.bool (ME a b))
 | .neq=>fun _ a b=>some (.bool (nP (ME a b)))
 | .lss=>fun _ a b=>some (.bool (KE a b))
 | .leq=>fun _ a b=>some (.bool (nP (KE b a)))
 | .gtr=>fun _ a b=>some (.bool (KE b a))
 | .geq=>fun _ a b=>some (.bool (nP (KE a b)))
 | .quo=>fun k a b=>eD (fun x=>eD (fun y=>bc (Nat.beq y 0) none (some (.int k (nu k (Int.ofNat (Nat.div x y)))))) (bC .quo k a b) b) (bC .quo k a b) a
 | .rem=>fun k a b=>eD (fun x=>eD (fun y=>bc (Nat.beq y 0) none (some (.int k (Int.ofNat (Nat.mod x y))))) (bC .rem k a b) b) (bC .rem k a b) a
 | .and=>fun k a b=>eD (fun x=>eD (fun y=>bc (Nat.ble (nh k) x) (bC .and k a b) (bc (Nat.ble (nh k) y) (bC .and k a b) (some (.int k (Int.ofNat (Nat.land x y)))))) (bC .and k a b) b) (bC .and k a b) a
 | .or=>fun k a b=>eD (fun x=>eD (fun y=>bc (Nat.ble (nh k) x) (bC .or k a b) (bc (Nat.ble (nh k) y) (bC .or k a b) (some (.int k (Int.ofNat (Nat.lor x y)))))) (bC .or k a b) b) (bC .or k a b) a
 | op=>fun k a b=>bC op k a b
noncomputable def GP (k:IntKind) (y:Nat):Nat:=bc (Nat.ble (GO k) y) (GO k) y
noncomputable def Qz (k:IntKind) (a b:Int):Option AV:=eD (fun y=>some (.int k (nu k (zM a (Int.ofNat (Nat.pow 2 (GP k y))))))) none b
noncomputable def QA (k:IntKind) (a b:Int):Option AV:=eD (fun y=>some (.int k (eD (fun x=>Int.ofNat (Nat.div x (Nat.pow 2 (GP k y)))) (a.fdiv (2^(min y k.bits))) a))) none b
section
variable {α:Type}
noncomputable def dX (l:List α):Nat:=List.rec (motive:=fun _=>Nat) 0 (fun _ _ ih=>Nat.add ih 1) l
noncomputable def dY (l:List α):Nat→Option α:=List.rec (motive:=fun _=>Nat→Option α) (fun _=>none) (fun v _ ih o=>bc (Nat.beq o 0) (some v) (ih (Nat.sub o 1))) l
noncomputable def l6 (l:List α):Nat→List α:=List.rec (motive:=fun _=>Nat→List α) (fun _=> []) (fun v tl ih o=>bc (Nat.beq o 0) (v::tl) (ih (Nat.sub o 1))) l
noncomputable def l7 (l:List α):Nat→List α:=List.rec (motive:=fun _=>Nat→List α) (fun _=> []) (fun v _ ih o=>bc (Nat.beq o 0) [] (v::ih (Nat.sub o 1))) l
noncomputable def fJ (l m:List α):List α:=List.rec (motive:=fun _=>List α) m (fun v _ ih=>v::ih) l
noncomputable def qc (f:α→Bool) (l:List α):Bool:=List.rec (motive:=fun _=>Bool) true (fun v _ ih=>bc (f v) ih false) l
noncomputable def zN (vs:List α):List α→List α:=
 List.rec (motive:=fun _=>List α→List α) (fun cs=>cs) (fun v _ ih cs=>List.rec (motive:=fun _=>List α) [] (fun _ tl _=>v::ih tl) cs) vs
noncomputable def zO (vs cs:List α):Nat→List α:=
 List.rec (motive:=fun _=>Nat→List α) (fun _=> []) (fun c tl ih o=>bc (Nat.beq o 0) (zN vs (c::tl)) (c::ih (Nat.sub o 1))) cs
noncomputable def leq (f:α→α→Bool) (l:List α):List α→Bool:=
 List.rec (motive:=fun _=>List α→Bool) (fun m=>List.rec (motive:=fun _=>Bool) true (fun _ _ _=>false) m)
  (fun x _ ih m=>List.rec (motive:=fun _=>Bool) false (fun y tl _=>bc (f x y) (ih tl) false) m) l
end
noncomputable def sR (a b:UInt8):Bool:=Nat.beq a.toBitVec.toFin.val b.toBitVec.toFin.val
noncomputable def KG (v:AV):Bool:=qa (fun _=>false) (fun _=>false) true v
noncomputable def fQ (v:AV):List AV:=qa (fun cs=>cs) (fun _=> [v]) [v] v
end Go.Ab.Fa
end
section
namespace Go.Ab.Fa
section
variable {α β:Type}
noncomputable def rH (l:List Nat) (x:Nat):Bool:=List.rec (motive:=fun _=>Bool) false (fun y _ ih=>bc (Nat.beq x y) true ih) l
noncomputable def NQ (f:α→Bool) (l:List α):Bool:=List.rec (motive:=fun _=>Bool) false (fun v _ ih=>bc (f v) true ih) l
noncomputable def allI (f:α→Nat→Bool) (l:List α) (i:Nat):Bool:=List.rec (motive:=fun _=>Nat→Bool) (fun _=>true) (fun v _ ih i=>bc (f v i) (canon (Nat.add i 1) ih) false) l i
noncomputable def zP (f:α→Nat→Bool) (l:List α) (i:Nat):List Nat:=List.rec (motive:=fun _=>Nat→List Nat) (fun _=> []) (fun v _ ih i=>bc (f v i) (i::canon (Nat.add i 1) ih) (canon (Nat.add i 1) ih)) l i
noncomputable def xI (f:α→Bool) (l:List α):Nat:=List.rec (motive:=fun _=>Nat) 0 (fun v _ ih=>bc (f v) (Nat.add ih 1) ih) l
noncomputable def B0 (f:α→Bool) (l:List α):Nat:=List.rec (motive:=fun _=>Nat) 0 (fun v _ ih=>bc (f v) (Nat.add ih 1) 0) l
noncomputable def sS (l:List α) (i:Nat) (d:α):α:=ob d (fun x=>x) (dY l i)
noncomputable def jK (l:List α):(List α→β)→β:=List.rec (motive:=fun _=>(List α→β)→β) (fun k=>k []) (fun x _ ih k=>ih fun tl=>k (x::tl)) l
theorem qd (l:List α) (k:List α→β):jK l k=k l:=by
 induction l generalizing k with
 | nil=>rfl
 | cons y tl ih=>show jK tl (fun tl=>k (y::tl))=_;rw[ih]
noncomputable def B1 (l:List α) (k:List α→β):β:=List.rec (motive:=fun _=>β) (k []) (fun x tl _=>k (x::tl)) l
theorem Ez (l:List α) (k:List α→β):B1 l k=k l:=by cases l<;>rfl
noncomputable def xJ (f:List β→α→List β) (l:List α) (b:List β):List β:=List.rec (motive:=fun _=>List β→List β) (fun b=>b) (fun v _ ih b=>B1 (f b v) ih) l b
theorem vR (f:List β→α→List β) (l:List α) (b:List β):xJ f l b=l.foldl f b:=by
 induction l generalizing b with
 | nil=>rfl
 | cons y tl ih=>show B1 (f b y) (xJ f tl)=_;rw[Ez,ih];rfl
theorem l8 (b:Bool) (x y:α):bc b x y=bif b then x else y:=by cases b<;>rfl
theorem rI (x y:Nat):(x==y)=Nat.beq x y:=by
 cases h:Nat.beq x y
 · rw[beq_eq_false_iff_ne];intro e;subst e;rw[Nat.beq_refl] at h;exact absurd h (by simp)
 · rw[Nat.eq_of_beq_eq_true h];simp
theorem mW (l:List Nat) (x:Nat):rH l x=l.contains x:=by
 induction l with
 | nil=>rfl
 | cons y tl ih=>
   show bc (Nat.beq x y) true (rH tl x)=_
   rw[ih,l8,List.contains_cons,rI]
   cases Nat.beq x y<;>rfl
theorem KH (f:α→Bool) (l:List α):NQ f l=l.any f:=by
 induction l with
 | nil=>rfl
 | cons y tl ih=>show bc (f y) true (NQ f tl)=_;rw[ih,l8,List.any_cons];cases f y<;>rfl
theorem kC (f:α→Bool) (l:List α):qc f l=l.all f:=by
 induction l with
 | nil=>rfl
 | cons y tl ih=>show bc (f y) (qc f tl) false=_;rw[ih,l8,List.all_cons];cases f y<;>rfl
theorem xK (f:α→Nat→Bool) (l:List α) (i:Nat):allI f l i=(l.zipIdx i).all fun p=>f p.1 p.2:=by
 induction l generalizing i with
 | nil=>rfl
 | cons y tl ih=>show bc (f y i) (canon (i+1) (allI f tl)) false=_;rw[fM,ih,l8,List.zipIdx_cons,List.all_cons];cases f y i<;>rfl
theorem zQ (f:α→Nat→Bool) (l:List α) (i:Nat):zP f l i=((l.zipIdx i).filter fun p=>f p.1 p.2).map (·.2):=by
 induction l generalizing i with
 | nil=>rfl
 | cons y tl ih=>
   show bc (f y i) (i::canon (i+1) (zP f tl)) (canon (i+1) (zP f tl))=_
   rw[fM,ih,l8,List.zipIdx_cons,List.filter_cons];cases f y i<;>simp
theorem EA (f:α→Bool) (l:List α):xI f l=(l.filter f).length:=by
 induction l with
 | nil=>rfl
 | cons y tl ih=>show bc (f y) (xI f tl+1) (xI f tl)=_;rw[ih,l8,List.filter_cons];cases f y<;>simp
theorem EB (f:α→Bool) (l:List α):B0 f l=(l.takeWhile f).length:=by
 induction l with
 | nil=>rfl
 | cons y tl ih=>show bc (f y) (B0 f tl+1) 0=_;rw[ih,l8,List.takeWhile_cons];cases f y<;>simp
theorem di (l:List α) (i:Nat):dY l i=l[i]? :=by
 induction l generalizing i with
 | nil=>rfl
 | cons y tl ih=>
   show bc (Nat.beq i 0) (some y) (dY tl (i - 1))=_
   rw[ih,l8]
   cases i with
   | zero=>rfl
   | succ i=>rw[show Nat.beq (i+1) 0=false from rfl];simp
theorem oM (l:List α) (i:Nat) (d:α):sS l i d=l.getD i d:=by
 unfold sS;rw[di,List.getD_eq_getElem?_getD];cases l[i]? <;>rfl
theorem cC (l:List α):dX l=l.length:=by
 induction l with
 | nil=>rfl
 | cons y tl ih=>show dX tl+1=_;rw[ih];rfl
theorem iu (l m:List α):fJ l m=l++m:=by
 induction l with
 | nil=>rfl
 | cons y tl ih=>show y::fJ tl m=_;rw[ih];rfl
end
noncomputable def qV (p:Program) (t:TypeId):Option TypeInfo:=ob (p.info? t) (fun i=>some i) (dY p.types.toList t)
noncomputable def MF (i:TypeInfo) (p:Program):Option TypeDesc:=TypeDesc.rec (motive:=fun _=>Option TypeDesc) (some i.desc) (some i.desc) (fun _=>some i.desc) (fun _=>some i.desc) (fun _=>some i.desc) (some i.desc) (some i.desc)
 (fun _=>some i.desc) (fun _=>some i.desc) (fun _ _=>some i.desc) (fun _ _=>some i.desc) (fun _ _=>some i.desc) (fun _=>some i.desc) (fun _ _ _=>some i.desc) (fun _=>some i.desc) (fun _=>some i.desc)
 (fun _ u=>ob none (fun j=>some j.desc) (qV p u)) i.desc
noncomputable def eR (p:Program) (t:TypeId):Option TypeDesc:=ob none (fun i=>MF i p) (qV p t)
theorem l9 (p:Program) (t:TypeId):qV p t=p.info? t:=by
 unfold qV;rw[di,Array.getElem?_toList]
 cases h:p.types[t]? with
 | none=>rfl
 | some i=>
   show some i=p.info? t
   unfold Tables.info?
   obtain ⟨gC,_⟩:=Array.getElem?_eq_some_iff.mp h
   rw[if_pos gC,h]
theorem dQ (p:Program) (t:TypeId):eR p t=p.underlying t:=by
 unfold eR Program.underlying
 rw[l9]
 cases p.info? t with
 | none=>rfl
 | some i=>
   show MF i p=_
   obtain ⟨d,_⟩:=i
   cases d with
   | named a u=>show ob none (fun j=>some j.desc) (qV p u)=Option.map (fun x=>x.desc) (p.info? u);rw[l9];cases p.info? u<;>rfl
   | _=>rfl
noncomputable def NR (p:Program) (f:FuncId):Option Func:=dY p.funcs.toList f
theorem KI (p:Program) (f:FuncId):NR p f=p.funcs[f]? :=by
 unfold NR;rw[di];exact Array.getElem?_toList
variable (E:Env)
noncomputable def jZ (op:Op):Bool:=match op with
 | .store .. | .mapUpdate .. | .insert .. | .next .. | .panic _ | .defer _=>true
 | .convert _ dst _=>match eR E.P dst with
   | some (.slice _)=>true
   | _=>false
 | .call c=>match c.callee with
   | .builtin .len | .builtin .cap | .builtin .max | .builtin .min=>false
   | .builtin _=>true
   | .value (.func f)=>match E.gN f with
     | none=>true
     | some _=>false
   | _=>true
 | _=>false
theorem ma (op:Op):jZ E op=ct E op:=by
 unfold jZ ct
 cases op<;>try rfl
 · simp only[dQ]
   rename_i dst _
   generalize E.P.underlying dst=u
   cases u with
   | none=>rfl
   | some d=>cases d<;>rfl
 · rename_i c
   rcases c with ⟨dJ,a,t⟩
   cases dJ with
   | value x=>
     cases x with
     | func f=>simp only;cases E.gN f<;>rfl
     | _=>rfl
   | builtin b=>cases b<;>rfl
   | _=>rfl
noncomputable def MG (g:Ground):Bool:=Ground.rec (motive:=fun _=>Bool) true true true true (fun _=>false) (fun _=>false) g
noncomputable def nQ (o:Oper):List Nat:=List.rec (motive:=fun _=>List Nat) [] (fun e _ ih=>bc (MG e.ground) (e.on::ih) ih) o.after.toList
theorem vS (o:Oper):nQ o=fq o:=by
 unfold nQ fq
 induction o.after.toList with
 | nil=>rfl
 | cons e tl ih=>
   show bc (MG e.ground) (e.on::_) _=_
   rw[ih,List.filter_cons]
   obtain ⟨on,g⟩:=e
   cases g<;>rfl
noncomputable def KJ (l:List Nat) (x:Nat):List Nat:=bc (rH l x) l (x::l)
noncomputable def Dd (acc:List (List Nat)) (es:List Nat):List Nat:=xJ (fun l e=>xJ KJ (sS acc e []) (KJ l e)) es []
noncomputable def GQ (l:List Oper):List (List Nat)→List (List Nat):=List.rec (motive:=fun _=>List (List Nat)→List (List Nat)) (fun acc=>acc) (fun o _ ih acc=>jK (Dd acc (nQ o)) fun a=>jK (fJ acc [a]) ih) l
theorem De (l:List Nat) (x:Nat):KJ l x=if l.contains x then l else x::l:=by
 unfold KJ;rw[mW,l8];cases l.contains x<;>rfl
theorem GR (acc:List (List Nat)) (o:Oper):Dd acc (nQ o)=(fq o).foldl (fun l e=>(acc.getD e []).foldl (fun l x=>if l.contains x then l else x::l) (if l.contains e then l else e::l)) []:=by
 unfold Dd
 rw[vR,vS]
 congr 1
 funext l e
 rw[vR,oM,De]
 congr 1
 funext l x
 exact De l x
theorem zR:∀(l:List Oper) (acc:List (List Nat)),GQ l acc=zc l acc
 | [],_=>rfl
 | o::rest,acc=>by
   show jK (Dd acc (nQ o)) (fun a=>jK (fJ acc [a]) (GQ rest))=_
   rw[qd,qd,zR rest,iu,GR];rfl
noncomputable def iT (an:List (List Nat)) (i j:Nat):Bool:=rH (sS an i []) j
theorem j0 (an:List (List Nat)) (i j:Nat):iT an i j=bN an i j:=by
 unfold iT bN zd;rw[mW,oM]
noncomputable def sU (ops:List Oper) (an:List (List Nat)):Bool:=
 allI (fun o i=>bc (qc (fun e=>bc (Nat.ble (Nat.add e 1) i) (iT an i e) false) (nQ o)) (qc (fun j=>bc (Nat.ble (Nat.add j 1) i) (NQ (fun e=>bc (Nat.beq e j) true (iT an e j)) (nQ o)) false) (sS an i [])) false) ops 0
theorem mX (a b:Nat):decide (a<b)=Nat.ble (a+1) b:=by
 by_cases h:a<b
 · rw[decide_eq_true h,Nat.ble_eq_true_of_le h]
 · rw[decide_eq_false h];symm;rw[Bool.eq_false_iff];intro e;exact h (Nat.le_of_ble_eq_true e)
theorem iU (a b:Bool):bc a b false=(a&&b):=by cases a<;>rfl
theorem MH (a b:Bool):bc a true b=(a||b):=by cases a<;>rfl
theorem zS (ops:List Oper) (an:List (List Nat)):sU ops an=rW ops an:=by
 unfold sU rW
 rw[xK]
 congr 1
 funext ⟨o,i⟩
 simp only[iU,MH,kC,KH,oM,vS,j0,mX,rI]
 rfl
noncomputable def NS (l:List Operand):List Nat:=List.rec (motive:=fun _=>List Nat) [] (fun x _ ih=>Operand.rec (motive:=fun _=>List Nat) (fun t=>t::ih) (fun _=>ih) (fun _=>ih) (fun _=>ih) x) l
theorem KK (l:List Operand):NS l=l.filterMap fun | .tmp t=>some t | _=>none:=by
 induction l with
 | nil=>rfl
 | cons x tl ih=>
   cases x<;>simp only[List.filterMap_cons,←ih]<;>rfl
noncomputable def S1 (op:Op):List Operand:=match op with
 | .move x | .assign x | .box _ x | .load _ x | .nilCheck x | .unOp _ _ x | .convert _ _ x | .fieldAddr _ x _ | .field _ x _ | .extract x _=> [x]
 | .pick c a b=> [c,a,b]
 | .store _ a v | .binOp _ _ a v _ | .indexAddr _ a v | .index _ a v=> [a,v]
 | .alloc _=> []
 | .call c=>fJ (match c.callee with | .value f=> [f] | .invoke r _=> [r] | .builtin _=> []) c.args.toList
 | op=>op.operands.toList
theorem NT (op:Op):S1 op=op.operands.toList:=by
 cases op<;>try rfl
 rename_i c
 obtain ⟨dJ,a,t⟩:=c
 cases dJ<;>simp [S1,Op.operands,Call.operands,iu]
noncomputable def sV (ops:List Oper) (an:List (List Nat)):Bool:=
 allI (fun o i=>bc (ob true (fun g=>bc (iT an i g.1) (ob false (fun p=>ob false (fun _=>true) p.dst) (dY ops g.1)) false) o.guard)
  (allI (fun p j=>bc (Nat.beq i j) true (ob true (fun d=>bc (ob true (fun a=>nP (Nat.beq a d)) o.dst) (bc (rH (NS (S1 o.op)) d) (bc (iT an i j) true (iT an j i)) true) false) p.dst)) ops 0) false) ops 0
theorem zT (ops:List Oper) (an:List (List Nat)):sV ops an=rX ops an:=by
 unfold sV rX
 rw[xK]
 congr 1
 funext ⟨o,i⟩
 simp only[iU,MH,j0]
 congr 1
 · obtain ⟨dst,op,ty,pos,after,guard⟩:=o
   cases guard with
   | none=>rfl
   | some g=>
     show (bN an i g.1&&ob false (fun p=>ob false (fun _=>true) p.dst) (dY ops g.1))=_
     rw[di]
     congr 1
     cases ops[g.1]? with
     | none=>rfl
     | some p=>
       show ob false (fun _=>true) p.dst=(p.dst).isSome
       cases p.dst<;>rfl
 · rw[xK]
   congr 1
   funext ⟨p,j⟩
   show (Nat.beq i j||_)=(i==j||_)
   rw[rI]
   congr 1
   obtain ⟨dst,op,ty,pos,after,guard⟩:=p
   cases dst with
   | none=>rfl
   | some d=>
     show (ob true (fun a=>nP (Nat.beq a d)) o.dst&&bc (rH (NS (S1 o.op)) d) (bN an i j||bN an j i) true)=(o.dst !=some d&&(!(tmpsOf o).contains d||bN an i j||bN an j i))
     congr 1
     · cases o.dst with
       | none=>rfl
       | some a=>
         show nP (Nat.beq a d)= !(some a==some d)
         rw[Option.some_beq_some,rI]
         cases Nat.beq a d<;>rfl
     · rw[mW,KK,NT,Bool.or_assoc]
       show bc ((tmpsOf o).contains d) _ _=_
       cases (tmpsOf o).contains d<;>rfl
noncomputable def B3 (an:List (List Nat)) (l:List Nat):Bool:=List.rec (motive:=fun _=>Bool) true (fun e rest ih=>List.rec (motive:=fun _=>Bool) true (fun f _ _=>bc (iT an f e) ih false) rest) l
theorem vT (an:List (List Nat)):∀l,B3 an l=mN an l
 | []=>rfl
 | [e]=>rfl
 | e::f::rest=>by
   show bc (iT an f e) (B3 an (f::rest)) false=_
   rw[vT an (f::rest),j0,iU];rfl
noncomputable def GS (ops:List Oper):List Nat:=zP (fun o _=>jZ E o.op) ops 0
theorem GU (ops:List Oper):GS E ops=hU E ops:=by
 unfold GS hU;rw[zQ];simp only[ma]
noncomputable def vU (aR:List Nat) (an:List (List Nat)) (i:Nat):Nat:=xI (fun e=>iT an i e) aR
theorem zU (aR:List Nat) (an:List (List Nat)) (i:Nat):vU aR an i=wY aR an i:=by
 unfold vU wY;rw[EA];simp only[j0]
noncomputable def xL (ops:List Oper) (aR:List Nat) (an:List (List Nat)) (k:Nat):List Nat:=
 fJ (zP (fun o i=>bc (jZ E o.op) false (Nat.beq (vU aR an i) k)) ops 0) (ob [] (fun x=> [x]) (dY aR k))
theorem EC (ops:List Oper) (aR:List Nat) (an:List (List Nat)) (k:Nat):xL E ops aR an k=group E ops aR an k:=by
 unfold xL group
 rw[iu,zQ,di]
 congr 1
 · congr 1
   congr 1
   funext ⟨o,i⟩
   show bc (jZ E o.op) false (Nat.beq (vU aR an i) k)=(!ct E o.op&&(wY aR an i==k))
   rw[ma,zU,rI];cases ct E o.op<;>rfl
 · cases aR[k]? <;>rfl
noncomputable def xM (ops:List Oper) (aR:List Nat) (an:List (List Nat)) (n:Nat):Nat→List Nat:=
 Nat.rec (motive:=fun _=>Nat→List Nat) (fun _=> []) (fun _ ih k=>fJ (xL E ops aR an k) (canon (Nat.add k 1) ih)) n
theorem sW (ops:List Oper) (aR:List Nat) (an:List (List Nat)):∀n k,xM E ops aR an n k=iJ E ops aR an n k
 | 0,_=>rfl
 | n+1,k=>by
   show fJ (xL E ops aR an k) (canon (k+1) (xM E ops aR an n))=_
   rw[fM,sW ops aR an n,iu,EC];rfl
noncomputable def rZ (aR:List Nat) (an:List (List Nat)) (i:Nat):Nat:=B0 (fun e=>nP (iT an e i)) aR
theorem B4 (aR:List Nat) (an:List (List Nat)) (i:Nat):rZ aR an i=eW aR an i:=by
 unfold rZ eW;rw[EB];congr 2;funext e;rw[j0];cases bN an e i<;>rfl
noncomputable def B5 (n:Nat):List Nat→List Nat:=Nat.rec (motive:=fun _=>List Nat→List Nat) (fun l=>l) (fun m ih l=>ih (m::l)) n
theorem vV:∀n l,B5 n l=List.range.loop n l
 | 0,_=>rfl
 | n+1,l=>vV n (n::l)
noncomputable def xN (ops:List Oper) (an:List (List Nat)) (aR:List Nat) (l:List Nat):List Nat→Nat→Bool:=
 List.rec (motive:=fun _=>List Nat→Nat→Bool) (fun seen k=>bc (qc (fun i=>rH seen i) (B5 (dX ops) [])) (Nat.beq k (dX aR)) false)
  (fun i _ ih seen k=>bc (Nat.ble (Nat.add i 1) (dX ops)) (bc (rH seen i) false (bc (qc (fun j=>rH seen j) (sS an i []))
   (bc (ob (jZ E (default:Oper).op) (fun o=>jZ E o.op) (dY ops i)) (bc (ob false (fun e=>Nat.beq e i) (dY aR k)) (canon (Nat.add k 1) (ih (i::seen))) false)
    (bc (Nat.beq (vU aR an i) k) (ih (i::seen) k) false)) false)) false) l
theorem qe (ops:Array Oper) (an:List (List Nat)) (aR:List Nat):∀l seen k,xN E ops.toList an aR l seen k=ft E ops an aR l seen k
 | [],seen,k=>by
   show bc (qc (fun i=>rH seen i) (B5 (dX ops.toList) [])) (Nat.beq k (dX aR)) false=_
   rw[iU,kC,vV,cC,cC]
   simp only[mW]
   unfold ft
   rw[rI,Array.length_toList]
   rfl
 | i::rest,seen,k=>by
   show bc (Nat.ble (i+1) (dX ops.toList)) (bc (rH seen i) false (bc (qc (fun j=>rH seen j) (sS an i []))
    (bc (ob (jZ E (default:Oper).op) (fun o=>jZ E o.op) (dY ops.toList i)) (bc (ob false (fun e=>Nat.beq e i) (dY aR k)) (canon (k+1) (xN E ops.toList an aR rest (i::seen))) false)
     (bc (Nat.beq (vU aR an i) k) (xN E ops.toList an aR rest (i::seen) k) false)) false)) false=_
   rw[fM,qe ops an aR rest,qe ops an aR rest,kC,oM,mW,zU,cC]
   simp only[mW]
   rw[show ob (jZ E (default:Oper).op) (fun o=>jZ E o.op) (dY ops.toList i)=ct E ((ops.getD i default).op) by
    rw[di,ma]
    rw[show ops.getD i default=(ops.toList[i]?).getD default by rw[Array.getElem?_toList,Array.getD_eq_getD_getElem?]]
    cases ops.toList[i]? with
    | none=>rfl
    | some o=>exact ma E o.op]
   rw[show ob false (fun e=>Nat.beq e i) (dY aR k)=(aR[k]? ==some i) by rw[di];cases aR[k]? with
    | none=>rfl
    | some e=>rw[Option.some_beq_some,rI];rfl]
   rw[ft,mX]
   simp only[iU]
   rw[←rI (wY aR an i) k,show ops.toList.length=ops.size from Array.length_toList]
   rw[l8,l8]
   show (Nat.ble (i+1) ops.size&&(bif List.contains seen i then false else _))=_
   unfold zd
   cases Nat.ble (i+1) ops.size<;>cases List.contains seen i<;>cases (an.getD i []).all (fun j=>List.contains seen j)<;>cases ct E ((ops.getD i default).op)<;>rfl
noncomputable def S2 (x:Nat) (l:List Nat):Bool:=List.rec (motive:=fun _=>Bool) true (fun y _ ih=>bc (Nat.beq x y) false ih) l
noncomputable def xO (l:List Nat):Bool:=List.rec (motive:=fun _=>Bool) true (fun x tl ih=>bc (S2 x tl) ih false) l
theorem NU (x:Nat) (l:List Nat):S2 x l= !l.contains x:=by
 induction l with
 | nil=>rfl
 | cons y tl ih=>
   show bc (Nat.beq x y) false (S2 x tl)=_
   rw[ih,List.contains_cons,rI]
   cases Nat.beq x y<;>rfl
theorem qf:∀l,xO l=nodup l
 | []=>rfl
 | x::tl=>by
   show bc (S2 x tl) (xO tl) false=_
   rw[qf tl,NU,iU];rfl
noncomputable def GV {R:Type} (ops:Array Oper) (k:gA→R) (d:R):R:=
 jK ops.toList fun l=>jK (GQ l []) fun an=>jK (GS E l) fun aR=>jK (xM E l aR an (Nat.add (dX aR) 1) 0) fun order=>
 bc (sU l an) (bc (sV l an) (bc (B3 an aR) (bc (xO aR) (bc (xN E l an aR order [] 0) (k ⟨an,aR,order⟩) d) d) d) d) d
theorem GW {R:Type} (ops:Array Oper) (k:gA→R) (d:R):GV E ops k d=match lJ E ops with | some pl=>k pl | none=>d:=by
 unfold GV lJ
 simp only[qd,zR,GU,sW,zS,zT,vT,qf,qe,cC]
 generalize rW ops.toList (zc ops.toList [])=a
 generalize rX ops.toList (zc ops.toList [])=b
 generalize mN (zc ops.toList []) (hU E ops.toList)=c
 generalize nodup (hU E ops.toList)=e
 show bc a (bc b (bc c (bc e (bc (ft E ops _ _ (iJ E ops.toList _ _ ((hU E ops.toList).length+1) 0) [] 0) _ d) d) d) d) d=_
 generalize ft E ops (zc ops.toList []) (hU E ops.toList) (iJ E ops.toList (hU E ops.toList) (zc ops.toList []) ((hU E ops.toList).length+1) 0) [] 0=f
 cases a<;>cases b<;>cases c<;>cases e<;>cases f<;>rfl
end Go.Ab.Fa
end
