import Derived.Test.YtemlmndojncekaaGreatA3
import Derived.Test.YtemlmndojncekaaGreatA0
set_option linter.unusedVariables false
set_option linter.unusedSimpArgs false
section
namespace Go.Ab
variable {E:Env}
theorem zE (hE:me E) {call:bu} (eu:jI E call) {ops:Array Oper}:∀{l:List Oper} {is:List Nat} (_:is.length=l.length) (_:∀(j i:Nat),is[j]? =some i→l[j]? =ops[i]?) {s s':St} {e:my} (_:oV E call ops l s= .ok e s')
 {φ:Ph} {a:Act} {w:World} {b:Frame} {k:List Item} {K:Bool→List Frame} (_:SR φ s.ts s.ds a) (_:OK E φ s.h w) (_:pC φ b K s.rc),
 sH E φ s.h w b K k (lone (b.atR a (.inRegion ops is::k)) (cur K s.rc) w) e s'
 | [],is,hl,hi,s,s',e,h,φ,a,w,b,k,K,hs,ok,iO=>by
   cases is with
   | cons _ _=>simp at hl
   | nil=>
     simp [oV] at h;obtain ⟨rfl,rfl⟩:=h
     exact ⟨φ,w,a,_,.normal,hs,ok,Fr.refl _ _ _,iO,.one stepR_region_end⟩
 | o::l,is,hl,hi,s,s',e,h,φ,a,w,b,k,K,hs,ok,iO=>by
   cases is with
   | nil=>simp at hl
   | cons i is=>
     have ho:ops[i]? =some o:=by have:=hi 0 i (by simp);simpa using this.symm
     have hl':is.length=l.length:=by simpa using hl
     have MR:∀(j i':Nat),is[j]? =some i'→l[j]? =ops[i']? :=fun j i' hj=>by have:=hi (j+1) i' (by simpa using hj);simpa using this
     simp only[oV] at h
     have hwe:=zz (ops:=ops) hs.ts o
     split at h
     · rename_i hw
       rw[←hwe] at hw
       split at h
       · rename_i s1 sv
         obtain ⟨φ1,w1,a1,e1,x1,x2,x3,x4,x5,x6⟩:=(Jk hE eu ho sv hs ok iO hw (rest:=is) (k:=k)).is
         cases x1
         exact ((zE hE eu hl' MR h x2 x3 x5).of_steps x6).later x4
       · rename_i f'
         obtain ⟨φ1,w1,a1,e1,x1,x2,x3,x4,x5,x6⟩:=(Jk hE eu ho h hs ok iO hw (rest:=is) (k:=k)).is
         cases x1 with
         | normal=>exact (f' _ h).elim
         | exit=>exact x6.elim
         | ret=>exact x6.elim
         | panic v v' hv=>exact ⟨φ1,w1,a1,_,.panic v v' hv,x2,x3,x4,x5,x6⟩
     · rename_i hw
       have tM:SR φ (ew s.ts o.dst AV.undef) s.ds (a.put o.dst undef):=hs.put o.dst (VR.undef φ)
       refine (zE hE eu hl' MR h tM ok iO).of_steps (.one ?_)
       have:=stepR_op_skip (P:=E.P) (b:=b) (a:=a) (k:=k) (cs:=cur K s.rc) (w:=w) (ops:=ops) (i:=i) (rest:=is) (by rw[ho];simp;rw[hwe];simpa using hw)
       rw[this,ho];rfl
set_option maxHeartbeats 1000000 in
theorem zF (hE:me E) {call:bu} (eu:jI E call):∀(n:Nat) (c:Code) {s s':St} {e:my} (_:exec E call n c s= .ok e s')
 {φ:Ph} {a:Act} {w:World} {b:Frame} {k:List Item} {K:Bool→List Frame} (_:SR φ s.ts s.ds a) (_:OK E φ s.h w) (_:pC φ b K s.rc) (_:(E.P.funcs[b.fn]?).isSome=true),
 sH E φ s.h w b K k (lone (b.atR a (.code c::k)) (cur K s.rc) w) e s'∧∀c',c= .loop c'→sH E φ s.h w b K k (lone (b.atR a (.code c':: .inLoop c'::k)) (cur K s.rc) w) e s':=by
 intro n
 induction n with
 | zero=>intro c s s' e h;simp [exec] at h
 | succ n ih2=>
   have ih:∀(c:Code) {s s':St} {e:my} (_:exec E call n c s= .ok e s')
    {φ:Ph} {a:Act} {w:World} {b:Frame} {k:List Item} {K:Bool→List Frame} (_:SR φ s.ts s.ds a) (_:OK E φ s.h w) (_:pC φ b K s.rc) (_:(E.P.funcs[b.fn]?).isSome=true),
    sH E φ s.h w b K k (lone (b.atR a (.code c::k)) (cur K s.rc) w) e s':=fun c _ _ _ h _ _ _ _ _ _ hs ok iO MS=>(ih2 c h hs ok iO MS).1
   intro c s s' e h φ a w b k K hs ok iO MS
   have aeB:∀c',c= .loop c'→sH E φ s.h w b K k (lone (b.atR a (.code c':: .inLoop c'::k)) (cur K s.rc) w) e s':=by
    rintro c rfl
    simp only[exec] at h
    split at h
    · rename_i s1 h1
      obtain ⟨φ1,w1,a1,e1,x1,x2,x3,x4,x5,x6⟩:=(ih c h1 hs ok iO MS (k:= .inLoop c::k)).is
      cases x1
      exact (((ih2 (.loop c) h x2 x3 x5 MS).2 c rfl).of_steps (Steps.trans x6 (.one stepR_inLoop))).later x4
    · rename_i f'
      obtain ⟨φ1,w1,a1,e1,x1,x2,x3,x4,x5,x6⟩:=(ih c h hs ok iO MS (k:= .inLoop c::k)).is
      refine ⟨φ1,w1,a1,e1,x1,x2,x3,x4,x5,.pass (x:= .inLoop c) (fun _=>rfl) ?_ x6⟩
      cases x1 with
      | normal=>exact (f' _ h).elim
      | exit=>simp
      | ret=>simp
      | panic=>simp
   refine ⟨?_,aeB⟩
   cases c with
   | skip=>simp [exec] at h;obtain ⟨rfl,rfl⟩:=h;exact ⟨φ,w,a,_,.normal,hs,ok,Fr.refl _ _ _,iO,.one stepR_skip⟩
   | label l=>simp [exec] at h;obtain ⟨rfl,rfl⟩:=h;exact ⟨φ,w,a,_,.normal,hs,ok,Fr.refl _ _ _,iO,.one stepR_label⟩
   | ret=>simp [exec] at h;obtain ⟨rfl,rfl⟩:=h;exact ⟨φ,w,a,_,.ret,hs,ok,Fr.refl _ _ _,iO,k,Steps.refl _ _⟩
   | exit id=>simp [exec] at h;obtain ⟨rfl,rfl⟩:=h;exact ⟨φ,w,a,_,.exit id,hs,ok,Fr.refl _ _ _,iO,k,rfl,Steps.refl _ _⟩
   | seq x y=>
     simp only[exec] at h
     split at h
     · rename_i s1 h1
       obtain ⟨φ1,w1,a1,e1,x1,x2,x3,x4,x5,x6⟩:=(ih x h1 hs ok iO MS (k:= .code y::k)).is
       cases x1
       exact ((ih y h x2 x3 x5 MS).of_steps (.head stepR_seq x6)).later x4
     · rename_i f'
       obtain ⟨φ1,w1,a1,e1,x1,x2,x3,x4,x5,x6⟩:=(ih x h hs ok iO MS (k:= .code y::k)).is
       refine ⟨φ1,w1,a1,e1,x1,x2,x3,x4,x5,.of_steps (.one stepR_seq) (.pass (x:= .code y) (fun _=>rfl) ?_ x6)⟩
       cases x1 with
       | normal=>exact (f' _ h).elim
       | exit=>simp
       | ret=>simp
       | panic=>simp
   | cond x y z=>
     simp only[exec] at h
     split at h
     · rename_i hx
       have h1:=pA ok.gl hs.ts hx
       generalize mT:a.eval x=cv at h1
       cases h1
       exact (ih y h hs ok iO MS).of_steps (.one (stepR_cond mT))
     · rename_i hx
       have h1:=pA ok.gl hs.ts hx
       generalize mT:a.eval x=cv at h1
       cases h1
       exact (ih z h hs ok iO MS).of_steps (.one (stepR_cond mT))
     · simp at h
   | block id c=>
     simp only[exec] at h
     split at h
     · rename_i WR s1 h1
       obtain ⟨φ1,w1,a1,e1,x1,x2,x3,x4,x5,x6⟩:=(ih c h1 hs ok iO MS (k:= .inBlock id::k)).is
       cases x1
       split at h
       · rename_i hid
         simp at h;obtain ⟨rfl,rfl⟩:=h
         obtain ⟨todo,ht,kO⟩:=x6
         exact ⟨φ1,w1,a1,_,.normal,x2,x3,x4,x5,.head stepR_block (Steps.trans kO (.one (stepR_exit (by rw[ht];simp [exitTo,hid]))))⟩
       · rename_i hid
         simp at h;obtain ⟨rfl,rfl⟩:=h
         obtain ⟨todo,ht,kO⟩:=x6
         refine ⟨φ1,w1,a1,_,.exit WR,x2,x3,x4,x5,todo,?_,.head stepR_block kO⟩
         have:(id==WR)=false:=by simp;exact fun h=>hid h.symm
         rw[ht];simp [exitTo,this]
     · rename_i f'
       obtain ⟨φ1,w1,a1,e1,x1,x2,x3,x4,x5,x6⟩:=(ih c h hs ok iO MS (k:= .inBlock id::k)).is
       cases x1 with
       | normal=>exact ⟨φ1,w1,a1,_,.normal,x2,x3,x4,x5,.head stepR_block (Steps.trans x6 (.one stepR_inBlock))⟩
       | exit WR=>exact (f' _ _ h).elim
       | ret=>exact ⟨φ1,w1,a1,_,.ret,x2,x3,x4,x5,.of_steps (e:= .ret) (k:=k) (.one stepR_block) x6⟩
       | panic v v' hv=>exact ⟨φ1,w1,a1,_,.panic v v' hv,x2,x3,x4,x5,.of_steps (e:= .panic _) (k:=k) (.one stepR_block) x6⟩
   | loop c=>exact (aeB c rfl).of_steps (.one stepR_loop)
   | region id ops draw=>
     simp only[exec] at h
     cases draw with
     | false=>
       have sv:=zE hE eu (ops:=ops) (l:=ops.toList) (is:=List.range ops.size) (by simp) (fun j i hj=>by
        have:=List.getElem?_eq_some_iff.1 hj
        obtain ⟨h1,h2⟩:=this
        simp at h1 h2;subst h2;simp) h hs ok iO (b:=b) (k:=k)
       exact sv.of_steps (.one stepR_region)
     | true=>
       obtain ⟨h1,h2,⟨rfl,φ',a',w',x1,x2,x3,x4,x5⟩ | ⟨v,rfl,hp⟩⟩:=Nr hE hE.mixed eu h hs ok iO (b:=b) (k:=k) id
       · refine ⟨φ',w',a',_,.normal,⟨x1,by rw[h2,x2];exact hs.ds.mono x4.ext⟩,x3,x4,by rw[h1];exact iO.mono x4.ext,?_⟩
         rw[h1];exact x5
       · obtain ⟨φ',a',w',v',todo,x0,x1,x2,x3,x4,x5⟩:=hp.is
         refine ⟨φ',w',a',_,.panic v v' x0,⟨x1,by rw[h2,x2];exact hs.ds.mono x4.ext⟩,x3,x4,by rw[h1];exact iO.mono x4.ext,todo,?_⟩
         rw[h1];exact x5
   | rangeFunc f ps a1 b1=>
     simp only[exec] at h
     exact KQ eu h hs ok iO MS
   | scope c=>
     simp only[exec] at h
     have s1:∀{m},Steps E.P (lone (b.atR a (.code c:: .inScope c::k)) (cur K s.rc) w) m→Steps E.P (lone (b.atR a (.code (.scope c)::k)) (cur K s.rc) w) m:=fun q=> .head (step_lone_go (by simp [stepG,stepG.exec,Frame.atR])) q
     obtain ⟨φ1,w1,a1,e1,x1,x2,x3,x4,x5,x6⟩:=(ih c h hs ok iO MS (k:= .inScope c::k)).is
     cases x1 with
     | normal=>exact ⟨φ1,w1,a1,_,.normal,x2,x3,x4,x5,s1 (Steps.trans x6 (.one (step_lone_go (by simp [stepG,stepG.exec,Frame.atR]))))⟩
     | exit WR=>exact ⟨φ1,w1,a1,_,.exit WR,x2,x3,x4,x5,.of_steps (e:= .exit WR) (k:=k) (s1 (Steps.refl _ _)) (.pass (x:= .inScope c) (fun _=>rfl) (by simp) x6)⟩
     | ret=>exact ⟨φ1,w1,a1,_,.ret,x2,x3,x4,x5,.of_steps (e:= .ret) (k:=k) (s1 (Steps.refl _ _)) (.pass (x:= .inScope c) (fun _=>rfl) (by simp) x6)⟩
     | panic v v' hv=>exact ⟨φ1,w1,a1,_,.panic v v' hv,x2,x3,x4,x5,.of_steps (e:= .panic _) (k:=k) (s1 (Steps.refl _ _)) (.pass (x:= .inScope c) (fun _=>rfl) (by simp) x6)⟩
   | goto l=>simp [exec] at h
   | refuse why=>simp [exec] at h
end Go.Ab
end
section
namespace Go.Ab
variable {E:Env}
theorem Nu {φ:Ph} {h:aC} {w:World} (ok:OK E φ h w) {ts:List AV} {tmps:Array Value} (ht:LR φ ts tmps.toList):∀{l:List ResultVar} {vs:List AV} (_:mF E h ts l=some vs),
 ∃tN,LR φ vs tN∧(l.mapM (fun | .tmp t=>pure (tmps.getD t undef) | .cell a t=>do loadVar t (←asAddr (tmps.getD a undef)):ResultVar→Sem Value)).run E.P w= .ok tN w
 | [],vs,h=>by simp [mF] at h;subst h;exact ⟨[],LR.nil φ,rfl⟩
 | r::rest,vs,h=>by
   have iH:∀t,VR φ (ts.getD t AV.undef) (tmps.getD t undef):=fun t=>by
    have:=ht.getD (VR.undef φ) t
    rw[show tmps.getD t undef=tmps.toList.getD t undef by simp [Array.getD_eq_getD_getElem?,List.getD]]
    exact this
   simp only[mF] at h
   split at h
   · simp at h
   · rename_i v hv
     split at h
     · simp at h
     · rename_i vs0 Qo
       simp at h;subst h
       obtain ⟨tN,hl,hr⟩:=Nu ok ht Qo
       cases r with
       | tmp t=>
         simp at hv;subst hv
         refine ⟨tmps.getD t undef::tN,.cons (by simpa using iH t) hl,?_⟩
         simp only[List.mapM_cons,Sem.run_bind,Sem.run_pure,Result.andThen_ok,hr]
       | cell ad t=>
         simp only at hv
         obtain ⟨x',hx,ju⟩:=Jh ok (iH ad) hv
         refine ⟨x'::tN,.cons hx hl,?_⟩
         have hr0:=ju w rfl
         have:(do loadVar t (←asAddr (tmps.getD ad undef)):Sem Value).run E.P w= .ok x' w:=by
          have hv2:=iH ad
          unfold bh at hv
          split at hv
          · rename_i i o heq
            rw[heq] at hv2
            generalize hq:tmps.getD ad undef=q at hv2 hr0
            cases hv2
            simpa [Instr.loadAt,Instr.sureAddr,asAddr] using hr0
          · simp at hv
         simp only[List.mapM_cons]
         rw[Sem.run_bind,this]
         simp only[Sem.run_bind,Sem.run_pure,Result.andThen_ok,hr]
theorem wh {φ:Ph} {h:aC} {w:World} (ok:OK E φ h w) {ts:List AV} {tmps:Array Value} (ht:LR φ ts tmps.toList) {fn:Func} {vs:List AV} (hv:mF E h ts fn.results.toList=some vs):
 ∃v',VR φ (jF vs) v'∧(results fn tmps).run E.P w= .ok v' w:=by
 obtain ⟨tN,hl,hr⟩:=Nu ok ht hv
 have hm:(fn.results.mapM (fun | .tmp t=>pure (tmps.getD t undef) | .cell a t=>do loadVar t (←asAddr (tmps.getD a undef)):ResultVar→Sem Value)).run E.P w= .ok tN.toArray w:=by
  rw[Array.mapM_eq_mapM_toList]
  show Sem.run E.P (Functor.map List.toArray (_:Sem (List Value))) w=_
  rw[Sem.run_map]
  refine (congrArg (fun r=>Result.andThen r _) hr).trans ?_
  rfl
 refine ⟨if h:tN.toArray.size=1 then tN.toArray[0] else .tuple tN.toArray,?_,?_⟩
 · cases vs with
   | nil=>rw[hl.kN];exact VR.tuple' (LR.nil φ)
   | cons v vs=>
     obtain ⟨y,ys,rfl,hy,zx⟩:=hl.dv
     cases vs with
     | nil=>rw[zx.kN];simpa [jF] using hy
     | cons v2 vs2=>
       obtain ⟨y2,ys2,rfl,hy2,alW⟩:=zx.dv
       have:¬(y::y2::ys2).toArray.size=1:=by simp
       rw[dif_neg this]
       exact VR.tuple' (.cons hy (.cons hy2 alW))
 · unfold results
   rw[Sem.run_bind]
   refine (congrArg (fun r=>Result.andThen r _) hm).trans ?_
   rfl
def bare (f:FuncId) (kind:CallKind):Frame:={fn:=f,tmps:= #[],todo:=[],defers:=[],mode:= .run,kind:=kind,roundOf:=none}
theorem XO {P:Program} {f:FuncId} {fn:Func} {c:Code} (hf:P.funcs[f]? =some fn) (hb:fn.body=some c) (vs:List Value) (kind:CallKind):
 Frame.enter P f vs.toArray kind=(bare f kind).atR {tmps:=vs.toArray++Array.replicate (fn.ntmps - vs.length) undef,defers:=[]} [.code c]:=by
 simp [Frame.enter,Frame.atR,hf,hb,bare]
theorem wi (hE:me E) {call:bu} (eu:jI E call) {fuel:Nat} {f:FuncId} {fn:Func} {c:Code} (hf:E.P.funcs[f]? =some fn) (hb:fn.body=some c) {args:List AV} {h:aC} {rc:RC} {e:my} {s':St}
 (iI:pK E call fuel fn c args h rc= .ok e s') {φ:Ph} {w:World} {vs:List Value} (ok:OK E φ h w) (hl:LR φ args vs) {kind:CallKind} {K:Bool→List Frame} (iO:pC φ (bare f kind) K rc):
 sH E φ h w (bare f kind) K [] (lone (Frame.enter E.P f vs.toArray kind) (cur K rc) w) e s':=by
 rw[XO hf hb]
 refine (zF hE eu fuel c (s:={ts:=args++List.replicate (fn.ntmps - args.length) AV.undef,h,ds:=[],rc}) iI (a:={tmps:=vs.toArray++Array.replicate (fn.ntmps - vs.length) undef,defers:=[]}) (b:=bare f kind) (k:=[]) ⟨?_,trivial⟩ ok iO (by show (E.P.funcs[f]?).isSome=true;rw[hf];rfl)).1
 have:=hl.append (LR.replicate (VR.undef φ) (fn.ntmps - args.length))
 rw[hl.1] at this
 simpa [hl.1] using this
theorem enters {E:Env} (hE:me E) {f:FuncId} {fn:Func} {c:Code} (hf:E.P.funcs[f]? =some fn) (hb:fn.body=some c) (vs:Array Value) (w:World):(callFunc f vs).run E.P w= .ok (.enter f vs) w:=by
 have hn:=hE.names f fn hf
 have:(fn.name== "runtime.NumGoroutine")=false:=by rw[beq_eq_false_iff_ne];exact hn
 simp only[callFunc,Sem.run_bind,run_program,Result.andThen_ok,hf,this,Bool.false_eq_true,if_false,hb,Option.isNone_some,Sem.run_pure]
noncomputable def jG (E:Env) (call:bu) (fuel:Nat) (g:FuncId) (as:List AV) (h:aC) (rc:RC):Option (aC×RC):=match E.P.funcs[g]? with
 | none=>none
 | some fg=>match fg.body with
   | none=>none
   | some bg=>match pK E call fuel fg bg as h rc with
     | .ok .normal s'=>if s'.ds.isEmpty&&(mF E s'.h s'.ts fg.results.toList).isSome then some (s'.h,s'.rc) else none
     | .ok .ret s'=>if s'.ds.isEmpty&&(mF E s'.h s'.ts fg.results.toList).isSome then some (s'.h,s'.rc) else none
     | _=>none
theorem wj {φ:Ph} {ds:List Deferred} (h:DsR φ [] ds):ds=[]:=by cases ds with | nil=>rfl | cons _ _=>exact h.elim
def tW (c:Bool→Frame):RC→Frame
 | .done=>{c true with mode:=settle (c true).mode}
 | _=>{c false with mode:=settle (c false).mode}
theorem wk (hE:me E) {call:bu} (eu:jI E call) {fuel:Nat} {g:FuncId} {as:List AV} {h h':aC} {rc rc':RC} (hd:jG E call fuel g as h rc=some (h',rc')) {φ:Ph} {w:World} {vs:List Value}
 (ok:OK E φ h w) (hl:LR φ as vs) {c:Bool→Frame} {cs:List Frame} (iO:pC φ (bare g .deferred) (fun x=>c x::cs) rc):
 ∃φ' w',OK E φ' h' w'∧Fr φ h w φ' h' w'∧pC φ' (bare g .deferred) (fun x=>c x::cs) rc'∧(callFunc g vs.toArray).run E.P w= .ok (.enter g vs.toArray) w∧
  Steps E.P (lone (Frame.enter E.P g vs.toArray .deferred) (cur (fun x=>c x::cs) rc) w)
   (lone (tW c rc') cs w'):=by
 unfold jG at hd
 split at hd
 · simp at hd
 rename_i fg hf
 split at hd
 · simp at hd
 rename_i bg hb
 have key:∀(s':St) (e:my),(e= .normal∨e= .ret)→pK E call fuel fg bg as h rc= .ok e s'→s'.ds.isEmpty=true→(mF E s'.h s'.ts fg.results.toList).isSome=true→s'.h=h'→s'.rc=rc'→
  ∃φ' w',OK E φ' h' w'∧Fr φ h w φ' h' w'∧pC φ' (bare g .deferred) (fun x=>c x::cs) rc'∧(callFunc g vs.toArray).run E.P w= .ok (.enter g vs.toArray) w∧
  Steps E.P (lone (Frame.enter E.P g vs.toArray .deferred) (cur (fun x=>c x::cs) rc) w)
   (lone (tW c rc') cs w'):=by
  intro s' e he iI QD Ir hh hr
  subst hh;subst hr
  obtain ⟨φ',w',a',e',x1,x2,x3,x4,x5,x6⟩:=(wi hE eu hf hb iI ok hl (kind:= .deferred) iO).is
  refine ⟨φ',w',x3,x4,x5,enters hE hf hb _ w,?_⟩
  obtain ⟨tN,alX⟩:=Option.isSome_iff_exists.1 Ir
  obtain ⟨v',_,ju⟩:=wh x3 x2.ts alX
  have hdn:a'.defers=[]:=wj (by have:=x2.ds;rw[List.isEmpty_iff.1 QD] at this;exact this)
  have fin:∀todo,step E.P (lone {(bare g .deferred).atR a' todo with mode:= .returning} (cur (fun x=>c x::cs) s'.rc) w')=
   .next (lone (tW c s'.rc) cs w'):=fun todo=>by
   have Ij:({(bare g .deferred).atR a' todo with mode:= .returning}:Frame).going E.P w' (.returned v'):=⟨rfl,hdn,fg,hf,ju⟩
   have hk:({(bare g .deferred).atR a' todo with mode:= .returning}:Frame).kind= .deferred:=rfl
   cases aot:s'.rc with
   | no=>exact step_going_returned (c:=c false) (cs:=cs) hk Ij
   | ks v=>exact step_going_returned (c:=c false) (cs:=cs) hk Ij
   | done=>exact step_going_returned (c:=c true) (cs:=cs) hk Ij
   | MP l=>exact step_going_returned (c:=c false) (cs:=cs) hk Ij
  rcases he with rfl | rfl
  · cases x1
    exact Steps.trans x6 (.head (stepR_end rfl) (.one (fin [])))
  · cases x1
    obtain ⟨todo,hs⟩:=x6
    exact Steps.trans hs (.head (stepR_ret rfl) (.one (fin _)))
 split at hd
 · rename_i s' iI
   split at hd
   · rename_i hc
     simp at hd;obtain ⟨rfl,rfl⟩:=hd
     simp only[Bool.and_eq_true] at hc
     exact key s' .normal (.inl rfl) iI hc.1 hc.2 rfl rfl
   · simp at hd
 · rename_i s' iI
   split at hd
   · rename_i hc
     simp at hd;obtain ⟨rfl,rfl⟩:=hd
     simp only[Bool.and_eq_true] at hc
     exact key s' .ret (.inr rfl) iI hc.1 hc.2 rfl rfl
   · simp at hd
 · simp at hd
theorem lF (hE:me E) {call:bu} (eu:jI E call) {fuel:Nat}:∀(ds:List tG) {p p':Option AV} {h h':aC} (_:dI (jG E call fuel) ds p h=some (p',h')) {φ:Ph} {w:World} {fr:Frame} {cs:List Frame}
 (_:OK E φ h w) (_:DsR φ ds fr.defers) (_:(p=none∧fr.mode= .returning)∨∃v v',p=some v∧VR φ v v'∧fr.mode= .panicking [{v:=v',recovered:=false}]),
 ∃φ' w' m',OK E φ' h' w'∧Fr φ h w φ' h' w'∧((p'=none∧m'= .returning)∨∃v v',p'=some v∧VR φ' v v'∧m'= .panicking [{v:=v',recovered:=false}])∧
  Steps E.P (lone fr cs w) (lone {fr with defers:=[],mode:=m'} cs w')
 | [],p,p',h,h',hu,φ,w,fr,cs,ok,QD,hp=>by
   simp [dI] at hu;obtain ⟨rfl,rfl⟩:=hu
   have:=wj QD
   refine ⟨φ,w,fr.mode,ok,Fr.refl _ _ _,?_,?_⟩
   · exact hp
   · rw[←this];exact Steps.refl _ _
 | .col r::ds,p,p',h,h',hu,φ,w,fr,cs,ok,QD,hp=>by
   cases hfd:fr.defers with
   | nil=>rw[hfd] at QD;exact QD.elim
   | cons d' CD=>
   rw[hfd] at QD
   obtain ⟨⟨l,hl,ab2⟩,XP⟩:=QD
   have XQ:fr.mode≠ .run:=by
    rcases hp with ⟨_,hm⟩ | ⟨v,v',_,_,hm⟩<;>rw[hm]<;>simp
   simp only[dI] at hu
   split at hu
   · rename_i hg
     obtain ⟨_,hb⟩:=ok.live _ _ _ hg hl
     obtain ⟨Nq,f1⟩:=ok.alU hg rfl hl (.deferred none)
     have U5:=step_collected (P:=E.P) (cs:=cs) XQ hfd ab2 (run_takeDeferred hb)
     obtain ⟨φ2,w2,m2,FZ,f2,XR,QE⟩:=lF hE eu ds hu (fr:={fr with defers:=[]++CD}) (cs:=cs) Nq (by simpa using XP) hp
     exact ⟨φ2,w2,m2,FZ,f1.trans f2,XR,.head U5 QE⟩
   · simp at hu
 | .call df anU::ds,p,p',h,h',hu,φ,w,fr,cs,ok,QD,hp=>by
   cases hfd:fr.defers with
   | nil=>rw[hfd] at QD;exact QD.elim
   | cons d' CD=>
   rw[hfd] at QD
   obtain ⟨⟨cap,ab2,FI⟩,XP⟩:=QD
   have XQ:fr.mode≠ .run:=by
    rcases hp with ⟨_,hm⟩ | ⟨v,v',_,_,hm⟩<;>rw[hm]<;>simp
   have hinv:∀(WX:(callFunc df (d'.args++cap).toList.toArray).run E.P w= .ok (.enter df (d'.args++cap).toList.toArray) w),(invoke d'.target d'.args).run E.P w= .ok (.enter df (d'.args++cap).toList.toArray) w:=fun WX=>by
    have e:(d'.args++cap).toList.toArray=d'.args++cap:=Array.toArray_toList ..
    rw[e] at WX ⊢
    rw[ab2];exact WX
   have U5:∀(WX:(callFunc df (d'.args++cap).toList.toArray).run E.P w= .ok (.enter df (d'.args++cap).toList.toArray) w),step E.P (lone fr cs w)= .next (lone (Frame.enter E.P df (d'.args++cap).toList.toArray .deferred) ({fr with defers:=CD}::cs) w):=fun WX=>step_defer XQ hfd ab2 (hinv WX)
   cases p with
   | none=>
     simp only[dI] at hu
     split at hu
     · rename_i h1 rc1 hcd
       have hm:fr.mode= .returning:=by
        rcases hp with ⟨_,hm⟩ | ⟨v,v',e,_,_⟩
        · exact hm
        · simp at e
       obtain ⟨φ1,w1,Nq,f1,_,WX,kO⟩:=wk hE eu hcd ok FI (c:=fun _=>{fr with defers:=CD}) (cs:=cs) ⟨rfl,fun P3 hk=>by simp [tryRecover,show P3.kind= .deferred from hk,hm]⟩
       have CB:tW (fun _=>{fr with defers:=CD}) rc1={fr with defers:=CD}:=by
        cases rc1<;>simp [tW,hm,settle]
       rw[CB] at kO
       obtain ⟨φ2,w2,m2,FZ,f2,XR,QE⟩:=lF hE eu ds hu (fr:={fr with defers:=CD}) (cs:=cs) Nq (XP.mono f1.ext) (.inl ⟨rfl,hm⟩)
       exact ⟨φ2,w2,m2,FZ,f1.trans f2,XR,.head (U5 WX) (Steps.trans kO QE)⟩
     · simp at hu
   | some v=>
     obtain ⟨v',hv,hm⟩:∃v',VR φ v v'∧fr.mode= .panicking [{v:=v',recovered:=false}]:=by
      rcases hp with ⟨e,_⟩ | ⟨v1,v',e,hv,hm⟩
      · simp at e
      · simp at e;subst e;exact ⟨v',hv,hm⟩
     have iO:pC φ (bare df .deferred) (fun x=>(if x then {fr with defers:=CD,mode:= .panicking [{v:=v',recovered:=true}]} else {fr with defers:=CD})::cs) (.ks v):=
      ⟨rfl,⟨v',hv,fun P3 hk=>by simp [tryRecover,show P3.kind= .deferred from hk,hm]⟩,fun P3 hk=>by simp [tryRecover,show P3.kind= .deferred from hk]⟩
     simp only[dI] at hu
     split at hu
     · rename_i h1 v1 hcd
       obtain ⟨φ1,w1,Nq,f1,_,WX,kO⟩:=wk hE eu hcd ok FI (c:=fun x=>if x then {fr with defers:=CD,mode:= .panicking [{v:=v',recovered:=true}]} else {fr with defers:=CD}) (cs:=cs) iO
       have CB:tW (fun x=>if x then {fr with defers:=CD,mode:= .panicking [{v:=v',recovered:=true}]} else {fr with defers:=CD}) (.ks v1)={fr with defers:=CD}:=by simp [tW,hm,settle]
       rw[CB] at kO
       simp only[Bool.false_eq_true,if_false,cur] at kO
       obtain ⟨φ2,w2,m2,FZ,f2,XR,QE⟩:=lF hE eu ds hu (fr:={fr with defers:=CD}) (cs:=cs) Nq (XP.mono f1.ext) (.inr ⟨v,v',rfl,hv.mono f1.ext,hm⟩)
       exact ⟨φ2,w2,m2,FZ,f1.trans f2,XR,.head (U5 WX) (Steps.trans kO QE)⟩
     · rename_i h1 hcd
       obtain ⟨φ1,w1,Nq,f1,_,WX,kO⟩:=wk hE eu hcd ok FI (c:=fun x=>if x then {fr with defers:=CD,mode:= .panicking [{v:=v',recovered:=true}]} else {fr with defers:=CD}) (cs:=cs) iO
       have CB:tW (fun x=>if x then {fr with defers:=CD,mode:= .panicking [{v:=v',recovered:=true}]} else {fr with defers:=CD}) .done={fr with defers:=CD,mode:= .returning}:=by simp [tW,settle]
       rw[CB] at kO
       simp only[Bool.false_eq_true,if_false,cur] at kO
       obtain ⟨φ2,w2,m2,FZ,f2,XR,QE⟩:=lF hE eu ds hu (fr:={fr with defers:=CD,mode:= .returning}) (cs:=cs) Nq (XP.mono f1.ext) (.inl ⟨rfl,rfl⟩)
       exact ⟨φ2,w2,m2,FZ,f1.trans f2,XR,.head (U5 WX) (Steps.trans kO QE)⟩
     · simp at hu
theorem Nv (hE:me E) (fuel d:Nat) (ih:jI E (iP E d fuel)):(∀f args h v h',iP E (d+1) fuel (.fn f) args h= .ret v h'→m_ E f args h v h')∧(∀f args h v h',iP E (d+1) fuel (.fn f) args h= .panic v h'→SW E f args h v h'):=by
 have key:∀(f:FuncId) (args:List AV) (h:aC) (out:lV),iP E (d+1) fuel (.fn f) args h=out→(∀why q,out≠ .fail why q)→
  ∃fn c e s p,E.P.funcs[f]? =some fn∧fn.body=some c∧pK E (iP E d fuel) fuel fn c args h .no= .ok e s∧
   ((p=none∧(e= .normal∨e= .ret))∨∃v,p=some v∧e= .panic v)∧
   ((∃v h',out= .panic v h'∧dI (jG E (iP E d fuel) fuel) s.ds p s.h=some (some v,h'))∨
    ∃vs h',out= .ret (jF vs) h'∧dI (jG E (iP E d fuel) fuel) s.ds p s.h=some (none,h')∧mF E h' s.ts fn.results.toList=some vs):=by
  intro f args h out e f'
  simp only[iP] at e
  split at e
  · exact absurd e.symm (f' _ _)
  rename_i fn hf
  split at e
  · exact absurd e.symm (f' _ _)
  rename_i c hb
  have fin:∀(p:Option AV) (s:St),(match dI (jG E (iP E d fuel) fuel) s.ds p s.h with
   | none=>lV.fail "unwind" none
   | some (some v,h')=> .panic v h'
   | some (none,h')=>match mF E h' s.ts fn.results.toList with
     | some vs=> .ret (jF vs) h'
     | none=> .fail "results" none)=out→
   ((∃v h',out= .panic v h'∧dI (jG E (iP E d fuel) fuel) s.ds p s.h=some (some v,h'))∨
    ∃vs h',out= .ret (jF vs) h'∧dI (jG E (iP E d fuel) fuel) s.ds p s.h=some (none,h')∧mF E h' s.ts fn.results.toList=some vs):=by
   intro p s hm
   split at hm
   · exact absurd hm.symm (f' _ _)
   · rename_i v h' hu;exact .inl ⟨v,h',hm.symm,hu⟩
   · rename_i h' hu
     split at hm
     · rename_i vs hv;exact .inr ⟨vs,h',hm.symm,hu,hv⟩
     · exact absurd hm.symm (f' _ _)
  split at e
  · rename_i s iI;exact ⟨fn,c,_,s,none,hf,hb,iI,.inl ⟨rfl,.inl rfl⟩,fin none s e⟩
  · rename_i s iI;exact ⟨fn,c,_,s,none,hf,hb,iI,.inl ⟨rfl,.inr rfl⟩,fin none s e⟩
  · rename_i v s iI;exact ⟨fn,c,_,s,some v,hf,hb,iI,.inr ⟨v,rfl,rfl⟩,fin (some v) s e⟩
  · exact absurd e.symm (f' _ _)
  · exact absurd e.symm (f' _ _)
 have run:∀(f:FuncId) (fn:Func) (c:Code) (args:List AV) (h:aC) (e:my) (s:St) (p p':Option AV) (h':aC),E.P.funcs[f]? =some fn→fn.body=some c→pK E (iP E d fuel) fuel fn c args h .no= .ok e s→
  ((p=none∧(e= .normal∨e= .ret))∨∃v,p=some v∧e= .panic v)→dI (jG E (iP E d fuel) fuel) s.ds p s.h=some (p',h')→
  ∀(φ:Ph) (w:World) (vs:List Value),OK E φ h w→LR φ args vs→∀cs,∃φ' w' m' tmps todo,OK E φ' h' w'∧Fr φ h w φ' h' w'∧LR φ' s.ts tmps.toList∧
   ((p'=none∧m'= .returning)∨∃v v',p'=some v∧VR φ' v v'∧m'= .panicking [{v:=v',recovered:=false}])∧
   Steps E.P (lone (Frame.enter E.P f vs.toArray .normal) cs w) (lone {(bare f .normal).atR {tmps,defers:=[]} todo with mode:=m'} cs w'):=by
  intro f fn c args h e s p p' h' hf hb iI hp hu φ w vs ok hl cs
  obtain ⟨φ1,w1,a1,e1,x1,x2,x3,x4,x5,x6⟩:=(wi hE ih hf hb iI ok hl (kind:= .normal) (K:=fun _=>cs) ⟨rfl,fun fr hk=>by simp [tryRecover,show fr.kind= .normal from hk]⟩).is
  have Nw:cur (fun _=>cs) s.rc=cs:=by cases s.rc<;>rfl
  have XS:cur (fun _=>cs) RC.no=cs:=rfl
  rw[Nw] at x6
  rw[XS] at x6
  have hm:∃todo m,((p=none∧m= .returning)∨∃v v',p=some v∧VR φ1 v v'∧m= .panicking [{v:=v',recovered:=false}])∧
   Steps E.P (lone (Frame.enter E.P f vs.toArray .normal) cs w) (lone {(bare f .normal).atR a1 todo with mode:=m} cs w1):=by
   rcases hp with ⟨rfl,rfl | rfl⟩ | ⟨v,rfl,rfl⟩
   · cases x1;exact ⟨[],.returning,.inl ⟨rfl,rfl⟩,Steps.trans x6 (.one (stepR_end rfl))⟩
   · cases x1;obtain ⟨todo,hs⟩:=x6;exact ⟨_,.returning,.inl ⟨rfl,rfl⟩,Steps.trans hs (.one (stepR_ret rfl))⟩
   · cases x1 with
     | panic _ v' hv=>obtain ⟨todo,hs⟩:=x6;exact ⟨todo,_,.inr ⟨v,v',rfl,hv,rfl⟩,hs⟩
  obtain ⟨todo,m,hmp,vO⟩:=hm
  obtain ⟨φ2,w2,m2,FZ,f2,XR,hs2⟩:=lF hE ih s.ds hu (fr:={(bare f .normal).atR a1 todo with mode:=m}) (cs:=cs) x3 x2.ds (by
   rcases hmp with ⟨e,em⟩ | ⟨v,v',e,hv,em⟩
   · exact .inl ⟨e,em⟩
   · exact .inr ⟨v,v',e,hv,em⟩)
  exact ⟨φ2,w2,m2,a1.tmps,todo,FZ,x4.trans f2,x2.ts.mono f2.ext,XR,Steps.trans vO hs2⟩
 refine ⟨fun f args h v h' e=>?_,fun f args h v h' e=>?_⟩
 · obtain ⟨fn,c,e1,s,p,hf,hb,iI,hp,sw⟩:=key f args h _ e (by simp)
   rcases sw with ⟨v1,h1,he,_⟩ | ⟨vs1,h1,he,hu,Ir⟩
   · simp at he
   · simp at he;obtain ⟨rfl,rfl⟩:=he
     intro φ w vs ok hl
     refine ⟨enters hE hf hb _ w,fun cs=>?_⟩
     obtain ⟨φ',w',m',tmps,todo,vf,fr,ht,hm,hs⟩:=run f fn c args h e1 s p none h' hf hb iI hp hu φ w vs ok hl cs
     obtain ⟨v',hv,ju⟩:=wh vf ht Ir
     rcases hm with ⟨_,rfl⟩ | ⟨v,v'',e,_⟩
     · exact ⟨φ',w',v',_,hv,vf,fr,hs,rfl,rfl,rfl,rfl,fn,hf,ju⟩
     · simp at e
 · obtain ⟨fn,c,e1,s,p,hf,hb,iI,hp,sw⟩:=key f args h _ e (by simp)
   rcases sw with ⟨v1,h1,he,hu⟩ | ⟨vs1,h1,he,_⟩
   · simp at he;obtain ⟨rfl,rfl⟩:=he
     intro φ w vs ok hl
     refine ⟨enters hE hf hb _ w,fun cs=>?_⟩
     obtain ⟨φ',w',m',tmps,todo,vf,fr,ht,hm,hs⟩:=run f fn c args h e1 s p (some v) h' hf hb iI hp hu φ w vs ok hl cs
     rcases hm with ⟨e,_⟩ | ⟨v2,v',e,hv,rfl⟩
     · simp at e
     · simp at e;subst e
       exact ⟨φ',w',v',_,hv,vf,fr,hs,rfl,rfl,rfl,fn,hf⟩
   · simp at he
theorem zG {l:Nat} {Ct:Option Code} {s:St} {v:AV} {h':aC} (he:Fw l Ct s= .ret v h') {φ:Ph} {w:World} (ok:OK E φ s.h w) {ll:Loc} (hl:φ l=some ll):
 ∃w',v= .bool Ct.isNone∧OK E φ h' w'∧Fr φ s.h w φ h' w'∧(Instr.endRound ll.iR Ct).run E.P w= .ok (.bool Ct.isNone) w':=by
 unfold Fw at he
 split at he
 · rename_i st pd ts ps as bd dn hg
   simp only[lV.ret.injEq] at he;obtain ⟨rfl,rfl⟩:=he
   obtain ⟨_,r,hr,CJ⟩:=ok.live _ _ _ hg hl
   obtain ⟨Nq,f1⟩:=ok.afR (o':= .loop (if Ct.isNone then .ready else .done) Ct ts ps as bd dn) hg rfl hl (O:= .loop {r with state:=if Ct.isNone then .ready else .done,pending:=Ct})
    ⟨by have:=ok.live _ _ _ hg hl;exact this.1,_,rfl,⟨rfl,rfl,CJ.tmps,CJ.params,CJ.assign,CJ.body,CJ.defers,CJ.fn⟩⟩
   exact ⟨_,rfl,Nq,f1,run_endRound Ct hr⟩
 · simp at he
theorem Nx {φ:Ph}:∀{ps:List Tmp} {args:List AV} {vs:List Value} (_:LR φ args vs) {ts:List AV} {tmps:Array Value} (_:LR φ ts tmps.toList),
 LR φ ((ps.zip args).foldl (fun ts x=>ts.set x.1 x.2) ts) (((ps.zip vs).foldl (fun (tmps:Array Value) (x:Tmp×Value)=>tmps.setIfInBounds x.1 x.2) tmps).toList)
 | [],_,_,_,_,_,ht=>by simpa using ht
 | p::ps,[],vs,hl,ts,tmps,ht=>by rw[hl.kN];simpa using ht
 | p::ps,x::xs,vs,hl,ts,tmps,ht=>by
   obtain ⟨y,ys,rfl,hy,zx⟩:=hl.dv
   simp only[List.zip_cons_cons,List.foldl_cons]
   exact Nx zx (by simpa using ht.set hy p)
theorem F3 (hE:me E) {call:bu} (eu:jI E call) {fuel l:Nat} {args:List AV} {h:aC} {out:lV} (ho:zu E call fuel l args h=out) (f':∀why q,out≠ .fail why q)
 {φ:Ph} {w:World} {vs:List Value} (ok:OK E φ h w) {ll:Loc} (hφ:φ l=some ll) (hl:LR φ args vs):
 ∃f tmps assign body,(Instr.yield ll.iR vs.toArray).run E.P w= .ok (.round ll.iR f tmps assign body) w∧∀c cs,
  (∀v h',out= .ret v h'→∃φ' w' v',VR φ' v v'∧OK E φ' h' w'∧Fr φ h w φ' h' w'∧Steps E.P (lone (Frame.round ll.iR f tmps assign body .normal) (c::cs) w) (lone (c.finish v') cs w'))∧
  (∀v h',out= .panic v h'→∃φ' w' v',VR φ' v v'∧OK E φ' h' w'∧Fr φ h w φ' h' w'∧Steps E.P (lone (Frame.round ll.iR f tmps assign body .normal) (c::cs) w) (lone (c.raise [{v:=v',recovered:=false}]) cs w')):=by
 unfold zu at ho
 split at ho
 · rename_i st pd ts ps as bd dn hg
   split at ho
   · rename_i hlen
     split at ho
     · rename_i s1 hx1
       split at ho
       · rename_i pd2 ts2 ps2 as2 bd2 dn2 hg1
         obtain ⟨aou,r,hr,CJ⟩:=ok.live _ _ _ hg hφ
         have M1:vs.toArray.size=r.params.size:=by
          have h1:=congrArg List.length CJ.params
          have h2:=hl.1
          simp at h1 ⊢;omega
         refine ⟨r.fn,_,r.assign,r.body,run_yield hr M1,fun c cs=>?_⟩
         have ai1:LR φ ((ps.zip args).foldl (fun ts x=>ts.set x.1 x.2) ts) ((r.params.zip vs.toArray).foldl (fun tmps (t,a)=>tmps.setIfInBounds t a) r.tmps).toList:=by
          have:=Nx (ps:=ps) hl CJ.tmps
          rw[←Array.foldl_toList,Array.toList_zip,CJ.params]
          exact this
         generalize htm:(r.params.zip vs.toArray).foldl (fun tmps (t,a)=>tmps.setIfInBounds t a) r.tmps=S2 at ai1
         let b:Frame:={fn:=r.fn,tmps:= #[],todo:=[],defers:=[],mode:= .run,kind:= .normal,roundOf:=some ll.iR}
         have hb:b.roundOf=some ll.iR:=rfl
         have hk:b.kind= .normal:=rfl
         have CE:Frame.round ll.iR r.fn S2 r.assign r.body .normal=b.atR {tmps:=S2,defers:=[]} [.code r.assign,.beginRound,.code r.body]:=rfl
         rw[CJ.assign,CJ.body] at CE ⊢
         rw[CE]
         have Nw:∀rc,cur (fun _=>c::cs) rc=c::cs:=fun rc=>by cases rc<;>rfl
         obtain ⟨φ1,w1,a1,e1,x1,x2,x3,x4,x5,x6⟩:=(zF hE eu fuel as hx1 (a:={tmps:=S2,defers:=[]}) (b:=b) (k:=[.beginRound,.code bd]) (K:=fun _=>c::cs) ⟨ai1,trivial⟩ ok ⟨ll,hφ,rfl⟩ CJ.fn).1.is
         cases x1
         rw[Nw,Nw] at x6
         have hφ1:=x4.ext _ _ hφ
         obtain ⟨ai2,r1,hr1,Ny⟩:=x3.live _ _ _ hg1 hφ1
         obtain ⟨FZ,f2⟩:=x3.afR (o':= .loop .busy pd2 ts2 ps2 as2 bd2 dn2) hg1 rfl hφ1 (O:= .loop {r1 with state:= .busy})
          ⟨ai2,_,rfl,⟨rfl,Ny.pending,Ny.tmps,Ny.params,Ny.assign,Ny.body,Ny.defers,Ny.fn⟩⟩
         have alY:=stepR_beginRound (P:=E.P) (b:=b) (a:=a1) (k:=[.code bd]) (cs:=c::cs) hb (run_beginRound hr1 Ny.state)
         have Es:=Steps.trans x6 (.one alY)
         have body:∀(e:my) (s2:St),exec E call fuel bd {s1 with h:=s1.h.put l (some (.loop .busy pd2 ts2 ps2 as2 bd2 dn2))}= .ok e s2→
          ∃φ' w' a' e',ExR φ' e e'∧SR φ' s2.ts s2.ds a'∧OK E φ' s2.h w'∧Fr φ h w φ' s2.h w'∧φ' l=some ll∧Ns E.P (lone (b.atR {tmps:=S2,defers:=[]} [.code as,.beginRound,.code bd]) (c::cs) w) b [] (c::cs) e' a' w':=by
          intro e s2 hx2
          obtain ⟨φ3,w3,a3,e3,y1,y2,y3,y4,y5,y6⟩:=(zF hE eu fuel bd hx2 (a:=a1) (b:=b) (k:=[]) (K:=fun _=>c::cs) x2 FZ x5 CJ.fn).1.is
          rw[Nw,Nw] at y6
          exact ⟨φ3,w3,a3,e3,y1,y2,y3,(x4.trans f2).trans y4,y4.ext _ _ hφ1,.of_steps Es y6⟩
         split at ho
         · rename_i s2 hx2
           obtain ⟨φ3,w3,a3,e3,y1,y2,y3,y4,hl3,y6⟩:=body _ _ hx2
           cases y1
           refine ⟨fun v h' e=>?_,fun v h' e=>?_⟩
           · obtain ⟨w4,rfl,z1,z2,z3⟩:=zG (ho.trans e) y3 hl3
             exact ⟨φ3,w4,_,.bool _,z1,y4.trans z2,Steps.trans y6 (.one (stepR_round_end hb hk z3))⟩
           · rw[e] at ho;unfold Fw at ho;split at ho<;>simp at ho
         · rename_i s2 hx2
           obtain ⟨φ3,w3,a3,e3,y1,y2,y3,y4,hl3,y6⟩:=body _ _ hx2
           cases y1
           refine ⟨fun v h' e=>?_,fun v h' e=>?_⟩
           · obtain ⟨w4,rfl,z1,z2,z3⟩:=zG (ho.trans e) y3 hl3
             obtain ⟨todo,hs⟩:=y6
             exact ⟨φ3,w4,_,.bool _,z1,y4.trans z2,Steps.trans hs (.one (stepR_round_ret hb hk z3))⟩
           · rw[e] at ho;unfold Fw at ho;split at ho<;>simp at ho
         · rename_i id s2 hx2
           obtain ⟨φ3,w3,a3,e3,y1,y2,y3,y4,hl3,y6⟩:=body _ _ hx2
           cases y1
           refine ⟨fun v h' e=>?_,fun v h' e=>?_⟩
           · obtain ⟨w4,rfl,z1,z2,z3⟩:=zG (ho.trans e) y3 hl3
             obtain ⟨todo,ht,hs⟩:=y6
             exact ⟨φ3,w4,_,.bool _,z1,y4.trans z2,Steps.trans hs (.one (stepR_round_exit hb hk ht z3))⟩
           · rw[e] at ho;unfold Fw at ho;split at ho<;>simp at ho
         · rename_i v2 s2 hx2
           obtain ⟨φ3,w3,a3,e3,y1,y2,y3,y4,hl3,y6⟩:=body _ _ hx2
           split at ho
           · rename_i QD
             refine ⟨fun v h' e=>by rw[e] at ho;simp at ho,fun v h' e=>?_⟩
             rw[e] at ho;simp at ho;obtain ⟨rfl,rfl⟩:=ho
             cases y1 with
             | panic _ v' hv=>
               obtain ⟨todo,hs⟩:=y6
               have hdn:a3.defers=[]:=wj (by have:=y2.ds;rw[List.isEmpty_iff.1 QD] at this;exact this)
               obtain ⟨fn,MS⟩:=Option.isSome_iff_exists.1 CJ.fn
               exact ⟨φ3,w3,v',hv,y3,y4,Steps.trans hs (.one (step_leave_panicked ⟨rfl,hdn,fn,MS⟩))⟩
           · exact absurd ho.symm (f' _ _)
         · exact absurd ho.symm (f' _ _)
       · exact absurd ho.symm (f' _ _)
     · exact absurd ho.symm (f' _ _)
     · exact absurd ho.symm (f' _ _)
   · exact absurd ho.symm (f' _ _)
 · exact absurd ho.symm (f' _ _)
theorem DL (hE:me E) (fuel:Nat):∀d,jI E (iP E d fuel)
 | 0=>⟨fun f args h v h' e=>by simp [iP] at e,fun f args h v h' e=>by simp [iP] at e⟩
 | d+1=>by
   have ih:=DL hE fuel d
   obtain ⟨k1,k2⟩:=Nv hE fuel d ih
   refine ⟨fun F args h v h' e=>?_,fun F args h v h' e=>?_⟩
   · cases F with
     | fn f=>exact (k1 f args h v h' e).any
     | DA l=>
       simp only[iP] at e
       intro φ w vs ok hf hl
       obtain ⟨ll,hφ⟩:=hf
       obtain ⟨f,tmps,assign,body,hy,ju⟩:=F3 hE ih e (by simp) ok hφ hl
       exact ⟨_,_,.DA l ll hφ vs f tmps assign body hy,fun c cs=>(ju c cs).1 v h' rfl⟩
   · cases F with
     | fn f=>exact (k2 f args h v h' e).any
     | DA l=>
       simp only[iP] at e
       intro φ w vs ok hf hl
       obtain ⟨ll,hφ⟩:=hf
       obtain ⟨f,tmps,assign,body,hy,ju⟩:=F3 hE ih e (by simp) ok hφ hl
       exact ⟨_,_,.DA l ll hφ vs f tmps assign body hy,fun c cs=>(ju c cs).2 v h' rfl⟩
end Go.Ab
end
section
namespace Go.Ab.Fa
structure Acc (T:Type) where
 f:T→AV
structure Upd (T:Type) where
 f:AV→T→T
structure RF where
 T:Type
 N:Nat
 get:Nat→Acc T
 set:Nat→Upd T
 z:T
 XT:∀i,i<N→(get i).f z=AV.undef
 A7:∀i,i<N→∀v r,(get i).f ((set i).f v r)=v
 xZ:∀i j,i<N→j<N→i≠j→∀v r,(get j).f ((set i).f v r)=(get j).f r
def ab3 (i:Nat):Acc (P8 (P8 AV)):=s8 (i/8) fun p=>s8 (i%8) fun q=>⟨fun r=>q (p r)⟩
noncomputable def afT (i:Nat):Upd (P8 (P8 AV)):=e8 (i/8) fun p=>e8 (i%8) fun q=>⟨fun v r=>p (q fun _=>v) r⟩
noncomputable def rf2:RF where
 T:=P8 (P8 AV)
 N:=64
 get:=ab3
 set:=afT
 z:=P8.all (P8.all AV.undef)
 XT i h:=by simp only[ab3,yN,EY]
 A7 i h v r:=by simp only[ab3,afT,yN,Dz,dO]
 xZ i j hi hj h v r:=by
  simp only[ab3,afT,yN,Dz]
  by_cases h1:i/8=j/8
  · rw[h1,dO,fb (by omega) (by omega) (by omega)]
  · rw[fb (by omega) (by omega) h1]
def ab4 (i:Nat):Acc (P8 (P8 (P8 AV))):=s8 (i/64) fun o=>s8 (i/8%8) fun p=>s8 (i%8) fun q=>⟨fun r=>q (p (o r))⟩
noncomputable def afU (i:Nat):Upd (P8 (P8 (P8 AV))):=e8 (i/64) fun o=>e8 (i/8%8) fun p=>e8 (i%8) fun q=>⟨fun v r=>o (p (q fun _=>v)) r⟩
noncomputable def rf3:RF where
 T:=P8 (P8 (P8 AV))
 N:=512
 get:=ab4
 set:=afU
 z:=P8.all (P8.all (P8.all AV.undef))
 XT i h:=by simp only[ab4,yN,EY]
 A7 i h v r:=by simp only[ab4,afU,yN,Dz,dO]
 xZ i j hi hj h v r:=by
  simp only[ab4,afU,yN,Dz]
  by_cases h1:i/64=j/64
  · rw[h1,dO]
    by_cases h2:i/8%8=j/8%8
    · rw[h2,dO,fb (by omega) (by omega) (by omega)]
    · rw[fb (by omega) (by omega) h2]
  · rw[fb (by omega) (by omega) h1]
section
variable (F:RF) (n:Nat)
def gd (r:F.T):List AV:=(List.range n).map fun i=>(F.get i).f r
theorem j8 (r:F.T):(gd F n r).length=n:=by simp [gd]
theorem x7 (r:F.T) {i:Nat} (h:i<n):(gd F n r)[i]? =some ((F.get i).f r):=by simp [gd,h]
theorem Nz (r:F.T) (i:Nat):(gd F n r).getD i AV.undef=if i<n then (F.get i).f r else AV.undef:=by
 rw[List.getD_eq_getElem?_getD]
 split
 · rename_i h;rw[x7 F n r h];rfl
 · rw[List.getElem?_eq_none (by rw[j8];omega)];rfl
theorem ab5 (hn:n≤F.N) (r:F.T) {i:Nat} (h:i<n) (v:AV):(gd F n r).set i v=gd F n ((F.set i).f v r):=by
 apply List.ext_getElem?
 intro j
 rw[List.getElem?_set]
 by_cases hj:j<n
 · rw[x7 F n _ hj,x7 F n _ hj,j8]
   by_cases e:i=j
   · subst e;simp [F.A7 i (by omega),h]
   · rw[if_neg e,F.xZ i j (by omega) (by omega) e]
 · rw[List.getElem?_eq_none (l:=gd F n r) (by rw[j8];omega),List.getElem?_eq_none (l:=gd F n _) (by rw[j8];omega),j8]
   rw[if_neg (by omega)]
noncomputable def WY:List AV→F.T→Nat→F.T:=fun l=>List.rec (motive:=fun _=>F.T→Nat→F.T) (fun r _=>r) (fun v _ ih r i=>ih ((F.set i).f v r) (Nat.add i 1)) l
theorem ab6 (r:F.T) (i:Nat):WY F [] r i=r:=rfl
theorem XU (v:AV) (l:List AV) (r:F.T) (i:Nat):WY F (v::l) r i=WY F l ((F.set i).f v r) (i+1):=rfl
theorem S3 (hn:n≤F.N):∀(l:List AV) (r:F.T) (i:Nat),i+l.length≤n→∀j,j<n→(F.get j).f (WY F l r i)=if i≤j∧j<i+l.length then l.getD (j - i) AV.undef else (F.get j).f r
 | [],r,i,_,j,hj=>by rw[ab6,if_neg (by rw[List.length_nil];omega)]
 | v::l,r,i,h,j,hj=>by
   simp only[List.length_cons] at h
   rw[XU,S3 hn l _ (i+1) (by omega) j hj]
   simp only[List.length_cons]
   by_cases h1:i+1≤j∧j<i+1+l.length
   · rw[if_pos h1,if_pos (by omega)]
     obtain ⟨m,hm⟩:∃m,j - i=m+1:=⟨j - i - 1,by omega⟩
     rw[hm,show j -(i+1)=m by omega,List.getD_cons_succ]
   · rw[if_neg h1]
     by_cases h2:i=j
     · subst h2;rw[F.A7 i (by omega),if_pos (by omega)];simp
     · rw[F.xZ i j (by omega) (by omega) h2,if_neg (by omega)]
theorem S4 (hn:n≤F.N) (l:List AV) (h:l.length≤n):gd F n (WY F l F.z 0)=l++List.replicate (n - l.length) AV.undef:=by
 apply List.ext_getElem?
 intro j
 by_cases hj:j<n
 · rw[x7 F n _ hj,S3 F n hn l F.z 0 (by omega) j hj]
   by_cases h1:j<l.length
   · rw[if_pos (by omega),List.getElem?_append_left h1,Nat.sub_zero,List.getD_eq_getElem?_getD,List.getElem?_eq_getElem h1];rfl
   · rw[if_neg (by omega),List.getElem?_append_right (by omega),F.XT j (by omega),List.getElem?_replicate,if_pos (by omega)]
 · rw[List.getElem?_eq_none (by rw[j8];omega),List.getElem?_eq_none (by simp;omega)]
end
end Go.Ab.Fa
end
section
namespace Go.Ab.Fa
section
variable {R:Type}
noncomputable def lP (f:Bool→R) (d:R) (v:AV):R:=
 AV.rec (motive_1:=fun _=>R) (motive_2:=fun _=>Unit) (fun b=>f b) (fun _ _=>d) (fun _=>d) d (fun _ _=>d) d (fun _ _ _ _ _=>d) d (fun _=>d) (fun _ _ _ _ _=>d) (fun _=>d) d (fun _ _ _=>d) d (fun _ _=>d) (fun _ _=>d) d d () (fun _ _ _ _=>()) v
noncomputable def sI (f:IntKind→Int→R) (d:R) (v:AV):R:=
 AV.rec (motive_1:=fun _=>R) (motive_2:=fun _=>Unit) (fun _=>d) (fun k n=>f k n) (fun _=>d) d (fun _ _=>d) d (fun _ _ _ _ _=>d) d (fun _=>d) (fun _ _ _ _ _=>d) (fun _=>d) d (fun _ _ _=>d) d (fun _ _=>d) (fun _ _=>d) d d () (fun _ _ _ _=>()) v
noncomputable def tX (f:List UInt8→R) (d:R) (v:AV):R:=
 AV.rec (motive_1:=fun _=>R) (motive_2:=fun _=>Unit) (fun _=>d) (fun _ _=>d) (fun s=>f s) d (fun _ _=>d) d (fun _ _ _ _ _=>d) d (fun _=>d) (fun _ _ _ _ _=>d) (fun _=>d) d (fun _ _ _=>d) d (fun _ _=>d) (fun _ _=>d) d d () (fun _ _ _ _=>()) v
noncomputable def CK (f:Nat→Nat→R) (d:R) (v:AV):R:=
 AV.rec (motive_1:=fun _=>R) (motive_2:=fun _=>Unit) (fun _=>d) (fun _ _=>d) (fun _=>d) d (fun i o=>f i o) d (fun _ _ _ _ _=>d) d (fun _=>d) (fun _ _ _ _ _=>d) (fun _=>d) d (fun _ _ _=>d) d (fun _ _=>d) (fun _ _=>d) d d () (fun _ _ _ _=>()) v
noncomputable def kX (e:R) (f:Nat→Nat→Nat→Nat→Bool→R) (d:R) (v:AV):R:=
 AV.rec (motive_1:=fun _=>R) (motive_2:=fun _=>Unit) (fun _=>d) (fun _ _=>d) (fun _=>d) d (fun _ _=>d) e (fun i o l c b=>f i o l c b) d (fun _=>d) (fun _ _ _ _ _=>d) (fun _=>d) d (fun _ _ _=>d) d (fun _ _=>d) (fun _ _=>d) d d () (fun _ _ _ _=>()) v
noncomputable def vZ (z d:R) (v:AV):R:=
 AV.rec (motive_1:=fun _=>R) (motive_2:=fun _=>Unit) (fun _=>d) (fun _ _=>d) (fun _=>d) d (fun _ _=>d) d (fun _ _ _ _ _=>d) d (fun _=>d) (fun _ _ _ _ _=>d) (fun _=>d) d (fun _ _ _=>d) d (fun _ _=>d) (fun _ _=>d) z d () (fun _ _ _ _=>()) v
noncomputable def S5 (f:FuncId→List AV→List AV→R) (y:Nat→R) (d:R) (v:AV):R:=
 AV.rec (motive_1:=fun _=>R) (motive_2:=fun _=>Unit) (fun _=>d) (fun _ _=>d) (fun _=>d) d (fun _ _=>d) d (fun _ _ _ _ _=>d) d (fun _=>d) (fun g a b _ _=>f g a b) (fun l=>y l) d (fun _ _ _=>d) d (fun _ _=>d) (fun _ _=>d) d d () (fun _ _ _ _=>()) v
noncomputable def CL (f:List AV→R) (t:List AV→R) (d:R) (v:AV):R:=
 AV.rec (motive_1:=fun _=>R) (motive_2:=fun _=>Unit) (fun _=>d) (fun _ _=>d) (fun _=>d) d (fun _ _=>d) d (fun _ _ _ _ _=>d) d (fun _=>d) (fun _ _ _ _ _=>d) (fun _=>d) d (fun _ _ _=>d) d (fun cs _=>f cs) (fun cs _=>t cs) d d () (fun _ _ _ _=>()) v
noncomputable def tY (f:TypeId→AV→R) (d:R) (v:AV):R:=
 AV.rec (motive_1:=fun _=>R) (motive_2:=fun _=>Unit) (fun _=>d) (fun _ _=>d) (fun _=>d) d (fun _ _=>d) d (fun _ _ _ _ _=>d) d (fun _=>d) (fun _ _ _ _ _=>d) (fun _=>d) d (fun t v _=>f t v) d (fun _ _=>d) (fun _ _=>d) d d () (fun _ _ _ _=>()) v
noncomputable def KR (v:AV):Bool:=
 AV.rec (motive_1:=fun _=>Bool) (motive_2:=fun _=>Unit) (fun _=>false) (fun _ _=>false) (fun _=>false) false (fun _ _=>true) false (fun _ _ _ _ _=>true) false (fun _=>true) (fun _ _ _ _ _=>true) (fun _=>false) false (fun _ _ _=>false) false (fun _ _=>false) (fun _ _=>false) false false () (fun _ _ _ _=>()) v
noncomputable def ob {α:Type} (d:R) (f:α→R) (o:Option α):R:=Option.rec (motive:=fun _=>R) d f o
noncomputable def bc (b:Bool) (x y:R):R:=Bool.rec (motive:=fun _=>R) y x b
noncomputable def CM (f:List AV→TypeId→Bool→R) (d:R) (o:aM):R:=
 aM.rec (motive:=fun _=>R) (fun cs e ro=>f cs e ro) (fun _ _=>d) (fun _ _=>d) (fun _ _ _ _=>d) (fun _ _ _ _ _ _ _=>d) d o
noncomputable def nY (f:Nat→R) (d:R) (n:Int):R:=Int.rec (motive:=fun _=>R) f (fun _=>d) n
noncomputable def kEl (a b c d e f g h:R) (k:IntKind):R:=IntKind.rec (motive:=fun _=>R) a b c d e f g h k
end
noncomputable def kc (k:IntKind):Nat:=kEl 0 1 2 3 4 5 6 7 k
noncomputable def XV (k j:IntKind):Bool:=Nat.beq (kc k) (kc j)
noncomputable def yz (k:IntKind):Nat:=kEl 128 32768 2147483648 9223372036854775808 256 65536 4294967296 18446744073709551616 k
noncomputable def XW (k:IntKind):Nat:=kEl 8 16 32 64 8 16 32 64 k
noncomputable def ksg (k:IntKind):Bool:=kEl true true true true false false false false k
noncomputable def yT (k:IntKind) (n:Int):Int:=
 Int.rec (motive:=fun _=>Int) (fun m=>bc (Nat.ble (yz k) m) (bc (ksg k) (k.wrap (Int.ofNat m)) (Int.ofNat (Nat.mod m (yz k)))) (Int.ofNat m))
  (fun m=>bc (ksg k) (bc (Nat.ble (yz k) m) (k.wrap (Int.negSucc m)) (Int.negSucc m)) (k.wrap (Int.negSucc m))) n
noncomputable def qG (a b:Int):Int:=nY (fun x=>nY (fun y=>Int.ofNat (Nat.add x y)) (Int.add a b) b) (Int.add a b) a
noncomputable def CO (a b:Int):Int:=nY (fun x=>nY (fun y=>bc (Nat.ble y x) (Int.ofNat (Nat.sub x y)) (Int.negSucc (Nat.sub (Nat.sub y x) 1))) (Int.sub a b) b) (Int.sub a b) a
noncomputable def ab7 (a b:Int):Int:=nY (fun x=>nY (fun y=>Int.ofNat (Nat.mul x y)) (Int.mul a b) b) (Int.mul a b) a
noncomputable def ieq (a b:Int):Bool:=
 Int.rec (motive:=fun _=>Bool) (fun x=>Int.rec (motive:=fun _=>Bool) (fun y=>Nat.beq x y) (fun _=>false) b) (fun x=>Int.rec (motive:=fun _=>Bool) (fun _=>false) (fun y=>Nat.beq x y) b) a
noncomputable def ilt (a b:Int):Bool:=
 Int.rec (motive:=fun _=>Bool) (fun x=>Int.rec (motive:=fun _=>Bool) (fun y=>Nat.ble (Nat.add x 1) y) (fun _=>false) b) (fun x=>Int.rec (motive:=fun _=>Bool) (fun _=>true) (fun y=>Nat.ble (Nat.add y 1) x) b) a
noncomputable def zH (b:Bool):Bool:=bc b false true
noncomputable def ab8 (op:BinOp):IntKind→Int→Int→Option AV:=match op with
 | .add=>fun k a b=>some (.int k (yT k (qG a b)))
 | .sub=>fun k a b=>some (.int k (yT k (CO a b)))
 | .mul=>fun k a b=>some (.int k (yT k (ab7 a b)))
 | .eql=>fun _ a b=>some (.bool (ieq a b))
 | .neq=>fun _ a b=>some (.bool (zH (ieq a b)))
 | .lss=>fun _ a b=>some (.bool (ilt a b))
 | .leq=>fun _ a b=>some (.bool (zH (ilt b a)))
 | .gtr=>fun _ a b=>some (.bool (ilt b a))
 | .geq=>fun _ a b=>some (.bool (zH (ilt a b)))
 | .quo=>fun k a b=>nY (fun x=>nY (fun y=>bc (Nat.beq y 0) none (some (.int k (yT k (Int.ofNat (Nat.div x y)))))) (eh .quo k a b) b) (eh .quo k a b) a
 | .rem=>fun k a b=>nY (fun x=>nY (fun y=>bc (Nat.beq y 0) none (some (.int k (Int.ofNat (Nat.mod x y))))) (eh .rem k a b) b) (eh .rem k a b) a
 | .and=>fun k a b=>nY (fun x=>nY (fun y=>bc (Nat.ble (yz k) x) (eh .and k a b) (bc (Nat.ble (yz k) y) (eh .and k a b) (some (.int k (Int.ofNat (Nat.land x y)))))) (eh .and k a b) b) (eh .and k a b) a
 | .or=>fun k a b=>nY (fun x=>nY (fun y=>bc (Nat.ble (yz k) x) (eh .or k a b) (bc (Nat.ble (yz k) y) (eh .or k a b) (some (.int k (Int.ofNat (Nat.lor x y)))))) (eh .or k a b) b) (eh .or k a b) a
 | op=>fun k a b=>eh op k a b
noncomputable def XX (k:IntKind) (y:Nat):Nat:=bc (Nat.ble (XW k) y) (XW k) y
noncomputable def ai3 (k:IntKind) (a b:Int):Option AV:=nY (fun y=>some (.int k (yT k (ab7 a (Int.ofNat (Nat.pow 2 (XX k y))))))) none b
noncomputable def ai4 (k:IntKind) (a b:Int):Option AV:=nY (fun y=>some (.int k (nY (fun x=>Int.ofNat (Nat.div x (Nat.pow 2 (XX k y)))) (a.fdiv (2^(min y k.bits))) a))) none b
section
variable {α:Type}
noncomputable def ku (l:List α):Nat:=List.rec (motive:=fun _=>Nat) 0 (fun _ _ ih=>Nat.add ih 1) l
noncomputable def ky (l:List α):Nat→Option α:=List.rec (motive:=fun _=>Nat→Option α) (fun _=>none) (fun v _ ih o=>bc (Nat.beq o 0) (some v) (ih (Nat.sub o 1))) l
noncomputable def wm (l:List α):Nat→List α:=List.rec (motive:=fun _=>Nat→List α) (fun _=> []) (fun v tl ih o=>bc (Nat.beq o 0) (v::tl) (ih (Nat.sub o 1))) l
noncomputable def wq (l:List α):Nat→List α:=List.rec (motive:=fun _=>Nat→List α) (fun _=> []) (fun v _ ih o=>bc (Nat.beq o 0) [] (v::ih (Nat.sub o 1))) l
noncomputable def mY (l m:List α):List α:=List.rec (motive:=fun _=>List α) m (fun v _ ih=>v::ih) l
noncomputable def CP (f:α→Bool) (l:List α):Bool:=List.rec (motive:=fun _=>Bool) true (fun v _ ih=>bc (f v) ih false) l
noncomputable def NA (vs:List α):List α→List α:=
 List.rec (motive:=fun _=>List α→List α) (fun cs=>cs) (fun v _ ih cs=>List.rec (motive:=fun _=>List α) [] (fun _ tl _=>v::ih tl) cs) vs
noncomputable def NC (vs cs:List α):Nat→List α:=
 List.rec (motive:=fun _=>Nat→List α) (fun _=> []) (fun c tl ih o=>bc (Nat.beq o 0) (NA vs (c::tl)) (c::ih (Nat.sub o 1))) cs
noncomputable def leq (f:α→α→Bool) (l:List α):List α→Bool:=
 List.rec (motive:=fun _=>List α→Bool) (fun m=>List.rec (motive:=fun _=>Bool) true (fun _ _ _=>false) m)
  (fun x _ ih m=>List.rec (motive:=fun _=>Bool) false (fun y tl _=>bc (f x y) (ih tl) false) m) l
end
noncomputable def F4 (a b:UInt8):Bool:=Nat.beq a.toBitVec.toFin.val b.toBitVec.toFin.val
noncomputable def ab9 (v:AV):Bool:=CL (fun _=>false) (fun _=>false) true v
noncomputable def nf (v:AV):List AV:=CL (fun cs=>cs) (fun _=> [v]) [v] v
end Go.Ab.Fa
end
section
namespace Go.Ab.Fa
section
variable {α β:Type}
noncomputable def Et (l:List Nat) (x:Nat):Bool:=List.rec (motive:=fun _=>Bool) false (fun y _ ih=>bc (Nat.beq x y) true ih) l
noncomputable def afV (f:α→Bool) (l:List α):Bool:=List.rec (motive:=fun _=>Bool) false (fun v _ ih=>bc (f v) true ih) l
noncomputable def allI (f:α→Nat→Bool) (l:List α) (i:Nat):Bool:=List.rec (motive:=fun _=>Nat→Bool) (fun _=>true) (fun v _ ih i=>bc (f v i) (canon (Nat.add i 1) ih) false) l i
noncomputable def ND (f:α→Nat→Bool) (l:List α) (i:Nat):List Nat:=List.rec (motive:=fun _=>Nat→List Nat) (fun _=> []) (fun v _ ih i=>bc (f v i) (i::canon (Nat.add i 1) ih) (canon (Nat.add i 1) ih)) l i
noncomputable def KS (f:α→Bool) (l:List α):Nat:=List.rec (motive:=fun _=>Nat) 0 (fun v _ ih=>bc (f v) (Nat.add ih 1) ih) l
noncomputable def QF (f:α→Bool) (l:List α):Nat:=List.rec (motive:=fun _=>Nat) 0 (fun v _ ih=>bc (f v) (Nat.add ih 1) 0) l
noncomputable def F5 (l:List α) (i:Nat) (d:α):α:=ob d (fun x=>x) (ky l i)
noncomputable def rV (l:List α):(List α→β)→β:=List.rec (motive:=fun _=>(List α→β)→β) (fun k=>k []) (fun x _ ih k=>ih fun tl=>k (x::tl)) l
theorem CQ (l:List α) (k:List α→β):rV l k=k l:=by
 induction l generalizing k with
 | nil=>rfl
 | cons y tl ih=>show rV tl (fun tl=>k (y::tl))=_;rw[ih]
noncomputable def QG (l:List α) (k:List α→β):β:=List.rec (motive:=fun _=>β) (k []) (fun x tl _=>k (x::tl)) l
theorem U9 (l:List α) (k:List α→β):QG l k=k l:=by cases l<;>rfl
noncomputable def KT (f:List β→α→List β) (l:List α) (b:List β):List β:=List.rec (motive:=fun _=>List β→List β) (fun b=>b) (fun v _ ih b=>QG (f b v) ih) l b
theorem Jr (f:List β→α→List β) (l:List α) (b:List β):KT f l b=l.foldl f b:=by
 induction l generalizing b with
 | nil=>rfl
 | cons y tl ih=>show QG (f b y) (KT f tl)=_;rw[U9,ih];rfl
theorem wu (b:Bool) (x y:α):bc b x y=bif b then x else y:=by cases b<;>rfl
theorem Eu (x y:Nat):(x==y)=Nat.beq x y:=by
 cases h:Nat.beq x y
 · rw[beq_eq_false_iff_ne];intro e;subst e;rw[Nat.beq_refl] at h;exact absurd h (by simp)
 · rw[Nat.eq_of_beq_eq_true h];simp
theorem x8 (l:List Nat) (x:Nat):Et l x=l.contains x:=by
 induction l with
 | nil=>rfl
 | cons y tl ih=>
   show bc (Nat.beq x y) true (Et tl x)=_
   rw[ih,wu,List.contains_cons,Eu]
   cases Nat.beq x y<;>rfl
theorem aca (f:α→Bool) (l:List α):afV f l=l.any f:=by
 induction l with
 | nil=>rfl
 | cons y tl ih=>show bc (f y) true (afV f tl)=_;rw[ih,wu,List.any_cons];cases f y<;>rfl
theorem tZ (f:α→Bool) (l:List α):CP f l=l.all f:=by
 induction l with
 | nil=>rfl
 | cons y tl ih=>show bc (f y) (CP f tl) false=_;rw[ih,wu,List.all_cons];cases f y<;>rfl
theorem KU (f:α→Nat→Bool) (l:List α) (i:Nat):allI f l i=(l.zipIdx i).all fun p=>f p.1 p.2:=by
 induction l generalizing i with
 | nil=>rfl
 | cons y tl ih=>show bc (f y i) (canon (i+1) (allI f tl)) false=_;rw[m6,ih,wu,List.zipIdx_cons,List.all_cons];cases f y i<;>rfl
theorem NF (f:α→Nat→Bool) (l:List α) (i:Nat):ND f l i=((l.zipIdx i).filter fun p=>f p.1 p.2).map (·.2):=by
 induction l generalizing i with
 | nil=>rfl
 | cons y tl ih=>
   show bc (f y i) (i::canon (i+1) (ND f tl)) (canon (i+1) (ND f tl))=_
   rw[m6,ih,wu,List.zipIdx_cons,List.filter_cons];cases f y i<;>simp
theorem U_ (f:α→Bool) (l:List α):KS f l=(l.filter f).length:=by
 induction l with
 | nil=>rfl
 | cons y tl ih=>show bc (f y) (KS f tl+1) (KS f tl)=_;rw[ih,wu,List.filter_cons];cases f y<;>simp
theorem U' (f:α→Bool) (l:List α):QF f l=(l.takeWhile f).length:=by
 induction l with
 | nil=>rfl
 | cons y tl ih=>show bc (f y) (QF f tl+1) 0=_;rw[ih,wu,List.takeWhile_cons];cases f y<;>simp
theorem jb (l:List α) (i:Nat):ky l i=l[i]? :=by
 induction l generalizing i with
 | nil=>rfl
 | cons y tl ih=>
   show bc (Nat.beq i 0) (some y) (ky tl (i - 1))=_
   rw[ih,wu]
   cases i with
   | zero=>rfl
   | succ i=>rw[show Nat.beq (i+1) 0=false from rfl];simp
theorem A8 (l:List α) (i:Nat) (d:α):F5 l i d=l.getD i d:=by
 unfold F5;rw[jb,List.getD_eq_getElem?_getD];cases l[i]? <;>rfl
theorem ie (l:List α):ku l=l.length:=by
 induction l with
 | nil=>rfl
 | cons y tl ih=>show ku tl+1=_;rw[ih];rfl
theorem pU (l m:List α):mY l m=l++m:=by
 induction l with
 | nil=>rfl
 | cons y tl ih=>show y::mY tl m=_;rw[ih];rfl
end
noncomputable def DM (p:Program) (t:TypeId):Option TypeInfo:=ob (p.info? t) (fun i=>some i) (ky p.types.toList t)
noncomputable def aeC (i:TypeInfo) (p:Program):Option TypeDesc:=TypeDesc.rec (motive:=fun _=>Option TypeDesc) (some i.desc) (some i.desc) (fun _=>some i.desc) (fun _=>some i.desc) (fun _=>some i.desc) (some i.desc) (some i.desc)
 (fun _=>some i.desc) (fun _=>some i.desc) (fun _ _=>some i.desc) (fun _ _=>some i.desc) (fun _ _=>some i.desc) (fun _=>some i.desc) (fun _ _ _=>some i.desc) (fun _=>some i.desc) (fun _=>some i.desc)
 (fun _ u=>ob none (fun j=>some j.desc) (DM p u)) i.desc
noncomputable def lG (p:Program) (t:TypeId):Option TypeDesc:=ob none (fun i=>aeC i p) (DM p t)
theorem wv (p:Program) (t:TypeId):DM p t=p.info? t:=by
 unfold DM;rw[jb,Array.getElem?_toList]
 cases h:p.types[t]? with
 | none=>rfl
 | some i=>
   show some i=p.info? t
   unfold Tables.info?
   obtain ⟨oa,_⟩:=Array.getElem?_eq_some_iff.mp h
   rw[if_pos oa,h]
theorem j9 (p:Program) (t:TypeId):lG p t=p.underlying t:=by
 unfold lG Program.underlying
 rw[wv]
 cases p.info? t with
 | none=>rfl
 | some i=>
   show aeC i p=_
   obtain ⟨d,_⟩:=i
   cases d with
   | named a u=>show ob none (fun j=>some j.desc) (DM p u)=Option.map (fun x=>x.desc) (p.info? u);rw[wv];cases p.info? u<;>rfl
   | _=>rfl
noncomputable def afW (p:Program) (f:FuncId):Option Func:=ky p.funcs.toList f
theorem acb (p:Program) (f:FuncId):afW p f=p.funcs[f]? :=by
 unfold afW;rw[jb];exact Array.getElem?_toList
variable (E:Env)
noncomputable def sJ (op:Op):Bool:=match op with
 | .store .. | .mapUpdate .. | .insert .. | .next .. | .panic _ | .defer _=>true
 | .convert _ dst _=>match lG E.P dst with
   | some (.slice _)=>true
   | _=>false
 | .call c=>match c.callee with
   | .builtin .len | .builtin .cap | .builtin .max | .builtin .min=>false
   | .builtin _=>true
   | .value (.func f)=>match E.oF f with
     | none=>true
     | some _=>false
   | _=>true
 | _=>false
theorem wx (op:Op):sJ E op=gY E op:=by
 unfold sJ gY
 cases op<;>try rfl
 · simp only[j9]
   rename_i dst _
   generalize E.P.underlying dst=u
   cases u with
   | none=>rfl
   | some d=>cases d<;>rfl
 · rename_i c
   rcases c with ⟨cN,a,t⟩
   cases cN with
   | value x=>
     cases x with
     | func f=>simp only;cases E.oF f<;>rfl
     | _=>rfl
   | builtin b=>cases b<;>rfl
   | _=>rfl
noncomputable def aeD (g:Ground):Bool:=Ground.rec (motive:=fun _=>Bool) true true true true (fun _=>false) (fun _=>false) g
noncomputable def zI (o:Oper):List Nat:=List.rec (motive:=fun _=>List Nat) [] (fun e _ ih=>bc (aeD e.ground) (e.on::ih) ih) o.after.toList
theorem Js (o:Oper):zI o=mz o:=by
 unfold zI mz
 induction o.after.toList with
 | nil=>rfl
 | cons e tl ih=>
   show bc (aeD e.ground) (e.on::_) _=_
   rw[ih,List.filter_cons]
   obtain ⟨on,g⟩:=e
   cases g<;>rfl
noncomputable def acd (l:List Nat) (x:Nat):List Nat:=bc (Et l x) l (x::l)
noncomputable def S6 (acc:List (List Nat)) (es:List Nat):List Nat:=KT (fun l e=>KT acd (F5 acc e []) (acd l e)) es []
noncomputable def XY (l:List Oper):List (List Nat)→List (List Nat):=List.rec (motive:=fun _=>List (List Nat)→List (List Nat)) (fun acc=>acc) (fun o _ ih acc=>rV (S6 acc (zI o)) fun a=>rV (mY acc [a]) ih) l
theorem S7 (l:List Nat) (x:Nat):acd l x=if l.contains x then l else x::l:=by
 unfold acd;rw[x8,wu];cases l.contains x<;>rfl
theorem XZ (acc:List (List Nat)) (o:Oper):S6 acc (zI o)=(mz o).foldl (fun l e=>(acc.getD e []).foldl (fun l x=>if l.contains x then l else x::l) (if l.contains e then l else e::l)) []:=by
 unfold S6
 rw[Jr,Js]
 congr 1
 funext l e
 rw[Jr,A8,S7]
 congr 1
 funext l x
 exact S7 l x
theorem NG:∀(l:List Oper) (acc:List (List Nat)),XY l acc=MY l acc
 | [],_=>rfl
 | o::rest,acc=>by
   show rV (S6 acc (zI o)) (fun a=>rV (mY acc [a]) (XY rest))=_
   rw[CQ,CQ,NG rest,pU,XZ];rfl
noncomputable def qH (an:List (List Nat)) (i j:Nat):Bool:=Et (F5 an i []) j
theorem sK (an:List (List Nat)) (i j:Nat):qH an i j=eN an i j:=by
 unfold qH eN MZ;rw[x8,A8]
noncomputable def F6 (ops:List Oper) (an:List (List Nat)):Bool:=
 allI (fun o i=>bc (CP (fun e=>bc (Nat.ble (Nat.add e 1) i) (qH an i e) false) (zI o)) (CP (fun j=>bc (Nat.ble (Nat.add j 1) i) (afV (fun e=>bc (Nat.beq e j) true (qH an e j)) (zI o)) false) (F5 an i [])) false) ops 0
theorem x9 (a b:Nat):decide (a<b)=Nat.ble (a+1) b:=by
 by_cases h:a<b
 · rw[decide_eq_true h,Nat.ble_eq_true_of_le h]
 · rw[decide_eq_false h];symm;rw[Bool.eq_false_iff];intro e;exact h (Nat.le_of_ble_eq_true e)
theorem qI (a b:Bool):bc a b false=(a&&b):=by cases a<;>rfl
theorem aeE (a b:Bool):bc a true b=(a||b):=by cases a<;>rfl
theorem NH (ops:List Oper) (an:List (List Nat)):F6 ops an=EZ ops an:=by
 unfold F6 EZ
 rw[KU]
 congr 1
 funext ⟨o,i⟩
 simp only[qI,aeE,tZ,aca,A8,Js,sK,x9,Eu]
 rfl
noncomputable def afX (l:List Operand):List Nat:=List.rec (motive:=fun _=>List Nat) [] (fun x _ ih=>Operand.rec (motive:=fun _=>List Nat) (fun t=>t::ih) (fun _=>ih) (fun _=>ih) (fun _=>ih) x) l
theorem ace (l:List Operand):afX l=l.filterMap fun | .tmp t=>some t | _=>none:=by
 induction l with
 | nil=>rfl
 | cons x tl ih=>
   cases x<;>simp only[List.filterMap_cons,←ih]<;>rfl
noncomputable def opL (op:Op):List Operand:=match op with
 | .move x | .assign x | .box _ x | .load _ x | .nilCheck x | .unOp _ _ x | .convert _ _ x | .fieldAddr _ x _ | .field _ x _ | .extract x _=> [x]
 | .pick c a b=> [c,a,b]
 | .store _ a v | .binOp _ _ a v _ | .indexAddr _ a v | .index _ a v=> [a,v]
 | .alloc _=> []
 | .call c=>mY (match c.callee with | .value f=> [f] | .invoke r _=> [r] | .builtin _=> []) c.args.toList
 | op=>op.operands.toList
theorem afY (op:Op):opL op=op.operands.toList:=by
 cases op<;>try rfl
 rename_i c
 obtain ⟨cN,a,t⟩:=c
 cases cN<;>simp [opL,Op.operands,Call.operands,pU]
noncomputable def F7 (ops:List Oper) (an:List (List Nat)):Bool:=
 allI (fun o i=>bc (ob true (fun g=>bc (qH an i g.1) (ob false (fun p=>ob false (fun _=>true) p.dst) (ky ops g.1)) false) o.guard)
  (allI (fun p j=>bc (Nat.beq i j) true (ob true (fun d=>bc (ob true (fun a=>zH (Nat.beq a d)) o.dst) (bc (Et (afX (opL o.op)) d) (bc (qH an i j) true (qH an j i)) true) false) p.dst)) ops 0) false) ops 0
theorem NI (ops:List Oper) (an:List (List Nat)):F7 ops an=E0 ops an:=by
 unfold F7 E0
 rw[KU]
 congr 1
 funext ⟨o,i⟩
 simp only[qI,aeE,sK]
 congr 1
 · obtain ⟨dst,op,ty,pos,after,guard⟩:=o
   cases guard with
   | none=>rfl
   | some g=>
     show (eN an i g.1&&ob false (fun p=>ob false (fun _=>true) p.dst) (ky ops g.1))=_
     rw[jb]
     congr 1
     cases ops[g.1]? with
     | none=>rfl
     | some p=>
       show ob false (fun _=>true) p.dst=(p.dst).isSome
       cases p.dst<;>rfl
 · rw[KU]
   congr 1
   funext ⟨p,j⟩
   show (Nat.beq i j||_)=(i==j||_)
   rw[Eu]
   congr 1
   obtain ⟨dst,op,ty,pos,after,guard⟩:=p
   cases dst with
   | none=>rfl
   | some d=>
     show (ob true (fun a=>zH (Nat.beq a d)) o.dst&&bc (Et (afX (opL o.op)) d) (eN an i j||eN an j i) true)=(o.dst !=some d&&(!(tmpsOf o).contains d||eN an i j||eN an j i))
     congr 1
     · cases o.dst with
       | none=>rfl
       | some a=>
         show zH (Nat.beq a d)= !(some a==some d)
         rw[Option.some_beq_some,Eu]
         cases Nat.beq a d<;>rfl
     · rw[x8,ace,afY,Bool.or_assoc]
       show bc ((tmpsOf o).contains d) _ _=_
       cases (tmpsOf o).contains d<;>rfl
noncomputable def QH (an:List (List Nat)) (l:List Nat):Bool:=List.rec (motive:=fun _=>Bool) true (fun e rest ih=>List.rec (motive:=fun _=>Bool) true (fun f _ _=>bc (qH an f e) ih false) rest) l
theorem Jt (an:List (List Nat)):∀l,QH an l=xR an l
 | []=>rfl
 | [e]=>rfl
 | e::f::rest=>by
   show bc (qH an f e) (QH an (f::rest)) false=_
   rw[Jt an (f::rest),sK,qI];rfl
noncomputable def X0 (ops:List Oper):List Nat:=ND (fun o _=>sJ E o.op) ops 0
theorem X1 (ops:List Oper):X0 E ops=py E ops:=by
 unfold X0 py;rw[NF];simp only[wx]
noncomputable def Ju (bQ:List Nat) (an:List (List Nat)) (i:Nat):Nat:=KS (fun e=>qH an i e) bQ
theorem NJ (bQ:List Nat) (an:List (List Nat)) (i:Nat):Ju bQ an i=Kt bQ an i:=by
 unfold Ju Kt;rw[U_];simp only[sK]
noncomputable def KV (ops:List Oper) (bQ:List Nat) (an:List (List Nat)) (k:Nat):List Nat:=
 mY (ND (fun o i=>bc (sJ E o.op) false (Nat.beq (Ju bQ an i) k)) ops 0) (ob [] (fun x=> [x]) (ky bQ k))
theorem Va (ops:List Oper) (bQ:List Nat) (an:List (List Nat)) (k:Nat):KV E ops bQ an k=group E ops bQ an k:=by
 unfold KV group
 rw[pU,NF,jb]
 congr 1
 · congr 1
   congr 1
   funext ⟨o,i⟩
   show bc (sJ E o.op) false (Nat.beq (Ju bQ an i) k)=(!gY E o.op&&(Kt bQ an i==k))
   rw[wx,NJ,Eu];cases gY E o.op<;>rfl
 · cases bQ[k]? <;>rfl
noncomputable def KW (ops:List Oper) (bQ:List Nat) (an:List (List Nat)) (n:Nat):Nat→List Nat:=
 Nat.rec (motive:=fun _=>Nat→List Nat) (fun _=> []) (fun _ ih k=>mY (KV E ops bQ an k) (canon (Nat.add k 1) ih)) n
theorem F8 (ops:List Oper) (bQ:List Nat) (an:List (List Nat)):∀n k,KW E ops bQ an n k=qv E ops bQ an n k
 | 0,_=>rfl
 | n+1,k=>by
   show mY (KV E ops bQ an k) (canon (k+1) (KW E ops bQ an n))=_
   rw[m6,F8 ops bQ an n,pU,Va];rfl
noncomputable def E2 (bQ:List Nat) (an:List (List Nat)) (i:Nat):Nat:=QF (fun e=>zH (qH an e i)) bQ
theorem QJ (bQ:List Nat) (an:List (List Nat)) (i:Nat):E2 bQ an i=lW bQ an i:=by
 unfold E2 lW;rw[U'];congr 2;funext e;rw[sK];cases eN an e i<;>rfl
noncomputable def QK (n:Nat):List Nat→List Nat:=Nat.rec (motive:=fun _=>List Nat→List Nat) (fun l=>l) (fun m ih l=>ih (m::l)) n
theorem Jv:∀n l,QK n l=List.range.loop n l
 | 0,_=>rfl
 | n+1,l=>Jv n (n::l)
noncomputable def KX (ops:List Oper) (an:List (List Nat)) (bQ:List Nat) (l:List Nat):List Nat→Nat→Bool:=
 List.rec (motive:=fun _=>List Nat→Nat→Bool) (fun seen k=>bc (CP (fun i=>Et seen i) (QK (ku ops) [])) (Nat.beq k (ku bQ)) false)
  (fun i _ ih seen k=>bc (Nat.ble (Nat.add i 1) (ku ops)) (bc (Et seen i) false (bc (CP (fun j=>Et seen j) (F5 an i []))
   (bc (ob (sJ E (default:Oper).op) (fun o=>sJ E o.op) (ky ops i)) (bc (ob false (fun e=>Nat.beq e i) (ky bQ k)) (canon (Nat.add k 1) (ih (i::seen))) false)
    (bc (Nat.beq (Ju bQ an i) k) (ih (i::seen) k) false)) false)) false) l
theorem CS (ops:Array Oper) (an:List (List Nat)) (bQ:List Nat):∀l seen k,KX E ops.toList an bQ l seen k=mA E ops an bQ l seen k
 | [],seen,k=>by
   show bc (CP (fun i=>Et seen i) (QK (ku ops.toList) [])) (Nat.beq k (ku bQ)) false=_
   rw[qI,tZ,Jv,ie,ie]
   simp only[x8]
   unfold mA
   rw[Eu,Array.length_toList]
   rfl
 | i::rest,seen,k=>by
   show bc (Nat.ble (i+1) (ku ops.toList)) (bc (Et seen i) false (bc (CP (fun j=>Et seen j) (F5 an i []))
    (bc (ob (sJ E (default:Oper).op) (fun o=>sJ E o.op) (ky ops.toList i)) (bc (ob false (fun e=>Nat.beq e i) (ky bQ k)) (canon (k+1) (KX E ops.toList an bQ rest (i::seen))) false)
     (bc (Nat.beq (Ju bQ an i) k) (KX E ops.toList an bQ rest (i::seen) k) false)) false)) false=_
   rw[m6,CS ops an bQ rest,CS ops an bQ rest,tZ,A8,x8,NJ,ie]
   simp only[x8]
   rw[show ob (sJ E (default:Oper).op) (fun o=>sJ E o.op) (ky ops.toList i)=gY E ((ops.getD i default).op) by
    rw[jb,wx]
    rw[show ops.getD i default=(ops.toList[i]?).getD default by rw[Array.getElem?_toList,Array.getD_eq_getD_getElem?]]
    cases ops.toList[i]? with
    | none=>rfl
    | some o=>exact wx E o.op]
   rw[show ob false (fun e=>Nat.beq e i) (ky bQ k)=(bQ[k]? ==some i) by rw[jb];cases bQ[k]? with
    | none=>rfl
    | some e=>rw[Option.some_beq_some,Eu];rfl]
   rw[mA,x9]
   simp only[qI]
   rw[←Eu (Kt bQ an i) k,show ops.toList.length=ops.size from Array.length_toList]
   rw[wu,wu]
   show (Nat.ble (i+1) ops.size&&(bif List.contains seen i then false else _))=_
   unfold MZ
   cases Nat.ble (i+1) ops.size<;>cases List.contains seen i<;>cases (an.getD i []).all (fun j=>List.contains seen j)<;>cases gY E ((ops.getD i default).op)<;>rfl
noncomputable def nin (x:Nat) (l:List Nat):Bool:=List.rec (motive:=fun _=>Bool) true (fun y _ ih=>bc (Nat.beq x y) false ih) l
noncomputable def KY (l:List Nat):Bool:=List.rec (motive:=fun _=>Bool) true (fun x tl ih=>bc (nin x tl) ih false) l
theorem afZ (x:Nat) (l:List Nat):nin x l= !l.contains x:=by
 induction l with
 | nil=>rfl
 | cons y tl ih=>
   show bc (Nat.beq x y) false (nin x tl)=_
   rw[ih,List.contains_cons,Eu]
   cases Nat.beq x y<;>rfl
theorem CT:∀l,KY l=nodup l
 | []=>rfl
 | x::tl=>by
   show bc (nin x tl) (KY tl) false=_
   rw[CT tl,afZ,qI];rfl
noncomputable def X2 {R:Type} (ops:Array Oper) (k:n8→R) (d:R):R:=
 rV ops.toList fun l=>rV (XY l []) fun an=>rV (X0 E l) fun bQ=>rV (KW E l bQ an (Nat.add (ku bQ) 1) 0) fun order=>
 bc (F6 l an) (bc (F7 l an) (bc (QH an bQ) (bc (KY bQ) (bc (KX E l an bQ order [] 0) (k ⟨an,bQ,order⟩) d) d) d) d) d
theorem X3 {R:Type} (ops:Array Oper) (k:n8→R) (d:R):X2 E ops k d=match vV E ops with | some pl=>k pl | none=>d:=by
 unfold X2 vV
 simp only[CQ,NG,X1,F8,NH,NI,Jt,CT,CS,ie]
 generalize EZ ops.toList (MY ops.toList [])=a
 generalize E0 ops.toList (MY ops.toList [])=b
 generalize xR (MY ops.toList []) (py E ops.toList)=c
 generalize nodup (py E ops.toList)=e
 show bc a (bc b (bc c (bc e (bc (mA E ops _ _ (qv E ops.toList _ _ ((py E ops.toList).length+1) 0) [] 0) _ d) d) d) d) d=_
 generalize mA E ops (MY ops.toList []) (py E ops.toList) (qv E ops.toList (py E ops.toList) (MY ops.toList []) ((py E ops.toList).length+1) 0) [] 0=f
 cases a<;>cases b<;>cases c<;>cases e<;>cases f<;>rfl
end Go.Ab.Fa
end
