import Derived.Test.YtkffioplnoajdaaGreatA3
import Derived.Test.YtkffioplnoajdaaGreatA0
set_option linter.unusedVariables false
set_option linter.unusedSimpArgs false
section
namespace Go.Ab
variable {E:Env}
theorem xb (hE:lG E) {call:bq} (dN:iN E call) {ops:Array Oper}:∀{l:List Oper} {is:List Nat} (_:is.length=l.length) (_:∀(j i:Nat),is[j]? =some i→l[j]? =ops[i]?) {s s':St} {e:lY} (_:lf E call ops l s= .ok e s')
 {φ:Ph} {a:Act} {w:World} {b:Frame} {k:List Item} {K:Bool→List Frame} (_:SR φ s.ts s.ds a) (_:OK E φ s.h w) (_:oI φ b K s.rc),
 ry E φ s.h w b K k (lone (b.atR a (.inRegion ops is::k)) (cur K s.rc) w) e s'
 | [],is,hl,hi,s,s',e,h,φ,a,w,b,k,K,hs,ok,gZ=>by
   cases is with
   | cons _ _=>simp at hl
   | nil=>
     simp [lf] at h;obtain ⟨rfl,rfl⟩:=h
     exact ⟨φ,w,a,_,.normal,hs,ok,Fr.refl _ _ _,gZ,.one stepR_region_end⟩
 | o::l,is,hl,hi,s,s',e,h,φ,a,w,b,k,K,hs,ok,gZ=>by
   cases is with
   | nil=>simp at hl
   | cons i is=>
     have ho:ops[i]? =some o:=by have:=hi 0 i (by simp);simpa using this.symm
     have ZW:is.length=l.length:=by simpa using hl
     have HE:∀(j i':Nat),is[j]? =some i'→l[j]? =ops[i']? :=fun j i' hj=>by have:=hi (j+1) i' (by simpa using hj);simpa using this
     simp only[lf] at h
     have WL:=wY (ops:=ops) hs.ts o
     split at h
     · rename_i hw
       rw[←WL] at hw
       split at h
       · rename_i s1 rb
         obtain ⟨φ1,w1,a1,e1,x1,x2,x3,x4,x5,x6⟩:=(Gw hE dN ho rb hs ok gZ hw (rest:=is) (k:=k)).is
         cases x1
         exact ((xb hE dN ZW HE h x2 x3 x5).of_steps x6).later x4
       · rename_i eY
         obtain ⟨φ1,w1,a1,e1,x1,x2,x3,x4,x5,x6⟩:=(Gw hE dN ho h hs ok gZ hw (rest:=is) (k:=k)).is
         cases x1 with
         | normal=>exact (eY _ h).elim
         | exit=>exact x6.elim
         | ret=>exact x6.elim
         | panic v v' hv=>exact ⟨φ1,w1,a1,_,.panic v v' hv,x2,x3,x4,x5,x6⟩
     · rename_i hw
       have rX:SR φ (dt s.ts o.dst AV.undef) s.ds (a.put o.dst undef):=hs.put o.dst (VR.undef φ)
       refine (xb hE dN ZW HE h rX ok gZ).of_steps (.one ?_)
       have:=stepR_op_skip (P:=E.P) (b:=b) (a:=a) (k:=k) (cs:=cur K s.rc) (w:=w) (ops:=ops) (i:=i) (rest:=is) (by rw[ho];simp;rw[WL];simpa using hw)
       rw[this,ho];rfl
set_option maxHeartbeats 1000000 in
theorem xe (hE:lG E) {call:bq} (dN:iN E call):∀(n:Nat) (c:Code) {s s':St} {e:lY} (_:exec E call n c s= .ok e s')
 {φ:Ph} {a:Act} {w:World} {b:Frame} {k:List Item} {K:Bool→List Frame} (_:SR φ s.ts s.ds a) (_:OK E φ s.h w) (_:oI φ b K s.rc) (_:(E.P.funcs[b.fn]?).isSome=true),
 ry E φ s.h w b K k (lone (b.atR a (.code c::k)) (cur K s.rc) w) e s'∧∀c',c= .loop c'→ry E φ s.h w b K k (lone (b.atR a (.code c':: .inLoop c'::k)) (cur K s.rc) w) e s':=by
 intro n
 induction n with
 | zero=>intro c s s' e h;simp [exec] at h
 | succ n ih2=>
   have ih:∀(c:Code) {s s':St} {e:lY} (_:exec E call n c s= .ok e s')
    {φ:Ph} {a:Act} {w:World} {b:Frame} {k:List Item} {K:Bool→List Frame} (_:SR φ s.ts s.ds a) (_:OK E φ s.h w) (_:oI φ b K s.rc) (_:(E.P.funcs[b.fn]?).isSome=true),
    ry E φ s.h w b K k (lone (b.atR a (.code c::k)) (cur K s.rc) w) e s':=fun c _ _ _ h _ _ _ _ _ _ hs ok gZ JD=>(ih2 c h hs ok gZ JD).1
   intro c s s' e h φ a w b k K hs ok gZ JD
   have Z8:∀c',c= .loop c'→ry E φ s.h w b K k (lone (b.atR a (.code c':: .inLoop c'::k)) (cur K s.rc) w) e s':=by
    rintro c rfl
    simp only[exec] at h
    split at h
    · rename_i s1 h1
      obtain ⟨φ1,w1,a1,e1,x1,x2,x3,x4,x5,x6⟩:=(ih c h1 hs ok gZ JD (k:= .inLoop c::k)).is
      cases x1
      exact (((ih2 (.loop c) h x2 x3 x5 JD).2 c rfl).of_steps (Steps.trans x6 (.one stepR_inLoop))).later x4
    · rename_i eY
      obtain ⟨φ1,w1,a1,e1,x1,x2,x3,x4,x5,x6⟩:=(ih c h hs ok gZ JD (k:= .inLoop c::k)).is
      refine ⟨φ1,w1,a1,e1,x1,x2,x3,x4,x5,.pass (x:= .inLoop c) (fun _=>rfl) ?_ x6⟩
      cases x1 with
      | normal=>exact (eY _ h).elim
      | exit=>simp
      | ret=>simp
      | panic=>simp
   refine ⟨?_,Z8⟩
   cases c with
   | skip=>simp [exec] at h;obtain ⟨rfl,rfl⟩:=h;exact ⟨φ,w,a,_,.normal,hs,ok,Fr.refl _ _ _,gZ,.one stepR_skip⟩
   | label l=>simp [exec] at h;obtain ⟨rfl,rfl⟩:=h;exact ⟨φ,w,a,_,.normal,hs,ok,Fr.refl _ _ _,gZ,.one stepR_label⟩
   | ret=>simp [exec] at h;obtain ⟨rfl,rfl⟩:=h;exact ⟨φ,w,a,_,.ret,hs,ok,Fr.refl _ _ _,gZ,k,Steps.refl _ _⟩
   | exit id=>simp [exec] at h;obtain ⟨rfl,rfl⟩:=h;exact ⟨φ,w,a,_,.exit id,hs,ok,Fr.refl _ _ _,gZ,k,rfl,Steps.refl _ _⟩
   | seq x y=>
     simp only[exec] at h
     split at h
     · rename_i s1 h1
       obtain ⟨φ1,w1,a1,e1,x1,x2,x3,x4,x5,x6⟩:=(ih x h1 hs ok gZ JD (k:= .code y::k)).is
       cases x1
       exact ((ih y h x2 x3 x5 JD).of_steps (.head stepR_seq x6)).later x4
     · rename_i eY
       obtain ⟨φ1,w1,a1,e1,x1,x2,x3,x4,x5,x6⟩:=(ih x h hs ok gZ JD (k:= .code y::k)).is
       refine ⟨φ1,w1,a1,e1,x1,x2,x3,x4,x5,.of_steps (.one stepR_seq) (.pass (x:= .code y) (fun _=>rfl) ?_ x6)⟩
       cases x1 with
       | normal=>exact (eY _ h).elim
       | exit=>simp
       | ret=>simp
       | panic=>simp
   | cond x y z=>
     simp only[exec] at h
     split at h
     · rename_i hx
       have h1:=oG ok.gl hs.ts hx
       generalize mf:a.eval x=cv at h1
       cases h1
       exact (ih y h hs ok gZ JD).of_steps (.one (stepR_cond mf))
     · rename_i hx
       have h1:=oG ok.gl hs.ts hx
       generalize mf:a.eval x=cv at h1
       cases h1
       exact (ih z h hs ok gZ JD).of_steps (.one (stepR_cond mf))
     · simp at h
   | block id c=>
     simp only[exec] at h
     split at h
     · rename_i Si s1 h1
       obtain ⟨φ1,w1,a1,e1,x1,x2,x3,x4,x5,x6⟩:=(ih c h1 hs ok gZ JD (k:= .inBlock id::k)).is
       cases x1
       split at h
       · rename_i hid
         simp at h;obtain ⟨rfl,rfl⟩:=h
         obtain ⟨todo,ht,kb⟩:=x6
         exact ⟨φ1,w1,a1,_,.normal,x2,x3,x4,x5,.head stepR_block (Steps.trans kb (.one (stepR_exit (by rw[ht];simp [exitTo,hid]))))⟩
       · rename_i hid
         simp at h;obtain ⟨rfl,rfl⟩:=h
         obtain ⟨todo,ht,kb⟩:=x6
         refine ⟨φ1,w1,a1,_,.exit Si,x2,x3,x4,x5,todo,?_,.head stepR_block kb⟩
         have:(id==Si)=false:=by simp;exact fun h=>hid h.symm
         rw[ht];simp [exitTo,this]
     · rename_i eY
       obtain ⟨φ1,w1,a1,e1,x1,x2,x3,x4,x5,x6⟩:=(ih c h hs ok gZ JD (k:= .inBlock id::k)).is
       cases x1 with
       | normal=>exact ⟨φ1,w1,a1,_,.normal,x2,x3,x4,x5,.head stepR_block (Steps.trans x6 (.one stepR_inBlock))⟩
       | exit Si=>exact (eY _ _ h).elim
       | ret=>exact ⟨φ1,w1,a1,_,.ret,x2,x3,x4,x5,.of_steps (e:= .ret) (k:=k) (.one stepR_block) x6⟩
       | panic v v' hv=>exact ⟨φ1,w1,a1,_,.panic v v' hv,x2,x3,x4,x5,.of_steps (e:= .panic _) (k:=k) (.one stepR_block) x6⟩
   | loop c=>exact (Z8 c rfl).of_steps (.one stepR_loop)
   | region id ops draw=>
     simp only[exec] at h
     cases draw with
     | false=>
       have rb:=xb hE dN (ops:=ops) (l:=ops.toList) (is:=List.range ops.size) (by simp) (fun j i hj=>by
        have:=List.getElem?_eq_some_iff.1 hj
        obtain ⟨h1,h2⟩:=this
        simp at h1 h2;subst h2;simp) h hs ok gZ (b:=b) (k:=k)
       exact rb.of_steps (.one stepR_region)
     | true=>
       obtain ⟨h1,h2,⟨rfl,φ',a',w',x1,x2,x3,x4,x5⟩ | ⟨v,rfl,hp⟩⟩:=J' hE hE.mixed dN h hs ok gZ (b:=b) (k:=k) id
       · refine ⟨φ',w',a',_,.normal,⟨x1,by rw[h2,x2];exact hs.ds.mono x4.ext⟩,x3,x4,by rw[h1];exact gZ.mono x4.ext,?_⟩
         rw[h1];exact x5
       · obtain ⟨φ',a',w',v',todo,x0,x1,x2,x3,x4,x5⟩:=hp.is
         refine ⟨φ',w',a',_,.panic v v' x0,⟨x1,by rw[h2,x2];exact hs.ds.mono x4.ext⟩,x3,x4,by rw[h1];exact gZ.mono x4.ext,todo,?_⟩
         rw[h1];exact x5
   | rangeFunc f ps a1 b1=>
     simp only[exec] at h
     exact H0 dN h hs ok gZ JD
   | scope c=>
     simp only[exec] at h
     have s1:∀{m},Steps E.P (lone (b.atR a (.code c:: .inScope c::k)) (cur K s.rc) w) m→Steps E.P (lone (b.atR a (.code (.scope c)::k)) (cur K s.rc) w) m:=fun q=> .head (step_lone_go (by simp [stepG,stepG.exec,Frame.atR])) q
     obtain ⟨φ1,w1,a1,e1,x1,x2,x3,x4,x5,x6⟩:=(ih c h hs ok gZ JD (k:= .inScope c::k)).is
     cases x1 with
     | normal=>exact ⟨φ1,w1,a1,_,.normal,x2,x3,x4,x5,s1 (Steps.trans x6 (.one (step_lone_go (by simp [stepG,stepG.exec,Frame.atR]))))⟩
     | exit Si=>exact ⟨φ1,w1,a1,_,.exit Si,x2,x3,x4,x5,.of_steps (e:= .exit Si) (k:=k) (s1 (Steps.refl _ _)) (.pass (x:= .inScope c) (fun _=>rfl) (by simp) x6)⟩
     | ret=>exact ⟨φ1,w1,a1,_,.ret,x2,x3,x4,x5,.of_steps (e:= .ret) (k:=k) (s1 (Steps.refl _ _)) (.pass (x:= .inScope c) (fun _=>rfl) (by simp) x6)⟩
     | panic v v' hv=>exact ⟨φ1,w1,a1,_,.panic v v' hv,x2,x3,x4,x5,.of_steps (e:= .panic _) (k:=k) (s1 (Steps.refl _ _)) (.pass (x:= .inScope c) (fun _=>rfl) (by simp) x6)⟩
   | goto l=>simp [exec] at h
   | refuse why=>simp [exec] at h
end Go.Ab
end
section
namespace Go.Ab
variable {E:Env}
theorem Kc {φ:Ph} {h:au} {w:World} (ok:OK E φ h w) {ts:List AV} {tmps:Array Value} (ht:LR φ ts tmps.toList):∀{l:List ResultVar} {vs:List AV} (_:lD E h ts l=some vs),
 ∃rY,LR φ vs rY∧(l.mapM (fun | .tmp t=>pure (tmps.getD t undef) | .cell a t=>do loadVar t (←asAddr (tmps.getD a undef)):ResultVar→Sem Value)).run E.P w= .ok rY w
 | [],vs,h=>by simp [lD] at h;subst h;exact ⟨[],LR.nil φ,rfl⟩
 | r::rest,vs,h=>by
   have gS:∀t,VR φ (ts.getD t AV.undef) (tmps.getD t undef):=fun t=>by
    have:=ht.getD (VR.undef φ) t
    rw[show tmps.getD t undef=tmps.toList.getD t undef by simp [Array.getD_eq_getD_getElem?,List.getD]]
    exact this
   simp only[lD] at h
   split at h
   · simp at h
   · rename_i v hv
     split at h
     · simp at h
     · rename_i vs0 MC
       simp at h;subst h
       obtain ⟨rY,hl,hr⟩:=Kc ok ht MC
       cases r with
       | tmp t=>
         simp at hv;subst hv
         refine ⟨tmps.getD t undef::rY,.cons (by simpa using gS t) hl,?_⟩
         simp only[List.mapM_cons,Sem.run_bind,Sem.run_pure,Result.andThen_ok,hr]
       | cell ad t=>
         simp only at hv
         obtain ⟨x',hx,iv⟩:=Gt ok (gS ad) hv
         refine ⟨x'::rY,.cons hx hl,?_⟩
         have hr0:=iv w rfl
         have:(do loadVar t (←asAddr (tmps.getD ad undef)):Sem Value).run E.P w= .ok x' w:=by
          have hv2:=gS ad
          unfold bh at hv
          split at hv
          · rename_i i o heq
            rw[heq] at hv2
            generalize hq:tmps.getD ad undef=q at hv2 hr0
            cases hv2
            simpa [Instr.loadAt,Instr.sureAddr,asAddr] using hr0
          · simp at hv
         simp only[List.mapM_cons]
         rw[Sem.run_bind,this]
         simp only[Sem.run_bind,Sem.run_pure,Result.andThen_ok,hr]
theorem uv {φ:Ph} {h:au} {w:World} (ok:OK E φ h w) {ts:List AV} {tmps:Array Value} (ht:LR φ ts tmps.toList) {fn:Func} {vs:List AV} (hv:lD E h ts fn.results.toList=some vs):
 ∃v',VR φ (iu vs) v'∧(results fn tmps).run E.P w= .ok v' w:=by
 obtain ⟨rY,hl,hr⟩:=Kc ok ht hv
 have hm:(fn.results.mapM (fun | .tmp t=>pure (tmps.getD t undef) | .cell a t=>do loadVar t (←asAddr (tmps.getD a undef)):ResultVar→Sem Value)).run E.P w= .ok rY.toArray w:=by
  rw[Array.mapM_eq_mapM_toList]
  show Sem.run E.P (Functor.map List.toArray (_:Sem (List Value))) w=_
  rw[Sem.run_map]
  refine (congrArg (fun r=>Result.andThen r _) hr).trans ?_
  rfl
 refine ⟨if h:rY.toArray.size=1 then rY.toArray[0] else .tuple rY.toArray,?_,?_⟩
 · cases vs with
   | nil=>rw[hl.j6];exact VR.tuple' (LR.nil φ)
   | cons v vs=>
     obtain ⟨y,ys,rfl,hy,wV⟩:=hl.dB
     cases vs with
     | nil=>rw[wV.j6];simpa [iu] using hy
     | cons v2 vs2=>
       obtain ⟨y2,ys2,rfl,hy2,ag0⟩:=wV.dB
       have:¬(y::y2::ys2).toArray.size=1:=by simp
       rw[dif_neg this]
       exact VR.tuple' (.cons hy (.cons hy2 ag0))
 · unfold results
   rw[Sem.run_bind]
   refine (congrArg (fun r=>Result.andThen r _) hm).trans ?_
   rfl
def bare (f:FuncId) (kind:CallKind):Frame:={fn:=f,tmps:= #[],todo:=[],defers:=[],mode:= .run,kind:=kind,roundOf:=none}
theorem Tb {P:Program} {f:FuncId} {fn:Func} {c:Code} (hf:P.funcs[f]? =some fn) (hb:fn.body=some c) (vs:List Value) (kind:CallKind):
 Frame.enter P f vs.toArray kind=(bare f kind).atR {tmps:=vs.toArray++Array.replicate (fn.ntmps - vs.length) undef,defers:=[]} [.code c]:=by
 simp [Frame.enter,Frame.atR,hf,hb,bare]
theorem uw (hE:lG E) {call:bq} (dN:iN E call) {fuel:Nat} {f:FuncId} {fn:Func} {c:Code} (hf:E.P.funcs[f]? =some fn) (hb:fn.body=some c) {args:List AV} {h:au} {rc:RC} {e:lY} {s':St}
 (gT:oW E call fuel fn c args h rc= .ok e s') {φ:Ph} {w:World} {vs:List Value} (ok:OK E φ h w) (hl:LR φ args vs) {kind:CallKind} {K:Bool→List Frame} (gZ:oI φ (bare f kind) K rc):
 ry E φ h w (bare f kind) K [] (lone (Frame.enter E.P f vs.toArray kind) (cur K rc) w) e s':=by
 rw[Tb hf hb]
 refine (xe hE dN fuel c (s:={ts:=args++List.replicate (fn.ntmps - args.length) AV.undef,h,ds:=[],rc}) gT (a:={tmps:=vs.toArray++Array.replicate (fn.ntmps - vs.length) undef,defers:=[]}) (b:=bare f kind) (k:=[]) ⟨?_,trivial⟩ ok gZ (by show (E.P.funcs[f]?).isSome=true;rw[hf];rfl)).1
 have:=hl.append (LR.replicate (VR.undef φ) (fn.ntmps - args.length))
 rw[hl.1] at this
 simpa [hl.1] using this
theorem enters {E:Env} (hE:lG E) {f:FuncId} {fn:Func} {c:Code} (hf:E.P.funcs[f]? =some fn) (hb:fn.body=some c) (vs:Array Value) (w:World):(callFunc f vs).run E.P w= .ok (.enter f vs) w:=by
 have hn:=hE.names f fn hf
 have:(fn.name== "runtime.NumGoroutine")=false:=by rw[beq_eq_false_iff_ne];exact hn
 simp only[callFunc,Sem.run_bind,run_program,Result.andThen_ok,hf,this,Bool.false_eq_true,if_false,hb,Option.isNone_some,Sem.run_pure]
noncomputable def iL (E:Env) (call:bq) (fuel:Nat) (g:FuncId) (as:List AV) (h:au) (rc:RC):Option (au×RC):=match E.P.funcs[g]? with
 | none=>none
 | some fg=>match fg.body with
   | none=>none
   | some bg=>match oW E call fuel fg bg as h rc with
     | .ok .normal s'=>if s'.ds.isEmpty&&(lD E s'.h s'.ts fg.results.toList).isSome then some (s'.h,s'.rc) else none
     | .ok .ret s'=>if s'.ds.isEmpty&&(lD E s'.h s'.ts fg.results.toList).isSome then some (s'.h,s'.rc) else none
     | _=>none
theorem ux {φ:Ph} {ds:List Deferred} (h:ZV φ [] ds):ds=[]:=by cases ds with | nil=>rfl | cons _ _=>exact h.elim
def sb (c:Bool→Frame):RC→Frame
 | .done=>{c true with mode:=settle (c true).mode}
 | _=>{c false with mode:=settle (c false).mode}
theorem uy (hE:lG E) {call:bq} (dN:iN E call) {fuel:Nat} {g:FuncId} {as:List AV} {h h':au} {rc Xt:RC} (hd:iL E call fuel g as h rc=some (h',Xt)) {φ:Ph} {w:World} {vs:List Value}
 (ok:OK E φ h w) (hl:LR φ as vs) {c:Bool→Frame} {cs:List Frame} (gZ:oI φ (bare g .deferred) (fun x=>c x::cs) rc):
 ∃φ' w',OK E φ' h' w'∧Fr φ h w φ' h' w'∧oI φ' (bare g .deferred) (fun x=>c x::cs) Xt∧(callFunc g vs.toArray).run E.P w= .ok (.enter g vs.toArray) w∧
  Steps E.P (lone (Frame.enter E.P g vs.toArray .deferred) (cur (fun x=>c x::cs) rc) w)
   (lone (sb c Xt) cs w'):=by
 unfold iL at hd
 split at hd
 · simp at hd
 rename_i fg hf
 split at hd
 · simp at hd
 rename_i bg hb
 have key:∀(s':St) (e:lY),(e= .normal∨e= .ret)→oW E call fuel fg bg as h rc= .ok e s'→s'.ds.isEmpty=true→(lD E s'.h s'.ts fg.results.toList).isSome=true→s'.h=h'→s'.rc=Xt→
  ∃φ' w',OK E φ' h' w'∧Fr φ h w φ' h' w'∧oI φ' (bare g .deferred) (fun x=>c x::cs) Xt∧(callFunc g vs.toArray).run E.P w= .ok (.enter g vs.toArray) w∧
  Steps E.P (lone (Frame.enter E.P g vs.toArray .deferred) (cur (fun x=>c x::cs) rc) w)
   (lone (sb c Xt) cs w'):=by
  intro s' e he gT MP FE hh hr
  subst hh;subst hr
  obtain ⟨φ',w',a',e',x1,x2,x3,x4,x5,x6⟩:=(uw hE dN hf hb gT ok hl (kind:= .deferred) gZ).is
  refine ⟨φ',w',x3,x4,x5,enters hE hf hb _ w,?_⟩
  obtain ⟨rY,ag1⟩:=Option.isSome_iff_exists.1 FE
  obtain ⟨v',_,iv⟩:=uv x3 x2.ts ag1
  have hdn:a'.defers=[]:=ux (by have:=x2.ds;rw[List.isEmpty_iff.1 MP] at this;exact this)
  have fin:∀todo,step E.P (lone {(bare g .deferred).atR a' todo with mode:= .returning} (cur (fun x=>c x::cs) s'.rc) w')=
   .next (lone (sb c s'.rc) cs w'):=fun todo=>by
   have Fx:({(bare g .deferred).atR a' todo with mode:= .returning}:Frame).going E.P w' (.returned v'):=⟨rfl,hdn,fg,hf,iv⟩
   have hk:({(bare g .deferred).atR a' todo with mode:= .returning}:Frame).kind= .deferred:=rfl
   cases aiW:s'.rc with
   | no=>exact step_going_returned (c:=c false) (cs:=cs) hk Fx
   | jM v=>exact step_going_returned (c:=c false) (cs:=cs) hk Fx
   | done=>exact step_going_returned (c:=c true) (cs:=cs) hk Fx
   | JB l=>exact step_going_returned (c:=c false) (cs:=cs) hk Fx
  rcases he with rfl | rfl
  · cases x1
    exact Steps.trans x6 (.head (stepR_end rfl) (.one (fin [])))
  · cases x1
    obtain ⟨todo,hs⟩:=x6
    exact Steps.trans hs (.head (stepR_ret rfl) (.one (fin _)))
 split at hd
 · rename_i s' gT
   split at hd
   · rename_i hc
     simp at hd;obtain ⟨rfl,rfl⟩:=hd
     simp only[Bool.and_eq_true] at hc
     exact key s' .normal (.inl rfl) gT hc.1 hc.2 rfl rfl
   · simp at hd
 · rename_i s' gT
   split at hd
   · rename_i hc
     simp at hd;obtain ⟨rfl,rfl⟩:=hd
     simp only[Bool.and_eq_true] at hc
     exact key s' .ret (.inr rfl) gT hc.1 hc.2 rfl rfl
   · simp at hd
 · simp at hd
theorem kM (hE:lG E) {call:bq} (dN:iN E call) {fuel:Nat}:∀(ds:List rR) {p p':Option AV} {h h':au} (_:dp (iL E call fuel) ds p h=some (p',h')) {φ:Ph} {w:World} {fr:Frame} {cs:List Frame}
 (_:OK E φ h w) (_:ZV φ ds fr.defers) (_:(p=none∧fr.mode= .returning)∨∃v v',p=some v∧VR φ v v'∧fr.mode= .panicking [{v:=v',recovered:=false}]),
 ∃φ' w' m',OK E φ' h' w'∧Fr φ h w φ' h' w'∧((p'=none∧m'= .returning)∨∃v v',p'=some v∧VR φ' v v'∧m'= .panicking [{v:=v',recovered:=false}])∧
  Steps E.P (lone fr cs w) (lone {fr with defers:=[],mode:=m'} cs w')
 | [],p,p',h,h',hu,φ,w,fr,cs,ok,MP,hp=>by
   simp [dp] at hu;obtain ⟨rfl,rfl⟩:=hu
   have:=ux MP
   refine ⟨φ,w,fr.mode,ok,Fr.refl _ _ _,?_,?_⟩
   · exact hp
   · rw[←this];exact Steps.refl _ _
 | .col r::ds,p,p',h,h',hu,φ,w,fr,cs,ok,MP,hp=>by
   cases hfd:fr.defers with
   | nil=>rw[hfd] at MP;exact MP.elim
   | cons d' Ar=>
   rw[hfd] at MP
   obtain ⟨⟨l,hl,Xu⟩,Tc⟩:=MP
   have Td:fr.mode≠ .run:=by
    rcases hp with ⟨_,hm⟩ | ⟨v,v',_,_,hm⟩<;>rw[hm]<;>simp
   simp only[dp] at hu
   split at hu
   · rename_i hg
     obtain ⟨_,hb⟩:=ok.live _ _ _ hg hl
     obtain ⟨J_,f1⟩:=ok.agY hg rfl hl (.deferred none)
     have Sn:=step_collected (P:=E.P) (cs:=cs) Td hfd Xu (run_takeDeferred hb)
     obtain ⟨φ2,w2,m2,Dr,f2,Te,MQ⟩:=kM hE dN ds hu (fr:={fr with defers:=[]++Ar}) (cs:=cs) J_ (by simpa using Tc) hp
     exact ⟨φ2,w2,m2,Dr,f1.trans f2,Te,.head Sn MQ⟩
   · simp at hu
 | .call df aix::ds,p,p',h,h',hu,φ,w,fr,cs,ok,MP,hp=>by
   cases hfd:fr.defers with
   | nil=>rw[hfd] at MP;exact MP.elim
   | cons d' Ar=>
   rw[hfd] at MP
   obtain ⟨⟨cap,Xu,Db⟩,Tc⟩:=MP
   have Td:fr.mode≠ .run:=by
    rcases hp with ⟨_,hm⟩ | ⟨v,v',_,_,hm⟩<;>rw[hm]<;>simp
   have hinv:∀(Sp:(callFunc df (d'.args++cap).toList.toArray).run E.P w= .ok (.enter df (d'.args++cap).toList.toArray) w),(invoke d'.target d'.args).run E.P w= .ok (.enter df (d'.args++cap).toList.toArray) w:=fun Sp=>by
    have e:(d'.args++cap).toList.toArray=d'.args++cap:=Array.toArray_toList ..
    rw[e] at Sp ⊢
    rw[Xu];exact Sp
   have Sn:∀(Sp:(callFunc df (d'.args++cap).toList.toArray).run E.P w= .ok (.enter df (d'.args++cap).toList.toArray) w),step E.P (lone fr cs w)= .next (lone (Frame.enter E.P df (d'.args++cap).toList.toArray .deferred) ({fr with defers:=Ar}::cs) w):=fun Sp=>step_defer Td hfd Xu (hinv Sp)
   cases p with
   | none=>
     simp only[dp] at hu
     split at hu
     · rename_i h1 rc1 hcd
       have hm:fr.mode= .returning:=by
        rcases hp with ⟨_,hm⟩ | ⟨v,v',e,_,_⟩
        · exact hm
        · simp at e
       obtain ⟨φ1,w1,J_,f1,_,Sp,kb⟩:=uy hE dN hcd ok Db (c:=fun _=>{fr with defers:=Ar}) (cs:=cs) ⟨rfl,fun Mj hk=>by simp [tryRecover,show Mj.kind= .deferred from hk,hm]⟩
       have Aq:sb (fun _=>{fr with defers:=Ar}) rc1={fr with defers:=Ar}:=by
        cases rc1<;>simp [sb,hm,settle]
       rw[Aq] at kb
       obtain ⟨φ2,w2,m2,Dr,f2,Te,MQ⟩:=kM hE dN ds hu (fr:={fr with defers:=Ar}) (cs:=cs) J_ (Tc.mono f1.ext) (.inl ⟨rfl,hm⟩)
       exact ⟨φ2,w2,m2,Dr,f1.trans f2,Te,.head (Sn Sp) (Steps.trans kb MQ)⟩
     · simp at hu
   | some v=>
     obtain ⟨v',hv,hm⟩:∃v',VR φ v v'∧fr.mode= .panicking [{v:=v',recovered:=false}]:=by
      rcases hp with ⟨e,_⟩ | ⟨v1,v',e,hv,hm⟩
      · simp at e
      · simp at e;subst e;exact ⟨v',hv,hm⟩
     have gZ:oI φ (bare df .deferred) (fun x=>(if x then {fr with defers:=Ar,mode:= .panicking [{v:=v',recovered:=true}]} else {fr with defers:=Ar})::cs) (.jM v):=
      ⟨rfl,⟨v',hv,fun Mj hk=>by simp [tryRecover,show Mj.kind= .deferred from hk,hm]⟩,fun Mj hk=>by simp [tryRecover,show Mj.kind= .deferred from hk]⟩
     simp only[dp] at hu
     split at hu
     · rename_i h1 v1 hcd
       obtain ⟨φ1,w1,J_,f1,_,Sp,kb⟩:=uy hE dN hcd ok Db (c:=fun x=>if x then {fr with defers:=Ar,mode:= .panicking [{v:=v',recovered:=true}]} else {fr with defers:=Ar}) (cs:=cs) gZ
       have Aq:sb (fun x=>if x then {fr with defers:=Ar,mode:= .panicking [{v:=v',recovered:=true}]} else {fr with defers:=Ar}) (.jM v1)={fr with defers:=Ar}:=by simp [sb,hm,settle]
       rw[Aq] at kb
       simp only[Bool.false_eq_true,if_false,cur] at kb
       obtain ⟨φ2,w2,m2,Dr,f2,Te,MQ⟩:=kM hE dN ds hu (fr:={fr with defers:=Ar}) (cs:=cs) J_ (Tc.mono f1.ext) (.inr ⟨v,v',rfl,hv.mono f1.ext,hm⟩)
       exact ⟨φ2,w2,m2,Dr,f1.trans f2,Te,.head (Sn Sp) (Steps.trans kb MQ)⟩
     · rename_i h1 hcd
       obtain ⟨φ1,w1,J_,f1,_,Sp,kb⟩:=uy hE dN hcd ok Db (c:=fun x=>if x then {fr with defers:=Ar,mode:= .panicking [{v:=v',recovered:=true}]} else {fr with defers:=Ar}) (cs:=cs) gZ
       have Aq:sb (fun x=>if x then {fr with defers:=Ar,mode:= .panicking [{v:=v',recovered:=true}]} else {fr with defers:=Ar}) .done={fr with defers:=Ar,mode:= .returning}:=by simp [sb,settle]
       rw[Aq] at kb
       simp only[Bool.false_eq_true,if_false,cur] at kb
       obtain ⟨φ2,w2,m2,Dr,f2,Te,MQ⟩:=kM hE dN ds hu (fr:={fr with defers:=Ar,mode:= .returning}) (cs:=cs) J_ (Tc.mono f1.ext) (.inl ⟨rfl,rfl⟩)
       exact ⟨φ2,w2,m2,Dr,f1.trans f2,Te,.head (Sn Sp) (Steps.trans kb MQ)⟩
     · simp at hu
theorem Ke (hE:lG E) (fuel d:Nat) (ih:iN E (g_ E d fuel)):(∀f args h v h',g_ E (d+1) fuel (.fn f) args h= .ret v h'→mF E f args h v h')∧(∀f args h v h',g_ E (d+1) fuel (.fn f) args h= .panic v h'→ON E f args h v h'):=by
 have key:∀(f:FuncId) (args:List AV) (h:au) (out:j3),g_ E (d+1) fuel (.fn f) args h=out→(∀why q,out≠ .fail why q)→
  ∃fn c e s p,E.P.funcs[f]? =some fn∧fn.body=some c∧oW E (g_ E d fuel) fuel fn c args h .no= .ok e s∧
   ((p=none∧(e= .normal∨e= .ret))∨∃v,p=some v∧e= .panic v)∧
   ((∃v h',out= .panic v h'∧dp (iL E (g_ E d fuel) fuel) s.ds p s.h=some (some v,h'))∨
    ∃vs h',out= .ret (iu vs) h'∧dp (iL E (g_ E d fuel) fuel) s.ds p s.h=some (none,h')∧lD E h' s.ts fn.results.toList=some vs):=by
  intro f args h out e eY
  simp only[g_] at e
  split at e
  · exact absurd e.symm (eY _ _)
  rename_i fn hf
  split at e
  · exact absurd e.symm (eY _ _)
  rename_i c hb
  have fin:∀(p:Option AV) (s:St),(match dp (iL E (g_ E d fuel) fuel) s.ds p s.h with
   | none=>j3.fail "unwind" none
   | some (some v,h')=> .panic v h'
   | some (none,h')=>match lD E h' s.ts fn.results.toList with
     | some vs=> .ret (iu vs) h'
     | none=> .fail "results" none)=out→
   ((∃v h',out= .panic v h'∧dp (iL E (g_ E d fuel) fuel) s.ds p s.h=some (some v,h'))∨
    ∃vs h',out= .ret (iu vs) h'∧dp (iL E (g_ E d fuel) fuel) s.ds p s.h=some (none,h')∧lD E h' s.ts fn.results.toList=some vs):=by
   intro p s hm
   split at hm
   · exact absurd hm.symm (eY _ _)
   · rename_i v h' hu;exact .inl ⟨v,h',hm.symm,hu⟩
   · rename_i h' hu
     split at hm
     · rename_i vs hv;exact .inr ⟨vs,h',hm.symm,hu,hv⟩
     · exact absurd hm.symm (eY _ _)
  split at e
  · rename_i s gT;exact ⟨fn,c,_,s,none,hf,hb,gT,.inl ⟨rfl,.inl rfl⟩,fin none s e⟩
  · rename_i s gT;exact ⟨fn,c,_,s,none,hf,hb,gT,.inl ⟨rfl,.inr rfl⟩,fin none s e⟩
  · rename_i v s gT;exact ⟨fn,c,_,s,some v,hf,hb,gT,.inr ⟨v,rfl,rfl⟩,fin (some v) s e⟩
  · exact absurd e.symm (eY _ _)
  · exact absurd e.symm (eY _ _)
 have run:∀(f:FuncId) (fn:Func) (c:Code) (args:List AV) (h:au) (e:lY) (s:St) (p p':Option AV) (h':au),E.P.funcs[f]? =some fn→fn.body=some c→oW E (g_ E d fuel) fuel fn c args h .no= .ok e s→
  ((p=none∧(e= .normal∨e= .ret))∨∃v,p=some v∧e= .panic v)→dp (iL E (g_ E d fuel) fuel) s.ds p s.h=some (p',h')→
  ∀(φ:Ph) (w:World) (vs:List Value),OK E φ h w→LR φ args vs→∀cs,∃φ' w' m' tmps todo,OK E φ' h' w'∧Fr φ h w φ' h' w'∧LR φ' s.ts tmps.toList∧
   ((p'=none∧m'= .returning)∨∃v v',p'=some v∧VR φ' v v'∧m'= .panicking [{v:=v',recovered:=false}])∧
   Steps E.P (lone (Frame.enter E.P f vs.toArray .normal) cs w) (lone {(bare f .normal).atR {tmps,defers:=[]} todo with mode:=m'} cs w'):=by
  intro f fn c args h e s p p' h' hf hb gT hp hu φ w vs ok hl cs
  obtain ⟨φ1,w1,a1,e1,x1,x2,x3,x4,x5,x6⟩:=(uw hE ih hf hb gT ok hl (kind:= .normal) (K:=fun _=>cs) ⟨rfl,fun fr hk=>by simp [tryRecover,show fr.kind= .normal from hk]⟩).is
  have Kf:cur (fun _=>cs) s.rc=cs:=by cases s.rc<;>rfl
  have Tf:cur (fun _=>cs) RC.no=cs:=rfl
  rw[Kf] at x6
  rw[Tf] at x6
  have hm:∃todo m,((p=none∧m= .returning)∨∃v v',p=some v∧VR φ1 v v'∧m= .panicking [{v:=v',recovered:=false}])∧
   Steps E.P (lone (Frame.enter E.P f vs.toArray .normal) cs w) (lone {(bare f .normal).atR a1 todo with mode:=m} cs w1):=by
   rcases hp with ⟨rfl,rfl | rfl⟩ | ⟨v,rfl,rfl⟩
   · cases x1;exact ⟨[],.returning,.inl ⟨rfl,rfl⟩,Steps.trans x6 (.one (stepR_end rfl))⟩
   · cases x1;obtain ⟨todo,hs⟩:=x6;exact ⟨_,.returning,.inl ⟨rfl,rfl⟩,Steps.trans hs (.one (stepR_ret rfl))⟩
   · cases x1 with
     | panic _ v' hv=>obtain ⟨todo,hs⟩:=x6;exact ⟨todo,_,.inr ⟨v,v',rfl,hv,rfl⟩,hs⟩
  obtain ⟨todo,m,hmp,tR⟩:=hm
  obtain ⟨φ2,w2,m2,Dr,f2,Te,hs2⟩:=kM hE ih s.ds hu (fr:={(bare f .normal).atR a1 todo with mode:=m}) (cs:=cs) x3 x2.ds (by
   rcases hmp with ⟨e,em⟩ | ⟨v,v',e,hv,em⟩
   · exact .inl ⟨e,em⟩
   · exact .inr ⟨v,v',e,hv,em⟩)
  exact ⟨φ2,w2,m2,a1.tmps,todo,Dr,x4.trans f2,x2.ts.mono f2.ext,Te,Steps.trans tR hs2⟩
 refine ⟨fun f args h v h' e=>?_,fun f args h v h' e=>?_⟩
 · obtain ⟨fn,c,e1,s,p,hf,hb,gT,hp,rh⟩:=key f args h _ e (by simp)
   rcases rh with ⟨v1,h1,he,_⟩ | ⟨vs1,h1,he,hu,FE⟩
   · simp at he
   · simp at he;obtain ⟨rfl,rfl⟩:=he
     intro φ w vs ok hl
     refine ⟨enters hE hf hb _ w,fun cs=>?_⟩
     obtain ⟨φ',w',m',tmps,todo,tc,fr,ht,hm,hs⟩:=run f fn c args h e1 s p none h' hf hb gT hp hu φ w vs ok hl cs
     obtain ⟨v',hv,iv⟩:=uv tc ht FE
     rcases hm with ⟨_,rfl⟩ | ⟨v,v'',e,_⟩
     · exact ⟨φ',w',v',_,hv,tc,fr,hs,rfl,rfl,rfl,rfl,fn,hf,iv⟩
     · simp at e
 · obtain ⟨fn,c,e1,s,p,hf,hb,gT,hp,rh⟩:=key f args h _ e (by simp)
   rcases rh with ⟨v1,h1,he,hu⟩ | ⟨vs1,h1,he,_⟩
   · simp at he;obtain ⟨rfl,rfl⟩:=he
     intro φ w vs ok hl
     refine ⟨enters hE hf hb _ w,fun cs=>?_⟩
     obtain ⟨φ',w',m',tmps,todo,tc,fr,ht,hm,hs⟩:=run f fn c args h e1 s p (some v) h' hf hb gT hp hu φ w vs ok hl cs
     rcases hm with ⟨e,_⟩ | ⟨v2,v',e,hv,rfl⟩
     · simp at e
     · simp at e;subst e
       exact ⟨φ',w',v',_,hv,tc,fr,hs,rfl,rfl,rfl,fn,hf⟩
   · simp at he
theorem xf {l:Nat} {Ai:Option Code} {s:St} {v:AV} {h':au} (he:C1 l Ai s= .ret v h') {φ:Ph} {w:World} (ok:OK E φ s.h w) {ll:Loc} (hl:φ l=some ll):
 ∃w',v= .bool Ai.isNone∧OK E φ h' w'∧Fr φ s.h w φ h' w'∧(Instr.endRound ll.g6 Ai).run E.P w= .ok (.bool Ai.isNone) w':=by
 unfold C1 at he
 split at he
 · rename_i st pd ts ps as bd dn hg
   simp only[j3.ret.injEq] at he;obtain ⟨rfl,rfl⟩:=he
   obtain ⟨_,r,hr,Aw⟩:=ok.live _ _ _ hg hl
   obtain ⟨J_,f1⟩:=ok.abg (o':= .loop (if Ai.isNone then .ready else .done) Ai ts ps as bd dn) hg rfl hl (O:= .loop {r with state:=if Ai.isNone then .ready else .done,pending:=Ai})
    ⟨by have:=ok.live _ _ _ hg hl;exact this.1,_,rfl,⟨rfl,rfl,Aw.tmps,Aw.params,Aw.assign,Aw.body,Aw.defers,Aw.fn⟩⟩
   exact ⟨_,rfl,J_,f1,run_endRound Ai hr⟩
 · simp at he
theorem Kg {φ:Ph}:∀{ps:List Tmp} {args:List AV} {vs:List Value} (_:LR φ args vs) {ts:List AV} {tmps:Array Value} (_:LR φ ts tmps.toList),
 LR φ ((ps.zip args).foldl (fun ts x=>ts.set x.1 x.2) ts) (((ps.zip vs).foldl (fun (tmps:Array Value) (x:Tmp×Value)=>tmps.setIfInBounds x.1 x.2) tmps).toList)
 | [],_,_,_,_,_,ht=>by simpa using ht
 | p::ps,[],vs,hl,ts,tmps,ht=>by rw[hl.j6];simpa using ht
 | p::ps,x::xs,vs,hl,ts,tmps,ht=>by
   obtain ⟨y,ys,rfl,hy,wV⟩:=hl.dB
   simp only[List.zip_cons_cons,List.foldl_cons]
   exact Kg wV (by simpa using ht.set hy p)
theorem Dv (hE:lG E) {call:bq} (dN:iN E call) {fuel l:Nat} {args:List AV} {h:au} {out:j3} (ho:wM E call fuel l args h=out) (eY:∀why q,out≠ .fail why q)
 {φ:Ph} {w:World} {vs:List Value} (ok:OK E φ h w) {ll:Loc} (hφ:φ l=some ll) (hl:LR φ args vs):
 ∃f tmps assign body,(Instr.yield ll.g6 vs.toArray).run E.P w= .ok (.round ll.g6 f tmps assign body) w∧∀c cs,
  (∀v h',out= .ret v h'→∃φ' w' v',VR φ' v v'∧OK E φ' h' w'∧Fr φ h w φ' h' w'∧Steps E.P (lone (Frame.round ll.g6 f tmps assign body .normal) (c::cs) w) (lone (c.finish v') cs w'))∧
  (∀v h',out= .panic v h'→∃φ' w' v',VR φ' v v'∧OK E φ' h' w'∧Fr φ h w φ' h' w'∧Steps E.P (lone (Frame.round ll.g6 f tmps assign body .normal) (c::cs) w) (lone (c.raise [{v:=v',recovered:=false}]) cs w')):=by
 unfold wM at ho
 split at ho
 · rename_i st pd ts ps as bd dn hg
   split at ho
   · rename_i hlen
     split at ho
     · rename_i s1 hx1
       split at ho
       · rename_i pd2 ts2 ZP W6 bd2 dn2 hg1
         obtain ⟨aiX,r,hr,Aw⟩:=ok.live _ _ _ hg hφ
         have JN:vs.toArray.size=r.params.size:=by
          have h1:=congrArg List.length Aw.params
          have h2:=hl.1
          simp at h1 ⊢;omega
         refine ⟨r.fn,_,r.assign,r.body,run_yield hr JN,fun c cs=>?_⟩
         have aen:LR φ ((ps.zip args).foldl (fun ts x=>ts.set x.1 x.2) ts) ((r.params.zip vs.toArray).foldl (fun tmps (t,a)=>tmps.setIfInBounds t a) r.tmps).toList:=by
          have:=Kg (ps:=ps) hl Aw.tmps
          rw[←Array.foldl_toList,Array.toList_zip,Aw.params]
          exact this
         generalize htm:(r.params.zip vs.toArray).foldl (fun tmps (t,a)=>tmps.setIfInBounds t a) r.tmps=OT at aen
         let b:Frame:={fn:=r.fn,tmps:= #[],todo:=[],defers:=[],mode:= .run,kind:= .normal,roundOf:=some ll.g6}
         have hb:b.roundOf=some ll.g6:=rfl
         have hk:b.kind= .normal:=rfl
         have As:Frame.round ll.g6 r.fn OT r.assign r.body .normal=b.atR {tmps:=OT,defers:=[]} [.code r.assign,.beginRound,.code r.body]:=rfl
         rw[Aw.assign,Aw.body] at As ⊢
         rw[As]
         have Kf:∀rc,cur (fun _=>c::cs) rc=c::cs:=fun rc=>by cases rc<;>rfl
         obtain ⟨φ1,w1,a1,e1,x1,x2,x3,x4,x5,x6⟩:=(xe hE dN fuel as hx1 (a:={tmps:=OT,defers:=[]}) (b:=b) (k:=[.beginRound,.code bd]) (K:=fun _=>c::cs) ⟨aen,trivial⟩ ok ⟨ll,hφ,rfl⟩ Aw.fn).1.is
         cases x1
         rw[Kf,Kf] at x6
         have hφ1:=x4.ext _ _ hφ
         obtain ⟨aeo,r1,hr1,Kh⟩:=x3.live _ _ _ hg1 hφ1
         obtain ⟨Dr,f2⟩:=x3.abg (o':= .loop .busy pd2 ts2 ZP W6 bd2 dn2) hg1 rfl hφ1 (O:= .loop {r1 with state:= .busy})
          ⟨aeo,_,rfl,⟨rfl,Kh.pending,Kh.tmps,Kh.params,Kh.assign,Kh.body,Kh.defers,Kh.fn⟩⟩
         have ag2:=stepR_beginRound (P:=E.P) (b:=b) (a:=a1) (k:=[.code bd]) (cs:=c::cs) hb (run_beginRound hr1 Kh.state)
         have Ca:=Steps.trans x6 (.one ag2)
         have body:∀(e:lY) (s2:St),exec E call fuel bd {s1 with h:=s1.h.put l (some (.loop .busy pd2 ts2 ZP W6 bd2 dn2))}= .ok e s2→
          ∃φ' w' a' e',ExR φ' e e'∧SR φ' s2.ts s2.ds a'∧OK E φ' s2.h w'∧Fr φ h w φ' s2.h w'∧φ' l=some ll∧Ka E.P (lone (b.atR {tmps:=OT,defers:=[]} [.code as,.beginRound,.code bd]) (c::cs) w) b [] (c::cs) e' a' w':=by
          intro e s2 Xv
          obtain ⟨φ3,w3,a3,e3,y1,y2,y3,y4,y5,y6⟩:=(xe hE dN fuel bd Xv (a:=a1) (b:=b) (k:=[]) (K:=fun _=>c::cs) x2 Dr x5 Aw.fn).1.is
          rw[Kf,Kf] at y6
          exact ⟨φ3,w3,a3,e3,y1,y2,y3,(x4.trans f2).trans y4,y4.ext _ _ hφ1,.of_steps Ca y6⟩
         split at ho
         · rename_i s2 Xv
           obtain ⟨φ3,w3,a3,e3,y1,y2,y3,y4,Xs,y6⟩:=body _ _ Xv
           cases y1
           refine ⟨fun v h' e=>?_,fun v h' e=>?_⟩
           · obtain ⟨w4,rfl,z1,z2,z3⟩:=xf (ho.trans e) y3 Xs
             exact ⟨φ3,w4,_,.bool _,z1,y4.trans z2,Steps.trans y6 (.one (stepR_round_end hb hk z3))⟩
           · rw[e] at ho;unfold C1 at ho;split at ho<;>simp at ho
         · rename_i s2 Xv
           obtain ⟨φ3,w3,a3,e3,y1,y2,y3,y4,Xs,y6⟩:=body _ _ Xv
           cases y1
           refine ⟨fun v h' e=>?_,fun v h' e=>?_⟩
           · obtain ⟨w4,rfl,z1,z2,z3⟩:=xf (ho.trans e) y3 Xs
             obtain ⟨todo,hs⟩:=y6
             exact ⟨φ3,w4,_,.bool _,z1,y4.trans z2,Steps.trans hs (.one (stepR_round_ret hb hk z3))⟩
           · rw[e] at ho;unfold C1 at ho;split at ho<;>simp at ho
         · rename_i id s2 Xv
           obtain ⟨φ3,w3,a3,e3,y1,y2,y3,y4,Xs,y6⟩:=body _ _ Xv
           cases y1
           refine ⟨fun v h' e=>?_,fun v h' e=>?_⟩
           · obtain ⟨w4,rfl,z1,z2,z3⟩:=xf (ho.trans e) y3 Xs
             obtain ⟨todo,ht,hs⟩:=y6
             exact ⟨φ3,w4,_,.bool _,z1,y4.trans z2,Steps.trans hs (.one (stepR_round_exit hb hk ht z3))⟩
           · rw[e] at ho;unfold C1 at ho;split at ho<;>simp at ho
         · rename_i v2 s2 Xv
           obtain ⟨φ3,w3,a3,e3,y1,y2,y3,y4,Xs,y6⟩:=body _ _ Xv
           split at ho
           · rename_i MP
             refine ⟨fun v h' e=>by rw[e] at ho;simp at ho,fun v h' e=>?_⟩
             rw[e] at ho;simp at ho;obtain ⟨rfl,rfl⟩:=ho
             cases y1 with
             | panic _ v' hv=>
               obtain ⟨todo,hs⟩:=y6
               have hdn:a3.defers=[]:=ux (by have:=y2.ds;rw[List.isEmpty_iff.1 MP] at this;exact this)
               obtain ⟨fn,JD⟩:=Option.isSome_iff_exists.1 Aw.fn
               exact ⟨φ3,w3,v',hv,y3,y4,Steps.trans hs (.one (step_leave_panicked ⟨rfl,hdn,fn,JD⟩))⟩
           · exact absurd ho.symm (eY _ _)
         · exact absurd ho.symm (eY _ _)
       · exact absurd ho.symm (eY _ _)
     · exact absurd ho.symm (eY _ _)
     · exact absurd ho.symm (eY _ _)
   · exact absurd ho.symm (eY _ _)
 · exact absurd ho.symm (eY _ _)
theorem Br (hE:lG E) (fuel:Nat):∀d,iN E (g_ E d fuel)
 | 0=>⟨fun f args h v h' e=>by simp [g_] at e,fun f args h v h' e=>by simp [g_] at e⟩
 | d+1=>by
   have ih:=Br hE fuel d
   obtain ⟨k1,k2⟩:=Ke hE fuel d ih
   refine ⟨fun F args h v h' e=>?_,fun F args h v h' e=>?_⟩
   · cases F with
     | fn f=>exact (k1 f args h v h' e).any
     | Bh l=>
       simp only[g_] at e
       intro φ w vs ok hf hl
       obtain ⟨ll,hφ⟩:=hf
       obtain ⟨f,tmps,assign,body,hy,iv⟩:=Dv hE ih e (by simp) ok hφ hl
       exact ⟨_,_,.Bh l ll hφ vs f tmps assign body hy,fun c cs=>(iv c cs).1 v h' rfl⟩
   · cases F with
     | fn f=>exact (k2 f args h v h' e).any
     | Bh l=>
       simp only[g_] at e
       intro φ w vs ok hf hl
       obtain ⟨ll,hφ⟩:=hf
       obtain ⟨f,tmps,assign,body,hy,iv⟩:=Dv hE ih e (by simp) ok hφ hl
       exact ⟨_,_,.Bh l ll hφ vs f tmps assign body hy,fun c cs=>(iv c cs).2 v h' rfl⟩
end Go.Ab
end
section
namespace Go.Ab.Fa
structure Acc (T:Type) where
 f:T→AV
structure Upd (T:Type) where
 f:AV→T→T
structure RF where
 T:Type
 N:Nat
 get:Nat→Acc T
 set:Nat→Upd T
 z:T
 Tg:∀i,i<N→(get i).f z=AV.undef
 yJ:∀i,i<N→∀v r,(get i).f ((set i).f v r)=v
 vz:∀i j,i<N→j<N→i≠j→∀v r,(get j).f ((set i).f v r)=(get j).f r
def Xw (i:Nat):Acc (P8 (P8 AV)):=s8 (i/8) fun p=>s8 (i%8) fun q=>⟨fun r=>q (p r)⟩
noncomputable def abi (i:Nat):Upd (P8 (P8 AV)):=e8 (i/8) fun p=>e8 (i%8) fun q=>⟨fun v r=>p (q fun _=>v) r⟩
noncomputable def rf2:RF where
 T:=P8 (P8 AV)
 N:=64
 get:=Xw
 set:=abi
 z:=P8.all (P8.all AV.undef)
 Tg i h:=by simp only[Xw,v_,Cz]
 yJ i h v r:=by simp only[Xw,abi,v_,Bg,dr]
 vz i j hi hj h v r:=by
  simp only[Xw,abi,v_,Bg]
  by_cases h1:i/8=j/8
  · rw[h1,dr,eG (by omega) (by omega) (by omega)]
  · rw[eG (by omega) (by omega) h1]
def Xx (i:Nat):Acc (P8 (P8 (P8 AV))):=s8 (i/64) fun o=>s8 (i/8%8) fun p=>s8 (i%8) fun q=>⟨fun r=>q (p (o r))⟩
noncomputable def abj (i:Nat):Upd (P8 (P8 (P8 AV))):=e8 (i/64) fun o=>e8 (i/8%8) fun p=>e8 (i%8) fun q=>⟨fun v r=>o (p (q fun _=>v)) r⟩
noncomputable def rf3:RF where
 T:=P8 (P8 (P8 AV))
 N:=512
 get:=Xx
 set:=abj
 z:=P8.all (P8.all (P8.all AV.undef))
 Tg i h:=by simp only[Xx,v_,Cz]
 yJ i h v r:=by simp only[Xx,abj,v_,Bg,dr]
 vz i j hi hj h v r:=by
  simp only[Xx,abj,v_,Bg]
  by_cases h1:i/64=j/64
  · rw[h1,dr]
    by_cases h2:i/8%8=j/8%8
    · rw[h2,dr,eG (by omega) (by omega) (by omega)]
    · rw[eG (by omega) (by omega) h2]
  · rw[eG (by omega) (by omega) h1]
section
variable (F:RF) (n:Nat)
def fC (r:F.T):List AV:=(List.range n).map fun i=>(F.get i).f r
theorem jq (r:F.T):(fC F n r).length=n:=by simp [fC]
theorem vA (r:F.T) {i:Nat} (h:i<n):(fC F n r)[i]? =some ((F.get i).f r):=by simp [fC,h]
theorem Ki (r:F.T) (i:Nat):(fC F n r).getD i AV.undef=if i<n then (F.get i).f r else AV.undef:=by
 rw[List.getD_eq_getElem?_getD]
 split
 · rename_i h;rw[vA F n r h];rfl
 · rw[List.getElem?_eq_none (by rw[jq];omega)];rfl
theorem Xy (hn:n≤F.N) (r:F.T) {i:Nat} (h:i<n) (v:AV):(fC F n r).set i v=fC F n ((F.set i).f v r):=by
 apply List.ext_getElem?
 intro j
 rw[List.getElem?_set]
 by_cases hj:j<n
 · rw[vA F n _ hj,vA F n _ hj,jq]
   by_cases e:i=j
   · subst e;simp [F.yJ i (by omega),h]
   · rw[if_neg e,F.vz i j (by omega) (by omega) e]
 · rw[List.getElem?_eq_none (l:=fC F n r) (by rw[jq];omega),List.getElem?_eq_none (l:=fC F n _) (by rw[jq];omega),jq]
   rw[if_neg (by omega)]
noncomputable def Sq:List AV→F.T→Nat→F.T:=fun l=>List.rec (motive:=fun _=>F.T→Nat→F.T) (fun r _=>r) (fun v _ ih r i=>ih ((F.set i).f v r) (Nat.add i 1)) l
theorem Xz (r:F.T) (i:Nat):Sq F [] r i=r:=rfl
theorem Th (v:AV) (l:List AV) (r:F.T) (i:Nat):Sq F (v::l) r i=Sq F l ((F.set i).f v r) (i+1):=rfl
theorem OU (hn:n≤F.N):∀(l:List AV) (r:F.T) (i:Nat),i+l.length≤n→∀j,j<n→(F.get j).f (Sq F l r i)=if i≤j∧j<i+l.length then l.getD (j - i) AV.undef else (F.get j).f r
 | [],r,i,_,j,hj=>by rw[Xz,if_neg (by rw[List.length_nil];omega)]
 | v::l,r,i,h,j,hj=>by
   simp only[List.length_cons] at h
   rw[Th,OU hn l _ (i+1) (by omega) j hj]
   simp only[List.length_cons]
   by_cases h1:i+1≤j∧j<i+1+l.length
   · rw[if_pos h1,if_pos (by omega)]
     obtain ⟨m,hm⟩:∃m,j - i=m+1:=⟨j - i - 1,by omega⟩
     rw[hm,show j -(i+1)=m by omega,List.getD_cons_succ]
   · rw[if_neg h1]
     by_cases h2:i=j
     · subst h2;rw[F.yJ i (by omega),if_pos (by omega)];simp
     · rw[F.vz i j (by omega) (by omega) h2,if_neg (by omega)]
theorem OV (hn:n≤F.N) (l:List AV) (h:l.length≤n):fC F n (Sq F l F.z 0)=l++List.replicate (n - l.length) AV.undef:=by
 apply List.ext_getElem?
 intro j
 by_cases hj:j<n
 · rw[vA F n _ hj,OU F n hn l F.z 0 (by omega) j hj]
   by_cases h1:j<l.length
   · rw[if_pos (by omega),List.getElem?_append_left h1,Nat.sub_zero,List.getD_eq_getElem?_getD,List.getElem?_eq_getElem h1];rfl
   · rw[if_neg (by omega),List.getElem?_append_right (by omega),F.Tg j (by omega),List.getElem?_replicate,if_pos (by omega)]
 · rw[List.getElem?_eq_none (by rw[jq];omega),List.getElem?_eq_none (by simp;omega)]
end
end Go.Ab.Fa
end
section
namespace Go.Ab.Fa
section
variable {R:Type}
noncomputable def kg (f:Bool→R) (d:R) (v:AV):R:=
 AV.rec (motive_1:=fun _=>R) (motive_2:=fun _=>Unit) (fun b=>f b) (fun _ _=>d) (fun _=>d) d (fun _ _=>d) d (fun _ _ _ _ _=>d) d (fun _=>d) (fun _ _ _ _ _=>d) (fun _=>d) d (fun _ _ _=>d) d (fun _ _=>d) (fun _ _=>d) d d () (fun _ _ _ _=>()) v
noncomputable def pJ (f:IntKind→Int→R) (d:R) (v:AV):R:=
 AV.rec (motive_1:=fun _=>R) (motive_2:=fun _=>Unit) (fun _=>d) (fun k n=>f k n) (fun _=>d) d (fun _ _=>d) d (fun _ _ _ _ _=>d) d (fun _=>d) (fun _ _ _ _ _=>d) (fun _=>d) d (fun _ _ _=>d) d (fun _ _=>d) (fun _ _=>d) d d () (fun _ _ _ _=>()) v
noncomputable def sc (f:List UInt8→R) (d:R) (v:AV):R:=
 AV.rec (motive_1:=fun _=>R) (motive_2:=fun _=>Unit) (fun _=>d) (fun _ _=>d) (fun s=>f s) d (fun _ _=>d) d (fun _ _ _ _ _=>d) d (fun _=>d) (fun _ _ _ _ _=>d) (fun _=>d) d (fun _ _ _=>d) d (fun _ _=>d) (fun _ _=>d) d d () (fun _ _ _ _=>()) v
noncomputable def Ax (f:Nat→Nat→R) (d:R) (v:AV):R:=
 AV.rec (motive_1:=fun _=>R) (motive_2:=fun _=>Unit) (fun _=>d) (fun _ _=>d) (fun _=>d) d (fun i o=>f i o) d (fun _ _ _ _ _=>d) d (fun _=>d) (fun _ _ _ _ _=>d) (fun _=>d) d (fun _ _ _=>d) d (fun _ _=>d) (fun _ _=>d) d d () (fun _ _ _ _=>()) v
noncomputable def kh (e:R) (f:Nat→Nat→Nat→Nat→Bool→R) (d:R) (v:AV):R:=
 AV.rec (motive_1:=fun _=>R) (motive_2:=fun _=>Unit) (fun _=>d) (fun _ _=>d) (fun _=>d) d (fun _ _=>d) e (fun i o l c b=>f i o l c b) d (fun _=>d) (fun _ _ _ _ _=>d) (fun _=>d) d (fun _ _ _=>d) d (fun _ _=>d) (fun _ _=>d) d d () (fun _ _ _ _=>()) v
noncomputable def vZ (z d:R) (v:AV):R:=
 AV.rec (motive_1:=fun _=>R) (motive_2:=fun _=>Unit) (fun _=>d) (fun _ _=>d) (fun _=>d) d (fun _ _=>d) d (fun _ _ _ _ _=>d) d (fun _=>d) (fun _ _ _ _ _=>d) (fun _=>d) d (fun _ _ _=>d) d (fun _ _=>d) (fun _ _=>d) z d () (fun _ _ _ _=>()) v
noncomputable def OW (f:FuncId→List AV→List AV→R) (y:Nat→R) (d:R) (v:AV):R:=
 AV.rec (motive_1:=fun _=>R) (motive_2:=fun _=>Unit) (fun _=>d) (fun _ _=>d) (fun _=>d) d (fun _ _=>d) d (fun _ _ _ _ _=>d) d (fun _=>d) (fun g a b _ _=>f g a b) (fun l=>y l) d (fun _ _ _=>d) d (fun _ _=>d) (fun _ _=>d) d d () (fun _ _ _ _=>()) v
noncomputable def Ay (f:List AV→R) (t:List AV→R) (d:R) (v:AV):R:=
 AV.rec (motive_1:=fun _=>R) (motive_2:=fun _=>Unit) (fun _=>d) (fun _ _=>d) (fun _=>d) d (fun _ _=>d) d (fun _ _ _ _ _=>d) d (fun _=>d) (fun _ _ _ _ _=>d) (fun _=>d) d (fun _ _ _=>d) d (fun cs _=>f cs) (fun cs _=>t cs) d d () (fun _ _ _ _=>()) v
noncomputable def se (f:TypeId→AV→R) (d:R) (v:AV):R:=
 AV.rec (motive_1:=fun _=>R) (motive_2:=fun _=>Unit) (fun _=>d) (fun _ _=>d) (fun _=>d) d (fun _ _=>d) d (fun _ _ _ _ _=>d) d (fun _=>d) (fun _ _ _ _ _=>d) (fun _=>d) d (fun t v _=>f t v) d (fun _ _=>d) (fun _ _=>d) d d () (fun _ _ _ _=>()) v
noncomputable def H2 (v:AV):Bool:=
 AV.rec (motive_1:=fun _=>Bool) (motive_2:=fun _=>Unit) (fun _=>false) (fun _ _=>false) (fun _=>false) false (fun _ _=>true) false (fun _ _ _ _ _=>true) false (fun _=>true) (fun _ _ _ _ _=>true) (fun _=>false) false (fun _ _ _=>false) false (fun _ _=>false) (fun _ _=>false) false false () (fun _ _ _ _=>()) v
noncomputable def ob {α:Type} (d:R) (f:α→R) (o:Option α):R:=Option.rec (motive:=fun _=>R) d f o
noncomputable def bc (b:Bool) (x y:R):R:=Bool.rec (motive:=fun _=>R) y x b
noncomputable def Az (f:List AV→TypeId→Bool→R) (d:R) (o:aM):R:=
 aM.rec (motive:=fun _=>R) (fun cs e ro=>f cs e ro) (fun _ _=>d) (fun _ _=>d) (fun _ _ _ _=>d) (fun _ _ _ _ _ _ _=>d) d o
noncomputable def l5 (f:Nat→R) (d:R) (n:Int):R:=Int.rec (motive:=fun _=>R) f (fun _=>d) n
noncomputable def kEl (a b c d e f g h:R) (k:IntKind):R:=IntKind.rec (motive:=fun _=>R) a b c d e f g h k
end
noncomputable def kc (k:IntKind):Nat:=kEl 0 1 2 3 4 5 6 7 k
noncomputable def Ti (k j:IntKind):Bool:=Nat.beq (kc k) (kc j)
noncomputable def vW (k:IntKind):Nat:=kEl 128 32768 2147483648 9223372036854775808 256 65536 4294967296 18446744073709551616 k
noncomputable def Tj (k:IntKind):Nat:=kEl 8 16 32 64 8 16 32 64 k
noncomputable def Z9 (k:IntKind):Bool:=kEl true true true true false false false false k
noncomputable def wh (k:IntKind) (n:Int):Int:=
 Int.rec (motive:=fun _=>Int) (fun m=>bc (Nat.ble (vW k) m) (bc (Z9 k) (k.wrap (Int.ofNat m)) (Int.ofNat (Nat.mod m (vW k)))) (Int.ofNat m))
  (fun m=>bc (Z9 k) (bc (Nat.ble (vW k) m) (k.wrap (Int.negSucc m)) (Int.negSucc m)) (k.wrap (Int.negSucc m))) n
noncomputable def pK (a b:Int):Int:=l5 (fun x=>l5 (fun y=>Int.ofNat (Nat.add x y)) (Int.add a b) b) (Int.add a b) a
noncomputable def uz (a b:Int):Int:=l5 (fun x=>l5 (fun y=>bc (Nat.ble y x) (Int.ofNat (Nat.sub x y)) (Int.negSucc (Nat.sub (Nat.sub y x) 1))) (Int.sub a b) b) (Int.sub a b) a
noncomputable def Tk (a b:Int):Int:=l5 (fun x=>l5 (fun y=>Int.ofNat (Nat.mul x y)) (Int.mul a b) b) (Int.mul a b) a
noncomputable def Z_ (a b:Int):Bool:=
 Int.rec (motive:=fun _=>Bool) (fun x=>Int.rec (motive:=fun _=>Bool) (fun y=>Nat.beq x y) (fun _=>false) b) (fun x=>Int.rec (motive:=fun _=>Bool) (fun _=>false) (fun y=>Nat.beq x y) b) a
noncomputable def XA (a b:Int):Bool:=
 Int.rec (motive:=fun _=>Bool) (fun x=>Int.rec (motive:=fun _=>Bool) (fun y=>Nat.ble (Nat.add x 1) y) (fun _=>false) b) (fun x=>Int.rec (motive:=fun _=>Bool) (fun _=>true) (fun y=>Nat.ble (Nat.add y 1) x) b) a
noncomputable def xg (b:Bool):Bool:=bc b false true
noncomputable def XB (op:BinOp):IntKind→Int→Int→Option AV:=match op with
 | .add=>fun k a b=>some (.int k (wh k (pK a b)))
 | .sub=>fun k a b=>some (.int k (wh k (uz a b)))
 | .mul=>fun k a b=>some (.int k (wh k (Tk a b)))
 | .eql=>fun _ a b=>some (.bool (Z_ a b))
 | .neq=>fun _ a b=>some (.bool (xg (Z_ a b)))
 | .lss=>fun _ a b=>some (.bool (XA a b))
 | .leq=>fun _ a b=>some (.bool (xg (XA b a)))
 | .gtr=>fun _ a b=>some (.bool (XA b a))
 | .geq=>fun _ a b=>some (.bool (xg (XA a b)))
 | .quo=>fun k a b=>l5 (fun x=>l5 (fun y=>bc (Nat.beq y 0) none (some (.int k (wh k (Int.ofNat (Nat.div x y)))))) (dK .quo k a b) b) (dK .quo k a b) a
 | .rem=>fun k a b=>l5 (fun x=>l5 (fun y=>bc (Nat.beq y 0) none (some (.int k (Int.ofNat (Nat.mod x y))))) (dK .rem k a b) b) (dK .rem k a b) a
 | .and=>fun k a b=>l5 (fun x=>l5 (fun y=>bc (Nat.ble (vW k) x) (dK .and k a b) (bc (Nat.ble (vW k) y) (dK .and k a b) (some (.int k (Int.ofNat (Nat.land x y)))))) (dK .and k a b) b) (dK .and k a b) a
 | .or=>fun k a b=>l5 (fun x=>l5 (fun y=>bc (Nat.ble (vW k) x) (dK .or k a b) (bc (Nat.ble (vW k) y) (dK .or k a b) (some (.int k (Int.ofNat (Nat.lor x y)))))) (dK .or k a b) b) (dK .or k a b) a
 | op=>fun k a b=>dK op k a b
noncomputable def Tn (k:IntKind) (y:Nat):Nat:=bc (Nat.ble (Tj k) y) (Tj k) y
noncomputable def aep (k:IntKind) (a b:Int):Option AV:=l5 (fun y=>some (.int k (wh k (Tk a (Int.ofNat (Nat.pow 2 (Tn k y))))))) none b
noncomputable def aeq (k:IntKind) (a b:Int):Option AV:=l5 (fun y=>some (.int k (l5 (fun x=>Int.ofNat (Nat.div x (Nat.pow 2 (Tn k y)))) (a.fdiv (2^(min y k.bits))) a))) none b
section
variable {α:Type}
noncomputable def jO (l:List α):Nat:=List.rec (motive:=fun _=>Nat) 0 (fun _ _ ih=>Nat.add ih 1) l
noncomputable def jP (l:List α):Nat→Option α:=List.rec (motive:=fun _=>Nat→Option α) (fun _=>none) (fun v _ ih o=>bc (Nat.beq o 0) (some v) (ih (Nat.sub o 1))) l
noncomputable def uA (l:List α):Nat→List α:=List.rec (motive:=fun _=>Nat→List α) (fun _=> []) (fun v tl ih o=>bc (Nat.beq o 0) (v::tl) (ih (Nat.sub o 1))) l
noncomputable def uC (l:List α):Nat→List α:=List.rec (motive:=fun _=>Nat→List α) (fun _=> []) (fun v _ ih o=>bc (Nat.beq o 0) [] (v::ih (Nat.sub o 1))) l
noncomputable def mw (l m:List α):List α:=List.rec (motive:=fun _=>List α) m (fun v _ ih=>v::ih) l
noncomputable def AB (f:α→Bool) (l:List α):Bool:=List.rec (motive:=fun _=>Bool) true (fun v _ ih=>bc (f v) ih false) l
noncomputable def Kj (vs:List α):List α→List α:=
 List.rec (motive:=fun _=>List α→List α) (fun cs=>cs) (fun v _ ih cs=>List.rec (motive:=fun _=>List α) [] (fun _ tl _=>v::ih tl) cs) vs
noncomputable def Kk (vs cs:List α):Nat→List α:=
 List.rec (motive:=fun _=>Nat→List α) (fun _=> []) (fun c tl ih o=>bc (Nat.beq o 0) (Kj vs (c::tl)) (c::ih (Nat.sub o 1))) cs
noncomputable def leq (f:α→α→Bool) (l:List α):List α→Bool:=
 List.rec (motive:=fun _=>List α→Bool) (fun m=>List.rec (motive:=fun _=>Bool) true (fun _ _ _=>false) m)
  (fun x _ ih m=>List.rec (motive:=fun _=>Bool) false (fun y tl _=>bc (f x y) (ih tl) false) m) l
end
noncomputable def Dw (a b:UInt8):Bool:=Nat.beq a.toBitVec.toFin.val b.toBitVec.toFin.val
noncomputable def XC (v:AV):Bool:=Ay (fun _=>false) (fun _=>false) true v
noncomputable def mG (v:AV):List AV:=Ay (fun cs=>cs) (fun _=> [v]) [v] v
end Go.Ab.Fa
end
section
namespace Go.Ab.Fa
section
variable {α β:Type}
noncomputable def Cb (l:List Nat) (x:Nat):Bool:=List.rec (motive:=fun _=>Bool) false (fun y _ ih=>bc (Nat.beq x y) true ih) l
noncomputable def abk (f:α→Bool) (l:List α):Bool:=List.rec (motive:=fun _=>Bool) false (fun v _ ih=>bc (f v) true ih) l
noncomputable def allI (f:α→Nat→Bool) (l:List α) (i:Nat):Bool:=List.rec (motive:=fun _=>Nat→Bool) (fun _=>true) (fun v _ ih i=>bc (f v i) (canon (Nat.add i 1) ih) false) l i
noncomputable def Kl (f:α→Nat→Bool) (l:List α) (i:Nat):List Nat:=List.rec (motive:=fun _=>Nat→List Nat) (fun _=> []) (fun v _ ih i=>bc (f v i) (i::canon (Nat.add i 1) ih) (canon (Nat.add i 1) ih)) l i
noncomputable def H4 (f:α→Bool) (l:List α):Nat:=List.rec (motive:=fun _=>Nat) 0 (fun v _ ih=>bc (f v) (Nat.add ih 1) ih) l
noncomputable def MR (f:α→Bool) (l:List α):Nat:=List.rec (motive:=fun _=>Nat) 0 (fun v _ ih=>bc (f v) (Nat.add ih 1) 0) l
noncomputable def Dx (l:List α) (i:Nat) (d:α):α:=ob d (fun x=>x) (jP l i)
noncomputable def qJ (l:List α):(List α→β)→β:=List.rec (motive:=fun _=>(List α→β)→β) (fun k=>k []) (fun x _ ih k=>ih fun tl=>k (x::tl)) l
theorem AD (l:List α) (k:List α→β):qJ l k=k l:=by
 induction l generalizing k with
 | nil=>rfl
 | cons y tl ih=>show qJ tl (fun tl=>k (y::tl))=_;rw[ih]
noncomputable def MS (l:List α) (k:List α→β):β:=List.rec (motive:=fun _=>β) (k []) (fun x tl _=>k (x::tl)) l
theorem QC (l:List α) (k:List α→β):MS l k=k l:=by cases l<;>rfl
noncomputable def H5 (f:List β→α→List β) (l:List α) (b:List β):List β:=List.rec (motive:=fun _=>List β→List β) (fun b=>b) (fun v _ ih b=>MS (f b v) ih) l b
theorem GG (f:List β→α→List β) (l:List α) (b:List β):H5 f l b=l.foldl f b:=by
 induction l generalizing b with
 | nil=>rfl
 | cons y tl ih=>show MS (f b y) (H5 f tl)=_;rw[QC,ih];rfl
theorem uD (b:Bool) (x y:α):bc b x y=bif b then x else y:=by cases b<;>rfl
theorem Cc (x y:Nat):(x==y)=Nat.beq x y:=by
 cases h:Nat.beq x y
 · rw[beq_eq_false_iff_ne];intro e;subst e;rw[Nat.beq_refl] at h;exact absurd h (by simp)
 · rw[Nat.eq_of_beq_eq_true h];simp
theorem vB (l:List Nat) (x:Nat):Cb l x=l.contains x:=by
 induction l with
 | nil=>rfl
 | cons y tl ih=>
   show bc (Nat.beq x y) true (Cb tl x)=_
   rw[ih,uD,List.contains_cons,Cc]
   cases Nat.beq x y<;>rfl
theorem XD (f:α→Bool) (l:List α):abk f l=l.any f:=by
 induction l with
 | nil=>rfl
 | cons y tl ih=>show bc (f y) true (abk f tl)=_;rw[ih,uD,List.any_cons];cases f y<;>rfl
theorem sg (f:α→Bool) (l:List α):AB f l=l.all f:=by
 induction l with
 | nil=>rfl
 | cons y tl ih=>show bc (f y) (AB f tl) false=_;rw[ih,uD,List.all_cons];cases f y<;>rfl
theorem H6 (f:α→Nat→Bool) (l:List α) (i:Nat):allI f l i=(l.zipIdx i).all fun p=>f p.1 p.2:=by
 induction l generalizing i with
 | nil=>rfl
 | cons y tl ih=>show bc (f y i) (canon (i+1) (allI f tl)) false=_;rw[mB,ih,uD,List.zipIdx_cons,List.all_cons];cases f y i<;>rfl
theorem Km (f:α→Nat→Bool) (l:List α) (i:Nat):Kl f l i=((l.zipIdx i).filter fun p=>f p.1 p.2).map (·.2):=by
 induction l generalizing i with
 | nil=>rfl
 | cons y tl ih=>
   show bc (f y i) (i::canon (i+1) (Kl f tl)) (canon (i+1) (Kl f tl))=_
   rw[mB,ih,uD,List.zipIdx_cons,List.filter_cons];cases f y i<;>simp
theorem QD (f:α→Bool) (l:List α):H4 f l=(l.filter f).length:=by
 induction l with
 | nil=>rfl
 | cons y tl ih=>show bc (f y) (H4 f tl+1) (H4 f tl)=_;rw[ih,uD,List.filter_cons];cases f y<;>simp
theorem QE (f:α→Bool) (l:List α):MR f l=(l.takeWhile f).length:=by
 induction l with
 | nil=>rfl
 | cons y tl ih=>show bc (f y) (MR f tl+1) 0=_;rw[ih,uD,List.takeWhile_cons];cases f y<;>simp
theorem hU (l:List α) (i:Nat):jP l i=l[i]? :=by
 induction l generalizing i with
 | nil=>rfl
 | cons y tl ih=>
   show bc (Nat.beq i 0) (some y) (jP tl (i - 1))=_
   rw[ih,uD]
   cases i with
   | zero=>rfl
   | succ i=>rw[show Nat.beq (i+1) 0=false from rfl];simp
theorem yK (l:List α) (i:Nat) (d:α):Dx l i d=l.getD i d:=by
 unfold Dx;rw[hU,List.getD_eq_getElem?_getD];cases l[i]? <;>rfl
theorem gD (l:List α):jO l=l.length:=by
 induction l with
 | nil=>rfl
 | cons y tl ih=>show jO tl+1=_;rw[ih];rfl
theorem o7 (l m:List α):mw l m=l++m:=by
 induction l with
 | nil=>rfl
 | cons y tl ih=>show y::mw tl m=_;rw[ih];rfl
end
noncomputable def Bs (p:Program) (t:TypeId):Option TypeInfo:=ob (p.info? t) (fun i=>some i) (jP p.types.toList t)
noncomputable def Z' (i:TypeInfo) (p:Program):Option TypeDesc:=TypeDesc.rec (motive:=fun _=>Option TypeDesc) (some i.desc) (some i.desc) (fun _=>some i.desc) (fun _=>some i.desc) (fun _=>some i.desc) (some i.desc) (some i.desc)
 (fun _=>some i.desc) (fun _=>some i.desc) (fun _ _=>some i.desc) (fun _ _=>some i.desc) (fun _ _=>some i.desc) (fun _=>some i.desc) (fun _ _ _=>some i.desc) (fun _=>some i.desc) (fun _=>some i.desc)
 (fun _ u=>ob none (fun j=>some j.desc) (Bs p u)) i.desc
noncomputable def kN (p:Program) (t:TypeId):Option TypeDesc:=ob none (fun i=>Z' i p) (Bs p t)
theorem uE (p:Program) (t:TypeId):Bs p t=p.info? t:=by
 unfold Bs;rw[hU,Array.getElem?_toList]
 cases h:p.types[t]? with
 | none=>rfl
 | some i=>
   show some i=p.info? t
   unfold Tables.info?
   obtain ⟨np,_⟩:=Array.getElem?_eq_some_iff.mp h
   rw[if_pos np,h]
theorem jr (p:Program) (t:TypeId):kN p t=p.underlying t:=by
 unfold kN Program.underlying
 rw[uE]
 cases p.info? t with
 | none=>rfl
 | some i=>
   show Z' i p=_
   obtain ⟨d,_⟩:=i
   cases d with
   | named a u=>show ob none (fun j=>some j.desc) (Bs p u)=Option.map (fun x=>x.desc) (p.info? u);rw[uE];cases p.info? u<;>rfl
   | _=>rfl
noncomputable def abl (p:Program) (f:FuncId):Option Func:=jP p.funcs.toList f
theorem XE (p:Program) (f:FuncId):abl p f=p.funcs[f]? :=by
 unfold abl;rw[hU];exact Array.getElem?_toList
variable (E:Env)
noncomputable def rz (op:Op):Bool:=match op with
 | .store .. | .mapUpdate .. | .insert .. | .next .. | .panic _ | .defer _=>true
 | .convert _ dst _=>match kN E.P dst with
   | some (.slice _)=>true
   | _=>false
 | .call c=>match c.callee with
   | .builtin .len | .builtin .cap | .builtin .max | .builtin .min=>false
   | .builtin _=>true
   | .value (.func f)=>match E.nN f with
     | none=>true
     | some _=>false
   | _=>true
 | _=>false
theorem uF (op:Op):rz E op=fW E op:=by
 unfold rz fW
 cases op<;>try rfl
 · simp only[jr]
   rename_i dst _
   generalize E.P.underlying dst=u
   cases u with
   | none=>rfl
   | some d=>cases d<;>rfl
 · rename_i c
   rcases c with ⟨cR,a,t⟩
   cases cR with
   | value x=>
     cases x with
     | func f=>simp only;cases E.nN f<;>rfl
     | _=>rfl
   | builtin b=>cases b<;>rfl
   | _=>rfl
noncomputable def aaa (g:Ground):Bool:=Ground.rec (motive:=fun _=>Bool) true true true true (fun _=>false) (fun _=>false) g
noncomputable def xh (o:Oper):List Nat:=List.rec (motive:=fun _=>List Nat) [] (fun e _ ih=>bc (aaa e.ground) (e.on::ih) ih) o.after.toList
theorem GH (o:Oper):xh o=lS o:=by
 unfold xh lS
 induction o.after.toList with
 | nil=>rfl
 | cons e tl ih=>
   show bc (aaa e.ground) (e.on::_) _=_
   rw[ih,List.filter_cons]
   obtain ⟨on,g⟩:=e
   cases g<;>rfl
noncomputable def XF (l:List Nat) (x:Nat):List Nat:=bc (Cb l x) l (x::l)
noncomputable def OX (acc:List (List Nat)) (es:List Nat):List Nat:=H5 (fun l e=>H5 XF (Dx acc e []) (XF l e)) es []
noncomputable def To (l:List Oper):List (List Nat)→List (List Nat):=List.rec (motive:=fun _=>List (List Nat)→List (List Nat)) (fun acc=>acc) (fun o _ ih acc=>qJ (OX acc (xh o)) fun a=>qJ (mw acc [a]) ih) l
theorem OY (l:List Nat) (x:Nat):XF l x=if l.contains x then l else x::l:=by
 unfold XF;rw[vB,uD];cases l.contains x<;>rfl
theorem Tp (acc:List (List Nat)) (o:Oper):OX acc (xh o)=(lS o).foldl (fun l e=>(acc.getD e []).foldl (fun l x=>if l.contains x then l else x::l) (if l.contains e then l else e::l)) []:=by
 unfold OX
 rw[GG,GH]
 congr 1
 funext l e
 rw[GG,yK,OY]
 congr 1
 funext l x
 exact OY l x
theorem Kn:∀(l:List Oper) (acc:List (List Nat)),To l acc=JL l acc
 | [],_=>rfl
 | o::rest,acc=>by
   show qJ (OX acc (xh o)) (fun a=>qJ (mw acc [a]) (To rest))=_
   rw[AD,AD,Kn rest,o7,Tp];rfl
noncomputable def pL (an:List (List Nat)) (i j:Nat):Bool:=Cb (Dx an i []) j
theorem rA (an:List (List Nat)) (i j:Nat):pL an i j=d_ an i j:=by
 unfold pL d_ JM;rw[vB,yK]
noncomputable def Dy (ops:List Oper) (an:List (List Nat)):Bool:=
 allI (fun o i=>bc (AB (fun e=>bc (Nat.ble (Nat.add e 1) i) (pL an i e) false) (xh o)) (AB (fun j=>bc (Nat.ble (Nat.add j 1) i) (abk (fun e=>bc (Nat.beq e j) true (pL an e j)) (xh o)) false) (Dx an i [])) false) ops 0
theorem vC (a b:Nat):decide (a<b)=Nat.ble (a+1) b:=by
 by_cases h:a<b
 · rw[decide_eq_true h,Nat.ble_eq_true_of_le h]
 · rw[decide_eq_false h];symm;rw[Bool.eq_false_iff];intro e;exact h (Nat.le_of_ble_eq_true e)
theorem pM (a b:Bool):bc a b false=(a&&b):=by cases a<;>rfl
theorem aab (a b:Bool):bc a true b=(a||b):=by cases a<;>rfl
theorem Ko (ops:List Oper) (an:List (List Nat)):Dy ops an=CA ops an:=by
 unfold Dy CA
 rw[H6]
 congr 1
 funext ⟨o,i⟩
 simp only[pM,aab,sg,XD,yK,GH,rA,vC,Cc]
 rfl
noncomputable def abm (l:List Operand):List Nat:=List.rec (motive:=fun _=>List Nat) [] (fun x _ ih=>Operand.rec (motive:=fun _=>List Nat) (fun t=>t::ih) (fun _=>ih) (fun _=>ih) (fun _=>ih) x) l
theorem XG (l:List Operand):abm l=l.filterMap fun | .tmp t=>some t | _=>none:=by
 induction l with
 | nil=>rfl
 | cons x tl ih=>
   cases x<;>simp only[List.filterMap_cons,←ih]<;>rfl
noncomputable def opL (op:Op):List Operand:=match op with
 | .move x | .assign x | .box _ x | .load _ x | .nilCheck x | .unOp _ _ x | .convert _ _ x | .fieldAddr _ x _ | .field _ x _ | .extract x _=> [x]
 | .pick c a b=> [c,a,b]
 | .store _ a v | .binOp _ _ a v _ | .indexAddr _ a v | .index _ a v=> [a,v]
 | .alloc _=> []
 | .call c=>mw (match c.callee with | .value f=> [f] | .invoke r _=> [r] | .builtin _=> []) c.args.toList
 | op=>op.operands.toList
theorem abn (op:Op):opL op=op.operands.toList:=by
 cases op<;>try rfl
 rename_i c
 obtain ⟨cR,a,t⟩:=c
 cases cR<;>simp [opL,Op.operands,Call.operands,o7]
noncomputable def Dz (ops:List Oper) (an:List (List Nat)):Bool:=
 allI (fun o i=>bc (ob true (fun g=>bc (pL an i g.1) (ob false (fun p=>ob false (fun _=>true) p.dst) (jP ops g.1)) false) o.guard)
  (allI (fun p j=>bc (Nat.beq i j) true (ob true (fun d=>bc (ob true (fun a=>xg (Nat.beq a d)) o.dst) (bc (Cb (abm (opL o.op)) d) (bc (pL an i j) true (pL an j i)) true) false) p.dst)) ops 0) false) ops 0
theorem Kp (ops:List Oper) (an:List (List Nat)):Dz ops an=CB ops an:=by
 unfold Dz CB
 rw[H6]
 congr 1
 funext ⟨o,i⟩
 simp only[pM,aab,rA]
 congr 1
 · obtain ⟨dst,op,ty,pos,after,guard⟩:=o
   cases guard with
   | none=>rfl
   | some g=>
     show (d_ an i g.1&&ob false (fun p=>ob false (fun _=>true) p.dst) (jP ops g.1))=_
     rw[hU]
     congr 1
     cases ops[g.1]? with
     | none=>rfl
     | some p=>
       show ob false (fun _=>true) p.dst=(p.dst).isSome
       cases p.dst<;>rfl
 · rw[H6]
   congr 1
   funext ⟨p,j⟩
   show (Nat.beq i j||_)=(i==j||_)
   rw[Cc]
   congr 1
   obtain ⟨dst,op,ty,pos,after,guard⟩:=p
   cases dst with
   | none=>rfl
   | some d=>
     show (ob true (fun a=>xg (Nat.beq a d)) o.dst&&bc (Cb (abm (opL o.op)) d) (d_ an i j||d_ an j i) true)=(o.dst !=some d&&(!(tmpsOf o).contains d||d_ an i j||d_ an j i))
     congr 1
     · cases o.dst with
       | none=>rfl
       | some a=>
         show xg (Nat.beq a d)= !(some a==some d)
         rw[Option.some_beq_some,Cc]
         cases Nat.beq a d<;>rfl
     · rw[vB,XG,abn,Bool.or_assoc]
       show bc ((tmpsOf o).contains d) _ _=_
       cases (tmpsOf o).contains d<;>rfl
noncomputable def MT (an:List (List Nat)) (l:List Nat):Bool:=List.rec (motive:=fun _=>Bool) true (fun e rest ih=>List.rec (motive:=fun _=>Bool) true (fun f _ _=>bc (pL an f e) ih false) rest) l
theorem GI (an:List (List Nat)):∀l,MT an l=vr an l
 | []=>rfl
 | [e]=>rfl
 | e::f::rest=>by
   show bc (pL an f e) (MT an (f::rest)) false=_
   rw[GI an (f::rest),rA,pM];rfl
noncomputable def Tq (ops:List Oper):List Nat:=Kl (fun o _=>rz E o.op) ops 0
theorem Tr (ops:List Oper):Tq E ops=oE E ops:=by
 unfold Tq oE;rw[Km];simp only[uF]
noncomputable def GJ (bP:List Nat) (an:List (List Nat)) (i:Nat):Nat:=H4 (fun e=>pL an i e) bP
theorem Kq (bP:List Nat) (an:List (List Nat)) (i:Nat):GJ bP an i=HA bP an i:=by
 unfold GJ HA;rw[QD];simp only[rA]
noncomputable def H7 (ops:List Oper) (bP:List Nat) (an:List (List Nat)) (k:Nat):List Nat:=
 mw (Kl (fun o i=>bc (rz E o.op) false (Nat.beq (GJ bP an i) k)) ops 0) (ob [] (fun x=> [x]) (jP bP k))
theorem QF (ops:List Oper) (bP:List Nat) (an:List (List Nat)) (k:Nat):H7 E ops bP an k=group E ops bP an k:=by
 unfold H7 group
 rw[o7,Km,hU]
 congr 1
 · congr 1
   congr 1
   funext ⟨o,i⟩
   show bc (rz E o.op) false (Nat.beq (GJ bP an i) k)=(!fW E o.op&&(HA bP an i==k))
   rw[uF,Kq,Cc];cases fW E o.op<;>rfl
 · cases bP[k]? <;>rfl
noncomputable def H8 (ops:List Oper) (bP:List Nat) (an:List (List Nat)) (n:Nat):Nat→List Nat:=
 Nat.rec (motive:=fun _=>Nat→List Nat) (fun _=> []) (fun _ ih k=>mw (H7 E ops bP an k) (canon (Nat.add k 1) ih)) n
theorem DA (ops:List Oper) (bP:List Nat) (an:List (List Nat)):∀n k,H8 E ops bP an n k=py E ops bP an n k
 | 0,_=>rfl
 | n+1,k=>by
   show mw (H7 E ops bP an k) (canon (k+1) (H8 E ops bP an n))=_
   rw[mB,DA ops bP an n,o7,QF];rfl
noncomputable def CD (bP:List Nat) (an:List (List Nat)) (i:Nat):Nat:=MR (fun e=>xg (pL an e i)) bP
theorem MU (bP:List Nat) (an:List (List Nat)) (i:Nat):CD bP an i=lg bP an i:=by
 unfold CD lg;rw[QE];congr 2;funext e;rw[rA];cases d_ an e i<;>rfl
noncomputable def MV (n:Nat):List Nat→List Nat:=Nat.rec (motive:=fun _=>List Nat→List Nat) (fun l=>l) (fun m ih l=>ih (m::l)) n
theorem GK:∀n l,MV n l=List.range.loop n l
 | 0,_=>rfl
 | n+1,l=>GK n (n::l)
noncomputable def H9 (ops:List Oper) (an:List (List Nat)) (bP:List Nat) (l:List Nat):List Nat→Nat→Bool:=
 List.rec (motive:=fun _=>List Nat→Nat→Bool) (fun seen k=>bc (AB (fun i=>Cb seen i) (MV (jO ops) [])) (Nat.beq k (jO bP)) false)
  (fun i _ ih seen k=>bc (Nat.ble (Nat.add i 1) (jO ops)) (bc (Cb seen i) false (bc (AB (fun j=>Cb seen j) (Dx an i []))
   (bc (ob (rz E (default:Oper).op) (fun o=>rz E o.op) (jP ops i)) (bc (ob false (fun e=>Nat.beq e i) (jP bP k)) (canon (Nat.add k 1) (ih (i::seen))) false)
    (bc (Nat.beq (GJ bP an i) k) (ih (i::seen) k) false)) false)) false) l
theorem AE (ops:Array Oper) (an:List (List Nat)) (bP:List Nat):∀l seen k,H9 E ops.toList an bP l seen k=lT E ops an bP l seen k
 | [],seen,k=>by
   show bc (AB (fun i=>Cb seen i) (MV (jO ops.toList) [])) (Nat.beq k (jO bP)) false=_
   rw[pM,sg,GK,gD,gD]
   simp only[vB]
   unfold lT
   rw[Cc,Array.length_toList]
   rfl
 | i::rest,seen,k=>by
   show bc (Nat.ble (i+1) (jO ops.toList)) (bc (Cb seen i) false (bc (AB (fun j=>Cb seen j) (Dx an i []))
    (bc (ob (rz E (default:Oper).op) (fun o=>rz E o.op) (jP ops.toList i)) (bc (ob false (fun e=>Nat.beq e i) (jP bP k)) (canon (k+1) (H9 E ops.toList an bP rest (i::seen))) false)
     (bc (Nat.beq (GJ bP an i) k) (H9 E ops.toList an bP rest (i::seen) k) false)) false)) false=_
   rw[mB,AE ops an bP rest,AE ops an bP rest,sg,yK,vB,Kq,gD]
   simp only[vB]
   rw[show ob (rz E (default:Oper).op) (fun o=>rz E o.op) (jP ops.toList i)=fW E ((ops.getD i default).op) by
    rw[hU,uF]
    rw[show ops.getD i default=(ops.toList[i]?).getD default by rw[Array.getElem?_toList,Array.getD_eq_getD_getElem?]]
    cases ops.toList[i]? with
    | none=>rfl
    | some o=>exact uF E o.op]
   rw[show ob false (fun e=>Nat.beq e i) (jP bP k)=(bP[k]? ==some i) by rw[hU];cases bP[k]? with
    | none=>rfl
    | some e=>rw[Option.some_beq_some,Cc];rfl]
   rw[lT,vC]
   simp only[pM]
   rw[←Cc (HA bP an i) k,show ops.toList.length=ops.size from Array.length_toList]
   rw[uD,uD]
   show (Nat.ble (i+1) ops.size&&(bif List.contains seen i then false else _))=_
   unfold JM
   cases Nat.ble (i+1) ops.size<;>cases List.contains seen i<;>cases (an.getD i []).all (fun j=>List.contains seen j)<;>cases fW E ((ops.getD i default).op)<;>rfl
noncomputable def nin (x:Nat) (l:List Nat):Bool:=List.rec (motive:=fun _=>Bool) true (fun y _ ih=>bc (Nat.beq x y) false ih) l
noncomputable def H_ (l:List Nat):Bool:=List.rec (motive:=fun _=>Bool) true (fun x tl ih=>bc (nin x tl) ih false) l
theorem abo (x:Nat) (l:List Nat):nin x l= !l.contains x:=by
 induction l with
 | nil=>rfl
 | cons y tl ih=>
   show bc (Nat.beq x y) false (nin x tl)=_
   rw[ih,List.contains_cons,Cc]
   cases Nat.beq x y<;>rfl
theorem AF:∀l,H_ l=nodup l
 | []=>rfl
 | x::tl=>by
   show bc (nin x tl) (H_ tl) false=_
   rw[AF tl,abo,pM];rfl
noncomputable def Ts {R:Type} (ops:Array Oper) (k:nk→R) (d:R):R:=
 qJ ops.toList fun l=>qJ (To l []) fun an=>qJ (Tq E l) fun bP=>qJ (H8 E l bP an (Nat.add (jO bP) 1) 0) fun order=>
 bc (Dy l an) (bc (Dz l an) (bc (MT an bP) (bc (H_ bP) (bc (H9 E l an bP order [] 0) (k ⟨an,bP,order⟩) d) d) d) d) d
theorem Tt {R:Type} (ops:Array Oper) (k:nk→R) (d:R):Ts E ops k d=match tX E ops with | some pl=>k pl | none=>d:=by
 unfold Ts tX
 simp only[AD,Kn,Tr,DA,Ko,Kp,GI,AF,AE,gD]
 generalize CA ops.toList (JL ops.toList [])=a
 generalize CB ops.toList (JL ops.toList [])=b
 generalize vr (JL ops.toList []) (oE E ops.toList)=c
 generalize nodup (oE E ops.toList)=e
 show bc a (bc b (bc c (bc e (bc (lT E ops _ _ (py E ops.toList _ _ ((oE E ops.toList).length+1) 0) [] 0) _ d) d) d) d) d=_
 generalize lT E ops (JL ops.toList []) (oE E ops.toList) (py E ops.toList (oE E ops.toList) (JL ops.toList []) ((oE E ops.toList).length+1) 0) [] 0=f
 cases a<;>cases b<;>cases c<;>cases e<;>cases f<;>rfl
end Go.Ab.Fa
end
