import Derived.Test.YtjohpcpopggbkaaGreatA3
import Derived.Test.YtjohpcpopggbkaaGreatA0
set_option linter.unusedVariables false
set_option linter.unusedSimpArgs false
section
namespace Go.Ab
variable {E:Env}
theorem qS (hE:iJ E) {call:aY} (cH:fP E call) {ops:Array Oper}:∀{l:List Oper} {is:List Nat} (_:is.length=l.length) (_:∀(j i:Nat),is[j]? =some i→l[j]? =ops[i]?) {s s':St} {e:iS} (_:iu E call ops l s= .ok e s')
 {φ:Ph} {a:Act} {w:World} {b:Frame} {k:List Item} {K:Bool→List Frame} (_:SR φ s.ts s.ds a) (_:OK E φ s.h w) (_:kT φ b K s.rc),
 ng E φ s.h w b K k (lone (b.atR a (.inRegion ops is::k)) (cur K s.rc) w) e s'
 | [],is,hl,hi,s,s',e,h,φ,a,w,b,k,K,hs,ok,eT=>by
   cases is with
   | cons _ _=>simp at hl
   | nil=>
     simp [iu] at h;obtain ⟨rfl,rfl⟩:=h
     exact ⟨φ,w,a,_,.normal,hs,ok,Fr.refl _ _ _,eT,.one stepR_region_end⟩
 | o::l,is,hl,hi,s,s',e,h,φ,a,w,b,k,K,hs,ok,eT=>by
   cases is with
   | nil=>simp at hl
   | cons i is=>
     have ho:ops[i]? =some o:=by have:=hi 0 i (by simp);simpa using this.symm
     have MB:is.length=l.length:=by simpa using hl
     have zq:∀(j i':Nat),is[j]? =some i'→l[j]? =ops[i']? :=fun j i' hj=>by have:=hi (j+1) i' (by simpa using hj);simpa using this
     simp only[iu] at h
     have Kg:=qN (ops:=ops) hs.ts o
     split at h
     · rename_i hw
       rw[←Kg] at hw
       split at h
       · rename_i s1 mZ
         obtain ⟨φ1,w1,a1,e1,x1,x2,x3,x4,x5,x6⟩:=(yn hE cH ho mZ hs ok eT hw (rest:=is) (k:=k)).is
         cases x1
         exact ((qS hE cH MB zq h x2 x3 x5).of_steps x6).later x4
       · rename_i dt
         obtain ⟨φ1,w1,a1,e1,x1,x2,x3,x4,x5,x6⟩:=(yn hE cH ho h hs ok eT hw (rest:=is) (k:=k)).is
         cases x1 with
         | normal=>exact (dt _ h).elim
         | exit=>exact x6.elim
         | ret=>exact x6.elim
         | panic v v' hv=>exact ⟨φ1,w1,a1,_,.panic v v' hv,x2,x3,x4,x5,x6⟩
     · rename_i hw
       have nL:SR φ (cU s.ts o.dst AV.undef) s.ds (a.put o.dst undef):=hs.put o.dst (VR.undef φ)
       refine (qS hE cH MB zq h nL ok eT).of_steps (.one ?_)
       have:=stepR_op_skip (P:=E.P) (b:=b) (a:=a) (k:=k) (cs:=cur K s.rc) (w:=w) (ops:=ops) (i:=i) (rest:=is) (by rw[ho];simp;rw[Kg];simpa using hw)
       rw[this,ho];rfl
set_option maxHeartbeats 1000000 in
theorem qT (hE:iJ E) {call:aY} (cH:fP E call):∀(n:Nat) (c:Code) {s s':St} {e:iS} (_:exec E call n c s= .ok e s')
 {φ:Ph} {a:Act} {w:World} {b:Frame} {k:List Item} {K:Bool→List Frame} (_:SR φ s.ts s.ds a) (_:OK E φ s.h w) (_:kT φ b K s.rc) (_:(E.P.funcs[b.fn]?).isSome=true),
 ng E φ s.h w b K k (lone (b.atR a (.code c::k)) (cur K s.rc) w) e s'∧∀c',c= .loop c'→ng E φ s.h w b K k (lone (b.atR a (.code c':: .inLoop c'::k)) (cur K s.rc) w) e s':=by
 intro n
 induction n with
 | zero=>intro c s s' e h;simp [exec] at h
 | succ n WT=>
   have ih:∀(c:Code) {s s':St} {e:iS} (_:exec E call n c s= .ok e s')
    {φ:Ph} {a:Act} {w:World} {b:Frame} {k:List Item} {K:Bool→List Frame} (_:SR φ s.ts s.ds a) (_:OK E φ s.h w) (_:kT φ b K s.rc) (_:(E.P.funcs[b.fn]?).isSome=true),
    ng E φ s.h w b K k (lone (b.atR a (.code c::k)) (cur K s.rc) w) e s':=fun c _ _ _ h _ _ _ _ _ _ hs ok eT AG=>(WT c h hs ok eT AG).1
   intro c s s' e h φ a w b k K hs ok eT AG
   have MQ:∀c',c= .loop c'→ng E φ s.h w b K k (lone (b.atR a (.code c':: .inLoop c'::k)) (cur K s.rc) w) e s':=by
    rintro c rfl
    simp only[exec] at h
    split at h
    · rename_i s1 h1
      obtain ⟨φ1,w1,a1,e1,x1,x2,x3,x4,x5,x6⟩:=(ih c h1 hs ok eT AG (k:= .inLoop c::k)).is
      cases x1
      exact (((WT (.loop c) h x2 x3 x5 AG).2 c rfl).of_steps (Steps.trans x6 (.one stepR_inLoop))).later x4
    · rename_i dt
      obtain ⟨φ1,w1,a1,e1,x1,x2,x3,x4,x5,x6⟩:=(ih c h hs ok eT AG (k:= .inLoop c::k)).is
      refine ⟨φ1,w1,a1,e1,x1,x2,x3,x4,x5,.pass (x:= .inLoop c) (fun _=>rfl) ?_ x6⟩
      cases x1 with
      | normal=>exact (dt _ h).elim
      | exit=>simp
      | ret=>simp
      | panic=>simp
   refine ⟨?_,MQ⟩
   cases c with
   | skip=>simp [exec] at h;obtain ⟨rfl,rfl⟩:=h;exact ⟨φ,w,a,_,.normal,hs,ok,Fr.refl _ _ _,eT,.one stepR_skip⟩
   | label l=>simp [exec] at h;obtain ⟨rfl,rfl⟩:=h;exact ⟨φ,w,a,_,.normal,hs,ok,Fr.refl _ _ _,eT,.one stepR_label⟩
   | ret=>simp [exec] at h;obtain ⟨rfl,rfl⟩:=h;exact ⟨φ,w,a,_,.ret,hs,ok,Fr.refl _ _ _,eT,k,Steps.refl _ _⟩
   | exit id=>simp [exec] at h;obtain ⟨rfl,rfl⟩:=h;exact ⟨φ,w,a,_,.exit id,hs,ok,Fr.refl _ _ _,eT,k,rfl,Steps.refl _ _⟩
   | seq x y=>
     simp only[exec] at h
     split at h
     · rename_i s1 h1
       obtain ⟨φ1,w1,a1,e1,x1,x2,x3,x4,x5,x6⟩:=(ih x h1 hs ok eT AG (k:= .code y::k)).is
       cases x1
       exact ((ih y h x2 x3 x5 AG).of_steps (.head stepR_seq x6)).later x4
     · rename_i dt
       obtain ⟨φ1,w1,a1,e1,x1,x2,x3,x4,x5,x6⟩:=(ih x h hs ok eT AG (k:= .code y::k)).is
       refine ⟨φ1,w1,a1,e1,x1,x2,x3,x4,x5,.of_steps (.one stepR_seq) (.pass (x:= .code y) (fun _=>rfl) ?_ x6)⟩
       cases x1 with
       | normal=>exact (dt _ h).elim
       | exit=>simp
       | ret=>simp
       | panic=>simp
   | cond x y z=>
     simp only[exec] at h
     split at h
     · rename_i hx
       have h1:=kR ok.gl hs.ts hx
       generalize je:a.eval x=cv at h1
       cases h1
       exact (ih y h hs ok eT AG).of_steps (.one (stepR_cond je))
     · rename_i hx
       have h1:=kR ok.gl hs.ts hx
       generalize je:a.eval x=cv at h1
       cases h1
       exact (ih z h hs ok eT AG).of_steps (.one (stepR_cond je))
     · simp at h
   | block id c=>
     simp only[exec] at h
     split at h
     · rename_i GI s1 h1
       obtain ⟨φ1,w1,a1,e1,x1,x2,x3,x4,x5,x6⟩:=(ih c h1 hs ok eT AG (k:= .inBlock id::k)).is
       cases x1
       split at h
       · rename_i U6
         simp at h;obtain ⟨rfl,rfl⟩:=h
         obtain ⟨todo,ht,gZ⟩:=x6
         exact ⟨φ1,w1,a1,_,.normal,x2,x3,x4,x5,.head stepR_block (Steps.trans gZ (.one (stepR_exit (by rw[ht];simp [exitTo,U6]))))⟩
       · rename_i U6
         simp at h;obtain ⟨rfl,rfl⟩:=h
         obtain ⟨todo,ht,gZ⟩:=x6
         refine ⟨φ1,w1,a1,_,.exit GI,x2,x3,x4,x5,todo,?_,.head stepR_block gZ⟩
         have:(id==GI)=false:=by simp;exact fun h=>U6 h.symm
         rw[ht];simp [exitTo,this]
     · rename_i dt
       obtain ⟨φ1,w1,a1,e1,x1,x2,x3,x4,x5,x6⟩:=(ih c h hs ok eT AG (k:= .inBlock id::k)).is
       cases x1 with
       | normal=>exact ⟨φ1,w1,a1,_,.normal,x2,x3,x4,x5,.head stepR_block (Steps.trans x6 (.one stepR_inBlock))⟩
       | exit GI=>exact (dt _ _ h).elim
       | ret=>exact ⟨φ1,w1,a1,_,.ret,x2,x3,x4,x5,.of_steps (e:= .ret) (k:=k) (.one stepR_block) x6⟩
       | panic v v' hv=>exact ⟨φ1,w1,a1,_,.panic v v' hv,x2,x3,x4,x5,.of_steps (e:= .panic _) (k:=k) (.one stepR_block) x6⟩
   | loop c=>exact (MQ c rfl).of_steps (.one stepR_loop)
   | region id ops draw=>
     simp only[exec] at h
     cases draw with
     | false=>
       have mZ:=qS hE cH (ops:=ops) (l:=ops.toList) (is:=List.range ops.size) (by simp) (fun j i hj=>by
        have:=List.getElem?_eq_some_iff.1 hj
        obtain ⟨h1,h2⟩:=this
        simp at h1 h2;subst h2;simp) h hs ok eT (b:=b) (k:=k)
       exact mZ.of_steps (.one stepR_region)
     | true=>
       obtain ⟨h1,h2,⟨rfl,φ',a',w',x1,x2,x3,x4,x5⟩ | ⟨v,rfl,hp⟩⟩:=A' hE hE.mixed cH h hs ok eT (b:=b) (k:=k) id
       · refine ⟨φ',w',a',_,.normal,⟨x1,by rw[h2,x2];exact hs.ds.mono x4.ext⟩,x3,x4,by rw[h1];exact eT.mono x4.ext,?_⟩
         rw[h1];exact x5
       · obtain ⟨φ',a',w',v',todo,x0,x1,x2,x3,x4,x5⟩:=hp.is
         refine ⟨φ',w',a',_,.panic v v' x0,⟨x1,by rw[h2,x2];exact hs.ds.mono x4.ext⟩,x3,x4,by rw[h1];exact eT.mono x4.ext,todo,?_⟩
         rw[h1];exact x5
   | rangeFunc f ps a1 b1=>
     simp only[exec] at h
     exact zK cH h hs ok eT AG
   | scope c=>
     simp only[exec] at h
     have s1:∀{m},Steps E.P (lone (b.atR a (.code c:: .inScope c::k)) (cur K s.rc) w) m→Steps E.P (lone (b.atR a (.code (.scope c)::k)) (cur K s.rc) w) m:=fun q=> .head (step_lone_go (by simp [stepG,stepG.exec,Frame.atR])) q
     obtain ⟨φ1,w1,a1,e1,x1,x2,x3,x4,x5,x6⟩:=(ih c h hs ok eT AG (k:= .inScope c::k)).is
     cases x1 with
     | normal=>exact ⟨φ1,w1,a1,_,.normal,x2,x3,x4,x5,s1 (Steps.trans x6 (.one (step_lone_go (by simp [stepG,stepG.exec,Frame.atR]))))⟩
     | exit GI=>exact ⟨φ1,w1,a1,_,.exit GI,x2,x3,x4,x5,.of_steps (e:= .exit GI) (k:=k) (s1 (Steps.refl _ _)) (.pass (x:= .inScope c) (fun _=>rfl) (by simp) x6)⟩
     | ret=>exact ⟨φ1,w1,a1,_,.ret,x2,x3,x4,x5,.of_steps (e:= .ret) (k:=k) (s1 (Steps.refl _ _)) (.pass (x:= .inScope c) (fun _=>rfl) (by simp) x6)⟩
     | panic v v' hv=>exact ⟨φ1,w1,a1,_,.panic v v' hv,x2,x3,x4,x5,.of_steps (e:= .panic _) (k:=k) (s1 (Steps.refl _ _)) (.pass (x:= .inScope c) (fun _=>rfl) (by simp) x6)⟩
   | goto l=>simp [exec] at h
   | refuse why=>simp [exec] at h
end Go.Ab
end
section
namespace Go.Ab
variable {E:Env}
theorem Bc {φ:Ph} {h:aq} {w:World} (ok:OK E φ h w) {ts:List AV} {tmps:Array Value} (ht:LR φ ts tmps.toList):∀{l:List ResultVar} {vs:List AV} (_:iw E h ts l=some vs),
 ∃nM,LR φ vs nM∧(l.mapM (fun | .tmp t=>pure (tmps.getD t undef) | .cell a t=>do loadVar t (←asAddr (tmps.getD a undef)):ResultVar→Sem Value)).run E.P w= .ok nM w
 | [],vs,h=>by simp [iw] at h;subst h;exact ⟨[],LR.nil φ,rfl⟩
 | r::rest,vs,h=>by
   have eZ:∀t,VR φ (ts.getD t AV.undef) (tmps.getD t undef):=fun t=>by
    have:=ht.getD (VR.undef φ) t
    rw[show tmps.getD t undef=tmps.toList.getD t undef by simp [Array.getD_eq_getD_getElem?,List.getD]]
    exact this
   simp only[iw] at h
   split at h
   · simp at h
   · rename_i v hv
     split at h
     · simp at h
     · rename_i ZW CM
       simp at h;subst h
       obtain ⟨nM,hl,hr⟩:=Bc ok ht CM
       cases r with
       | tmp t=>
         simp at hv;subst hv
         refine ⟨tmps.getD t undef::nM,.cons (by simpa using eZ t) hl,?_⟩
         simp only[List.mapM_cons,Sem.run_bind,Sem.run_pure,Result.andThen_ok,hr]
       | cell ad t=>
         simp only at hv
         obtain ⟨x',hx,fG⟩:=yk ok (eZ ad) hv
         refine ⟨x'::nM,.cons hx hl,?_⟩
         have WU:=fG w rfl
         have:(do loadVar t (←asAddr (tmps.getD ad undef)):Sem Value).run E.P w= .ok x' w:=by
          have U7:=eZ ad
          unfold b9 at hv
          split at hv
          · rename_i i o heq
            rw[heq] at U7
            generalize hq:tmps.getD ad undef=q at U7 WU
            cases U7
            simpa [Instr.loadAt,Instr.sureAddr,asAddr] using WU
          · simp at hv
         simp only[List.mapM_cons]
         rw[Sem.run_bind,this]
         simp only[Sem.run_bind,Sem.run_pure,Result.andThen_ok,hr]
theorem pf {φ:Ph} {h:aq} {w:World} (ok:OK E φ h w) {ts:List AV} {tmps:Array Value} (ht:LR φ ts tmps.toList) {fn:Func} {vs:List AV} (hv:iw E h ts fn.results.toList=some vs):
 ∃v',VR φ (fF vs) v'∧(results fn tmps).run E.P w= .ok v' w:=by
 obtain ⟨nM,hl,hr⟩:=Bc ok ht hv
 have hm:(fn.results.mapM (fun | .tmp t=>pure (tmps.getD t undef) | .cell a t=>do loadVar t (←asAddr (tmps.getD a undef)):ResultVar→Sem Value)).run E.P w= .ok nM.toArray w:=by
  rw[Array.mapM_eq_mapM_toList]
  show Sem.run E.P (Functor.map List.toArray (_:Sem (List Value))) w=_
  rw[Sem.run_map]
  refine (congrArg (fun r=>Result.andThen r _) hr).trans ?_
  rfl
 refine ⟨if h:nM.toArray.size=1 then nM.toArray[0] else .tuple nM.toArray,?_,?_⟩
 · cases vs with
   | nil=>rw[hl.gU];exact VR.tuple' (LR.nil φ)
   | cons v vs=>
     obtain ⟨y,ys,rfl,hy,qL⟩:=hl.cj
     cases vs with
     | nil=>rw[qL.gU];simpa [fF] using hy
     | cons v2 ZX=>
       obtain ⟨y2,Ww,rfl,WV,U8⟩:=qL.cj
       have:¬(y::y2::Ww).toArray.size=1:=by simp
       rw[dif_neg this]
       exact VR.tuple' (.cons hy (.cons WV U8))
 · unfold results
   rw[Sem.run_bind]
   refine (congrArg (fun r=>Result.andThen r _) hm).trans ?_
   rfl
def bare (f:FuncId) (kind:CallKind):Frame:={fn:=f,tmps:= #[],todo:=[],defers:=[],mode:= .run,kind:=kind,roundOf:=none}
theorem HJ {P:Program} {f:FuncId} {fn:Func} {c:Code} (hf:P.funcs[f]? =some fn) (hb:fn.body=some c) (vs:List Value) (kind:CallKind):
 Frame.enter P f vs.toArray kind=(bare f kind).atR {tmps:=vs.toArray++Array.replicate (fn.ntmps - vs.length) undef,defers:=[]} [.code c]:=by
 simp [Frame.enter,Frame.atR,hf,hb,bare]
theorem pg (hE:iJ E) {call:aY} (cH:fP E call) {fuel:Nat} {f:FuncId} {fn:Func} {c:Code} (hf:E.P.funcs[f]? =some fn) (hb:fn.body=some c) {args:List AV} {h:aq} {rc:RC} {e:iS} {s':St}
 (eO:lk E call fuel fn c args h rc= .ok e s') {φ:Ph} {w:World} {vs:List Value} (ok:OK E φ h w) (hl:LR φ args vs) {kind:CallKind} {K:Bool→List Frame} (eT:kT φ (bare f kind) K rc):
 ng E φ h w (bare f kind) K [] (lone (Frame.enter E.P f vs.toArray kind) (cur K rc) w) e s':=by
 rw[HJ hf hb]
 refine (qT hE cH fuel c (s:={ts:=args++List.replicate (fn.ntmps - args.length) AV.undef,h,ds:=[],rc}) eO (a:={tmps:=vs.toArray++Array.replicate (fn.ntmps - vs.length) undef,defers:=[]}) (b:=bare f kind) (k:=[]) ⟨?_,trivial⟩ ok eT (by show (E.P.funcs[f]?).isSome=true;rw[hf];rfl)).1
 have:=hl.append (LR.replicate (VR.undef φ) (fn.ntmps - args.length))
 rw[hl.1] at this
 simpa [hl.1] using this
theorem enters {E:Env} (hE:iJ E) {f:FuncId} {fn:Func} {c:Code} (hf:E.P.funcs[f]? =some fn) (hb:fn.body=some c) (vs:Array Value) (w:World):(callFunc f vs).run E.P w= .ok (.enter f vs) w:=by
 have hn:=hE.names f fn hf
 have:(fn.name== "runtime.NumGoroutine")=false:=by rw[beq_eq_false_iff_ne];exact hn
 simp only[callFunc,Sem.run_bind,run_program,Result.andThen_ok,hf,this,Bool.false_eq_true,if_false,hb,Option.isNone_some,Sem.run_pure]
noncomputable def fM (E:Env) (call:aY) (fuel:Nat) (g:FuncId) (as:List AV) (h:aq) (rc:RC):Option (aq×RC):=match E.P.funcs[g]? with
 | none=>none
 | some fg=>match fg.body with
   | none=>none
   | some bg=>match lk E call fuel fg bg as h rc with
     | .ok .normal s'=>if s'.ds.isEmpty&&(iw E s'.h s'.ts fg.results.toList).isSome then some (s'.h,s'.rc) else none
     | .ok .ret s'=>if s'.ds.isEmpty&&(iw E s'.h s'.ts fg.results.toList).isSome then some (s'.h,s'.rc) else none
     | _=>none
theorem ph {φ:Ph} {ds:List Deferred} (h:MA φ [] ds):ds=[]:=by cases ds with | nil=>rfl | cons _ _=>exact h.elim
def nU (c:Bool→Frame):RC→Frame
 | .done=>{c true with mode:=settle (c true).mode}
 | _=>{c false with mode:=settle (c false).mode}
theorem pj (hE:iJ E) {call:aY} (cH:fP E call) {fuel:Nat} {g:FuncId} {as:List AV} {h h':aq} {rc KP:RC} (hd:fM E call fuel g as h rc=some (h',KP)) {φ:Ph} {w:World} {vs:List Value}
 (ok:OK E φ h w) (hl:LR φ as vs) {c:Bool→Frame} {cs:List Frame} (eT:kT φ (bare g .deferred) (fun x=>c x::cs) rc):
 ∃φ' w',OK E φ' h' w'∧Fr φ h w φ' h' w'∧kT φ' (bare g .deferred) (fun x=>c x::cs) KP∧(callFunc g vs.toArray).run E.P w= .ok (.enter g vs.toArray) w∧
  Steps E.P (lone (Frame.enter E.P g vs.toArray .deferred) (cur (fun x=>c x::cs) rc) w)
   (lone (nU c KP) cs w'):=by
 unfold fM at hd
 split at hd
 · simp at hd
 rename_i fg hf
 split at hd
 · simp at hd
 rename_i bg hb
 have key:∀(s':St) (e:iS),(e= .normal∨e= .ret)→lk E call fuel fg bg as h rc= .ok e s'→s'.ds.isEmpty=true→(iw E s'.h s'.ts fg.results.toList).isSome=true→s'.h=h'→s'.rc=KP→
  ∃φ' w',OK E φ' h' w'∧Fr φ h w φ' h' w'∧kT φ' (bare g .deferred) (fun x=>c x::cs) KP∧(callFunc g vs.toArray).run E.P w= .ok (.enter g vs.toArray) w∧
  Steps E.P (lone (Frame.enter E.P g vs.toArray .deferred) (cur (fun x=>c x::cs) rc) w)
   (lone (nU c KP) cs w'):=by
  intro s' e he eO CZ xL hh hr
  subst hh;subst hr
  obtain ⟨φ',w',a',e',x1,x2,x3,x4,x5,x6⟩:=(pg hE cH hf hb eO ok hl (kind:= .deferred) eT).is
  refine ⟨φ',w',x3,x4,x5,enters hE hf hb _ w,?_⟩
  obtain ⟨nM,U9⟩:=Option.isSome_iff_exists.1 xL
  obtain ⟨v',_,fG⟩:=pf x3 x2.ts U9
  have U_:a'.defers=[]:=ph (by have:=x2.ds;rw[List.isEmpty_iff.1 CZ] at this;exact this)
  have fin:∀todo,step E.P (lone {(bare g .deferred).atR a' todo with mode:= .returning} (cur (fun x=>c x::cs) s'.rc) w')=
   .next (lone (nU c s'.rc) cs w'):=fun todo=>by
   have xF:({(bare g .deferred).atR a' todo with mode:= .returning}:Frame).going E.P w' (.returned v'):=⟨rfl,U_,fg,hf,fG⟩
   have hk:({(bare g .deferred).atR a' todo with mode:= .returning}:Frame).kind= .deferred:=rfl
   cases YC:s'.rc with
   | no=>exact step_going_returned (c:=c false) (cs:=cs) hk xF
   | gH v=>exact step_going_returned (c:=c false) (cs:=cs) hk xF
   | done=>exact step_going_returned (c:=c true) (cs:=cs) hk xF
   | AE l=>exact step_going_returned (c:=c false) (cs:=cs) hk xF
  rcases he with rfl | rfl
  · cases x1
    exact Steps.trans x6 (.head (stepR_end rfl) (.one (fin [])))
  · cases x1
    obtain ⟨todo,hs⟩:=x6
    exact Steps.trans hs (.head (stepR_ret rfl) (.one (fin _)))
 split at hd
 · rename_i s' eO
   split at hd
   · rename_i hc
     simp at hd;obtain ⟨rfl,rfl⟩:=hd
     simp only[Bool.and_eq_true] at hc
     exact key s' .normal (.inl rfl) eO hc.1 hc.2 rfl rfl
   · simp at hd
 · rename_i s' eO
   split at hd
   · rename_i hc
     simp at hd;obtain ⟨rfl,rfl⟩:=hd
     simp only[Bool.and_eq_true] at hc
     exact key s' .ret (.inr rfl) eO hc.1 hc.2 rfl rfl
   · simp at hd
 · simp at hd
theorem hZ (hE:iJ E) {call:aY} (cH:fP E call) {fuel:Nat}:∀(ds:List nD) {p p':Option AV} {h h':aq} (_:cz (fM E call fuel) ds p h=some (p',h')) {φ:Ph} {w:World} {fr:Frame} {cs:List Frame}
 (_:OK E φ h w) (_:MA φ ds fr.defers) (_:(p=none∧fr.mode= .returning)∨∃v v',p=some v∧VR φ v v'∧fr.mode= .panicking [{v:=v',recovered:=false}]),
 ∃φ' w' m',OK E φ' h' w'∧Fr φ h w φ' h' w'∧((p'=none∧m'= .returning)∨∃v v',p'=some v∧VR φ' v v'∧m'= .panicking [{v:=v',recovered:=false}])∧
  Steps E.P (lone fr cs w) (lone {fr with defers:=[],mode:=m'} cs w')
 | [],p,p',h,h',hu,φ,w,fr,cs,ok,CZ,hp=>by
   simp [cz] at hu;obtain ⟨rfl,rfl⟩:=hu
   have:=ph CZ
   refine ⟨φ,w,fr.mode,ok,Fr.refl _ _ _,?_,?_⟩
   · exact hp
   · rw[←this];exact Steps.refl _ _
 | .P3 r::ds,p,p',h,h',hu,φ,w,fr,cs,ok,CZ,hp=>by
   cases Oz:fr.defers with
   | nil=>rw[Oz] at CZ;exact CZ.elim
   | cons d' tg=>
   rw[Oz] at CZ
   obtain ⟨⟨l,hl,KQ⟩,HK⟩:=CZ
   have HL:fr.mode≠ .run:=by
    rcases hp with ⟨_,hm⟩ | ⟨v,v',_,_,hm⟩<;>rw[hm]<;>simp
   simp only[cz] at hu
   split at hu
   · rename_i hg
     obtain ⟨_,hb⟩:=ok.live _ _ _ hg hl
     obtain ⟨A_,f1⟩:=ok.U2 hg rfl hl (.deferred none)
     have GO:=step_collected (P:=E.P) (cs:=cs) HL Oz KQ (run_takeDeferred hb)
     obtain ⟨φ2,w2,m2,vJ,f2,HM,C1⟩:=hZ hE cH ds hu (fr:={fr with defers:=[]++tg}) (cs:=cs) A_ (by simpa using HK) hp
     exact ⟨φ2,w2,m2,vJ,f1.trans f2,HM,.head GO C1⟩
   · simp at hu
 | .call df WW::ds,p,p',h,h',hu,φ,w,fr,cs,ok,CZ,hp=>by
   cases Oz:fr.defers with
   | nil=>rw[Oz] at CZ;exact CZ.elim
   | cons d' tg=>
   rw[Oz] at CZ
   obtain ⟨⟨cap,KQ,vu⟩,HK⟩:=CZ
   have HL:fr.mode≠ .run:=by
    rcases hp with ⟨_,hm⟩ | ⟨v,v',_,_,hm⟩<;>rw[hm]<;>simp
   have hinv:∀(GQ:(callFunc df (d'.args++cap).toList.toArray).run E.P w= .ok (.enter df (d'.args++cap).toList.toArray) w),(invoke d'.target d'.args).run E.P w= .ok (.enter df (d'.args++cap).toList.toArray) w:=fun GQ=>by
    have e:(d'.args++cap).toList.toArray=d'.args++cap:=Array.toArray_toList ..
    rw[e] at GQ ⊢
    rw[KQ];exact GQ
   have GO:∀(GQ:(callFunc df (d'.args++cap).toList.toArray).run E.P w= .ok (.enter df (d'.args++cap).toList.toArray) w),step E.P (lone fr cs w)= .next (lone (Frame.enter E.P df (d'.args++cap).toList.toArray .deferred) ({fr with defers:=tg}::cs) w):=fun GQ=>step_defer HL Oz KQ (hinv GQ)
   cases p with
   | none=>
     simp only[cz] at hu
     split at hu
     · rename_i h1 WX Ri
       have hm:fr.mode= .returning:=by
        rcases hp with ⟨_,hm⟩ | ⟨v,v',e,_,_⟩
        · exact hm
        · simp at e
       obtain ⟨φ1,w1,A_,f1,_,GQ,gZ⟩:=pj hE cH Ri ok vu (c:=fun _=>{fr with defers:=tg}) (cs:=cs) ⟨rfl,fun Cu hk=>by simp [tryRecover,show Cu.kind= .deferred from hk,hm]⟩
       have tf:nU (fun _=>{fr with defers:=tg}) WX={fr with defers:=tg}:=by
        cases WX<;>simp [nU,hm,settle]
       rw[tf] at gZ
       obtain ⟨φ2,w2,m2,vJ,f2,HM,C1⟩:=hZ hE cH ds hu (fr:={fr with defers:=tg}) (cs:=cs) A_ (HK.mono f1.ext) (.inl ⟨rfl,hm⟩)
       exact ⟨φ2,w2,m2,vJ,f1.trans f2,HM,.head (GO GQ) (Steps.trans gZ C1)⟩
     · simp at hu
   | some v=>
     obtain ⟨v',hv,hm⟩:∃v',VR φ v v'∧fr.mode= .panicking [{v:=v',recovered:=false}]:=by
      rcases hp with ⟨e,_⟩ | ⟨v1,v',e,hv,hm⟩
      · simp at e
      · simp at e;subst e;exact ⟨v',hv,hm⟩
     have eT:kT φ (bare df .deferred) (fun x=>(if x then {fr with defers:=tg,mode:= .panicking [{v:=v',recovered:=true}]} else {fr with defers:=tg})::cs) (.gH v):=
      ⟨rfl,⟨v',hv,fun Cu hk=>by simp [tryRecover,show Cu.kind= .deferred from hk,hm]⟩,fun Cu hk=>by simp [tryRecover,show Cu.kind= .deferred from hk]⟩
     simp only[cz] at hu
     split at hu
     · rename_i h1 v1 Ri
       obtain ⟨φ1,w1,A_,f1,_,GQ,gZ⟩:=pj hE cH Ri ok vu (c:=fun x=>if x then {fr with defers:=tg,mode:= .panicking [{v:=v',recovered:=true}]} else {fr with defers:=tg}) (cs:=cs) eT
       have tf:nU (fun x=>if x then {fr with defers:=tg,mode:= .panicking [{v:=v',recovered:=true}]} else {fr with defers:=tg}) (.gH v1)={fr with defers:=tg}:=by simp [nU,hm,settle]
       rw[tf] at gZ
       simp only[Bool.false_eq_true,if_false,cur] at gZ
       obtain ⟨φ2,w2,m2,vJ,f2,HM,C1⟩:=hZ hE cH ds hu (fr:={fr with defers:=tg}) (cs:=cs) A_ (HK.mono f1.ext) (.inr ⟨v,v',rfl,hv.mono f1.ext,hm⟩)
       exact ⟨φ2,w2,m2,vJ,f1.trans f2,HM,.head (GO GQ) (Steps.trans gZ C1)⟩
     · rename_i h1 Ri
       obtain ⟨φ1,w1,A_,f1,_,GQ,gZ⟩:=pj hE cH Ri ok vu (c:=fun x=>if x then {fr with defers:=tg,mode:= .panicking [{v:=v',recovered:=true}]} else {fr with defers:=tg}) (cs:=cs) eT
       have tf:nU (fun x=>if x then {fr with defers:=tg,mode:= .panicking [{v:=v',recovered:=true}]} else {fr with defers:=tg}) .done={fr with defers:=tg,mode:= .returning}:=by simp [nU,settle]
       rw[tf] at gZ
       simp only[Bool.false_eq_true,if_false,cur] at gZ
       obtain ⟨φ2,w2,m2,vJ,f2,HM,C1⟩:=hZ hE cH ds hu (fr:={fr with defers:=tg,mode:= .returning}) (cs:=cs) A_ (HK.mono f1.ext) (.inl ⟨rfl,rfl⟩)
       exact ⟨φ2,w2,m2,vJ,f1.trans f2,HM,.head (GO GQ) (Steps.trans gZ C1)⟩
     · simp at hu
theorem Bd (hE:iJ E) (fuel d:Nat) (ih:fP E (eX E d fuel)):(∀f args h v h',eX E (d+1) fuel (.fn f) args h= .ret v h'→ju E f args h v h')∧(∀f args h v h',eX E (d+1) fuel (.fn f) args h= .panic v h'→DZ E f args h v h'):=by
 have key:∀(f:FuncId) (args:List AV) (h:aq) (out:gQ),eX E (d+1) fuel (.fn f) args h=out→(∀why q,out≠ .fail why q)→
  ∃fn c e s p,E.P.funcs[f]? =some fn∧fn.body=some c∧lk E (eX E d fuel) fuel fn c args h .no= .ok e s∧
   ((p=none∧(e= .normal∨e= .ret))∨∃v,p=some v∧e= .panic v)∧
   ((∃v h',out= .panic v h'∧cz (fM E (eX E d fuel) fuel) s.ds p s.h=some (some v,h'))∨
    ∃vs h',out= .ret (fF vs) h'∧cz (fM E (eX E d fuel) fuel) s.ds p s.h=some (none,h')∧iw E h' s.ts fn.results.toList=some vs):=by
  intro f args h out e dt
  simp only[eX] at e
  split at e
  · exact absurd e.symm (dt _ _)
  rename_i fn hf
  split at e
  · exact absurd e.symm (dt _ _)
  rename_i c hb
  have fin:∀(p:Option AV) (s:St),(match cz (fM E (eX E d fuel) fuel) s.ds p s.h with
   | none=>gQ.fail "unwind" none
   | some (some v,h')=> .panic v h'
   | some (none,h')=>match iw E h' s.ts fn.results.toList with
     | some vs=> .ret (fF vs) h'
     | none=> .fail "results" none)=out→
   ((∃v h',out= .panic v h'∧cz (fM E (eX E d fuel) fuel) s.ds p s.h=some (some v,h'))∨
    ∃vs h',out= .ret (fF vs) h'∧cz (fM E (eX E d fuel) fuel) s.ds p s.h=some (none,h')∧iw E h' s.ts fn.results.toList=some vs):=by
   intro p s hm
   split at hm
   · exact absurd hm.symm (dt _ _)
   · rename_i v h' hu;exact .inl ⟨v,h',hm.symm,hu⟩
   · rename_i h' hu
     split at hm
     · rename_i vs hv;exact .inr ⟨vs,h',hm.symm,hu,hv⟩
     · exact absurd hm.symm (dt _ _)
  split at e
  · rename_i s eO;exact ⟨fn,c,_,s,none,hf,hb,eO,.inl ⟨rfl,.inl rfl⟩,fin none s e⟩
  · rename_i s eO;exact ⟨fn,c,_,s,none,hf,hb,eO,.inl ⟨rfl,.inr rfl⟩,fin none s e⟩
  · rename_i v s eO;exact ⟨fn,c,_,s,some v,hf,hb,eO,.inr ⟨v,rfl,rfl⟩,fin (some v) s e⟩
  · exact absurd e.symm (dt _ _)
  · exact absurd e.symm (dt _ _)
 have run:∀(f:FuncId) (fn:Func) (c:Code) (args:List AV) (h:aq) (e:iS) (s:St) (p p':Option AV) (h':aq),E.P.funcs[f]? =some fn→fn.body=some c→lk E (eX E d fuel) fuel fn c args h .no= .ok e s→
  ((p=none∧(e= .normal∨e= .ret))∨∃v,p=some v∧e= .panic v)→cz (fM E (eX E d fuel) fuel) s.ds p s.h=some (p',h')→
  ∀(φ:Ph) (w:World) (vs:List Value),OK E φ h w→LR φ args vs→∀cs,∃φ' w' m' tmps todo,OK E φ' h' w'∧Fr φ h w φ' h' w'∧LR φ' s.ts tmps.toList∧
   ((p'=none∧m'= .returning)∨∃v v',p'=some v∧VR φ' v v'∧m'= .panicking [{v:=v',recovered:=false}])∧
   Steps E.P (lone (Frame.enter E.P f vs.toArray .normal) cs w) (lone {(bare f .normal).atR {tmps,defers:=[]} todo with mode:=m'} cs w'):=by
  intro f fn c args h e s p p' h' hf hb eO hp hu φ w vs ok hl cs
  obtain ⟨φ1,w1,a1,e1,x1,x2,x3,x4,x5,x6⟩:=(pg hE ih hf hb eO ok hl (kind:= .normal) (K:=fun _=>cs) ⟨rfl,fun fr hk=>by simp [tryRecover,show fr.kind= .normal from hk]⟩).is
  have Be:cur (fun _=>cs) s.rc=cs:=by cases s.rc<;>rfl
  have HN:cur (fun _=>cs) RC.no=cs:=rfl
  rw[Be] at x6
  rw[HN] at x6
  have hm:∃todo m,((p=none∧m= .returning)∨∃v v',p=some v∧VR φ1 v v'∧m= .panicking [{v:=v',recovered:=false}])∧
   Steps E.P (lone (Frame.enter E.P f vs.toArray .normal) cs w) (lone {(bare f .normal).atR a1 todo with mode:=m} cs w1):=by
   rcases hp with ⟨rfl,rfl | rfl⟩ | ⟨v,rfl,rfl⟩
   · cases x1;exact ⟨[],.returning,.inl ⟨rfl,rfl⟩,Steps.trans x6 (.one (stepR_end rfl))⟩
   · cases x1;obtain ⟨todo,hs⟩:=x6;exact ⟨_,.returning,.inl ⟨rfl,rfl⟩,Steps.trans hs (.one (stepR_ret rfl))⟩
   · cases x1 with
     | panic _ v' hv=>obtain ⟨todo,hs⟩:=x6;exact ⟨todo,_,.inr ⟨v,v',rfl,hv,rfl⟩,hs⟩
  obtain ⟨todo,m,U',oN⟩:=hm
  obtain ⟨φ2,w2,m2,vJ,f2,HM,Va⟩:=hZ hE ih s.ds hu (fr:={(bare f .normal).atR a1 todo with mode:=m}) (cs:=cs) x3 x2.ds (by
   rcases U' with ⟨e,em⟩ | ⟨v,v',e,hv,em⟩
   · exact .inl ⟨e,em⟩
   · exact .inr ⟨v,v',e,hv,em⟩)
  exact ⟨φ2,w2,m2,a1.tmps,todo,vJ,x4.trans f2,x2.ts.mono f2.ext,HM,Steps.trans oN Va⟩
 refine ⟨fun f args h v h' e=>?_,fun f args h v h' e=>?_⟩
 · obtain ⟨fn,c,e1,s,p,hf,hb,eO,hp,m6⟩:=key f args h _ e (by simp)
   rcases m6 with ⟨v1,h1,he,_⟩ | ⟨Vb,h1,he,hu,xL⟩
   · simp at he
   · simp at he;obtain ⟨rfl,rfl⟩:=he
     intro φ w vs ok hl
     refine ⟨enters hE hf hb _ w,fun cs=>?_⟩
     obtain ⟨φ',w',m',tmps,todo,oO,fr,ht,hm,hs⟩:=run f fn c args h e1 s p none h' hf hb eO hp hu φ w vs ok hl cs
     obtain ⟨v',hv,fG⟩:=pf oO ht xL
     rcases hm with ⟨_,rfl⟩ | ⟨v,YD,e,_⟩
     · exact ⟨φ',w',v',_,hv,oO,fr,hs,rfl,rfl,rfl,rfl,fn,hf,fG⟩
     · simp at e
 · obtain ⟨fn,c,e1,s,p,hf,hb,eO,hp,m6⟩:=key f args h _ e (by simp)
   rcases m6 with ⟨v1,h1,he,hu⟩ | ⟨Vb,h1,he,_⟩
   · simp at he;obtain ⟨rfl,rfl⟩:=he
     intro φ w vs ok hl
     refine ⟨enters hE hf hb _ w,fun cs=>?_⟩
     obtain ⟨φ',w',m',tmps,todo,oO,fr,ht,hm,hs⟩:=run f fn c args h e1 s p (some v) h' hf hb eO hp hu φ w vs ok hl cs
     rcases hm with ⟨e,_⟩ | ⟨v2,v',e,hv,rfl⟩
     · simp at e
     · simp at e;subst e
       exact ⟨φ',w',v',_,hv,oO,fr,hs,rfl,rfl,rfl,fn,hf⟩
   · simp at he
theorem qU {l:Nat} {sY:Option Code} {s:St} {v:AV} {h':aq} (he:vh l sY s= .ret v h') {φ:Ph} {w:World} (ok:OK E φ s.h w) {ll:Loc} (hl:φ l=some ll):
 ∃w',v= .bool sY.isNone∧OK E φ h' w'∧Fr φ s.h w φ h' w'∧(Instr.endRound ll.eV sY).run E.P w= .ok (.bool sY.isNone) w':=by
 unfold vh at he
 split at he
 · rename_i st pd ts ps as bd dn hg
   simp only[gQ.ret.injEq] at he;obtain ⟨rfl,rfl⟩:=he
   obtain ⟨_,r,hr,tp⟩:=ok.live _ _ _ hg hl
   obtain ⟨A_,f1⟩:=ok.Ox (o':= .loop (if sY.isNone then .ready else .done) sY ts ps as bd dn) hg rfl hl (O:= .loop {r with state:=if sY.isNone then .ready else .done,pending:=sY})
    ⟨by have:=ok.live _ _ _ hg hl;exact this.1,_,rfl,⟨rfl,rfl,tp.tmps,tp.params,tp.assign,tp.body,tp.defers,tp.fn⟩⟩
   exact ⟨_,rfl,A_,f1,run_endRound sY hr⟩
 · simp at he
theorem Bf {φ:Ph}:∀{ps:List Tmp} {args:List AV} {vs:List Value} (_:LR φ args vs) {ts:List AV} {tmps:Array Value} (_:LR φ ts tmps.toList),
 LR φ ((ps.zip args).foldl (fun ts x=>ts.set x.1 x.2) ts) (((ps.zip vs).foldl (fun (tmps:Array Value) (x:Tmp×Value)=>tmps.setIfInBounds x.1 x.2) tmps).toList)
 | [],_,_,_,_,_,ht=>by simpa using ht
 | p::ps,[],vs,hl,ts,tmps,ht=>by rw[hl.gU];simpa using ht
 | p::ps,x::xs,vs,hl,ts,tmps,ht=>by
   obtain ⟨y,ys,rfl,hy,qL⟩:=hl.cj
   simp only[List.zip_cons_cons,List.foldl_cons]
   exact Bf qL (by simpa using ht.set hy p)
theorem vO (hE:iJ E) {call:aY} (cH:fP E call) {fuel l:Nat} {args:List AV} {h:aq} {out:gQ} (ho:qH E call fuel l args h=out) (dt:∀why q,out≠ .fail why q)
 {φ:Ph} {w:World} {vs:List Value} (ok:OK E φ h w) {ll:Loc} (hφ:φ l=some ll) (hl:LR φ args vs):
 ∃f tmps assign body,(Instr.yield ll.eV vs.toArray).run E.P w= .ok (.round ll.eV f tmps assign body) w∧∀c cs,
  (∀v h',out= .ret v h'→∃φ' w' v',VR φ' v v'∧OK E φ' h' w'∧Fr φ h w φ' h' w'∧Steps E.P (lone (Frame.round ll.eV f tmps assign body .normal) (c::cs) w) (lone (c.finish v') cs w'))∧
  (∀v h',out= .panic v h'→∃φ' w' v',VR φ' v v'∧OK E φ' h' w'∧Fr φ h w φ' h' w'∧Steps E.P (lone (Frame.round ll.eV f tmps assign body .normal) (c::cs) w) (lone (c.raise [{v:=v',recovered:=false}]) cs w')):=by
 unfold qH at ho
 split at ho
 · rename_i st pd ts ps as bd dn hg
   split at ho
   · rename_i hlen
     split at ho
     · rename_i s1 YE
       split at ho
       · rename_i WY N2 Mw Kq N3 N4 WZ
         obtain ⟨YF,r,hr,tp⟩:=ok.live _ _ _ hg hφ
         have He:vs.toArray.size=r.params.size:=by
          have h1:=congrArg List.length tp.params
          have h2:=hl.1
          simp at h1 ⊢;omega
         refine ⟨r.fn,_,r.assign,r.body,run_yield hr He,fun c cs=>?_⟩
         have Rj:LR φ ((ps.zip args).foldl (fun ts x=>ts.set x.1 x.2) ts) ((r.params.zip vs.toArray).foldl (fun tmps (t,a)=>tmps.setIfInBounds t a) r.tmps).toList:=by
          have:=Bf (ps:=ps) hl tp.tmps
          rw[←Array.foldl_toList,Array.toList_zip,tp.params]
          exact this
         generalize ZY:(r.params.zip vs.toArray).foldl (fun tmps (t,a)=>tmps.setIfInBounds t a) r.tmps=D4 at Rj
         let b:Frame:={fn:=r.fn,tmps:= #[],todo:=[],defers:=[],mode:= .run,kind:= .normal,roundOf:=some ll.eV}
         have hb:b.roundOf=some ll.eV:=rfl
         have hk:b.kind= .normal:=rfl
         have th:Frame.round ll.eV r.fn D4 r.assign r.body .normal=b.atR {tmps:=D4,defers:=[]} [.code r.assign,.beginRound,.code r.body]:=rfl
         rw[tp.assign,tp.body] at th ⊢
         rw[th]
         have Be:∀rc,cur (fun _=>c::cs) rc=c::cs:=fun rc=>by cases rc<;>rfl
         obtain ⟨φ1,w1,a1,e1,x1,x2,x3,x4,x5,x6⟩:=(qT hE cH fuel as YE (a:={tmps:=D4,defers:=[]}) (b:=b) (k:=[.beginRound,.code bd]) (K:=fun _=>c::cs) ⟨Rj,trivial⟩ ok ⟨ll,hφ,rfl⟩ tp.fn).1.is
         cases x1
         rw[Be,Be] at x6
         have Vc:=x4.ext _ _ hφ
         obtain ⟨Rl,r1,Q3,Bg⟩:=x3.live _ _ _ WZ Vc
         obtain ⟨vJ,f2⟩:=x3.Ox (o':= .loop .busy WY N2 Mw Kq N3 N4) WZ rfl Vc (O:= .loop {r1 with state:= .busy})
          ⟨Rl,_,rfl,⟨rfl,Bg.pending,Bg.tmps,Bg.params,Bg.assign,Bg.body,Bg.defers,Bg.fn⟩⟩
         have Vd:=stepR_beginRound (P:=E.P) (b:=b) (a:=a1) (k:=[.code bd]) (cs:=c::cs) hb (run_beginRound Q3 Bg.state)
         have uN:=Steps.trans x6 (.one Vd)
         have body:∀(e:iS) (s2:St),exec E call fuel bd {s1 with h:=s1.h.put l (some (.loop .busy WY N2 Mw Kq N3 N4))}= .ok e s2→
          ∃φ' w' a' e',Oj φ' e e'∧SR φ' s2.ts s2.ds a'∧OK E φ' s2.h w'∧Fr φ h w φ' s2.h w'∧φ' l=some ll∧Ba E.P (lone (b.atR {tmps:=D4,defers:=[]} [.code as,.beginRound,.code bd]) (c::cs) w) b [] (c::cs) e' a' w':=by
          intro e s2 KR
          obtain ⟨φ3,w3,a3,e3,y1,y2,y3,y4,y5,y6⟩:=(qT hE cH fuel bd KR (a:=a1) (b:=b) (k:=[]) (K:=fun _=>c::cs) x2 vJ x5 tp.fn).1.is
          rw[Be,Be] at y6
          exact ⟨φ3,w3,a3,e3,y1,y2,y3,(x4.trans f2).trans y4,y4.ext _ _ Vc,.of_steps uN y6⟩
         split at ho
         · rename_i s2 KR
           obtain ⟨φ3,w3,a3,e3,y1,y2,y3,y4,KO,y6⟩:=body _ _ KR
           cases y1
           refine ⟨fun v h' e=>?_,fun v h' e=>?_⟩
           · obtain ⟨w4,rfl,z1,z2,z3⟩:=qU (ho.trans e) y3 KO
             exact ⟨φ3,w4,_,.bool _,z1,y4.trans z2,Steps.trans y6 (.one (stepR_round_end hb hk z3))⟩
           · rw[e] at ho;unfold vh at ho;split at ho<;>simp at ho
         · rename_i s2 KR
           obtain ⟨φ3,w3,a3,e3,y1,y2,y3,y4,KO,y6⟩:=body _ _ KR
           cases y1
           refine ⟨fun v h' e=>?_,fun v h' e=>?_⟩
           · obtain ⟨w4,rfl,z1,z2,z3⟩:=qU (ho.trans e) y3 KO
             obtain ⟨todo,hs⟩:=y6
             exact ⟨φ3,w4,_,.bool _,z1,y4.trans z2,Steps.trans hs (.one (stepR_round_ret hb hk z3))⟩
           · rw[e] at ho;unfold vh at ho;split at ho<;>simp at ho
         · rename_i id s2 KR
           obtain ⟨φ3,w3,a3,e3,y1,y2,y3,y4,KO,y6⟩:=body _ _ KR
           cases y1
           refine ⟨fun v h' e=>?_,fun v h' e=>?_⟩
           · obtain ⟨w4,rfl,z1,z2,z3⟩:=qU (ho.trans e) y3 KO
             obtain ⟨todo,ht,hs⟩:=y6
             exact ⟨φ3,w4,_,.bool _,z1,y4.trans z2,Steps.trans hs (.one (stepR_round_exit hb hk ht z3))⟩
           · rw[e] at ho;unfold vh at ho;split at ho<;>simp at ho
         · rename_i v2 s2 KR
           obtain ⟨φ3,w3,a3,e3,y1,y2,y3,y4,KO,y6⟩:=body _ _ KR
           split at ho
           · rename_i CZ
             refine ⟨fun v h' e=>by rw[e] at ho;simp at ho,fun v h' e=>?_⟩
             rw[e] at ho;simp at ho;obtain ⟨rfl,rfl⟩:=ho
             cases y1 with
             | panic _ v' hv=>
               obtain ⟨todo,hs⟩:=y6
               have U_:a3.defers=[]:=ph (by have:=y2.ds;rw[List.isEmpty_iff.1 CZ] at this;exact this)
               obtain ⟨fn,AG⟩:=Option.isSome_iff_exists.1 tp.fn
               exact ⟨φ3,w3,v',hv,y3,y4,Steps.trans hs (.one (step_leave_panicked ⟨rfl,U_,fn,AG⟩))⟩
           · exact absurd ho.symm (dt _ _)
         · exact absurd ho.symm (dt _ _)
       · exact absurd ho.symm (dt _ _)
     · exact absurd ho.symm (dt _ _)
     · exact absurd ho.symm (dt _ _)
   · exact absurd ho.symm (dt _ _)
 · exact absurd ho.symm (dt _ _)
theorem ud (hE:iJ E) (fuel:Nat):∀d,fP E (eX E d fuel)
 | 0=>⟨fun f args h v h' e=>by simp [eX] at e,fun f args h v h' e=>by simp [eX] at e⟩
 | d+1=>by
   have ih:=ud hE fuel d
   obtain ⟨k1,k2⟩:=Bd hE fuel d ih
   refine ⟨fun F args h v h' e=>?_,fun F args h v h' e=>?_⟩
   · cases F with
     | fn f=>exact (k1 f args h v h' e).any
     | tV l=>
       simp only[eX] at e
       intro φ w vs ok hf hl
       obtain ⟨ll,hφ⟩:=hf
       obtain ⟨f,tmps,assign,body,hy,fG⟩:=vO hE ih e (by simp) ok hφ hl
       exact ⟨_,_,.tV l ll hφ vs f tmps assign body hy,fun c cs=>(fG c cs).1 v h' rfl⟩
   · cases F with
     | fn f=>exact (k2 f args h v h' e).any
     | tV l=>
       simp only[eX] at e
       intro φ w vs ok hf hl
       obtain ⟨ll,hφ⟩:=hf
       obtain ⟨f,tmps,assign,body,hy,fG⟩:=vO hE ih e (by simp) ok hφ hl
       exact ⟨_,_,.tV l ll hφ vs f tmps assign body hy,fun c cs=>(fG c cs).2 v h' rfl⟩
end Go.Ab
end
section
namespace Go.Ab.Fa
structure Acc (T:Type) where
 f:T→AV
structure Rm (T:Type) where
 f:AV→T→T
structure RF where
 T:Type
 N:Nat
 get:Nat→Acc T
 set:Nat→Rm T
 z:T
 HO:∀i,i<N→(get i).f z=AV.undef
 rT:∀i,i<N→∀v r,(get i).f ((set i).f v r)=v
 pY:∀i j,i<N→j<N→i≠j→∀v r,(get j).f ((set i).f v r)=(get j).f r
def KS (i:Nat):Acc (P8 (P8 AV)):=s8 (i/8) fun p=>s8 (i%8) fun q=>⟨fun r=>q (p r)⟩
noncomputable def OA (i:Nat):Rm (P8 (P8 AV)):=e8 (i/8) fun p=>e8 (i%8) fun q=>⟨fun v r=>p (q fun _=>v) r⟩
noncomputable def TM:RF where
 T:=P8 (P8 AV)
 N:=64
 get:=KS
 set:=OA
 z:=P8.all (P8.all AV.undef)
 HO i h:=by simp only[KS,qq,uZ]
 rT i h v r:=by simp only[KS,OA,qq,tU,cB]
 pY i j hi hj h v r:=by
  simp only[KS,OA,qq,tU]
  by_cases h1:i/8=j/8
  · rw[h1,cB,c8 (by omega) (by omega) (by omega)]
  · rw[c8 (by omega) (by omega) h1]
def KT (i:Nat):Acc (P8 (P8 (P8 AV))):=s8 (i/64) fun o=>s8 (i/8%8) fun p=>s8 (i%8) fun q=>⟨fun r=>q (p (o r))⟩
noncomputable def OB (i:Nat):Rm (P8 (P8 (P8 AV))):=e8 (i/64) fun o=>e8 (i/8%8) fun p=>e8 (i%8) fun q=>⟨fun v r=>o (p (q fun _=>v)) r⟩
noncomputable def TN:RF where
 T:=P8 (P8 (P8 AV))
 N:=512
 get:=KT
 set:=OB
 z:=P8.all (P8.all (P8.all AV.undef))
 HO i h:=by simp only[KT,qq,uZ]
 rT i h v r:=by simp only[KT,OB,qq,tU,cB]
 pY i j hi hj h v r:=by
  simp only[KT,OB,qq,tU]
  by_cases h1:i/64=j/64
  · rw[h1,cB]
    by_cases h2:i/8%8=j/8%8
    · rw[h2,cB,c8 (by omega) (by omega) (by omega)]
    · rw[c8 (by omega) (by omega) h2]
  · rw[c8 (by omega) (by omega) h1]
section
variable (F:RF) (n:Nat)
def dJ (r:F.T):List AV:=(List.range n).map fun i=>(F.get i).f r
theorem gA (r:F.T):(dJ F n r).length=n:=by simp [dJ]
theorem pZ (r:F.T) {i:Nat} (h:i<n):(dJ F n r)[i]? =some ((F.get i).f r):=by simp [dJ,h]
theorem Bh (r:F.T) (i:Nat):(dJ F n r).getD i AV.undef=if i<n then (F.get i).f r else AV.undef:=by
 rw[List.getD_eq_getElem?_getD]
 split
 · rename_i h;rw[pZ F n r h];rfl
 · rw[List.getElem?_eq_none (by rw[gA];omega)];rfl
theorem KU (hn:n≤F.N) (r:F.T) {i:Nat} (h:i<n) (v:AV):(dJ F n r).set i v=dJ F n ((F.set i).f v r):=by
 apply List.ext_getElem?
 intro j
 rw[List.getElem?_set]
 by_cases hj:j<n
 · rw[pZ F n _ hj,pZ F n _ hj,gA]
   by_cases e:i=j
   · subst e;simp [F.rT i (by omega),h]
   · rw[if_neg e,F.pY i j (by omega) (by omega) e]
 · rw[List.getElem?_eq_none (l:=dJ F n r) (by rw[gA];omega),List.getElem?_eq_none (l:=dJ F n _) (by rw[gA];omega),gA]
   rw[if_neg (by omega)]
noncomputable def GR:List AV→F.T→Nat→F.T:=fun l=>List.rec (motive:=fun _=>F.T→Nat→F.T) (fun r _=>r) (fun v _ ih r i=>ih ((F.set i).f v r) (Nat.add i 1)) l
theorem KV (r:F.T) (i:Nat):GR F [] r i=r:=rfl
theorem HQ (v:AV) (l:List AV) (r:F.T) (i:Nat):GR F (v::l) r i=GR F l ((F.set i).f v r) (i+1):=rfl
theorem D5 (hn:n≤F.N):∀(l:List AV) (r:F.T) (i:Nat),i+l.length≤n→∀j,j<n→(F.get j).f (GR F l r i)=if i≤j∧j<i+l.length then l.getD (j - i) AV.undef else (F.get j).f r
 | [],r,i,_,j,hj=>by rw[KV,if_neg (by rw[List.length_nil];omega)]
 | v::l,r,i,h,j,hj=>by
   simp only[List.length_cons] at h
   rw[HQ,D5 hn l _ (i+1) (by omega) j hj]
   simp only[List.length_cons]
   by_cases h1:i+1≤j∧j<i+1+l.length
   · rw[if_pos h1,if_pos (by omega)]
     obtain ⟨m,hm⟩:∃m,j - i=m+1:=⟨j - i - 1,by omega⟩
     rw[hm,show j -(i+1)=m by omega,List.getD_cons_succ]
   · rw[if_neg h1]
     by_cases h2:i=j
     · subst h2;rw[F.rT i (by omega),if_pos (by omega)];simp
     · rw[F.pY i j (by omega) (by omega) h2,if_neg (by omega)]
theorem D6 (hn:n≤F.N) (l:List AV) (h:l.length≤n):dJ F n (GR F l F.z 0)=l++List.replicate (n - l.length) AV.undef:=by
 apply List.ext_getElem?
 intro j
 by_cases hj:j<n
 · rw[pZ F n _ hj,D5 F n hn l F.z 0 (by omega) j hj]
   by_cases h1:j<l.length
   · rw[if_pos (by omega),List.getElem?_append_left h1,Nat.sub_zero,List.getD_eq_getElem?_getD,List.getElem?_eq_getElem h1];rfl
   · rw[if_neg (by omega),List.getElem?_append_right (by omega),F.HO j (by omega),List.getElem?_replicate,if_pos (by omega)]
 · rw[List.getElem?_eq_none (by rw[gA];omega),List.getElem?_eq_none (by simp;omega)]
end
end Go.Ab.Fa
end
section
namespace Go.Ab.Fa
section
variable {R:Type}
noncomputable def g_ (f:Bool→R) (d:R) (v:AV):R:=
 AV.rec (motive_1:=fun _=>R) (motive_2:=fun _=>Unit) (fun b=>f b) (fun _ _=>d) (fun _=>d) d (fun _ _=>d) d (fun _ _ _ _ _=>d) d (fun _=>d) (fun _ _ _ _ _=>d) (fun _=>d) d (fun _ _ _=>d) d (fun _ _=>d) (fun _ _=>d) d d () (fun _ _ _ _=>()) v
noncomputable def nh (f:IntKind→Int→R) (d:R) (v:AV):R:=
 AV.rec (motive_1:=fun _=>R) (motive_2:=fun _=>Unit) (fun _=>d) (fun k n=>f k n) (fun _=>d) d (fun _ _=>d) d (fun _ _ _ _ _=>d) d (fun _=>d) (fun _ _ _ _ _=>d) (fun _=>d) d (fun _ _ _=>d) d (fun _ _=>d) (fun _ _=>d) d d () (fun _ _ _ _=>()) v
noncomputable def nV (f:List UInt8→R) (d:R) (v:AV):R:=
 AV.rec (motive_1:=fun _=>R) (motive_2:=fun _=>Unit) (fun _=>d) (fun _ _=>d) (fun s=>f s) d (fun _ _=>d) d (fun _ _ _ _ _=>d) d (fun _=>d) (fun _ _ _ _ _=>d) (fun _=>d) d (fun _ _ _=>d) d (fun _ _=>d) (fun _ _=>d) d d () (fun _ _ _ _=>()) v
noncomputable def tq (f:Nat→Nat→R) (d:R) (v:AV):R:=
 AV.rec (motive_1:=fun _=>R) (motive_2:=fun _=>Unit) (fun _=>d) (fun _ _=>d) (fun _=>d) d (fun i o=>f i o) d (fun _ _ _ _ _=>d) d (fun _=>d) (fun _ _ _ _ _=>d) (fun _=>d) d (fun _ _ _=>d) d (fun _ _=>d) (fun _ _=>d) d d () (fun _ _ _ _=>()) v
noncomputable def hB (e:R) (f:Nat→Nat→Nat→Nat→Bool→R) (d:R) (v:AV):R:=
 AV.rec (motive_1:=fun _=>R) (motive_2:=fun _=>Unit) (fun _=>d) (fun _ _=>d) (fun _=>d) d (fun _ _=>d) e (fun i o l c b=>f i o l c b) d (fun _=>d) (fun _ _ _ _ _=>d) (fun _=>d) d (fun _ _ _=>d) d (fun _ _=>d) (fun _ _=>d) d d () (fun _ _ _ _=>()) v
noncomputable def vZ (z d:R) (v:AV):R:=
 AV.rec (motive_1:=fun _=>R) (motive_2:=fun _=>Unit) (fun _=>d) (fun _ _=>d) (fun _=>d) d (fun _ _=>d) d (fun _ _ _ _ _=>d) d (fun _=>d) (fun _ _ _ _ _=>d) (fun _=>d) d (fun _ _ _=>d) d (fun _ _=>d) (fun _ _=>d) z d () (fun _ _ _ _=>()) v
noncomputable def D7 (f:FuncId→List AV→List AV→R) (y:Nat→R) (d:R) (v:AV):R:=
 AV.rec (motive_1:=fun _=>R) (motive_2:=fun _=>Unit) (fun _=>d) (fun _ _=>d) (fun _=>d) d (fun _ _=>d) d (fun _ _ _ _ _=>d) d (fun _=>d) (fun g a b _ _=>f g a b) (fun l=>y l) d (fun _ _ _=>d) d (fun _ _=>d) (fun _ _=>d) d d () (fun _ _ _ _=>()) v
noncomputable def tu (f:List AV→R) (t:List AV→R) (d:R) (v:AV):R:=
 AV.rec (motive_1:=fun _=>R) (motive_2:=fun _=>Unit) (fun _=>d) (fun _ _=>d) (fun _=>d) d (fun _ _=>d) d (fun _ _ _ _ _=>d) d (fun _=>d) (fun _ _ _ _ _=>d) (fun _=>d) d (fun _ _ _=>d) d (fun cs _=>f cs) (fun cs _=>t cs) d d () (fun _ _ _ _=>()) v
noncomputable def nW (f:TypeId→AV→R) (d:R) (v:AV):R:=
 AV.rec (motive_1:=fun _=>R) (motive_2:=fun _=>Unit) (fun _=>d) (fun _ _=>d) (fun _=>d) d (fun _ _=>d) d (fun _ _ _ _ _=>d) d (fun _=>d) (fun _ _ _ _ _=>d) (fun _=>d) d (fun t v _=>f t v) d (fun _ _=>d) (fun _ _=>d) d d () (fun _ _ _ _=>()) v
noncomputable def zL (v:AV):Bool:=
 AV.rec (motive_1:=fun _=>Bool) (motive_2:=fun _=>Unit) (fun _=>false) (fun _ _=>false) (fun _=>false) false (fun _ _=>true) false (fun _ _ _ _ _=>true) false (fun _=>true) (fun _ _ _ _ _=>true) (fun _=>false) false (fun _ _ _=>false) false (fun _ _=>false) (fun _ _=>false) false false () (fun _ _ _ _=>()) v
noncomputable def ob {α:Type} (d:R) (f:α→R) (o:Option α):R:=Option.rec (motive:=fun _=>R) d f o
noncomputable def bc (b:Bool) (x y:R):R:=Bool.rec (motive:=fun _=>R) y x b
noncomputable def tv (f:List AV→TypeId→Bool→R) (d:R) (o:aP):R:=
 aP.rec (motive:=fun _=>R) (fun cs e ro=>f cs e ro) (fun _ _=>d) (fun _ _=>d) (fun _ _ _ _=>d) (fun _ _ _ _ _ _ _=>d) d o
noncomputable def jU (f:Nat→R) (d:R) (n:Int):R:=Int.rec (motive:=fun _=>R) f (fun _=>d) n
noncomputable def OC (a b c d e f g h:R) (k:IntKind):R:=IntKind.rec (motive:=fun _=>R) a b c d e f g h k
end
noncomputable def kc (k:IntKind):Nat:=OC 0 1 2 3 4 5 6 7 k
noncomputable def HR (k j:IntKind):Bool:=Nat.beq (kc k) (kc j)
noncomputable def qj (k:IntKind):Nat:=OC 128 32768 2147483648 9223372036854775808 256 65536 4294967296 18446744073709551616 k
noncomputable def HS (k:IntKind):Nat:=OC 8 16 32 64 8 16 32 64 k
noncomputable def MR (k:IntKind):Bool:=OC true true true true false false false false k
noncomputable def qy (k:IntKind) (n:Int):Int:=
 Int.rec (motive:=fun _=>Int) (fun m=>bc (Nat.ble (qj k) m) (bc (MR k) (k.wrap (Int.ofNat m)) (Int.ofNat (Nat.mod m (qj k)))) (Int.ofNat m))
  (fun m=>bc (MR k) (bc (Nat.ble (qj k) m) (k.wrap (Int.negSucc m)) (Int.negSucc m)) (k.wrap (Int.negSucc m))) n
noncomputable def zM (a b:Int):Int:=jU (fun x=>jU (fun y=>Int.ofNat (Nat.add x y)) (Int.add a b) b) (Int.add a b) a
noncomputable def HU (a b:Int):Int:=jU (fun x=>jU (fun y=>bc (Nat.ble y x) (Int.ofNat (Nat.sub x y)) (Int.negSucc (Nat.sub (Nat.sub y x) 1))) (Int.sub a b) b) (Int.sub a b) a
noncomputable def HV (a b:Int):Int:=jU (fun x=>jU (fun y=>Int.ofNat (Nat.mul x y)) (Int.mul a b) b) (Int.mul a b) a
noncomputable def MS (a b:Int):Bool:=
 Int.rec (motive:=fun _=>Bool) (fun x=>Int.rec (motive:=fun _=>Bool) (fun y=>Nat.beq x y) (fun _=>false) b) (fun x=>Int.rec (motive:=fun _=>Bool) (fun _=>false) (fun y=>Nat.beq x y) b) a
noncomputable def KW (a b:Int):Bool:=
 Int.rec (motive:=fun _=>Bool) (fun x=>Int.rec (motive:=fun _=>Bool) (fun y=>Nat.ble (Nat.add x 1) y) (fun _=>false) b) (fun x=>Int.rec (motive:=fun _=>Bool) (fun _=>true) (fun y=>Nat.ble (Nat.add y 1) x) b) a
noncomputable def qV (b:Bool):Bool:=bc b false true
noncomputable def KX (op:BinOp):IntKind→Int→Int→Option AV:=match op with
 | .add=>fun k a b=>some (.int k (qy k (zM a b)))
 | .sub=>fun k a b=>some (.int k (qy k (HU a b)))
 | .mul=>fun k a b=>some (.int k (qy k (HV a b)))
 | .eql=>fun _ a b=>some (.bool (MS a b))
 | .neq=>fun _ a b=>some (.bool (qV (MS a b)))
 | .lss=>fun _ a b=>some (.bool (KW a b))
 | .leq=>fun _ a b=>some (.bool (qV (KW b a)))
 | .gtr=>fun _ a b=>some (.bool (KW b a))
 | .geq=>fun _ a b=>some (.bool (qV (KW a b)))
 | .quo=>fun k a b=>jU (fun x=>jU (fun y=>bc (Nat.beq y 0) none (some (.int k (qy k (Int.ofNat (Nat.div x y)))))) (cG .quo k a b) b) (cG .quo k a b) a
 | .rem=>fun k a b=>jU (fun x=>jU (fun y=>bc (Nat.beq y 0) none (some (.int k (Int.ofNat (Nat.mod x y))))) (cG .rem k a b) b) (cG .rem k a b) a
 | .and=>fun k a b=>jU (fun x=>jU (fun y=>bc (Nat.ble (qj k) x) (cG .and k a b) (bc (Nat.ble (qj k) y) (cG .and k a b) (some (.int k (Int.ofNat (Nat.land x y)))))) (cG .and k a b) b) (cG .and k a b) a
 | .or=>fun k a b=>jU (fun x=>jU (fun y=>bc (Nat.ble (qj k) x) (cG .or k a b) (bc (Nat.ble (qj k) y) (cG .or k a b) (some (.int k (Int.ofNat (Nat.lor x y)))))) (cG .or k a b) b) (cG .or k a b) a
 | op=>fun k a b=>cG op k a b
noncomputable def HW (k:IntKind) (y:Nat):Nat:=bc (Nat.ble (HS k) y) (HS k) y
noncomputable def Rn (k:IntKind) (a b:Int):Option AV:=jU (fun y=>some (.int k (qy k (HV a (Int.ofNat (Nat.pow 2 (HW k y))))))) none b
noncomputable def Ro (k:IntKind) (a b:Int):Option AV:=jU (fun y=>some (.int k (jU (fun x=>Int.ofNat (Nat.div x (Nat.pow 2 (HW k y)))) (a.fdiv (2^(min y k.bits))) a))) none b
section
variable {α:Type}
noncomputable def gJ (l:List α):Nat:=List.rec (motive:=fun _=>Nat) 0 (fun _ _ ih=>Nat.add ih 1) l
noncomputable def gK (l:List α):Nat→Option α:=List.rec (motive:=fun _=>Nat→Option α) (fun _=>none) (fun v _ ih o=>bc (Nat.beq o 0) (some v) (ih (Nat.sub o 1))) l
noncomputable def pn (l:List α):Nat→List α:=List.rec (motive:=fun _=>Nat→List α) (fun _=> []) (fun v tl ih o=>bc (Nat.beq o 0) (v::tl) (ih (Nat.sub o 1))) l
noncomputable def po (l:List α):Nat→List α:=List.rec (motive:=fun _=>Nat→List α) (fun _=> []) (fun v _ ih o=>bc (Nat.beq o 0) [] (v::ih (Nat.sub o 1))) l
noncomputable def jk (l m:List α):List α:=List.rec (motive:=fun _=>List α) m (fun v _ ih=>v::ih) l
noncomputable def tw (f:α→Bool) (l:List α):Bool:=List.rec (motive:=fun _=>Bool) true (fun v _ ih=>bc (f v) ih false) l
noncomputable def Bi (vs:List α):List α→List α:=
 List.rec (motive:=fun _=>List α→List α) (fun cs=>cs) (fun v _ ih cs=>List.rec (motive:=fun _=>List α) [] (fun _ tl _=>v::ih tl) cs) vs
noncomputable def Bj (vs cs:List α):Nat→List α:=
 List.rec (motive:=fun _=>Nat→List α) (fun _=> []) (fun c tl ih o=>bc (Nat.beq o 0) (Bi vs (c::tl)) (c::ih (Nat.sub o 1))) cs
noncomputable def leq (f:α→α→Bool) (l:List α):List α→Bool:=
 List.rec (motive:=fun _=>List α→Bool) (fun m=>List.rec (motive:=fun _=>Bool) true (fun _ _ _=>false) m)
  (fun x _ ih m=>List.rec (motive:=fun _=>Bool) false (fun y tl _=>bc (f x y) (ih tl) false) m) l
end
noncomputable def vP (a b:UInt8):Bool:=Nat.beq a.toBitVec.toFin.val b.toBitVec.toFin.val
noncomputable def KY (v:AV):Bool:=tu (fun _=>false) (fun _=>false) true v
noncomputable def jv (v:AV):List AV:=tu (fun cs=>cs) (fun _=> [v]) [v] v
end Go.Ab.Fa
end
section
namespace Go.Ab.Fa
section
variable {α β:Type}
noncomputable def uO (l:List Nat) (x:Nat):Bool:=List.rec (motive:=fun _=>Bool) false (fun y _ ih=>bc (Nat.beq x y) true ih) l
noncomputable def OD (f:α→Bool) (l:List α):Bool:=List.rec (motive:=fun _=>Bool) false (fun v _ ih=>bc (f v) true ih) l
noncomputable def allI (f:α→Nat→Bool) (l:List α) (i:Nat):Bool:=List.rec (motive:=fun _=>Nat→Bool) (fun _=>true) (fun v _ ih i=>bc (f v i) (canon (Nat.add i 1) ih) false) l i
noncomputable def Bk (f:α→Nat→Bool) (l:List α) (i:Nat):List Nat:=List.rec (motive:=fun _=>Nat→List Nat) (fun _=> []) (fun v _ ih i=>bc (f v i) (i::canon (Nat.add i 1) ih) (canon (Nat.add i 1) ih)) l i
noncomputable def zO (f:α→Bool) (l:List α):Nat:=List.rec (motive:=fun _=>Nat) 0 (fun v _ ih=>bc (f v) (Nat.add ih 1) ih) l
noncomputable def C2 (f:α→Bool) (l:List α):Nat:=List.rec (motive:=fun _=>Nat) 0 (fun v _ ih=>bc (f v) (Nat.add ih 1) 0) l
noncomputable def vQ (l:List α) (i:Nat) (d:α):α:=ob d (fun x=>x) (gK l i)
noncomputable def mO (l:List α):(List α→β)→β:=List.rec (motive:=fun _=>(List α→β)→β) (fun k=>k []) (fun x _ ih k=>ih fun tl=>k (x::tl)) l
theorem tx (l:List α) (k:List α→β):mO l k=k l:=by
 induction l generalizing k with
 | nil=>rfl
 | cons y tl ih=>show mO tl (fun tl=>k (y::tl))=_;rw[ih]
noncomputable def C3 (l:List α) (k:List α→β):β:=List.rec (motive:=fun _=>β) (k []) (fun x tl _=>k (x::tl)) l
theorem Fx (l:List α) (k:List α→β):C3 l k=k l:=by cases l<;>rfl
noncomputable def zP (f:List β→α→List β) (l:List α) (b:List β):List β:=List.rec (motive:=fun _=>List β→List β) (fun b=>b) (fun v _ ih b=>C3 (f b v) ih) l b
theorem yx (f:List β→α→List β) (l:List α) (b:List β):zP f l b=l.foldl f b:=by
 induction l generalizing b with
 | nil=>rfl
 | cons y tl ih=>show C3 (f b y) (zP f tl)=_;rw[Fx,ih];rfl
theorem pq (b:Bool) (x y:α):bc b x y=bif b then x else y:=by cases b<;>rfl
theorem uP (x y:Nat):(x==y)=Nat.beq x y:=by
 cases h:Nat.beq x y
 · rw[beq_eq_false_iff_ne];intro e;subst e;rw[Nat.beq_refl] at h;exact absurd h (by simp)
 · rw[Nat.eq_of_beq_eq_true h];simp
theorem p6 (l:List Nat) (x:Nat):uO l x=l.contains x:=by
 induction l with
 | nil=>rfl
 | cons y tl ih=>
   show bc (Nat.beq x y) true (uO tl x)=_
   rw[ih,pq,List.contains_cons,uP]
   cases Nat.beq x y<;>rfl
theorem KZ (f:α→Bool) (l:List α):OD f l=l.any f:=by
 induction l with
 | nil=>rfl
 | cons y tl ih=>show bc (f y) true (OD f tl)=_;rw[ih,pq,List.any_cons];cases f y<;>rfl
theorem nX (f:α→Bool) (l:List α):tw f l=l.all f:=by
 induction l with
 | nil=>rfl
 | cons y tl ih=>show bc (f y) (tw f tl) false=_;rw[ih,pq,List.all_cons];cases f y<;>rfl
theorem zQ (f:α→Nat→Bool) (l:List α) (i:Nat):allI f l i=(l.zipIdx i).all fun p=>f p.1 p.2:=by
 induction l generalizing i with
 | nil=>rfl
 | cons y tl ih=>show bc (f y i) (canon (i+1) (allI f tl)) false=_;rw[jo,ih,pq,List.zipIdx_cons,List.all_cons];cases f y i<;>rfl
theorem Bl (f:α→Nat→Bool) (l:List α) (i:Nat):Bk f l i=((l.zipIdx i).filter fun p=>f p.1 p.2).map (·.2):=by
 induction l generalizing i with
 | nil=>rfl
 | cons y tl ih=>
   show bc (f y i) (i::canon (i+1) (Bk f tl)) (canon (i+1) (Bk f tl))=_
   rw[jo,ih,pq,List.zipIdx_cons,List.filter_cons];cases f y i<;>simp
theorem Fy (f:α→Bool) (l:List α):zO f l=(l.filter f).length:=by
 induction l with
 | nil=>rfl
 | cons y tl ih=>show bc (f y) (zO f tl+1) (zO f tl)=_;rw[ih,pq,List.filter_cons];cases f y<;>simp
theorem Fz (f:α→Bool) (l:List α):C2 f l=(l.takeWhile f).length:=by
 induction l with
 | nil=>rfl
 | cons y tl ih=>show bc (f y) (C2 f tl+1) 0=_;rw[ih,pq,List.takeWhile_cons];cases f y<;>simp
theorem ft (l:List α) (i:Nat):gK l i=l[i]? :=by
 induction l generalizing i with
 | nil=>rfl
 | cons y tl ih=>
   show bc (Nat.beq i 0) (some y) (gK tl (i - 1))=_
   rw[ih,pq]
   cases i with
   | zero=>rfl
   | succ i=>rw[show Nat.beq (i+1) 0=false from rfl];simp
theorem rU (l:List α) (i:Nat) (d:α):vQ l i d=l.getD i d:=by
 unfold vQ;rw[ft,List.getD_eq_getElem?_getD];cases l[i]? <;>rfl
theorem eA (l:List α):gJ l=l.length:=by
 induction l with
 | nil=>rfl
 | cons y tl ih=>show gJ tl+1=_;rw[ih];rfl
theorem lA (l m:List α):jk l m=l++m:=by
 induction l with
 | nil=>rfl
 | cons y tl ih=>show y::jk tl m=_;rw[ih];rfl
end
noncomputable def ue (p:Program) (t:TypeId):Option TypeInfo:=ob (p.info? t) (fun i=>some i) (gK p.types.toList t)
noncomputable def MT (i:TypeInfo) (p:Program):Option TypeDesc:=TypeDesc.rec (motive:=fun _=>Option TypeDesc) (some i.desc) (some i.desc) (fun _=>some i.desc) (fun _=>some i.desc) (fun _=>some i.desc) (some i.desc) (some i.desc)
 (fun _=>some i.desc) (fun _=>some i.desc) (fun _ _=>some i.desc) (fun _ _=>some i.desc) (fun _ _=>some i.desc) (fun _=>some i.desc) (fun _ _ _=>some i.desc) (fun _=>some i.desc) (fun _=>some i.desc)
 (fun _ u=>ob none (fun j=>some j.desc) (ue p u)) i.desc
noncomputable def h_ (p:Program) (t:TypeId):Option TypeDesc:=ob none (fun i=>MT i p) (ue p t)
theorem pr (p:Program) (t:TypeId):ue p t=p.info? t:=by
 unfold ue;rw[ft,Array.getElem?_toList]
 cases h:p.types[t]? with
 | none=>rfl
 | some i=>
   show some i=p.info? t
   unfold Tables.info?
   obtain ⟨jT,_⟩:=Array.getElem?_eq_some_iff.mp h
   rw[if_pos jT,h]
theorem gB (p:Program) (t:TypeId):h_ p t=p.underlying t:=by
 unfold h_ Program.underlying
 rw[pr]
 cases p.info? t with
 | none=>rfl
 | some i=>
   show MT i p=_
   obtain ⟨d,_⟩:=i
   cases d with
   | named a u=>show ob none (fun j=>some j.desc) (ue p u)=Option.map (fun x=>x.desc) (p.info? u);rw[pr];cases p.info? u<;>rfl
   | _=>rfl
noncomputable def OE (p:Program) (f:FuncId):Option Func:=gK p.funcs.toList f
theorem K0 (p:Program) (f:FuncId):OE p f=p.funcs[f]? :=by
 unfold OE;rw[ft];exact Array.getElem?_toList
variable (E:Env)
noncomputable def ni (op:Op):Bool:=match op with
 | .store .. | .mapUpdate .. | .insert .. | .next .. | .panic _ | .defer _=>true
 | .convert _ dst _=>match h_ E.P dst with
   | some (.slice _)=>true
   | _=>false
 | .call c=>match c.callee with
   | .builtin .len | .builtin .cap | .builtin .max | .builtin .min=>false
   | .builtin _=>true
   | .value (.func f)=>match E.km f with
     | none=>true
     | some _=>false
   | _=>true
 | _=>false
theorem pt (op:Op):ni E op=eg E op:=by
 unfold ni eg
 cases op<;>try rfl
 · simp only[gB]
   rename_i dst _
   generalize E.P.underlying dst=u
   cases u with
   | none=>rfl
   | some d=>cases d<;>rfl
 · rename_i c
   rcases c with ⟨dH,a,t⟩
   cases dH with
   | value x=>
     cases x with
     | func f=>simp only;cases E.km f<;>rfl
     | _=>rfl
   | builtin b=>cases b<;>rfl
   | _=>rfl
noncomputable def MU (g:Ground):Bool:=Ground.rec (motive:=fun _=>Bool) true true true true (fun _=>false) (fun _=>false) g
noncomputable def qW (o:Oper):List Nat:=List.rec (motive:=fun _=>List Nat) [] (fun e _ ih=>bc (MU e.ground) (e.on::ih) ih) o.after.toList
theorem yA (o:Oper):qW o=iT o:=by
 unfold qW iT
 induction o.after.toList with
 | nil=>rfl
 | cons e tl ih=>
   show bc (MU e.ground) (e.on::_) _=_
   rw[ih,List.filter_cons]
   obtain ⟨on,g⟩:=e
   cases g<;>rfl
noncomputable def K1 (l:List Nat) (x:Nat):List Nat:=bc (uO l x) l (x::l)
noncomputable def D8 (acc:List (List Nat)) (es:List Nat):List Nat:=zP (fun l e=>zP K1 (vQ acc e []) (K1 l e)) es []
noncomputable def HX (l:List Oper):List (List Nat)→List (List Nat):=List.rec (motive:=fun _=>List (List Nat)→List (List Nat)) (fun acc=>acc) (fun o _ ih acc=>mO (D8 acc (qW o)) fun a=>mO (jk acc [a]) ih) l
theorem D9 (l:List Nat) (x:Nat):K1 l x=if l.contains x then l else x::l:=by
 unfold K1;rw[p6,pq];cases l.contains x<;>rfl
theorem HY (acc:List (List Nat)) (o:Oper):D8 acc (qW o)=(iT o).foldl (fun l e=>(acc.getD e []).foldl (fun l x=>if l.contains x then l else x::l) (if l.contains e then l else e::l)) []:=by
 unfold D8
 rw[yx,yA]
 congr 1
 funext l e
 rw[yx,rU,D9]
 congr 1
 funext l x
 exact D9 l x
theorem Bm:∀(l:List Oper) (acc:List (List Nat)),HX l acc=AK l acc
 | [],_=>rfl
 | o::rest,acc=>by
   show mO (D8 acc (qW o)) (fun a=>mO (jk acc [a]) (HX rest))=_
   rw[tx,tx,Bm rest,lA,HY];rfl
noncomputable def l6 (an:List (List Nat)) (i j:Nat):Bool:=uO (vQ an i []) j
theorem nj (an:List (List Nat)) (i j:Nat):l6 an i j=cN an i j:=by
 unfold l6 cN AL;rw[p6,rU]
noncomputable def vR (ops:List Oper) (an:List (List Nat)):Bool:=
 allI (fun o i=>bc (tw (fun e=>bc (Nat.ble (Nat.add e 1) i) (l6 an i e) false) (qW o)) (tw (fun j=>bc (Nat.ble (Nat.add j 1) i) (OD (fun e=>bc (Nat.beq e j) true (l6 an e j)) (qW o)) false) (vQ an i [])) false) ops 0
theorem p_ (a b:Nat):decide (a<b)=Nat.ble (a+1) b:=by
 by_cases h:a<b
 · rw[decide_eq_true h,Nat.ble_eq_true_of_le h]
 · rw[decide_eq_false h];symm;rw[Bool.eq_false_iff];intro e;exact h (Nat.le_of_ble_eq_true e)
theorem l7 (a b:Bool):bc a b false=(a&&b):=by cases a<;>rfl
theorem MV (a b:Bool):bc a true b=(a||b):=by cases a<;>rfl
theorem Bn (ops:List Oper) (an:List (List Nat)):vR ops an=u_ ops an:=by
 unfold vR u_
 rw[zQ]
 congr 1
 funext ⟨o,i⟩
 simp only[l7,MV,nX,KZ,rU,yA,nj,p_,uP]
 rfl
noncomputable def OF (l:List Operand):List Nat:=List.rec (motive:=fun _=>List Nat) [] (fun x _ ih=>Operand.rec (motive:=fun _=>List Nat) (fun t=>t::ih) (fun _=>ih) (fun _=>ih) (fun _=>ih) x) l
theorem K2 (l:List Operand):OF l=l.filterMap fun | .tmp t=>some t | _=>none:=by
 induction l with
 | nil=>rfl
 | cons x tl ih=>
   cases x<;>simp only[List.filterMap_cons,←ih]<;>rfl
noncomputable def TO (op:Op):List Operand:=match op with
 | .move x | .assign x | .box _ x | .load _ x | .nilCheck x | .unOp _ _ x | .convert _ _ x | .fieldAddr _ x _ | .field _ x _ | .extract x _=> [x]
 | .pick c a b=> [c,a,b]
 | .store _ a v | .binOp _ _ a v _ | .indexAddr _ a v | .index _ a v=> [a,v]
 | .alloc _=> []
 | .call c=>jk (match c.callee with | .value f=> [f] | .invoke r _=> [r] | .builtin _=> []) c.args.toList
 | op=>op.operands.toList
theorem OG (op:Op):TO op=op.operands.toList:=by
 cases op<;>try rfl
 rename_i c
 obtain ⟨dH,a,t⟩:=c
 cases dH<;>simp [TO,Op.operands,Call.operands,lA]
noncomputable def vS (ops:List Oper) (an:List (List Nat)):Bool:=
 allI (fun o i=>bc (ob true (fun g=>bc (l6 an i g.1) (ob false (fun p=>ob false (fun _=>true) p.dst) (gK ops g.1)) false) o.guard)
  (allI (fun p j=>bc (Nat.beq i j) true (ob true (fun d=>bc (ob true (fun a=>qV (Nat.beq a d)) o.dst) (bc (uO (OF (TO o.op)) d) (bc (l6 an i j) true (l6 an j i)) true) false) p.dst)) ops 0) false) ops 0
theorem Bo (ops:List Oper) (an:List (List Nat)):vS ops an=va ops an:=by
 unfold vS va
 rw[zQ]
 congr 1
 funext ⟨o,i⟩
 simp only[l7,MV,nj]
 congr 1
 · obtain ⟨dst,op,ty,pos,after,guard⟩:=o
   cases guard with
   | none=>rfl
   | some g=>
     show (cN an i g.1&&ob false (fun p=>ob false (fun _=>true) p.dst) (gK ops g.1))=_
     rw[ft]
     congr 1
     cases ops[g.1]? with
     | none=>rfl
     | some p=>
       show ob false (fun _=>true) p.dst=(p.dst).isSome
       cases p.dst<;>rfl
 · rw[zQ]
   congr 1
   funext ⟨p,j⟩
   show (Nat.beq i j||_)=(i==j||_)
   rw[uP]
   congr 1
   obtain ⟨dst,op,ty,pos,after,guard⟩:=p
   cases dst with
   | none=>rfl
   | some d=>
     show (ob true (fun a=>qV (Nat.beq a d)) o.dst&&bc (uO (OF (TO o.op)) d) (cN an i j||cN an j i) true)=(o.dst !=some d&&(!(tmpsOf o).contains d||cN an i j||cN an j i))
     congr 1
     · cases o.dst with
       | none=>rfl
       | some a=>
         show qV (Nat.beq a d)= !(some a==some d)
         rw[Option.some_beq_some,uP]
         cases Nat.beq a d<;>rfl
     · rw[p6,K2,OG,Bool.or_assoc]
       show bc ((tmpsOf o).contains d) _ _=_
       cases (tmpsOf o).contains d<;>rfl
noncomputable def C4 (an:List (List Nat)) (l:List Nat):Bool:=List.rec (motive:=fun _=>Bool) true (fun e rest ih=>List.rec (motive:=fun _=>Bool) true (fun f _ _=>bc (l6 an f e) ih false) rest) l
theorem yB (an:List (List Nat)):∀l,C4 an l=pR an l
 | []=>rfl
 | [e]=>rfl
 | e::f::rest=>by
   show bc (l6 an f e) (C4 an (f::rest)) false=_
   rw[yB an (f::rest),nj,l7];rfl
noncomputable def HZ (ops:List Oper):List Nat:=Bk (fun o _=>ni E o.op) ops 0
theorem H0 (ops:List Oper):HZ E ops=kP E ops:=by
 unfold HZ kP;rw[Bl];simp only[pt]
noncomputable def yC (bA:List Nat) (an:List (List Nat)) (i:Nat):Nat:=zO (fun e=>l6 an i e) bA
theorem Bp (bA:List Nat) (an:List (List Nat)) (i:Nat):yC bA an i=zl bA an i:=by
 unfold yC zl;rw[Fy];simp only[nj]
noncomputable def zR (ops:List Oper) (bA:List Nat) (an:List (List Nat)) (k:Nat):List Nat:=
 jk (Bk (fun o i=>bc (ni E o.op) false (Nat.beq (yC bA an i) k)) ops 0) (ob [] (fun x=> [x]) (gK bA k))
theorem FA (ops:List Oper) (bA:List Nat) (an:List (List Nat)) (k:Nat):zR E ops bA an k=group E ops bA an k:=by
 unfold zR group
 rw[lA,Bl,ft]
 congr 1
 · congr 1
   congr 1
   funext ⟨o,i⟩
   show bc (ni E o.op) false (Nat.beq (yC bA an i) k)=(!eg E o.op&&(zl bA an i==k))
   rw[pt,Bp,uP];cases eg E o.op<;>rfl
 · cases bA[k]? <;>rfl
noncomputable def zS (ops:List Oper) (bA:List Nat) (an:List (List Nat)) (n:Nat):Nat→List Nat:=
 Nat.rec (motive:=fun _=>Nat→List Nat) (fun _=> []) (fun _ ih k=>jk (zR E ops bA an k) (canon (Nat.add k 1) ih)) n
theorem vT (ops:List Oper) (bA:List Nat) (an:List (List Nat)):∀n k,zS E ops bA an n k=lO E ops bA an n k
 | 0,_=>rfl
 | n+1,k=>by
   show jk (zR E ops bA an k) (canon (k+1) (zS E ops bA an n))=_
   rw[jo,vT ops bA an n,lA,FA];rfl
noncomputable def vb (bA:List Nat) (an:List (List Nat)) (i:Nat):Nat:=C2 (fun e=>qV (l6 an e i)) bA
theorem C5 (bA:List Nat) (an:List (List Nat)) (i:Nat):vb bA an i=iv bA an i:=by
 unfold vb iv;rw[Fz];congr 2;funext e;rw[nj];cases cN an e i<;>rfl
noncomputable def C6 (n:Nat):List Nat→List Nat:=Nat.rec (motive:=fun _=>List Nat→List Nat) (fun l=>l) (fun m ih l=>ih (m::l)) n
theorem yD:∀n l,C6 n l=List.range.loop n l
 | 0,_=>rfl
 | n+1,l=>yD n (n::l)
noncomputable def zT (ops:List Oper) (an:List (List Nat)) (bA:List Nat) (l:List Nat):List Nat→Nat→Bool:=
 List.rec (motive:=fun _=>List Nat→Nat→Bool) (fun seen k=>bc (tw (fun i=>uO seen i) (C6 (gJ ops) [])) (Nat.beq k (gJ bA)) false)
  (fun i _ ih seen k=>bc (Nat.ble (Nat.add i 1) (gJ ops)) (bc (uO seen i) false (bc (tw (fun j=>uO seen j) (vQ an i []))
   (bc (ob (ni E (default:Oper).op) (fun o=>ni E o.op) (gK ops i)) (bc (ob false (fun e=>Nat.beq e i) (gK bA k)) (canon (Nat.add k 1) (ih (i::seen))) false)
    (bc (Nat.beq (yC bA an i) k) (ih (i::seen) k) false)) false)) false) l
theorem tz (ops:Array Oper) (an:List (List Nat)) (bA:List Nat):∀l seen k,zT E ops.toList an bA l seen k=iU E ops an bA l seen k
 | [],seen,k=>by
   show bc (tw (fun i=>uO seen i) (C6 (gJ ops.toList) [])) (Nat.beq k (gJ bA)) false=_
   rw[l7,nX,yD,eA,eA]
   simp only[p6]
   unfold iU
   rw[uP,Array.length_toList]
   rfl
 | i::rest,seen,k=>by
   show bc (Nat.ble (i+1) (gJ ops.toList)) (bc (uO seen i) false (bc (tw (fun j=>uO seen j) (vQ an i []))
    (bc (ob (ni E (default:Oper).op) (fun o=>ni E o.op) (gK ops.toList i)) (bc (ob false (fun e=>Nat.beq e i) (gK bA k)) (canon (k+1) (zT E ops.toList an bA rest (i::seen))) false)
     (bc (Nat.beq (yC bA an i) k) (zT E ops.toList an bA rest (i::seen) k) false)) false)) false=_
   rw[jo,tz ops an bA rest,tz ops an bA rest,nX,rU,p6,Bp,eA]
   simp only[p6]
   rw[show ob (ni E (default:Oper).op) (fun o=>ni E o.op) (gK ops.toList i)=eg E ((ops.getD i default).op) by
    rw[ft,pt]
    rw[show ops.getD i default=(ops.toList[i]?).getD default by rw[Array.getElem?_toList,Array.getD_eq_getD_getElem?]]
    cases ops.toList[i]? with
    | none=>rfl
    | some o=>exact pt E o.op]
   rw[show ob false (fun e=>Nat.beq e i) (gK bA k)=(bA[k]? ==some i) by rw[ft];cases bA[k]? with
    | none=>rfl
    | some e=>rw[Option.some_beq_some,uP];rfl]
   rw[iU,p_]
   simp only[l7]
   rw[←uP (zl bA an i) k,show ops.toList.length=ops.size from Array.length_toList]
   rw[pq,pq]
   show (Nat.ble (i+1) ops.size&&(bif List.contains seen i then false else _))=_
   unfold AL
   cases Nat.ble (i+1) ops.size<;>cases List.contains seen i<;>cases (an.getD i []).all (fun j=>List.contains seen j)<;>cases eg E ((ops.getD i default).op)<;>rfl
noncomputable def TP (x:Nat) (l:List Nat):Bool:=List.rec (motive:=fun _=>Bool) true (fun y _ ih=>bc (Nat.beq x y) false ih) l
noncomputable def zU (l:List Nat):Bool:=List.rec (motive:=fun _=>Bool) true (fun x tl ih=>bc (TP x tl) ih false) l
theorem OH (x:Nat) (l:List Nat):TP x l= !l.contains x:=by
 induction l with
 | nil=>rfl
 | cons y tl ih=>
   show bc (Nat.beq x y) false (TP x tl)=_
   rw[ih,List.contains_cons,uP]
   cases Nat.beq x y<;>rfl
theorem tA:∀l,zU l=nodup l
 | []=>rfl
 | x::tl=>by
   show bc (TP x tl) (zU tl) false=_
   rw[tA tl,OH,l7];rfl
noncomputable def H2 {R:Type} (ops:Array Oper) (k:jZ→R) (d:R):R:=
 mO ops.toList fun l=>mO (HX l []) fun an=>mO (HZ E l) fun bA=>mO (zS E l bA an (Nat.add (gJ bA) 1) 0) fun order=>
 bc (vR l an) (bc (vS l an) (bc (C4 an bA) (bc (zU bA) (bc (zT E l an bA order [] 0) (k ⟨an,bA,order⟩) d) d) d) d) d
theorem H4 {R:Type} (ops:Array Oper) (k:jZ→R) (d:R):H2 E ops k d=match oV E ops with | some pl=>k pl | none=>d:=by
 unfold H2 oV
 simp only[tx,Bm,H0,vT,Bn,Bo,yB,tA,tz,eA]
 generalize u_ ops.toList (AK ops.toList [])=a
 generalize va ops.toList (AK ops.toList [])=b
 generalize pR (AK ops.toList []) (kP E ops.toList)=c
 generalize nodup (kP E ops.toList)=e
 show bc a (bc b (bc c (bc e (bc (iU E ops _ _ (lO E ops.toList _ _ ((kP E ops.toList).length+1) 0) [] 0) _ d) d) d) d) d=_
 generalize iU E ops (AK ops.toList []) (kP E ops.toList) (lO E ops.toList (kP E ops.toList) (AK ops.toList []) ((kP E ops.toList).length+1) 0) [] 0=f
 cases a<;>cases b<;>cases c<;>cases e<;>cases f<;>rfl
end Go.Ab.Fa
end
