import Derived.Maps.Own
import Derived.Maps.Range
import Derived.Sort.KeysCollected
import GoSem.ClaimChange
import Derived.OpenShut
import Derived.FnData
import Derived.ChangeArms
import Derived.ChangeShapes
import Derived.ChangeStays
import Derived.ChangeBook
import Derived.ChangeOld
import Derived.ChangeAgain
import Derived.ChangeCalls
import Derived.Test.YtijehnelcbdlgaaGreatA3
set_option linter.unusedVariables false
set_option linter.unusedSimpArgs false
section
namespace Go.Ab
variable {E:Env}
theorem Bg (hE:ml E) {call:b8} (eK:kS E call) {ops:Array Oper}:∀{l:List Oper} {is:List Nat} (_:is.length=l.length) (_:∀(j i:Nat),is[j]? =some i→l[j]? =ops[i]?) {s s':St} {e:oP} (_:EB E call ops l s= .ok e s')
 {φ:Ph} {a:Act} {w:World} {b:Frame} {k:List Item} {K:Bool→List Frame} (_:SR φ s.ts s.ds a) (_:OK E φ s.h w) (_:ru φ b K s.rc),
 va E φ s.h w b K k (lone (b.atR a (.inRegion ops is::k)) (cur K s.rc) w) e s'
 | [],is,hl,hi,s,s',e,h,φ,a,w,b,k,K,hs,ok,jK=>by
  cases is with
  | cons _ _=>simp at hl
  | nil=>
   simp [EB] at h;obtain ⟨rfl,rfl⟩:=h
   exact ⟨φ,w,a,_,.normal,hs,ok,Fr.refl _ _ _,jK,.one stepR_region_end⟩
 | o::l,is,hl,hi,s,s',e,h,φ,a,w,b,k,K,hs,ok,jK=>by
  cases is with
  | nil=>simp at hl
  | cons i is=>
   have ho:ops[i]? =some o:=by have:=hi 0 i (by simp);simpa using this.symm
   have hl':is.length=l.length:=by simpa using hl
   have Qc:∀(j i':Nat),is[j]? =some i'→l[j]? =ops[i']? :=fun j i' hj=>by have:=hi (j+1) i' (by simpa using hj);simpa using this
   simp only[EB] at h
   have hwe:=Bb (ops:=ops) hs.ts o
   split at h
   · rename_i hw
     rw[←hwe] at hw
     split at h
     · rename_i s1 uU
       obtain ⟨φ1,w1,a1,e1,x1,x2,x3,x4,x5,x6⟩:=(Mg hE eK ho uU hs ok jK hw (rest:=is) (k:=k)).is
       cases x1
       exact ((Bg hE eK hl' Qc h x2 x3 x5).of_steps x6).later x4
     · rename_i gX
       obtain ⟨φ1,w1,a1,e1,x1,x2,x3,x4,x5,x6⟩:=(Mg hE eK ho h hs ok jK hw (rest:=is) (k:=k)).is
       cases x1 with
       | normal=>exact (gX _ h).elim
       | exit=>exact x6.elim
       | ret=>exact x6.elim
       | panic v v' hv=>exact ⟨φ1,w1,a1,_,.panic v v' hv,x2,x3,x4,x5,x6⟩
   · rename_i hw
     have uT:SR φ (gR s.ts o.dst AV.undef) s.ds (a.put o.dst undef):=hs.put o.dst (VR.undef φ)
     refine (Bg hE eK hl' Qc h uT ok jK).of_steps (.one ?_)
     have:=stepR_op_skip (P:=E.P) (b:=b) (a:=a) (k:=k) (cs:=cur K s.rc) (w:=w) (ops:=ops) (i:=i) (rest:=is) (by rw[ho];simp;rw[hwe];simpa using hw)
     rw[this,ho];rfl
set_option maxHeartbeats 1000000 in
theorem Bh (hE:ml E) {call:b8} (eK:kS E call):∀(n:Nat) (c:Code) {s s':St} {e:oP} (_:exec E call n c s= .ok e s')
 {φ:Ph} {a:Act} {w:World} {b:Frame} {k:List Item} {K:Bool→List Frame} (_:SR φ s.ts s.ds a) (_:OK E φ s.h w) (_:ru φ b K s.rc) (_:(E.P.funcs[b.fn]?).isSome=true),
 va E φ s.h w b K k (lone (b.atR a (.code c::k)) (cur K s.rc) w) e s'∧∀c',c= .loop c'→va E φ s.h w b K k (lone (b.atR a (.code c':: .inLoop c'::k)) (cur K s.rc) w) e s':=by
 intro n
 induction n with
 | zero=>intro c s s' e h;simp [exec] at h
 | succ n ih2=>
  have ih:∀(c:Code) {s s':St} {e:oP} (_:exec E call n c s= .ok e s')
   {φ:Ph} {a:Act} {w:World} {b:Frame} {k:List Item} {K:Bool→List Frame} (_:SR φ s.ts s.ds a) (_:OK E φ s.h w) (_:ru φ b K s.rc) (_:(E.P.funcs[b.fn]?).isSome=true),
   va E φ s.h w b K k (lone (b.atR a (.code c::k)) (cur K s.rc) w) e s':=fun c _ _ _ h _ _ _ _ _ _ hs ok jK K7=>(ih2 c h hs ok jK K7).1
  intro c s s' e h φ a w b k K hs ok jK K7
  have aih:∀c',c= .loop c'→va E φ s.h w b K k (lone (b.atR a (.code c':: .inLoop c'::k)) (cur K s.rc) w) e s':=by
   rintro c rfl
   simp only[exec] at h
   split at h
   · rename_i s1 h1
     obtain ⟨φ1,w1,a1,e1,x1,x2,x3,x4,x5,x6⟩:=(ih c h1 hs ok jK K7 (k:= .inLoop c::k)).is
     cases x1
     exact (((ih2 (.loop c) h x2 x3 x5 K7).2 c rfl).of_steps (Steps.trans x6 (.one stepR_inLoop))).later x4
   · rename_i gX
     obtain ⟨φ1,w1,a1,e1,x1,x2,x3,x4,x5,x6⟩:=(ih c h hs ok jK K7 (k:= .inLoop c::k)).is
     refine ⟨φ1,w1,a1,e1,x1,x2,x3,x4,x5,.pass (x:= .inLoop c) (fun _=>rfl) ?_ x6⟩
     cases x1 with
     | normal=>exact (gX _ h).elim
     | exit=>simp
     | ret=>simp
     | panic=>simp
  refine ⟨?_,aih⟩
  cases c with
  | skip=>simp [exec] at h;obtain ⟨rfl,rfl⟩:=h;exact ⟨φ,w,a,_,.normal,hs,ok,Fr.refl _ _ _,jK,.one stepR_skip⟩
  | label l=>simp [exec] at h;obtain ⟨rfl,rfl⟩:=h;exact ⟨φ,w,a,_,.normal,hs,ok,Fr.refl _ _ _,jK,.one stepR_label⟩
  | ret=>simp [exec] at h;obtain ⟨rfl,rfl⟩:=h;exact ⟨φ,w,a,_,.ret,hs,ok,Fr.refl _ _ _,jK,k,Steps.refl _ _⟩
  | exit id=>simp [exec] at h;obtain ⟨rfl,rfl⟩:=h;exact ⟨φ,w,a,_,.exit id,hs,ok,Fr.refl _ _ _,jK,k,rfl,Steps.refl _ _⟩
  | seq x y=>
   simp only[exec] at h
   split at h
   · rename_i s1 h1
     obtain ⟨φ1,w1,a1,e1,x1,x2,x3,x4,x5,x6⟩:=(ih x h1 hs ok jK K7 (k:= .code y::k)).is
     cases x1
     exact ((ih y h x2 x3 x5 K7).of_steps (.head stepR_seq x6)).later x4
   · rename_i gX
     obtain ⟨φ1,w1,a1,e1,x1,x2,x3,x4,x5,x6⟩:=(ih x h hs ok jK K7 (k:= .code y::k)).is
     refine ⟨φ1,w1,a1,e1,x1,x2,x3,x4,x5,.of_steps (.one stepR_seq) (.pass (x:= .code y) (fun _=>rfl) ?_ x6)⟩
     cases x1 with
     | normal=>exact (gX _ h).elim
     | exit=>simp
     | ret=>simp
     | panic=>simp
  | cond x y z=>
   simp only[exec] at h
   split at h
   · rename_i hx
     have h1:=rp ok.gl hs.ts hx
     generalize oD:a.eval x=cv at h1
     cases h1
     exact (ih y h hs ok jK K7).of_steps (.one (stepR_cond oD))
   · rename_i hx
     have h1:=rp ok.gl hs.ts hx
     generalize oD:a.eval x=cv at h1
     cases h1
     exact (ih z h hs ok jK K7).of_steps (.one (stepR_cond oD))
   · simp at h
  | block id c=>
   simp only[exec] at h
   split at h
   · rename_i id' s1 h1
     obtain ⟨φ1,w1,a1,e1,x1,x2,x3,x4,x5,x6⟩:=(ih c h1 hs ok jK K7 (k:= .inBlock id::k)).is
     cases x1
     split at h
     · rename_i hid
       simp at h;obtain ⟨rfl,rfl⟩:=h
       obtain ⟨todo,ht,lN⟩:=x6
       exact ⟨φ1,w1,a1,_,.normal,x2,x3,x4,x5,.head stepR_block (Steps.trans lN (.one (stepR_exit (by rw[ht];simp [exitTo,hid]))))⟩
     · rename_i hid
       simp at h;obtain ⟨rfl,rfl⟩:=h
       obtain ⟨todo,ht,lN⟩:=x6
       refine ⟨φ1,w1,a1,_,.exit id',x2,x3,x4,x5,todo,?_,.head stepR_block lN⟩
       have:(id==id')=false:=by simp;exact fun h=>hid h.symm
       rw[ht];simp [exitTo,this]
   · rename_i gX
     obtain ⟨φ1,w1,a1,e1,x1,x2,x3,x4,x5,x6⟩:=(ih c h hs ok jK K7 (k:= .inBlock id::k)).is
     cases x1 with
     | normal=>exact ⟨φ1,w1,a1,_,.normal,x2,x3,x4,x5,.head stepR_block (Steps.trans x6 (.one stepR_inBlock))⟩
     | exit id'=>exact (gX _ _ h).elim
     | ret=>exact ⟨φ1,w1,a1,_,.ret,x2,x3,x4,x5,.of_steps (e:= .ret) (k:=k) (.one stepR_block) x6⟩
     | panic v v' hv=>exact ⟨φ1,w1,a1,_,.panic v v' hv,x2,x3,x4,x5,.of_steps (e:= .panic _) (k:=k) (.one stepR_block) x6⟩
  | loop c=>exact (aih c rfl).of_steps (.one stepR_loop)
  | region id ops draw=>
   simp only[exec] at h
   cases draw with
   | false=>
    have uU:=Bg hE eK (ops:=ops) (l:=ops.toList) (is:=List.range ops.size) (by simp) (fun j i hj=>by
     have:=List.getElem?_eq_some_iff.1 hj
     obtain ⟨h1,h2⟩:=this
     simp at h1 h2;subst h2;simp) h hs ok jK (b:=b) (k:=k)
    exact uU.of_steps (.one stepR_region)
   | true=>
    obtain ⟨h1,h2,⟨rfl,φ',a',w',x1,x2,x3,x4,x5⟩ | ⟨v,rfl,hp⟩⟩:=QR hE hE.mixed eK h hs ok jK (b:=b) (k:=k) id
    · refine ⟨φ',w',a',_,.normal,⟨x1,by rw[h2,x2];exact hs.ds.mono x4.ext⟩,x3,x4,by rw[h1];exact jK.mono x4.ext,?_⟩
      rw[h1];exact x5
    · obtain ⟨φ',a',w',v',todo,x0,x1,x2,x3,x4,x5⟩:=hp.is
      refine ⟨φ',w',a',_,.panic v v' x0,⟨x1,by rw[h2,x2];exact hs.ds.mono x4.ext⟩,x3,x4,by rw[h1];exact jK.mono x4.ext,todo,?_⟩
      rw[h1];exact x5
  | rangeFunc f ps a1 b1=>
   simp only[exec] at h
   exact N6 eK h hs ok jK K7
  | scope c=>
   simp only[exec] at h
   have s1:∀{m},Steps E.P (lone (b.atR a (.code c:: .inScope c::k)) (cur K s.rc) w) m→Steps E.P (lone (b.atR a (.code (.scope c)::k)) (cur K s.rc) w) m:=fun q=> .head (step_lone_go (by simp [stepG,stepG.exec,Frame.atR])) q
   obtain ⟨φ1,w1,a1,e1,x1,x2,x3,x4,x5,x6⟩:=(ih c h hs ok jK K7 (k:= .inScope c::k)).is
   cases x1 with
   | normal=>exact ⟨φ1,w1,a1,_,.normal,x2,x3,x4,x5,s1 (Steps.trans x6 (.one (step_lone_go (by simp [stepG,stepG.exec,Frame.atR]))))⟩
   | exit id'=>exact ⟨φ1,w1,a1,_,.exit id',x2,x3,x4,x5,.of_steps (e:= .exit id') (k:=k) (s1 (Steps.refl _ _)) (.pass (x:= .inScope c) (fun _=>rfl) (by simp) x6)⟩
   | ret=>exact ⟨φ1,w1,a1,_,.ret,x2,x3,x4,x5,.of_steps (e:= .ret) (k:=k) (s1 (Steps.refl _ _)) (.pass (x:= .inScope c) (fun _=>rfl) (by simp) x6)⟩
   | panic v v' hv=>exact ⟨φ1,w1,a1,_,.panic v v' hv,x2,x3,x4,x5,.of_steps (e:= .panic _) (k:=k) (s1 (Steps.refl _ _)) (.pass (x:= .inScope c) (fun _=>rfl) (by simp) x6)⟩
  | goto l=>simp [exec] at h
  | refuse yd=>simp [exec] at h
end Go.Ab
end
section
namespace Go.Ab
variable {E:Env}
theorem QU {φ:Ph} {h:az} {w:World} (ok:OK E φ h w) {ts:List AV} {tmps:Array Value} (ht:LR φ ts tmps.toList):∀{l:List ResultVar} {vs:List AV} (_:xN E h ts l=some vs),
 ∃yk,LR φ vs yk∧(l.mapM (fun | .tmp t=>pure (tmps.getD t undef) | .cell a t=>do loadVar t (←asAddr (tmps.getD a undef)):ResultVar→Sem Value)).run E.P w= .ok yk w
 | [],vs,h=>by simp [xN] at h;subst h;exact ⟨[],LR.nil φ,rfl⟩
 | r::rest,vs,h=>by
  have jU:∀t,VR φ (ts.getD t AV.undef) (tmps.getD t undef):=fun t=>by
   have:=ht.getD (VR.undef φ) t
   rw[show tmps.getD t undef=tmps.toList.getD t undef by simp [Array.getD_eq_getD_getElem?,List.getD]]
   exact this
  simp only[xN] at h
  split at h
  · simp at h
  · rename_i v hv
    split at h
    · simp at h
    · rename_i vs0 Qu
      simp at h;subst h
      obtain ⟨yk,hl,hr⟩:=QU ok ht Qu
      cases r with
      | tmp t=>
       simp at hv;subst hv
       refine ⟨tmps.getD t undef::yk,.cons (by simpa using jU t) hl,?_⟩
       simp only[List.mapM_cons,Sem.run_bind,Sem.run_pure,Result.andThen_ok,hr]
      | cell ad t=>
       simp only at hv
       obtain ⟨x',hx,jP⟩:=Md ok (jU ad) hv
       refine ⟨x'::yk,.cons hx hl,?_⟩
       have hr0:=jP w rfl
       have:(do loadVar t (←asAddr (tmps.getD ad undef)):Sem Value).run E.P w= .ok x' w:=by
        have hv2:=jU ad
        unfold cX at hv
        split at hv
        · rename_i i o heq
          rw[heq] at hv2
          generalize hq:tmps.getD ad undef=q at hv2 hr0
          cases hv2
          simpa [Instr.loadAt,Instr.sureAddr,asAddr] using hr0
        · simp at hv
       simp only[List.mapM_cons]
       rw[Sem.run_bind,this]
       simp only[Sem.run_bind,Sem.run_pure,Result.andThen_ok,hr]
theorem Gh {φ:Ph} {h:az} {w:World} (ok:OK E φ h w) {ts:List AV} {tmps:Array Value} (ht:LR φ ts tmps.toList) {fn:Func} {vs:List AV} (hv:xN E h ts fn.results.toList=some vs):
 ∃v',VR φ (vW vs) v'∧(results fn tmps).run E.P w= .ok v' w:=by
 obtain ⟨yk,hl,hr⟩:=QU ok ht hv
 have hm:(fn.results.mapM (fun | .tmp t=>pure (tmps.getD t undef) | .cell a t=>do loadVar t (←asAddr (tmps.getD a undef)):ResultVar→Sem Value)).run E.P w= .ok yk.toArray w:=by
  rw[Array.mapM_eq_mapM_toList]
  show Sem.run E.P (Functor.map List.toArray (_:Sem (List Value))) w=_
  rw[Sem.run_map]
  refine (congrArg (fun r=>Result.andThen r _) hr).trans ?_
  rfl
 refine ⟨if h:yk.toArray.size=1 then yk.toArray[0] else .tuple yk.toArray,?_,?_⟩
 · cases vs with
   | nil=>rw[hl.jJ];exact VR.tuple' (LR.nil φ)
   | cons v vs=>
    obtain ⟨y,ys,rfl,hy,Af⟩:=hl.dp
    cases vs with
    | nil=>rw[Af.jJ];simpa [vW] using hy
    | cons v2 vs2=>
     obtain ⟨y2,ys2,rfl,hy2,arh⟩:=Af.dp
     have:¬(y::y2::ys2).toArray.size=1:=by simp
     rw[dif_neg this]
     exact VR.tuple' (.cons hy (.cons hy2 arh))
 · unfold results
   rw[Sem.run_bind]
   refine (congrArg (fun r=>Result.andThen r _) hm).trans ?_
   rfl
def bare (f:FuncId) (kind:CallKind):Frame:={fn:=f,tmps:= #[],todo:=[],defers:=[],mode:= .run,kind:=kind,roundOf:=none}
theorem aa3 {P:Program} {f:FuncId} {fn:Func} {c:Code} (hf:P.funcs[f]? =some fn) (hb:fn.body=some c) (vs:List Value) (kind:CallKind):
 Frame.enter P f vs.toArray kind=(bare f kind).atR {tmps:=vs.toArray++Array.replicate (fn.ntmps - vs.length) undef,defers:=[]} [.code c]:=by
 simp [Frame.enter,Frame.atR,hf,hb,bare]
theorem Gi (hE:ml E) {call:b8} (eK:kS E call) {fuel:Nat} {f:FuncId} {fn:Func} {c:Code} (hf:E.P.funcs[f]? =some fn) (hb:fn.body=some c) {args:List AV} {h:az} {rc:RC} {e:oP} {s':St}
 (oY:Ii E call fuel fn c args h rc= .ok e s') {φ:Ph} {w:World} {vs:List Value} (ok:OK E φ h w) (hl:LR φ args vs) {kind:CallKind} {K:Bool→List Frame} (jK:ru φ (bare f kind) K rc):
 va E φ h w (bare f kind) K [] (lone (Frame.enter E.P f vs.toArray kind) (cur K rc) w) e s':=by
 rw[aa3 hf hb]
 refine (Bh hE eK fuel c (s:={ts:=args++List.replicate (fn.ntmps - args.length) AV.undef,h,ds:=[],rc}) oY (a:={tmps:=vs.toArray++Array.replicate (fn.ntmps - vs.length) undef,defers:=[]}) (b:=bare f kind) (k:=[]) ⟨?_,trivial⟩ ok jK (by show (E.P.funcs[f]?).isSome=true;rw[hf];rfl)).1
 have:=hl.append (LR.replicate (VR.undef φ) (fn.ntmps - args.length))
 rw[hl.1] at this
 simpa [hl.1] using this
theorem enters {E:Env} (hE:ml E) {f:FuncId} {fn:Func} {c:Code} (hf:E.P.funcs[f]? =some fn) (hb:fn.body=some c) (vs:Array Value) (w:World):(callFunc f vs).run E.P w= .ok (.enter f vs) w:=by
 have hn:=hE.names f fn hf
 have:(fn.name== "runtime.NumGoroutine")=false:=by rw[beq_eq_false_iff_ne];exact hn
 simp only[callFunc,Sem.run_bind,run_program,Result.andThen_ok,hf,this,Bool.false_eq_true,if_false,hb,Option.isNone_some,Sem.run_pure]
noncomputable def rJ (E:Env) (call:b8) (fuel:Nat) (g:FuncId) (as_:List AV) (h:az) (rc:RC):Option (az×RC):=match E.P.funcs[g]? with
 | none=>none
 | some fg=>match fg.body with
  | none=>none
  | some bg=>match Ii E call fuel fg bg as_ h rc with
   | .ok .normal s'=>if s'.ds.isEmpty&&(xN E s'.h s'.ts fg.results.toList).isSome then some (s'.h,s'.rc) else none
   | .ok .ret s'=>if s'.ds.isEmpty&&(xN E s'.h s'.ts fg.results.toList).isSome then some (s'.h,s'.rc) else none
   | _=>none
theorem yt {φ:Ph} {ds:List Deferred} (h:DsR φ [] ds):ds=[]:=by cases ds with | nil=>rfl | cons _ _=>exact h.elim
def wc (c:Bool→Frame):RC→Frame
 | .done=>{c true with mode:=settle (c true).mode}
 | _=>{c false with mode:=settle (c false).mode}
theorem yu (hE:ml E) {call:b8} (eK:kS E call) {fuel:Nat} {g:FuncId} {as_:List AV} {h h':az} {rc rc':RC} (hd:rJ E call fuel g as_ h rc=some (h',rc')) {φ:Ph} {w:World} {vs:List Value}
 (ok:OK E φ h w) (hl:LR φ as_ vs) {c:Bool→Frame} {cs:List Frame} (jK:ru φ (bare g .deferred) (fun x=>c x::cs) rc):
 ∃φ' w',OK E φ' h' w'∧Fr φ h w φ' h' w'∧ru φ' (bare g .deferred) (fun x=>c x::cs) rc'∧(callFunc g vs.toArray).run E.P w= .ok (.enter g vs.toArray) w∧
  Steps E.P (lone (Frame.enter E.P g vs.toArray .deferred) (cur (fun x=>c x::cs) rc) w)
   (lone (wc c rc') cs w'):=by
 unfold rJ at hd
 split at hd
 · simp at hd
 rename_i fg hf
 split at hd
 · simp at hd
 rename_i bg hb
 have key:∀(s':St) (e:oP),(e= .normal∨e= .ret)→Ii E call fuel fg bg as_ h rc= .ok e s'→s'.ds.isEmpty=true→(xN E s'.h s'.ts fg.results.toList).isSome=true→s'.h=h'→s'.rc=rc'→
  ∃φ' w',OK E φ' h' w'∧Fr φ h w φ' h' w'∧ru φ' (bare g .deferred) (fun x=>c x::cs) rc'∧(callFunc g vs.toArray).run E.P w= .ok (.enter g vs.toArray) w∧
  Steps E.P (lone (Frame.enter E.P g vs.toArray .deferred) (cur (fun x=>c x::cs) rc) w)
   (lone (wc c rc') cs w'):=by
  intro s' e he oY TP aa1 hh hr
  subst hh;subst hr
  obtain ⟨φ',w',a',e',x1,x2,x3,x4,x5,x6⟩:=(Gi hE eK hf hb oY ok hl (kind:= .deferred) jK).is
  refine ⟨φ',w',x3,x4,x5,enters hE hf hb _ w,?_⟩
  obtain ⟨yk,ari⟩:=Option.isSome_iff_exists.1 aa1
  obtain ⟨v',_,jP⟩:=Gh x3 x2.ts ari
  have hdn:a'.defers=[]:=yt (by have:=x2.ds;rw[List.isEmpty_iff.1 TP] at this;exact this)
  have fin:∀todo,step E.P (lone {(bare g .deferred).atR a' todo with mode:= .returning} (cur (fun x=>c x::cs) s'.rc) w')=
   .next (lone (wc c s'.rc) cs w'):=fun todo=>by
   have Ga:({(bare g .deferred).atR a' todo with mode:= .returning}:Frame).going E.P w' (.returned v'):=⟨rfl,hdn,fg,hf,jP⟩
   have hk:({(bare g .deferred).atR a' todo with mode:= .returning}:Frame).kind= .deferred:=rfl
   cases auP:s'.rc with
   | no=>exact step_going_returned (c:=c false) (cs:=cs) hk Ga
   | mJ v=>exact step_going_returned (c:=c false) (cs:=cs) hk Ga
   | done=>exact step_going_returned (c:=c true) (cs:=cs) hk Ga
   | bar l=>exact step_going_returned (c:=c false) (cs:=cs) hk Ga
  rcases he with rfl | rfl
  · cases x1
    exact Steps.trans x6 (.head (stepR_end rfl) (.one (fin [])))
  · cases x1
    obtain ⟨todo,hs⟩:=x6
    exact Steps.trans hs (.head (stepR_ret rfl) (.one (fin _)))
 split at hd
 · rename_i s' oY
   split at hd
   · rename_i hc
     simp at hd;obtain ⟨rfl,rfl⟩:=hd
     simp only[Bool.and_eq_true] at hc
     exact key s' .normal (.inl rfl) oY hc.1 hc.2 rfl rfl
   · simp at hd
 · rename_i s' oY
   split at hd
   · rename_i hc
     simp at hd;obtain ⟨rfl,rfl⟩:=hd
     simp only[Bool.and_eq_true] at hc
     exact key s' .ret (.inr rfl) oY hc.1 hc.2 rfl rfl
   · simp at hd
 · simp at hd
theorem oZ (hE:ml E) {call:b8} (eK:kS E call) {fuel:Nat}:∀(ds:List Ae) {p p':Option AV} {h h':az} (_:kM (rJ E call fuel) ds p h=some (p',h')) {φ:Ph} {w:World} {fr:Frame} {cs:List Frame}
 (_:OK E φ h w) (_:DsR φ ds fr.defers) (_:(p=none∧fr.mode= .returning)∨∃v v',p=some v∧VR φ v v'∧fr.mode= .panicking [{v:=v',recovered:=false}]),
 ∃φ' w' m',OK E φ' h' w'∧Fr φ h w φ' h' w'∧((p'=none∧m'= .returning)∨∃v v',p'=some v∧VR φ' v v'∧m'= .panicking [{v:=v',recovered:=false}])∧
  Steps E.P (lone fr cs w) (lone {fr with defers:=[],mode:=m'} cs w')
 | [],p,p',h,h',hu,φ,w,fr,cs,ok,TP,hp=>by
  simp [kM] at hu;obtain ⟨rfl,rfl⟩:=hu
  have:=yt TP
  refine ⟨φ,w,fr.mode,ok,Fr.refl _ _ _,?_,?_⟩
  · exact hp
  · rw[←this];exact Steps.refl _ _
 | .col r::ds,p,p',h,h',hu,φ,w,fr,cs,ok,TP,hp=>by
  cases hfd:fr.defers with
  | nil=>rw[hfd] at TP;exact TP.elim
  | cons d' EM=>
  rw[hfd] at TP
  obtain ⟨⟨l,hl,afM⟩,aa4⟩:=TP
  have aa5:fr.mode≠ .run:=by
   rcases hp with ⟨_,hm⟩ | ⟨v,v',_,_,hm⟩<;>rw[hm]<;>simp
  simp only[kM] at hu
  split at hu
  · rename_i hg
    obtain ⟨_,hb⟩:=ok.live _ _ _ hg hl
    obtain ⟨QP,f1⟩:=ok.shut hg rfl hl (.deferred none)
    have st1:=step_collected (P:=E.P) (cs:=cs) aa5 hfd afM (run_takeDeferred hb)
    obtain ⟨φ2,w2,m2,Lh,f2,hp2,TQ⟩:=oZ hE eK ds hu (fr:={fr with defers:=[]++EM}) (cs:=cs) QP (by simpa using aa4) hp
    exact ⟨φ2,w2,m2,Lh,f1.trans f2,hp2,.head st1 TQ⟩
  · simp at hu
 | .call df at6::ds,p,p',h,h',hu,φ,w,fr,cs,ok,TP,hp=>by
  cases hfd:fr.defers with
  | nil=>rw[hfd] at TP;exact TP.elim
  | cons d' EM=>
  rw[hfd] at TP
  obtain ⟨⟨cap,afM,Is⟩,aa4⟩:=TP
  have aa5:fr.mode≠ .run:=by
   rcases hp with ⟨_,hm⟩ | ⟨v,v',_,_,hm⟩<;>rw[hm]<;>simp
  have hinv:∀(hce:(callFunc df (d'.args++cap).toList.toArray).run E.P w= .ok (.enter df (d'.args++cap).toList.toArray) w),(invoke d'.target d'.args).run E.P w= .ok (.enter df (d'.args++cap).toList.toArray) w:=fun hce=>by
   have e:(d'.args++cap).toList.toArray=d'.args++cap:=Array.toArray_toList ..
   rw[e] at hce ⊢
   rw[afM];exact hce
  have st1:∀(hce:(callFunc df (d'.args++cap).toList.toArray).run E.P w= .ok (.enter df (d'.args++cap).toList.toArray) w),step E.P (lone fr cs w)= .next (lone (Frame.enter E.P df (d'.args++cap).toList.toArray .deferred) ({fr with defers:=EM}::cs) w):=fun hce=>step_defer aa5 hfd afM (hinv hce)
  cases p with
  | none=>
   simp only[kM] at hu
   split at hu
   · rename_i h1 rc1 hcd
     have hm:fr.mode= .returning:=by
      rcases hp with ⟨_,hm⟩ | ⟨v,v',e,_,_⟩
      · exact hm
      · simp at e
     obtain ⟨φ1,w1,QP,f1,_,hce,lN⟩:=yu hE eK hcd ok Is (c:=fun _=>{fr with defers:=EM}) (cs:=cs) ⟨rfl,fun Td hk=>by simp [tryRecover,show Td.kind= .deferred from hk,hm]⟩
     have uZ:wc (fun _=>{fr with defers:=EM}) rc1={fr with defers:=EM}:=by
      cases rc1<;>simp [wc,hm,settle]
     rw[uZ] at lN
     obtain ⟨φ2,w2,m2,Lh,f2,hp2,TQ⟩:=oZ hE eK ds hu (fr:={fr with defers:=EM}) (cs:=cs) QP (aa4.mono f1.ext) (.inl ⟨rfl,hm⟩)
     exact ⟨φ2,w2,m2,Lh,f1.trans f2,hp2,.head (st1 hce) (Steps.trans lN TQ)⟩
   · simp at hu
  | some v=>
   obtain ⟨v',hv,hm⟩:∃v',VR φ v v'∧fr.mode= .panicking [{v:=v',recovered:=false}]:=by
    rcases hp with ⟨e,_⟩ | ⟨v1,v',e,hv,hm⟩
    · simp at e
    · simp at e;subst e;exact ⟨v',hv,hm⟩
   have jK:ru φ (bare df .deferred) (fun x=>(if x then {fr with defers:=EM,mode:= .panicking [{v:=v',recovered:=true}]} else {fr with defers:=EM})::cs) (.mJ v):=
    ⟨rfl,⟨v',hv,fun Td hk=>by simp [tryRecover,show Td.kind= .deferred from hk,hm]⟩,fun Td hk=>by simp [tryRecover,show Td.kind= .deferred from hk]⟩
   simp only[kM] at hu
   split at hu
   · rename_i h1 v1 hcd
     obtain ⟨φ1,w1,QP,f1,_,hce,lN⟩:=yu hE eK hcd ok Is (c:=fun x=>if x then {fr with defers:=EM,mode:= .panicking [{v:=v',recovered:=true}]} else {fr with defers:=EM}) (cs:=cs) jK
     have uZ:wc (fun x=>if x then {fr with defers:=EM,mode:= .panicking [{v:=v',recovered:=true}]} else {fr with defers:=EM}) (.mJ v1)={fr with defers:=EM}:=by simp [wc,hm,settle]
     rw[uZ] at lN
     simp only[Bool.false_eq_true,if_false,cur] at lN
     obtain ⟨φ2,w2,m2,Lh,f2,hp2,TQ⟩:=oZ hE eK ds hu (fr:={fr with defers:=EM}) (cs:=cs) QP (aa4.mono f1.ext) (.inr ⟨v,v',rfl,hv.mono f1.ext,hm⟩)
     exact ⟨φ2,w2,m2,Lh,f1.trans f2,hp2,.head (st1 hce) (Steps.trans lN TQ)⟩
   · rename_i h1 hcd
     obtain ⟨φ1,w1,QP,f1,_,hce,lN⟩:=yu hE eK hcd ok Is (c:=fun x=>if x then {fr with defers:=EM,mode:= .panicking [{v:=v',recovered:=true}]} else {fr with defers:=EM}) (cs:=cs) jK
     have uZ:wc (fun x=>if x then {fr with defers:=EM,mode:= .panicking [{v:=v',recovered:=true}]} else {fr with defers:=EM}) .done={fr with defers:=EM,mode:= .returning}:=by simp [wc,settle]
     rw[uZ] at lN
     simp only[Bool.false_eq_true,if_false,cur] at lN
     obtain ⟨φ2,w2,m2,Lh,f2,hp2,TQ⟩:=oZ hE eK ds hu (fr:={fr with defers:=EM,mode:= .returning}) (cs:=cs) QP (aa4.mono f1.ext) (.inl ⟨rfl,rfl⟩)
     exact ⟨φ2,w2,m2,Lh,f1.trans f2,hp2,.head (st1 hce) (Steps.trans lN TQ)⟩
   · simp at hu
theorem Bi {l:Nat} {jump:Option Code} {s:St} {v:AV} {h':az} (he:Qm l jump s= .ret v h') {φ:Ph} {w:World} (ok:OK E φ s.h w) {ll:Loc} (hl:φ l=some ll):
 ∃w',v= .bool jump.isNone∧OK E φ h' w'∧Fr φ s.h w φ h' w'∧(Instr.endRound ll.fB jump).run E.P w= .ok (.bool jump.isNone) w':=by
 unfold Qm at he
 split at he
 · rename_i st pd ts ps as_ bd dn hg
   simp only[A6.ret.injEq] at he;obtain ⟨rfl,rfl⟩:=he
   obtain ⟨_,r,hr,ES⟩:=ok.live _ _ _ hg hl
   obtain ⟨QP,f1⟩:=ok.ajr (o':= .loop (if jump.isNone then .ready else .done) jump ts ps as_ bd dn) hg rfl hl (O:= .loop {r with state:=if jump.isNone then .ready else .done,pending:=jump})
    ⟨by have:=ok.live _ _ _ hg hl;exact this.1,_,rfl,⟨rfl,rfl,ES.tmps,ES.params,ES.assign,ES.body,ES.defers,ES.fn⟩⟩
   exact ⟨_,rfl,QP,f1,run_endRound jump hr⟩
 · simp at he
theorem QV {φ:Ph}:∀{ps:List Tmp} {args:List AV} {vs:List Value} (_:LR φ args vs) {ts:List AV} {tmps:Array Value} (_:LR φ ts tmps.toList),
 LR φ ((ps.zip args).foldl (fun ts x=>ts.set x.1 x.2) ts) (((ps.zip vs).foldl (fun (tmps:Array Value) (x:Tmp×Value)=>tmps.setIfInBounds x.1 x.2) tmps).toList)
 | [],_,_,_,_,_,ht=>by simpa using ht
 | p::ps,[],vs,hl,ts,tmps,ht=>by rw[hl.jJ];simpa using ht
 | p::ps,x::xs,vs,hl,ts,tmps,ht=>by
  obtain ⟨y,ys,rfl,hy,Af⟩:=hl.dp
  simp only[List.zip_cons_cons,List.foldl_cons]
  exact QV Af (by simpa using ht.set hy p)
theorem Bj (hE:ml E) {call:b8} (eK:kS E call) {fuel l:Nat} {args:List AV} {h:az} {out:A6} (ho:ED E call fuel l args h=out) (gX:∀yd q,out≠ .fail yd q)
 {φ:Ph} {w:World} {vs:List Value} (ok:OK E φ h w) {ll:Loc} (hφ:φ l=some ll) (hl:LR φ args vs):
 ∃f tmps assign body,(Instr.yield ll.fB vs.toArray).run E.P w= .ok (.round ll.fB f tmps assign body) w∧∀c cs,
  (∀v h',out= .ret v h'→∃φ' w' v',VR φ' v v'∧OK E φ' h' w'∧Fr φ h w φ' h' w'∧Steps E.P (lone (Frame.round ll.fB f tmps assign body .normal) (c::cs) w) (lone (c.finish v') cs w'))∧
  (∀v h',out= .panic v h'→∃φ' w' v',VR φ' v v'∧OK E φ' h' w'∧Fr φ h w φ' h' w'∧Steps E.P (lone (Frame.round ll.fB f tmps assign body .normal) (c::cs) w) (lone (c.raise [{v:=v',recovered:=false}]) cs w')):=by
 unfold ED at ho
 split at ho
 · rename_i st pd ts ps as_ bd dn hg
   split at ho
   · rename_i hlen
     split at ho
     · rename_i s1 hx1
       split at ho
       · rename_i pd2 ts2 ps2 as2 bd2 dn2 hg1
         obtain ⟨auQ,r,hr,ES⟩:=ok.live _ _ _ hg hφ
         have NA:vs.toArray.size=r.params.size:=by
          have h1:=congrArg List.length ES.params
          have h2:=hl.1
          simp at h1 ⊢;omega
         refine ⟨r.fn,_,r.assign,r.body,run_yield hr NA,fun c cs=>?_⟩
         have ane:LR φ ((ps.zip args).foldl (fun ts x=>ts.set x.1 x.2) ts) ((r.params.zip vs.toArray).foldl (fun tmps (t,a)=>tmps.setIfInBounds t a) r.tmps).toList:=by
          have:=QV (ps:=ps) hl ES.tmps
          rw[←Array.foldl_toList,Array.toList_zip,ES.params]
          exact this
         generalize htm:(r.params.zip vs.toArray).foldl (fun tmps (t,a)=>tmps.setIfInBounds t a) r.tmps=Wj at ane
         let b:Frame:={fn:=r.fn,tmps:= #[],todo:=[],defers:=[],mode:= .run,kind:= .normal,roundOf:=some ll.fB}
         have hb:b.roundOf=some ll.fB:=rfl
         have hk:b.kind= .normal:=rfl
         have EN:Frame.round ll.fB r.fn Wj r.assign r.body .normal=b.atR {tmps:=Wj,defers:=[]} [.code r.assign,.beginRound,.code r.body]:=rfl
         rw[ES.assign,ES.body] at EN ⊢
         rw[EN]
         have Yt:∀rc,cur (fun _=>c::cs) rc=c::cs:=fun rc=>by cases rc<;>rfl
         obtain ⟨φ1,w1,a1,e1,x1,x2,x3,x4,x5,x6⟩:=(Bh hE eK fuel as_ hx1 (a:={tmps:=Wj,defers:=[]}) (b:=b) (k:=[.beginRound,.code bd]) (K:=fun _=>c::cs) ⟨ane,trivial⟩ ok ⟨ll,hφ,rfl⟩ ES.fn).1.is
         cases x1
         rw[Yt,Yt] at x6
         have hφ1:=x4.ext _ _ hφ
         obtain ⟨anf,r1,hr1,QW⟩:=x3.live _ _ _ hg1 hφ1
         obtain ⟨Lh,f2⟩:=x3.ajr (o':= .loop .busy pd2 ts2 ps2 as2 bd2 dn2) hg1 rfl hφ1 (O:= .loop {r1 with state:= .busy})
          ⟨anf,_,rfl,⟨rfl,QW.pending,QW.tmps,QW.params,QW.assign,QW.body,QW.defers,QW.fn⟩⟩
         have arj:=stepR_beginRound (P:=E.P) (b:=b) (a:=a1) (k:=[.code bd]) (cs:=c::cs) hb (run_beginRound hr1 QW.state)
         have Ah:=Steps.trans x6 (.one arj)
         have body:∀(e:oP) (s2:St),exec E call fuel bd {s1 with h:=s1.h.put l (some (.loop .busy pd2 ts2 ps2 as2 bd2 dn2))}= .ok e s2→
          ∃φ' w' a' e',ExR φ' e e'∧SR φ' s2.ts s2.ds a'∧OK E φ' s2.h w'∧Fr φ h w φ' s2.h w'∧φ' l=some ll∧QS E.P (lone (b.atR {tmps:=Wj,defers:=[]} [.code as_,.beginRound,.code bd]) (c::cs) w) b [] (c::cs) e' a' w':=by
          intro e s2 hx2
          obtain ⟨φ3,w3,a3,e3,y1,y2,y3,y4,y5,y6⟩:=(Bh hE eK fuel bd hx2 (a:=a1) (b:=b) (k:=[]) (K:=fun _=>c::cs) x2 Lh x5 ES.fn).1.is
          rw[Yt,Yt] at y6
          exact ⟨φ3,w3,a3,e3,y1,y2,y3,(x4.trans f2).trans y4,y4.ext _ _ hφ1,.of_steps Ah y6⟩
         split at ho
         · rename_i s2 hx2
           obtain ⟨φ3,w3,a3,e3,y1,y2,y3,y4,hl3,y6⟩:=body _ _ hx2
           cases y1
           refine ⟨fun v h' e=>?_,fun v h' e=>?_⟩
           · obtain ⟨w4,rfl,z1,z2,z3⟩:=Bi (ho.trans e) y3 hl3
             exact ⟨φ3,w4,_,.bool _,z1,y4.trans z2,Steps.trans y6 (.one (stepR_round_end hb hk z3))⟩
           · rw[e] at ho;unfold Qm at ho;split at ho<;>simp at ho
         · rename_i s2 hx2
           obtain ⟨φ3,w3,a3,e3,y1,y2,y3,y4,hl3,y6⟩:=body _ _ hx2
           cases y1
           refine ⟨fun v h' e=>?_,fun v h' e=>?_⟩
           · obtain ⟨w4,rfl,z1,z2,z3⟩:=Bi (ho.trans e) y3 hl3
             obtain ⟨todo,hs⟩:=y6
             exact ⟨φ3,w4,_,.bool _,z1,y4.trans z2,Steps.trans hs (.one (stepR_round_ret hb hk z3))⟩
           · rw[e] at ho;unfold Qm at ho;split at ho<;>simp at ho
         · rename_i id s2 hx2
           obtain ⟨φ3,w3,a3,e3,y1,y2,y3,y4,hl3,y6⟩:=body _ _ hx2
           cases y1
           refine ⟨fun v h' e=>?_,fun v h' e=>?_⟩
           · obtain ⟨w4,rfl,z1,z2,z3⟩:=Bi (ho.trans e) y3 hl3
             obtain ⟨todo,ht,hs⟩:=y6
             exact ⟨φ3,w4,_,.bool _,z1,y4.trans z2,Steps.trans hs (.one (stepR_round_exit hb hk ht z3))⟩
           · rw[e] at ho;unfold Qm at ho;split at ho<;>simp at ho
         · rename_i v2 s2 hx2
           obtain ⟨φ3,w3,a3,e3,y1,y2,y3,y4,hl3,y6⟩:=body _ _ hx2
           split at ho
           · rename_i TP
             refine ⟨fun v h' e=>by rw[e] at ho;simp at ho,fun v h' e=>?_⟩
             rw[e] at ho;simp at ho;obtain ⟨rfl,rfl⟩:=ho
             cases y1 with
             | panic _ v' hv=>
              obtain ⟨todo,hs⟩:=y6
              have hdn:a3.defers=[]:=yt (by have:=y2.ds;rw[List.isEmpty_iff.1 TP] at this;exact this)
              obtain ⟨fn,K7⟩:=Option.isSome_iff_exists.1 ES.fn
              exact ⟨φ3,w3,v',hv,y3,y4,Steps.trans hs (.one (step_leave_panicked ⟨rfl,hdn,fn,K7⟩))⟩
           · exact absurd ho.symm (gX _ _)
         · exact absurd ho.symm (gX _ _)
       · exact absurd ho.symm (gX _ _)
     · exact absurd ho.symm (gX _ _)
     · exact absurd ho.symm (gX _ _)
   · exact absurd ho.symm (gX _ _)
 · exact absurd ho.symm (gX _ _)
end Go.Ab
end
section
namespace Go.Ab.Fa
section
variable {R:Type}
noncomputable def ob {α:Type} (d:R) (f:α→R) (o:Option α):R:=Option.rec (motive:=fun _=>R) d f o
noncomputable def bc (b:Bool) (x y:R):R:=Bool.rec (motive:=fun _=>R) y x b
end
section
variable {α:Type}
end
end Go.Ab.Fa
end
section
namespace Go.Ab.Fa
section
variable {α β:Type}
theorem ang (b:Bool) (x y:α):bc b x y=bif b then x else y:=by cases b<;>rfl
end
variable (E:Env)
end Go.Ab.Fa
end
section
namespace Go.Ab.Fa
section
variable {α β T:Type}
end
section
variable (E:Env)
variable {T:Type}
end
section
variable (E:Env)
noncomputable def fFn {R:Type} (a:FuncId→R) (b:Nat→R) (f:Fn):R:=Fn.rec (motive:=fun _=>R) a b f
end
end Go.Ab.Fa
end
section
namespace Go.Ab.Fa
theorem ap2 {α R:Type} {d:R} {f:α→R} {a:α}:ob d f (some a)=f a:=rfl
end Go.Ab.Fa
end
section
namespace Go.Ab
open Go.Maps Go.WideElems Go.RowKit Go.Proofs
section
open Fa
end
open Fa
theorem OK.later {E:Env} {φ:Ph} {h:az} {w w':World} (ok:OK E φ h w) (b:Below w.heap.size w w'):OK E φ h w'∧Fr φ h w φ h w':=by
 have hblk:∀j p m,h.get j=some p→φ j=some m→m.fB<w.heap.size:=fun j p m hj hm=>by
  have HJ:=ok.live j p m hj hm
  rcases Nat.lt_or_ge m.fB w.heap.size with a | a
  · exact a
  · exfalso
    rw[Array.getElem?_eq_none a] at HJ
    exact HJ.absurd
 refine ⟨⟨ok.EF,ok.nx,ok.yh,fun i o l h1 h2=>?_,ok.inj⟩,⟨Ph.le_refl φ,fun _ _=>rfl,Nat.le_refl _,b.os,b.tape,b.output,b.size,fun c hc _=>b.block c hc,fun i o l h1 h2 h3=> .inr ⟨i,o,l,h1,h2,h3,rfl⟩⟩⟩
 rw[b.block _ (hblk i o l h1 h2)]
 exact ok.live i o l h1 h2
end Go.Ab
end
section
namespace Go.Ab
structure Tab where
 g:Nat
 k:IntKind
 ns:List Nat
 t:TypeId
def Tab.cells (x:Tab):List AV:=x.ns.map fun n=>AV.int x.k (Int.ofNat n)
noncomputable def sR (G:Nat):List Tab→az
 | []=>⟨HT.nil,G,fun _=>none⟩
 | x::xs=>(sR G xs).put x.g (some (.cells x.cells x.t true))
theorem zL (i:Nat) (G:Nat):(az.mk HT.nil G fun _=>none).get i=none:=by
 by_cases hi:i<262144
 · rw[az.A7 hi]
   rw[Il hi,EG,Ik]
   simp only[HT.nil,V5]
 · rw[az.vY hi]
theorem ET (G:Nat):∀l,(sR G l).nx=G
 | []=>rfl
 | _::xs=>ET G xs
theorem we {G:Nat}:∀{l:List Tab} {i:Nat} {o:aN},(sR G l).get i=some o→∃x∈l,x.g=i∧o= .cells x.cells x.t true
 | [],i,o,e=>by rw[sR,zL] at e;cases e
 | x::xs,i,o,e=>by
  rw[sR] at e
  by_cases h:x.g=i
  · subst h
    rw[az.cY] at e
    exact ⟨x,by simp,rfl,(Option.some.inj e).symm⟩
  · rw[az.bQ h] at e
    obtain ⟨y,hy,h1,h2⟩:=we e
    exact ⟨y,by simp [hy],h1,h2⟩
def ani (w:World) (x:Tab):Prop:=∃C e fz,w.heap[x.g]? =some (.cells C e fz)∧C.toList=x.ns.map fun n=>Value.int x.k (Int.ofNat n)
def phG (G:Nat):Ph:=fun i=>if i<G then some ⟨i,0,0⟩ else none
theorem OK.begin {E:Env} {w:World} {l:List Tab} (hl:∀x∈l,x.g<E.G∧ani w x):OK E (phG E.G) (sR E.G l) w:=by
 refine ⟨fun i l' h=>?_,?_,fun g hg=>?_,fun i o l' h1 h2=>?_,fun i j o p l' m _ _ h3 h4 _ h5=>?_⟩
 · unfold phG at h;rw[ET];split at h
   · assumption
   · cases h
 · rw[ET];exact Nat.le_refl _
 · unfold phG;rw[if_pos hg]
 · obtain ⟨x,hx,rfl,rfl⟩:=we h1
   obtain ⟨hg,C,e,⟨lo,hi⟩,hw,hC⟩:=hl x hx
   unfold phG at h2;rw[if_pos hg] at h2
   obtain rfl:=Option.some.inj h2
   refine ⟨C,e,lo,hi,hw,⟨?_,?_,(fun h=>by cases h),fun _ _ _=>rfl⟩,fun z=>by cases z⟩
   · have:C.size=x.ns.length:=by rw[←Array.length_toList,hC,List.length_map]
     simp [Tab.cells,iJ,this]
   · intro k y hk
     simp only[Tab.cells,List.getElem?_map,Option.map_eq_some_iff] at hk
     obtain ⟨n,hn,rfl⟩:=hk
     refine ⟨.int x.k (Int.ofNat n),?_,.int _ _⟩
     rw[Nat.zero_add,←Array.getElem?_toList,hC,List.getElem?_map,hn];rfl
 · unfold phG at h3 h4
   split at h3
   · split at h4
     · obtain rfl:=Option.some.inj h3
       obtain rfl:=Option.some.inj h4
       exact h5
     · cases h4
   · cases h3
end Go.Ab
end
section
namespace Go.Ab
variable {E:Env}
noncomputable def zM (E:Env) (call:b8) (fuel:Nat) (fn:Func) (p:Option AV) (s:St):A6:=match kM (rJ E call fuel) s.ds p s.h with
 | none=> .fail "unwind" none
 | some (some v,h')=> .panic v h'
 | some (none,h')=>match xN E h' s.ts fn.results.toList with
  | some vs=> .ret (vW vs) h'
  | none=> .fail "results" none
noncomputable def AB (E:Env) (call:b8) (fuel:Nat) (f:FuncId) (args:List AV) (h:az):A6:=match E.P.funcs[f]? with
 | none=> .fail "no function" none
 | some fn=>match fn.body with
  | none=> .fail ("no body " ++fn.name) none
  | some b=>match Ii E call fuel fn b args h .no with
   | .ok .normal s=>zM E call fuel fn none s
   | .ok .ret s=>zM E call fuel fn none s
   | .ok (.panic v) s=>zM E call fuel fn (some v) s
   | .ok (.exit _) _=> .fail "exit" none
   | .fail yd o=> .fail (yd++ " in " ++fn.name) o
theorem qz (hE:ml E) (fuel:Nat) {call:b8} (ih:kS E call):(∀f args h v h',AB E call fuel f args h= .ret v h'→kR E f args h v h')∧(∀f args h v h',AB E call fuel f args h= .panic v h'→Wf E f args h v h'):=by
 have key:∀(f:FuncId) (args:List AV) (h:az) (out:A6),AB E call fuel f args h=out→(∀yd q,out≠ .fail yd q)→
  ∃fn c e s p,E.P.funcs[f]? =some fn∧fn.body=some c∧Ii E call fuel fn c args h .no= .ok e s∧
   ((p=none∧(e= .normal∨e= .ret))∨∃v,p=some v∧e= .panic v)∧
   ((∃v h',out= .panic v h'∧kM (rJ E call fuel) s.ds p s.h=some (some v,h'))∨
    ∃vs h',out= .ret (vW vs) h'∧kM (rJ E call fuel) s.ds p s.h=some (none,h')∧xN E h' s.ts fn.results.toList=some vs):=by
  intro f args h out e gX
  unfold AB at e
  split at e
  · exact absurd e.symm (gX _ _)
  rename_i fn hf
  split at e
  · exact absurd e.symm (gX _ _)
  rename_i c hb
  have fin:∀(p:Option AV) (s:St),zM E call fuel fn p s=out→
   ((∃v h',out= .panic v h'∧kM (rJ E call fuel) s.ds p s.h=some (some v,h'))∨
    ∃vs h',out= .ret (vW vs) h'∧kM (rJ E call fuel) s.ds p s.h=some (none,h')∧xN E h' s.ts fn.results.toList=some vs):=by
   intro p s hm
   unfold zM at hm
   split at hm
   · exact absurd hm.symm (gX _ _)
   · rename_i v h' hu;exact .inl ⟨v,h',hm.symm,hu⟩
   · rename_i h' hu
     split at hm
     · rename_i vs hv;exact .inr ⟨vs,h',hm.symm,hu,hv⟩
     · exact absurd hm.symm (gX _ _)
  split at e
  · rename_i s oY;exact ⟨fn,c,_,s,none,hf,hb,oY,.inl ⟨rfl,.inl rfl⟩,fin none s e⟩
  · rename_i s oY;exact ⟨fn,c,_,s,none,hf,hb,oY,.inl ⟨rfl,.inr rfl⟩,fin none s e⟩
  · rename_i v s oY;exact ⟨fn,c,_,s,some v,hf,hb,oY,.inr ⟨v,rfl,rfl⟩,fin (some v) s e⟩
  · exact absurd e.symm (gX _ _)
  · exact absurd e.symm (gX _ _)
 have run:∀(f:FuncId) (fn:Func) (c:Code) (args:List AV) (h:az) (e:oP) (s:St) (p p':Option AV) (h':az),E.P.funcs[f]? =some fn→fn.body=some c→Ii E call fuel fn c args h .no= .ok e s→
  ((p=none∧(e= .normal∨e= .ret))∨∃v,p=some v∧e= .panic v)→kM (rJ E call fuel) s.ds p s.h=some (p',h')→
  ∀(φ:Ph) (w:World) (vs:List Value),OK E φ h w→LR φ args vs→∀cs,∃φ' w' m' tmps todo,OK E φ' h' w'∧Fr φ h w φ' h' w'∧LR φ' s.ts tmps.toList∧
   ((p'=none∧m'= .returning)∨∃v v',p'=some v∧VR φ' v v'∧m'= .panicking [{v:=v',recovered:=false}])∧
   Steps E.P (lone (Frame.enter E.P f vs.toArray .normal) cs w) (lone {(bare f .normal).atR {tmps,defers:=[]} todo with mode:=m'} cs w'):=by
  intro f fn c args h e s p p' h' hf hb oY hp hu φ w vs ok hl cs
  obtain ⟨φ1,w1,a1,e1,x1,x2,x3,x4,x5,x6⟩:=(Gi hE ih hf hb oY ok hl (kind:= .normal) (K:=fun _=>cs) ⟨rfl,fun fr hk=>by simp [tryRecover,show fr.kind= .normal from hk]⟩).is
  have Yt:cur (fun _=>cs) s.rc=cs:=by cases s.rc<;>rfl
  have anj:cur (fun _=>cs) RC.no=cs:=rfl
  rw[Yt] at x6
  rw[anj] at x6
  have hm:∃todo m,((p=none∧m= .returning)∨∃v v',p=some v∧VR φ1 v v'∧m= .panicking [{v:=v',recovered:=false}])∧
   Steps E.P (lone (Frame.enter E.P f vs.toArray .normal) cs w) (lone {(bare f .normal).atR a1 todo with mode:=m} cs w1):=by
   rcases hp with ⟨rfl,rfl | rfl⟩ | ⟨v,rfl,rfl⟩
   · cases x1;exact ⟨[],.returning,.inl ⟨rfl,rfl⟩,Steps.trans x6 (.one (stepR_end rfl))⟩
   · cases x1;obtain ⟨todo,hs⟩:=x6;exact ⟨_,.returning,.inl ⟨rfl,rfl⟩,Steps.trans hs (.one (stepR_ret rfl))⟩
   · cases x1 with
     | panic _ v' hv=>obtain ⟨todo,hs⟩:=x6;exact ⟨todo,_,.inr ⟨v,v',rfl,hv,rfl⟩,hs⟩
  obtain ⟨todo,m,hmp,Ax⟩:=hm
  obtain ⟨φ2,w2,m2,Lh,f2,hp2,hs2⟩:=oZ hE ih s.ds hu (fr:={(bare f .normal).atR a1 todo with mode:=m}) (cs:=cs) x3 x2.ds (by
   rcases hmp with ⟨e,em⟩ | ⟨v,v',e,hv,em⟩
   · exact .inl ⟨e,em⟩
   · exact .inr ⟨v,v',e,hv,em⟩)
  exact ⟨φ2,w2,m2,a1.tmps,todo,Lh,x4.trans f2,x2.ts.mono f2.ext,hp2,Steps.trans Ax hs2⟩
 refine ⟨fun f args h v h' e=>?_,fun f args h v h' e=>?_⟩
 · obtain ⟨fn,c,e1,s,p,hf,hb,oY,hp,NC⟩:=key f args h _ e (by simp)
   rcases NC with ⟨v1,h1,he,_⟩ | ⟨vs1,h1,he,hu,aa1⟩
   · simp at he
   · simp at he;obtain ⟨rfl,rfl⟩:=he
     intro φ w vs ok hl
     refine ⟨enters hE hf hb _ w,fun cs=>?_⟩
     obtain ⟨φ',w',m',tmps,todo,Ag,fr,ht,hm,hs⟩:=run f fn c args h e1 s p none h' hf hb oY hp hu φ w vs ok hl cs
     obtain ⟨v',hv,jP⟩:=Gh Ag ht aa1
     rcases hm with ⟨_,rfl⟩ | ⟨v,v'',e,_⟩
     · exact ⟨φ',w',v',_,hv,Ag,fr,hs,rfl,rfl,rfl,rfl,fn,hf,jP⟩
     · simp at e
 · obtain ⟨fn,c,e1,s,p,hf,hb,oY,hp,NC⟩:=key f args h _ e (by simp)
   rcases NC with ⟨v1,h1,he,hu⟩ | ⟨vs1,h1,he,_⟩
   · simp at he;obtain ⟨rfl,rfl⟩:=he
     intro φ w vs ok hl
     refine ⟨enters hE hf hb _ w,fun cs=>?_⟩
     obtain ⟨φ',w',m',tmps,todo,Ag,fr,ht,hm,hs⟩:=run f fn c args h e1 s p (some v) h' hf hb oY hp hu φ w vs ok hl cs
     rcases hm with ⟨e,_⟩ | ⟨v2,v',e,hv,rfl⟩
     · simp at e
     · simp at e;subst e
       exact ⟨φ',w',v',_,hv,Ag,fr,hs,rfl,rfl,rfl,fn,hf⟩
   · simp at he
namespace Fa
abbrev CD:=FuncId→List AV→az→Option (AV×az)
def yx (E:Env) (M:CD):Prop:=∀f args h v h',M f args h=some (v,h')→kR E f args h v h'
def Sub (k h:az):Prop:=k.nx=h.nx∧∀i o,k.get i=some o→h.get i=some o
theorem _root_.Go.Ab.OK.sub {φ:Ph} {k h:az} {w:World} (hs:Sub k h) (ok:OK E φ h w):OK E φ k w where
 EF i l e:=by rw[hs.1];exact ok.EF i l e
 nx:=by rw[hs.1];exact ok.nx
 yh:=ok.yh
 live i o l a b:=ok.live i o l (hs.2 i o a) b
 inj i j o p l m a b c d w e:=ok.inj i j o p l m (hs.2 i o a) (hs.2 j p b) c d w e
theorem _root_.Go.Ab.Fr.sub {φ φ':Ph} {k h k' h':az} {w w':World} (hs:Sub k h) (uT:Sub k' h') (f:Fr φ k w φ' h' w'):Fr φ h w φ' k' w' where
 ext:=f.ext
 old i hi:=f.old i (by rw[hs.1];exact hi)
 nx:=by rw[←hs.1,uT.1];exact f.nx
 os:=f.os
 tape:=f.tape
 output:=f.output
 size:=f.size
 G7 b hb hn:=f.G7 b hb fun i o l a=>hn i o l (hs.2 i o a)
 own i o l a b c:=by
  rcases f.own i o l (uT.2 i o a) b c with h1 | ⟨j,p,m,q1,q2,q3,q4⟩
  · exact .inl h1
  · exact .inr ⟨j,p,m,hs.2 j p q1,q2,q3,q4⟩
theorem _root_.Go.Ab.kR.sub {f:FuncId} {args:List AV} {k h k' h':az} {v:AV} (hs:Sub k h) (uT:Sub k' h') (r:kR E f args k v h'):kR E f args h v k':=fun φ w vs ok hl=>by
 obtain ⟨h1,h2⟩:=r φ w vs (ok.sub hs) hl
 refine ⟨h1,fun cs=>?_⟩
 obtain ⟨φ',w',v',fr,x1,x2,x3,x4⟩:=h2 cs
 exact ⟨φ',w',v',fr,x1,x2.sub uT,Fr.sub hs uT x3,x4⟩
theorem Sub.refl (h:az):Sub h h:=⟨rfl,fun _ _ e=>e⟩
noncomputable def qA (nx:Nat) (l:List (Nat×aN)):az:=List.rec (motive:=fun _=>az) ⟨HT.nil,nx,fun _=>none⟩ (fun x _ h=>h.put x.1 (some x.2)) l
theorem EU {nx:Nat}:∀{l:List (Nat×aN)} {i:Nat} {o:aN},(qA nx l).get i=some o→(i,o)∈l
 | [],i,o,e=>by
  have e:(az.mk HT.nil nx fun _=>none).get i=some o:=e
  by_cases hi:i<262144
  · rw[az.A7 hi] at e
    have e:(hp i).get HT.nil=some o:=e
    rw[Il hi,EG,Ik] at e
    simp only[HT.nil,V5] at e
    cases e
  · rw[az.vY hi] at e;cases e
 | x::xs,i,o,e=>by
  have e:((qA nx xs).put x.1 (some x.2)).get i=some o:=e
  by_cases h:x.1=i
  · subst h
    rw[az.cY] at e
    cases e;simp
  · rw[az.bQ h] at e
    exact List.mem_cons_of_mem _ (EU e)
theorem QX (nx:Nat):∀l,(qA nx l).nx=nx
 | []=>rfl
 | x::xs=>by
  show ((qA nx xs).put x.1 (some x.2)).nx=nx
  rw[az.aaK];exact QX nx xs
def aa6 (x y:kO):Bool:=AV.same 20 x.key y.key&&AV.same 20 x.val y.val&&Nat.beq x.born y.born
theorem aa7 {x y:kO} (h:aa6 x y=true):x=y:=by
 simp only[aa6,Bool.and_eq_true] at h
 obtain ⟨⟨h1,h2⟩,h3⟩:=h
 cases x;cases y
 simp only[kO.mk.injEq]
 exact ⟨AV.ql _ _ _ h1,AV.ql _ _ _ h2,Nat.eq_of_beq_eq_true h3⟩
def QY:aN→aN→Bool
 | .cells a e r,.cells b f q=>dR (AV.same 20) a b&&Nat.beq e f&&(r==q)
 | .map a c,.map b d=>dR aa6 a b&&Nat.beq c d
 | .xb s p,.xb t q=>s==t&&Nat.beq p q
 | .x9 none a b c,.x9 none d e f=>Nat.beq a d&&b==e&&Nat.beq c f
 | .x9 (some m) a b c,.x9 (some n) d e f=>Nat.beq m n&&Nat.beq a d&&b==e&&Nat.beq c f
 | .Qk,.Qk=>true
 | _,_=>false
theorem aa8 {x y:aN} (h:QY x y=true):x=y:=by
 unfold QY at h
 split at h
 · simp only[Bool.and_eq_true,beq_iff_eq] at h
   obtain ⟨⟨h1,h2⟩,rfl⟩:=h
   rw[lu (AV.ql 20) h1,Nat.eq_of_beq_eq_true h2]
 · simp only[Bool.and_eq_true] at h
   rw[lu (fun _ _=>aa7) h.1,Nat.eq_of_beq_eq_true h.2]
 · simp only[Bool.and_eq_true,beq_iff_eq] at h
   obtain ⟨rfl,h2⟩:=h
   rw[Nat.eq_of_beq_eq_true h2]
 · simp only[Bool.and_eq_true,beq_iff_eq] at h
   obtain ⟨⟨h1,rfl⟩,h2⟩:=h
   rw[Nat.eq_of_beq_eq_true h1,Nat.eq_of_beq_eq_true h2]
 · simp only[Bool.and_eq_true,beq_iff_eq] at h
   obtain ⟨⟨⟨h0,h1⟩,rfl⟩,h2⟩:=h
   rw[Nat.eq_of_beq_eq_true h0,Nat.eq_of_beq_eq_true h1,Nat.eq_of_beq_eq_true h2]
 · rfl
 · cases h
noncomputable def yz (h:az) (l:List (Nat×aN)):Bool:=List.rec (motive:=fun _=>Bool) true (fun x _ r=>bc (ob false (fun o=>QY o x.2) (h.get x.1)) r false) l
theorem N7 {b:Bool} {x:Bool} (h:bc b x false=true):b=true∧x=true:=by
 rw[ang] at h
 cases b
 · cases h
 · exact ⟨rfl,h⟩
theorem IG {h:az}:∀{l:List (Nat×aN)} (_:yz h l=true) {i:Nat} {o:aN},(i,o)∈l→h.get i=some o
 | [],_,_,_,hm=>by cases hm
 | x::xs,e,i,o,hm=>by
  have e:bc (ob false (fun o=>QY o x.2) (h.get x.1)) (yz h xs) false=true:=e
  obtain ⟨e1,e2⟩:=N7 e
  rcases List.mem_cons.1 hm with rfl | hm
  · cases hg:h.get i with
    | none=>rw[hg] at e1;cases e1
    | some o'=>rw[hg] at e1;rw[aa8 (show QY o' o=true from e1)]
  · exact IG e2 hm
theorem Sub.QZ {h:az} {nx:Nat} {l:List (Nat×aN)} (hn:Nat.beq h.nx nx=true) (hl:yz h l=true):Sub (qA nx l) h:=
 ⟨((QX _ _).trans (Nat.eq_of_beq_eq_true hn).symm),fun _ _ e=>IG hl (EU e)⟩
structure N8 where
 f:FuncId
 args:List AV
 nx:Nat
 K:List (Nat×aN)
 v:AV
 nx':Nat
 K':List (Nat×aN)
def xg (E:Env) (e:N8):Prop:=kR E e.f e.args (qA e.nx e.K) e.v (qA e.nx' e.K')
noncomputable def Gj (l:List N8):CD:=fun f args h=>List.rec (motive:=fun _=>Option (AV×az)) none
 (fun e _ r=>bc (Nat.beq f e.f) (bc (Nat.beq h.nx e.nx) (bc (dR (AV.same 20) args e.args) (bc (yz h e.K) (some (e.v,qA e.nx' e.K')) r) r) r) r) l
theorem IH:∀{l:List N8} (_:∀e∈l,xg E e),yx E (Gj l)
 | [],_,f,args,h,v,h',e=>by cases e
 | x::xs,hl,f,args,h,v,h',e=>by
  have ih:=IH (l:=xs) (fun e he=>hl e (by simp [he])) f args h v h'
  have e:bc (Nat.beq f x.f) (bc (Nat.beq h.nx x.nx) (bc (dR (AV.same 20) args x.args) (bc (yz h x.K) (some (x.v,qA x.nx' x.K')) (Gj xs f args h)) (Gj xs f args h)) (Gj xs f args h)) (Gj xs f args h)=some (v,h'):=e
  cases h1:Nat.beq f x.f with
  | false=>rw[h1] at e;exact ih e
  | true=>
  cases h2:Nat.beq h.nx x.nx with
  | false=>rw[h1,h2] at e;exact ih e
  | true=>
  cases h3:dR (AV.same 20) args x.args with
  | false=>rw[h1,h2,h3] at e;exact ih e
  | true=>
  cases h4:yz h x.K with
  | false=>rw[h1,h2,h3,h4] at e;exact ih e
  | true=>
  rw[h1,h2,h3,h4] at e
  have e:some (x.v,qA x.nx' x.K')=some (v,h'):=e
  simp only[Option.some.injEq,Prod.mk.injEq] at e
  obtain ⟨rfl,rfl⟩:=e
  obtain rfl:=Nat.eq_of_beq_eq_true h1
  obtain rfl:=lu (AV.ql 20) h3
  exact kR.sub (Sub.QZ h2 h4) (Sub.refl _) (hl x (by simp))
end Fa
end Go.Ab
end
section
namespace Go.Ab
open Fa
variable {E:Env}
noncomputable def xh (E:Env) (M:CD) (fuel:Nat) (d:Nat):b8:=Nat.rec (motive:=fun _=>b8) (fun _ _ _=> .fail "depth" none)
 (fun _ ih g args h=>fFn (fun f=>ob (AB E ih fuel f args h) (fun p=> .ret p.1 p.2) (M f args h)) (fun l=>ED E ih fuel l args h) g) d
theorem II (hE:ml E) {M:CD} (hM:yx E M) {fuel d:Nat} (ih:kS E (xh E M fuel d)) {f:FuncId} {args:List AV} {h:az} {v:AV} {h':az}:
 (xh E M fuel (d+1) (.fn f) args h= .ret v h'→kR E f args h v h')∧(xh E M fuel (d+1) (.fn f) args h= .panic v h'→Wf E f args h v h'):=by
 have hs:=qz hE fuel ih
 have e0:xh E M fuel (d+1) (.fn f) args h=ob (AB E (xh E M fuel d) fuel f args h) (fun p=> .ret p.1 p.2) (M f args h):=rfl
 rw[e0]
 cases hm:M f args h with
 | none=>exact ⟨fun e=>hs.1 _ _ _ _ _ e,fun e=>hs.2 _ _ _ _ _ e⟩
 | some p=>
  refine ⟨fun e=>?_,fun e=>by cases e⟩
  have e:A6.ret p.1 p.2= .ret v h':=e
  simp only[A6.ret.injEq] at e
  obtain ⟨rfl,rfl⟩:=e
  exact hM _ _ _ _ _ hm
theorem Gk (hE:ml E) {M:CD} (hM:yx E M) (fuel:Nat):∀d,kS E (xh E M fuel d)
 | 0=>⟨fun f args h v h' e=>(by cases e),fun f args h v h' e=>(by cases e)⟩
 | d+1=>by
  have ih:=Gk hE hM fuel d
  refine ⟨fun F args h v h' e=>?_,fun F args h v h' e=>?_⟩
  · cases F with
    | fn f=>exact ((II hE hM ih).1 e).any
    | K_ l=>
     have e1:ED E (xh E M fuel d) fuel l args h= .ret v h':=e
     intro φ w vs ok hf hl
     obtain ⟨ll,hφ⟩:=hf
     obtain ⟨f,tmps,assign,body,hy,jP⟩:=Bj hE ih e1 (by simp) ok hφ hl
     exact ⟨_,_,.K_ l ll hφ vs f tmps assign body hy,fun c cs=>(jP c cs).1 v h' rfl⟩
  · cases F with
    | fn f=>exact ((II hE hM ih).2 e).any
    | K_ l=>
     have e1:ED E (xh E M fuel d) fuel l args h= .panic v h':=e
     intro φ w vs ok hf hl
     obtain ⟨ll,hφ⟩:=hf
     obtain ⟨f,tmps,assign,body,hy,jP⟩:=Bj hE ih e1 (by simp) ok hφ hl
     exact ⟨_,_,.K_ l ll hφ vs f tmps assign body hy,fun c cs=>(jP c cs).2 v h' rfl⟩
theorem Mo (hE:ml E) {M:CD} (hM:yx E M) {fuel d:Nat} {f:FuncId} {args:List AV} {h:az} {v:AV} {h':az} (e:xh E M fuel d (.fn f) args h= .ret v h'):kR E f args h v h':=by
 cases d with
 | zero=>cases e
 | succ d=>exact (II hE hM (Gk hE hM fuel d)).1 e
noncomputable def xj (E:Env) (l:List N8) (d fuel:Nat) (e:N8):Bool:=
 A6.rec (motive:=fun _=>Bool) (fun v h=>bc (Nat.beq h.nx e.nx') (bc (AV.same 20 v e.v) (yz h e.K') false) false) (fun _ _=>false) (fun _ _=>false) (xh E (Gj l) fuel d (.fn e.f) e.args (qA e.nx e.K))
theorem xg.Q0 (hE:ml E) {l:List N8} (hl:∀e∈l,xg E e) {d fuel:Nat} {e:N8} (h:xj E l d fuel e=true):xg E e:=by
 unfold xj at h
 cases hr:xh E (Gj l) fuel d (.fn e.f) e.args (qA e.nx e.K) with
 | panic v h1=>rw[hr] at h;cases h
 | fail w o=>rw[hr] at h;cases h
 | ret v h1=>
  rw[hr] at h
  obtain ⟨h2,h⟩:=N7 (show bc (Nat.beq h1.nx e.nx') (bc (AV.same 20 v e.v) (yz h1 e.K') false) false=true from h)
  obtain ⟨h3,h4⟩:=N7 h
  obtain rfl:=AV.ql _ _ _ h3
  exact kR.sub (Sub.refl _) (Sub.QZ h2 h4) (Mo hE (IH hl) hr)
end Go.Ab
end
section
namespace Go.Ab
variable {E:Env}
theorem LR.CE {φ φ':Ph} {xs:List AV} {ys zs:List Value} (h:LR φ xs ys) (h':LR φ' xs zs) (ih:∀(i:Nat) (x:AV) (y z:Value),xs[i]? =some x→ys[i]? =some y→zs[i]? =some z→VR φ x z):LR φ xs zs:=by
 refine ⟨h'.1,fun i x z hx hz=>?_⟩
 have hi:i<xs.length:=(List.getElem?_eq_some_iff.1 hx).1
 have:i<ys.length:=by rw[←h.1];exact hi
 exact ih i x ys[i] z hx (by simp [this]) hz
theorem VR.back {φ φ':Ph} (hle:φ.le φ') {x:AV} {y:Value} (h:VR φ x y):∀{z:Value},VR φ' x z→VR φ x z:=by
 induction h with
 | bool b=>intro z h;cases h;exact .bool b
 | int k n=>intro z h;cases h;exact .int k n
 | str s=>
  intro z h
  generalize he:AV.str s.data.toList=q at h
  cases h with
  | str s'=>exact .str s'
  | _=>cases he
 | jq=>intro z h;cases h;exact .jq
 | ptr o h=>intro z h';cases h' with | ptr _ h'=>rw[hle _ _ h] at h';cases h';exact .ptr o h
 | aw=>intro z h;cases h;exact .aw
 | slice o len cap op h=>intro z h';cases h' with | slice _ _ _ _ h'=>rw[hle _ _ h] at h';cases h';exact .slice o len cap op h
 | fJ a cap=>intro z h;cases h;exact .fJ _ _
 | gI=>intro z h;cases h;exact .gI
 | map h=>intro z h';cases h' with | map h'=>rw[hle _ _ h] at h';cases h';exact .map h
 | func f a b a' b' la lb ha hb iha ihb=>
  intro z h
  obtain ⟨c,d,rfl,hc,hd⟩:=VR.Cm h
  have h1:LR φ a c.toList:=LR.CE (ys:=a'.toList) ⟨by simpa using la,fun i x y p q=>ha i x y p (by simpa using q)⟩ hc fun i x y z p q r=>iha i x y p (by simpa using q) (hc.2 i x z p r)
  have h2:LR φ b d.toList:=LR.CE (ys:=b'.toList) ⟨by simpa using lb,fun i x y p q=>hb i x y p (by simpa using q)⟩ hd fun i x y z p q r=>ihb i x y p (by simpa using q) (hd.2 i x z p r)
  have:=VR.aaC f h1 h2
  simpa using this
 | nilFunc=>intro z h;cases h;exact .nilFunc
 | yield h=>intro z h';cases h' with | yield h'=>rw[hle _ _ h] at h';cases h';exact .yield h
 | iface t v v' h ih=>intro z h';cases h' with | iface _ _ _ h'=>exact .iface t v _ (ih h')
 | nilIface=>intro z h;cases h;exact .nilIface
 | agg cs lj hl h ih=>
  intro z h'
  obtain ⟨d,rfl,hd⟩:=VR.mK h'
  have h1:LR φ cs d.toList:=LR.CE (ys:=lj.toList) ⟨by simpa using hl,fun i x y p q=>h i x y p (by simpa using q)⟩ hd fun i x y z p q r=>ih i x y p (by simpa using q) (hd.2 i x z p r)
  have:=VR.Yf h1
  simpa using this
 | any v h=>intro z h';cases h' with | any _ h'=>exact .any _ h'
 | tuple cs lj hl h ih=>
  intro z h'
  obtain ⟨d,rfl,hd⟩:=VR.L_ h'
  have h1:LR φ cs d.toList:=LR.CE (ys:=lj.toList) ⟨by simpa using hl,fun i x y p q=>h i x y p (by simpa using q)⟩ hd fun i x y z p q r=>ih i x y p (by simpa using q) (hd.2 i x z p r)
  have:=VR.tuple' h1
  simpa using this
theorem LR.back {φ φ':Ph} (hle:φ.le φ') {xs:List AV} {ys zs:List Value} (h:LR φ xs ys) (h':LR φ' xs zs):LR φ xs zs:=
 LR.CE h h' fun i x y z p q r=>(h.2 i x y p q).back hle (h'.2 i x z p r)
theorem OR.back {φ φ':Ph} (hle:φ.le φ') {o:aN} {l:Loc} {x z:Option Obj} (h:OR E φ o l x) (h':OR E φ' o l z):OR E φ o l z:=by
 cases o with
 | cells cs e ro=>
  obtain ⟨C,e1,lo,hi,_,hc⟩:=h
  obtain ⟨D,e2,Tu,Qc,hz,hd⟩:=h'
  refine ⟨D,e2,Tu,Qc,hz,⟨hd.size,fun k x hk=>?_,hd.free,hd.zero⟩,hd.shape⟩
  obtain ⟨y,_,hy⟩:=hc.val k x hk
  obtain ⟨y',h1,hy'⟩:=hd.val k x hk
  exact ⟨y',h1,hy.back hle hy'⟩
 | map es clock=>
  obtain ⟨_,es1,_,hl,hv⟩:=h
  obtain ⟨h0,es2,hz,hl',hv'⟩:=h'
  refine ⟨h0,es2,hz,hl',fun i x y hx hy=>?_⟩
  have hi:i<es.length:=(List.getElem?_eq_some_iff.1 hx).1
  have:i<es1.toList.length:=by rw[←hl];exact hi
  have a:=hv i x _ hx (List.getElem?_eq_getElem this)
  have b:=hv' i x y hx hy
  exact ⟨a.key.back hle b.key,a.val.back hle b.val,b.born⟩
 | xb s pos=>exact h'
 | x9 m since seen vS=>
  cases m with
  | none=>exact h'
  | some m=>
   obtain ⟨_,lm,hm,_⟩:=h
   obtain ⟨h0,lm',hm',hz⟩:=h'
   rw[hle _ _ hm] at hm';cases hm'
   exact ⟨h0,lm,hm,hz⟩
 | loop st pd ts ps as_ bd dn=>
  obtain ⟨_,r,_,hr⟩:=h
  obtain ⟨h0,r',hz,hr'⟩:=h'
  obtain ⟨ld,hd,_⟩:=hr.defers
  obtain ⟨ld',Yp,Tc⟩:=hr'.defers
  rw[hle _ _ hd] at Yp;cases Yp
  exact ⟨h0,r',hz,hr'.state,hr'.pending,hr.tmps.back hle hr'.tmps,hr'.params,hr'.assign,hr'.body,⟨ld,hd,Tc⟩,hr'.fn⟩
 | Qk=>exact h'
def Has (h h':az):Prop:=∀i o,h.get i=some o→h'.get i=some o
theorem Has.refl (h:az):Has h h:=fun _ _ e=>e
theorem Has.trans {a b c:az} (x:Has a b) (y:Has b c):Has a c:=fun i o e=>y i o (x i o e)
theorem OK.forget {φ φ':Ph} {h h':az} {w w':World} (ok:OK E φ h w) (hle:φ.le φ') (Ag:OK E φ' h' w') (hs:Has h h'):OK E φ h w' where
 EF:=ok.EF
 nx:=ok.nx
 yh:=ok.yh
 live i o l a b:=(ok.live i o l a b).back hle (Ag.live i o l (hs i o a) (hle _ _ b))
 inj:=ok.inj
theorem Fr.forget {φ φ':Ph} {h h':az} {w w':World} (f:Fr φ h w φ' h' w'):Fr φ h w φ h w' where
 ext:=Ph.le_refl φ
 old _ _:=rfl
 nx:=Nat.le_refl _
 os:=f.os
 tape:=f.tape
 output:=f.output
 size:=f.size
 G7:=f.G7
 own i o l a b c:= .inr ⟨i,o,l,a,b,c,rfl⟩
def AV.plain:Nat→AV→Bool
 | 0,_=>false
 | n+1,x=>match x with
  | .bool _ | .int .. | .str _ | .jq | .aw | .gI | .nilFunc | .nilIface=>true
  | .iface _ v=>AV.plain n v
  | .agg cs=>cs.all (AV.plain n)
  | .tuple cs=>cs.all (AV.plain n)
  | _=>false
theorem VR.plain {φ φ':Ph}:∀(n:Nat) {x:AV} (_:AV.plain n x=true) {y:Value},VR φ' x y→VR φ x y
 | 0,_,h,_,_=>by cases h
 | n+1,x,h,y,hv=>by
  have ih:= @VR.plain φ φ' n
  cases hv with
  | bool b=>exact .bool b
  | int k m=>exact .int k m
  | str s=>exact .str s
  | jq=>exact .jq
  | aw=>exact .aw
  | gI=>exact .gI
  | nilFunc=>exact .nilFunc
  | nilIface=>exact .nilIface
  | iface t v v' h'=>exact .iface t v v' (ih (by simpa [AV.plain] using h) h')
  | agg cs lj hl hc=>
   refine .agg cs lj hl fun i x y a b=>ih ?_ (hc i x y a b)
   simp only[AV.plain,List.all_eq_true] at h
   exact h x (List.mem_of_getElem? a)
  | tuple cs lj hl hc=>
   refine .tuple cs lj hl fun i x y a b=>ih ?_ (hc i x y a b)
   simp only[AV.plain,List.all_eq_true] at h
   exact h x (List.mem_of_getElem? a)
  | _=>cases h
theorem kR.closed {f:FuncId} {args:List AV} {h':az} {v:AV} (r:kR E f args (Fa.qA E.G []) v h') (ha:args.all (AV.plain 20)=true) (hv:AV.plain 20 v=true) (h:az):kR E f args h v h:=fun φ w vs ok hl=>by
 let φ0:Ph:=fun i=>if i<E.G then φ i else none
 have hle:φ0.le φ:=fun i l e=>by
  simp only[φ0] at e
  split at e
  · exact e
  · cases e
 have aa9:∀{i o},(Fa.qA E.G []).get i=some o→False:=fun e=>by cases Fa.EU e
 have ok0:OK E φ0 (Fa.qA E.G []) w:=by
  refine ⟨fun i l e=>?_,Nat.le_refl _,fun g hg=>?_,fun i o l e=>(aa9 e).elim,fun i j o p l m e=>(aa9 e).elim⟩
  · simp only[φ0] at e
    split at e
    · assumption
    · cases e
  · simp only[φ0,hg,if_true];exact ok.yh g hg
 have hl0:LR φ0 args vs:=⟨hl.1,fun i x y a b=>(hl.2 i x y a b).plain 20 (List.all_eq_true.1 ha x (List.mem_of_getElem? a))⟩
 obtain ⟨h1,h2⟩:=r φ0 w vs ok0 hl0
 refine ⟨h1,fun cs=>?_⟩
 obtain ⟨φ',w',v',fr,x1,x2,x3,x4⟩:=h2 cs
 have aij:∀b,b<w.heap.size→w'.heap[b]? =w.heap[b]? :=fun b hb=>x3.G7 b hb fun i o l e=>(aa9 e).elim
 refine ⟨φ,w',v',fr,x1.plain 20 hv,⟨ok.EF,ok.nx,ok.yh,fun i o l a b=>?_,ok.inj⟩,⟨Ph.le_refl φ,fun _ _=>rfl,Nat.le_refl _,x3.os,x3.tape,x3.output,x3.size,fun b hb _=>aij b hb,fun i o l a b c=> .inr ⟨i,o,l,a,b,c,rfl⟩⟩,x4⟩
 have hr:=ok.live i o l a b
 by_cases hb:l.fB<w.heap.size
 · rw[aij _ hb];exact hr
 · rw[Array.getElem?_eq_none (by omega)] at hr
   exact hr.absurd.elim
end Go.Ab
end
section
namespace Go.Ab
variable {E:Env} {call:b8} {n:Nat} {s:St}
def opK {α β:Type} (o:Option α) (f:α→β) (d:β):β:=match o with
 | some a=>f a
 | none=>d
noncomputable def ajt (E:Env) (call:b8) (n:Nat) (o:Out) (b:Code):Out:=match o with
 | .ok .normal s=>exec E call n b s
 | r=>r
theorem Gl (s:St) (b:Code):ajt E call n (.ok .normal s) b=exec E call n b s:=rfl
def abb (id:Nat) (o:Out):Out:=match o with
 | .ok (.exit id') s'=>if id'=id then .ok .normal s' else .ok (.exit id') s'
 | r=>r
theorem Gm (i j:Nat) (s:St):abb i (.ok (.exit j) s)=if j=i then .ok .normal s else .ok (.exit j) s:=rfl
noncomputable def abc (E:Env) (call:b8) (n:Nat) (o:Option AV) (a b:Code) (s:St):Out:=match o with
 | some (.bool true)=>exec E call n a s
 | some (.bool false)=>exec E call n b s
 | _=> .fail "cond" none
theorem TS (a b:Code):abc E call n (some (.bool true)) a b s=exec E call n a s:=rfl
theorem Q1 (a b:Code):abc E call n (some (.bool false)) a b s=exec E call n b s:=rfl
theorem aik (a b:Code):exec E call (n+1) (.seq a b) s=ajt E call n (exec E call n a s) b:=rfl
theorem abd (x:Operand) (a b:Code):exec E call (n+1) (.cond x a b) s=abc E call n (gn E s.ts x) a b s:=rfl
theorem N9 (id:Nat) (b:Code):exec E call (n+1) (.block id b) s=abb id (exec E call n b s):=rfl
theorem abe (b:Code):exec E call (n+1) (.loop b) s=ajt E call n (exec E call n b s) (.loop b):=rfl
theorem abf (i:Nat) (ops:Array Oper):exec E call (n+1) (.region i ops false) s=EB E call ops ops.toList s:=rfl
theorem afN (i:Nat) (ops:Array Oper):exec E call (n+1) (.region i ops true) s=L9 E call ops s:=rfl
section
variable {ops:Array Oper} {rest:List Oper} {d:Option Tmp} {op:Op} {ty:TypeId} {pos:String} {aft:Array Edge} {g:Option (Nat×Bool)}
end
theorem j8 (m:Nat) (a:List UInt8):AV.same (m+1) (.str a) (.str a)=true:=by simp [AV.same]
theorem aS (m:Nat) (k:IntKind) (a:Int):AV.same (m+1) (.int k a) (.int k a)=true:=by simp [AV.same]
theorem mM (m:Nat) (a:Bool):AV.same (m+1) (.bool a) (.bool a)=true:=by simp [AV.same]
theorem gy (m i o l c:Nat) (b:Bool):AV.same (m+1) (.slice i o l c b) (.slice i o l c b)=true:=by simp [AV.same]
open Classical in
section
variable {ops:Array Oper} {rest:List Nat} {d:Option Tmp} {op:Op} {ty:TypeId} {pos:String} {aft:Array Edge} {g:Option (Nat×Bool)}
end
theorem wrap_i64 {n:Int} (h0: -9223372036854775808≤n) (h1:n<9223372036854775808):IntKind.i64.wrap n=n:=by
 show (if (true&&decide (n%2^64≥2^63))=true then n%2^64 - 2^64 else n%2^64)=n
 by_cases hn:n%2^64≥2^63
 · rw[if_pos (by rw[Bool.true_and];exact decide_eq_true hn)];omega
 · rw[if_neg (by rw[Bool.true_and];exact fun e=>hn (of_decide_eq_true e))];omega
theorem Yu {fuel:Nat} {f:FuncId} {fn:Func} {c:Code} (hf:E.P.funcs[f]? =some fn) (hb:fn.body=some c) {args:List AV} {h h':az} {ts:List AV} {x:oP} (hx:x= .normal∨x= .ret)
 (e:exec E call fuel c ⟨args++List.replicate (fn.ntmps - args.length) AV.undef,h,[],.no⟩= .ok x ⟨ts,h',[],.no⟩) {vs:List AV} (hr:xN E h' ts fn.results.toList=some vs):AB E call fuel f args h= .ret (vW vs) h':=by
 unfold AB
 simp only[hf,hb,Ii,e]
 rcases hx with rfl | rfl<;>simp only[zM,kM,hr]
def IJ (M:Fa.CD):b8:=fun F args h=>match F with
 | .fn f=>match M f args h with
  | some p=> .ret p.1 p.2
  | none=> .fail "" none
 | .K_ _=> .fail "" none
theorem Yv {M:Fa.CD} (hM:Fa.yx E M):kS E (IJ M):=by
 refine ⟨fun F args h v h' e=>?_,fun F args h v h' e=>?_⟩
 · cases F with
   | K_ l=>cases e
   | fn f=>
    simp only[IJ] at e
    cases hm:M f args h with
    | none=>rw[hm] at e;cases e
    | some p=>
     rw[hm] at e
     simp only[A6.ret.injEq] at e
     obtain ⟨rfl,rfl⟩:=e
     exact (hM _ _ _ _ _ hm).any
 · cases F with
   | K_ l=>cases e
   | fn f=>
    simp only[IJ] at e
    cases hm:M f args h with
    | none=>rw[hm] at e;cases e
    | some p=>rw[hm] at e;cases e
def ark (E:Env) (x:Option (TypeId×Nat)) (v:Option AV):Option AV:=match x,v with
 | some (t,o),some (.ptr i off)=>match dm E t with
  | some n=>if n=0 then none else some (.ptr i (off+o))
  | none=>none
 | _,_=>none
def iK (E:Env) (op:BinOp) (t:TypeId) (xc yc:Bool) (a b:Option AV):Option AV:=match a,b with
 | some a,some b=>Cj E op t xc yc a b
 | _,_=>none
theorem afO {ts:List AV} (op:BinOp) (t t':TypeId) (x y:Operand):dY E ts (.binOp op t x y t')=iK E op t (isConst x) (isConst y) (gn E ts x) (gn E ts y):=by
 simp only[dY,iK]
 cases gn E ts x<;>cases gn E ts y<;>rfl
theorem afP (t:TypeId) (c d:Bool) (k:IntKind) (a b:Int):iK E .add t c d (some (.int k a)) (some (.int k b))=some (.int k (k.wrap (a+b))):=by simp [iK,Cj,sA]
theorem afQ (t:TypeId) (c d:Bool) (k:IntKind) (a b:Int):iK E .sub t c d (some (.int k a)) (some (.int k b))=some (.int k (k.wrap (a - b))):=by simp [iK,Cj,sA]
theorem afR (t:TypeId) (c d:Bool) (k:IntKind) (a b:Int):iK E .eql t c d (some (.int k a)) (some (.int k b))=some (.bool (decide (a=b))):=by simp [iK,Cj,sA];rfl
theorem afS (t:TypeId) (c d:Bool) (k:IntKind) (a b:Int):iK E .neq t c d (some (.int k a)) (some (.int k b))=some (.bool (!decide (a=b))):=by simp [iK,Cj,sA];rfl
theorem afT (t:TypeId) (c d:Bool) (k:IntKind) (a b:Int):iK E .lss t c d (some (.int k a)) (some (.int k b))=some (.bool (decide (a<b))):=by simp [iK,Cj,sA]
theorem afU (t:TypeId) (c d:Bool) (k:IntKind) (a b:Int):iK E .leq t c d (some (.int k a)) (some (.int k b))=some (.bool (decide (a≤b))):=by simp [iK,Cj,sA]
theorem afV (t:TypeId) (c d:Bool) (k:IntKind) (a b:Int):iK E .gtr t c d (some (.int k a)) (some (.int k b))=some (.bool (decide (b<a))):=by simp [iK,Cj,sA]
theorem afW (t:TypeId) (c d:Bool) (k:IntKind) (a b:Int):iK E .geq t c d (some (.int k a)) (some (.int k b))=some (.bool (decide (b≤a))):=by simp [iK,Cj,sA]
theorem abg (t:TypeId) (c d:Bool) (a b:List UInt8):iK E .eql t c d (some (.str a)) (some (.str b))=some (.bool (decide (a=b))):=by
 simp only[iK,Cj,Ie,Option.some.injEq,AV.bool.injEq]
 exact Bool.eq_iff_iff.2 (by simp)
theorem abh (t:TypeId) (c d:Bool) (a b:List UInt8):iK E .neq t c d (some (.str a)) (some (.str b))=some (.bool (!decide (a=b))):=by
 simp only[iK,Cj,Ie,Option.some.injEq,AV.bool.injEq]
 exact congrArg (!·) (Bool.eq_iff_iff.2 (by simp))
def hG (E:Env) (d:Option TypeDesc) (v i:Option AV):Option AV:=match d,v,i with
 | some (.slice elem),some (.slice i o len _ _),some (.int _ n)=>match dm E elem with
  | some size=>if 0≤n∧n<len then some (.ptr i (o+n.toNat*size)) else none
  | none=>none
 | some (.array len elem),some (.ptr i o),some (.int _ n)=>match dm E elem with
  | some size=>if 0≤n∧n<len then some (.ptr i (o+n.toNat*size)) else none
  | none=>none
 | _,_,_=>none
theorem Q2 {ts:List AV} (t:TypeId) (x i:Operand):dY E ts (.indexAddr t x i)=hG E (E.P.underlying t) (gn E ts x) (gn E ts i):=by
 simp only[dY,hG]
 split<;>simp_all<;>(split<;>simp_all)
theorem mo {e:TypeId} {i o len c z:Nat} {b:Bool} {size:Nat} (hs:dm E e=some size) (hz:z<len):hG E (some (.slice e)) (some (.slice i o len c b)) (some (.int .i64 (z:Int)))=some (.ptr i (o+z*size)):=by
 simp only[hG,hs]
 rw[if_pos ⟨by omega,by omega⟩,Int.toNat_natCast]
def EV (d:Option TypeDesc) (v:Option AV):Option AV:=match d,v with
 | some (.slice _),some .aw=>some (.int .i64 0)
 | some (.slice _),some (.slice _ _ n _ _)=>some (.int .i64 n)
 | some (.slice _),some .fJ=>some (.int .i64 0)
 | some .string,some (.str s)=>some (.int .i64 s.length)
 | some (.array n _),some _=>some (.int .i64 n)
 | some (.map _ _),some .gI=>some (.int .i64 0)
 | _,_=>none
theorem ank {ts:List AV} (x:Operand) (t:TypeId):dY E ts (.call ⟨.builtin .len, #[x], #[t]⟩)=EV (E.P.underlying t) (gn E ts x):=by
 simp only[dY,lq,iX,List.getElem?_toArray,List.getElem?_cons_zero]
 generalize gn E ts x=o
 cases o with
 | none=>
  generalize E.P.underlying t=u
  cases u with
  | none=>rfl
  | some d=>cases d<;>rfl
 | some v=>
  simp only
  generalize E.P.underlying t=u
  cases u with
  | none=>rfl
  | some d=>cases d<;>cases v<;>rfl
theorem lX {ts:List AV} {h:az} (t:TypeId) (x:Operand):kF E ts h (.load t x)=opK (gn E ts x) (cX E h t) none:=by
 simp only[kF];cases gn E ts x<;>rfl
theorem ju (e:TypeId) (i o n c:Nat) (b:Bool):EV (some (.slice e)) (some (.slice i o n c b))=some (.int .i64 n):=rfl
theorem abi (e:TypeId):EV (some (.slice e)) (some .aw)=some (.int .i64 0):=rfl
theorem aju (e:TypeId):EV (some (.slice e)) (some .fJ)=some (.int .i64 0):=rfl
def Tidy (h:az):Prop:=∀i o,h.get i=some o→i<h.nx
def Bk (E:Env) (d:Option TypeDesc) (v i:Option AV):Option AV:=match d,v,i with
 | some (.array len elem),some (.agg cs),some (.int _ n)=>match dm E elem with
  | some size=>if 0≤n∧n<len then nG E elem cs (n.toNat*size) else none
  | none=>none
 | some .string,some (.str s),some (.int _ n)=>if 0≤n then (match s[n.toNat]? with | some b=>some (.int .u8 b.toNat) | none=>none) else none
 | _,_,_=>none
theorem afX {ts:List AV} (t:TypeId) (x i:Operand):dY E ts (.index t x i)=Bk E (E.P.underlying t) (gn E ts x) (gn E ts i):=by
 simp only[dY,Bk]
 split
 · simp_all
   split<;>simp_all
 · rename_i s k n _ _ _
   simp_all
   cases s[n.toNat]? <;>rfl
 · simp_all
theorem abj {s:List UInt8} {z:Nat} {b:UInt8} (h:s[z]? =some b):Bk E (some .string) (some (.str s)) (some (.int .i64 (z:Int)))=some (.int .u8 b.toNat):=by
 simp only[Bk]
 rw[if_pos (by omega),Int.toNat_natCast,h]
end Go.Ab
end
section
namespace Go.Ab
open Go.ChangeShapes Go.WideShapes Go.RowKit
variable {E:Env}
def CG (h:az):Prop:=∀i o,h.get i=some o→o.rw=false
theorem OK.show {φ:Ph} {h:az} {w:World} (ok:OK E φ h w) (hro:CG h) {b off:Nat} {cs:List AV} {e:TypeId} (gX:cs≠ []) (hz:∀m,cs≠ [.map m])
 (hC:∀(k:Nat) (x:AV),cs[k]? =some x→∃y,w.cell? ⟨b,off+k,none⟩=some y∧VR φ x y):
 ∃h',h.new (.cells cs e true)=some h'∧OK E (φ.add h.nx ⟨b,off,0⟩) h' w∧φ.le (φ.add h.nx ⟨b,off,0⟩)∧CG h'∧h'.nx=h.nx+1∧h'.get h.nx=some (.cells cs e true)∧(∀j,j≠h.nx→h'.get j=h.get j)∧(φ.add h.nx ⟨b,off,0⟩) h.nx=some ⟨b,off,0⟩:=by
 obtain ⟨h',hn⟩:∃h',h.new (.cells cs e true)=some h':=by
  exact ⟨_,az.Nz _ _⟩
 obtain ⟨pI,ajv,Im,hold⟩:=az.oW hn
 have K5:φ h.nx=none:=by
  cases e:φ h.nx with
  | none=>rfl
  | some m=>exact absurd (ok.EF _ _ e) (Nat.lt_irrefl _)
 have hle:φ.le (φ.add h.nx ⟨b,off,0⟩):=fun i m hm=>by
  unfold Ph.add;split
  · rename_i e;subst e;rw[K5] at hm;simp at hm
  · exact hm
 have ny:∀j,j≠h.nx→(φ.add h.nx ⟨b,off,0⟩) j=φ j:=fun j hj=>by simp [Ph.add,hj]
 have j6:(φ.add h.nx ⟨b,off,0⟩) h.nx=some ⟨b,off,0⟩:=by simp [Ph.add]
 have jU:∀j p,h'.get j=some p→(j=h.nx∧p= .cells cs e true)∨(j≠h.nx∧h.get j=some p):=fun j p hj=>by
  by_cases e:j=h.nx
  · subst e;rw[Im] at hj;simp at hj;exact .inl ⟨rfl,hj.symm⟩
  · rw[hold j e] at hj;exact .inr ⟨e,hj⟩
 have hlen:0<cs.length:=List.length_pos_iff.2 gX
 obtain ⟨y0,hy0,_⟩:=hC 0 cs[0] (by simp [hlen])
 obtain ⟨C,e',lo,hi,hw⟩:∃C e' lo hi,w.heap[b]? =some (.cells C e' (lo,hi)):=by
  unfold World.cell? at hy0
  split at hy0
  · rename_i C e' fz hw;obtain ⟨lo,hi⟩:=fz;exact ⟨C,e',lo,hi,hw⟩
  · cases hy0
 have Mp:∀k,w.cell? ⟨b,off+k,none⟩=C[off+k]? :=fun k=>by simp [World.cell?,hw]
 refine ⟨h',hn,⟨fun i m hm=>?_,by rw[ajv];exact Nat.le_succ_of_le ok.nx,fun g hg=>hle _ _ (ok.yh g hg),fun j p m hj hm=>?_,fun j k p q m n hj hk hm xO hw hb=>?_⟩,hle,fun j p hj=>?_,ajv,Im,hold,j6⟩
 · rw[ajv]
   by_cases e:i=h.nx
   · omega
   · rw[ny i e] at hm;have:=ok.EF i m hm;omega
 · rcases jU j p hj with ⟨rfl,rfl⟩ | ⟨ND,tu⟩
   · rw[j6] at hm;simp at hm;subst hm
     refine ⟨C,e',lo,hi,hw,⟨?_,fun k x hk=>?_,(fun h=>by cases h),fun _ m hm=>absurd hm (hz m)⟩,fun h=>by cases h⟩
     · obtain ⟨y,hy,_⟩:=hC (cs.length - 1) cs[cs.length - 1] (List.getElem?_eq_getElem (by omega))
       rw[Mp] at hy
       have:=(Array.getElem?_eq_some_iff.1 hy).1
       simp only[iJ,Nat.zero_mul]
       omega
     · obtain ⟨y,hy,hv⟩:=hC k x hk
       rw[Mp] at hy
       exact ⟨y,hy,hv.mono hle⟩
   · rw[ny j ND] at hm
     exact (ok.live j p m tu hm).mono hle
 · rcases jU j p hj with ⟨rfl,rfl⟩ | ⟨arl,tu⟩<;>rcases jU k q hk with ⟨rfl,rfl⟩ | ⟨arn,La⟩
   · rfl
   · rw[hro k q La] at hw;rcases hw with h | h<;>cases h
   · rw[hro j p tu] at hw;rcases hw with h | h<;>cases h
   · rw[ny j arl] at hm;rw[ny k arn] at xO;exact ok.inj _ _ _ _ _ _ tu La hm xO hw hb
 · rcases jU j p hj with ⟨_,rfl⟩ | ⟨_,tu⟩
   · rfl
   · exact hro j p tu
theorem CG.begin {G:Nat} {l:List Tab}:CG (sR G l):=fun i o h=>by
 obtain ⟨x,_,_,rfl⟩:=we h;rfl
theorem N_ {f:FuncId} {avs:List AV} {h h':az} (r:kR E f avs h (.bool true) h') {φ:Ph} {w:World} {vs:List Value} (ok:OK E φ h w) (hl:LR φ avs vs) (hro:CG h):
 Calls E.P f vs.toArray w fun en w'=>en= .returned (.bool true)∧w.keptBut w' (fun _=>False):=fun cs=>by
 obtain ⟨_,lN⟩:=r φ w vs ok hl
 obtain ⟨φ',w',v',fr,hv,_,sv,h1,h2,h3⟩:=lN cs
 cases hv
 refine ⟨.returned (.bool true),w',fr,⟨rfl,sv.os,sv.output,fun i hi=>?_⟩,h1,h2,h3⟩
 rw[sv.G7 i hi (fun j o l' q1 q2 _=>by rw[hro j o q1] at q2;cases q2)]
 cases w.heap[i]? with
 | none=>rfl
 | some o=>cases o with
  | cells c t fz=>exact ⟨rfl,rfl,rfl,fun _ _=>rfl⟩
  | map es c=>exact .inr ⟨rfl,rfl⟩
  | _=>rfl
section
variable {H:Type} {enc:TypeId×Value→H} {w:World} {base:Nat} {spare:Nat→Bool} {held:Bool} {fuel:Nat} {t:TypeId} {x:DataW H×List MemPlace}
end
section
variable {H:Type} {enc:TypeId×Value→H} {P:Program} {w w':World}
theorem IK (hk:w.keptBut w' (fun _=>False)) {p:MemPlace} (hp:p.block<w.heap.size):w.sameAt w' p:=by
 have h:=hk.block hp (fun _ h=>h.elim)
 cases p with
 | cell b off=>simp only[World.sameAt,World.cell?];rw[show w'.heap[b]? =w.heap[b]? from h]
 | map b=>exact h
theorem Mq (hl:laidOutB P=true) (hk:w.keptBut w' (fun _=>False)):∀{ts:List TypeId} {vs:List Value} {ds:List (DataW H)} {ps:List MemPlace},(∀t∈ts,P.readableRec t=true∧t<P.types.size)→
 DataW.TrodAll enc P w 0 (fun _=>true) true ts vs ds ps→DataW.TrodAll enc P w' 0 (fun b=>decide (b<w.heap.size)) true ts vs ds ps
 | [],vs,ds,ps,_,h=>by
  obtain ⟨rfl,rfl,rfl⟩:=trodAll_nil h
  exact trodAll_mk0
 | t::ts,vs,ds,ps,hr,h=>by
  have pI:=DataW.TrodAll.lt h
  obtain ⟨v,yk,d,EM,p,p',rfl,rfl,rfl,⟨n,h1⟩,h2⟩:=trodAll_cons h
  obtain ⟨h3,h4⟩:=hr t (by simp)
  refine trodAll_cons_mk ⟨n,?_⟩ (Mq hl hk (fun t ht=>hr t (by simp [ht])) h2)
  exact DataW.trod_stays (kids_book hl h3) (book_sized h3) (fun h=>by cases h) ⟨h4,book_self t⟩ h1 (fun q hq=>IK hk (pI q (by simp [hq]))) (fun q hq=>by simpa using pI q (by simp [hq]))
end
end Go.Ab
end
section
namespace Go.Ab
variable {E:Env}
end Go.Ab
end
