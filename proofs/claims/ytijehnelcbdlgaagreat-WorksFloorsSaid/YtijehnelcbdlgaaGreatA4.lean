import Derived.Test.YtijehnelcbdlgaaGreatA3
import Derived.Test.YtijehnelcbdlgaaGreatA0
set_option linter.unusedVariables false
set_option linter.unusedSimpArgs false
section
namespace Go.Ab
variable {E:Env}
def HG (P:Program) (m:Machine) (b:Frame) (k:List Item) (cs:List Frame):Exit→Act→World→Prop
 | .normal,a,w=>Steps P m (lone (b.atR a k) cs w)
 | .exit id,a,w=>∃todo,exitTo id todo=exitTo id k∧Steps P m (lone (b.atR a (.code (.exit id)::todo)) cs w)
 | .ret,a,w=>∃todo,Steps P m (lone (b.atR a (.code .ret::todo)) cs w)
 | .panic chain,a,w=>∃todo,Steps P m (lone {b.atR a todo with mode:= .panicking chain} cs w)
 | _,_,_=>False
theorem HG.of_steps {P:Program} {m m':Machine} {b:Frame} {k:List Item} {cs:List Frame} {e:Exit} {a:Act} {w:World} (hs:Steps P m m') (h:HG P m' b k cs e a w):HG P m b k cs e a w:=by
 cases e with
 | normal=>exact Steps.trans hs h
 | exit id=>obtain ⟨t,h1,h2⟩:=h;exact ⟨t,h1,Steps.trans hs h2⟩
 | ret=>obtain ⟨t,h2⟩:=h;exact ⟨t,Steps.trans hs h2⟩
 | panic c=>obtain ⟨t,h2⟩:=h;exact ⟨t,Steps.trans hs h2⟩
 | goto l=>exact h.elim
 | outgrown=>exact h.elim
theorem HG.pass {P:Program} {m:Machine} {b:Frame} {x:Item} {k:List Item} {cs:List Frame} {e:Exit} {a:Act} {w:World} (hx:∀id,exitTo id (x::k)=exitTo id k) (hn:e≠ .normal) (h:HG P m b (x::k) cs e a w):HG P m b k cs e a w:=by
 cases e with
 | normal=>exact absurd rfl hn
 | exit id=>obtain ⟨t,h1,h2⟩:=h;exact ⟨t,h1.trans (hx id),h2⟩
 | ret=>exact h
 | panic c=>exact h
 | goto l=>exact h.elim
 | outgrown=>exact h.elim
structure qn (E:Env) (φ:Ph) (h:ak) (w:World) (b:Frame) (K:Bool→List Frame) (k:List Item) (m:Machine) (e:kR) (s':St):Prop where
 is:∃φ' w' a' e',Yt φ' e e'∧SR φ' s'.ts s'.ds a'∧OK E φ' s'.h w'∧Fr φ h w φ' s'.h w'∧nH φ' b K s'.rc∧HG E.P m b k (cur K s'.rc) e' a' w'
theorem qn.of_steps {φ:Ph} {h:ak} {w:World} {b:Frame} {K:Bool→List Frame} {k:List Item} {m m':Machine} {e:kR} {s':St} (hs:Steps E.P m m') (x:qn E φ h w b K k m' e s'):qn E φ h w b K k m e s':=by
 obtain ⟨φ',w',a',e',h1,h2,h3,h4,h5,h6⟩:=x.is
 exact ⟨φ',w',a',e',h1,h2,h3,h4,h5,.of_steps hs h6⟩
theorem qn.later {φ φ₁:Ph} {h h₁:ak} {w w₁:World} {b:Frame} {K:Bool→List Frame} {k:List Item} {m:Machine} {e:kR} {s':St} (f:Fr φ h w φ₁ h₁ w₁) (x:qn E φ₁ h₁ w₁ b K k m e s'):qn E φ h w b K k m e s':=by
 obtain ⟨φ',w',a',e',h1,h2,h3,h4,h5,h6⟩:=x.is
 exact ⟨φ',w',a',e',h1,h2,h3,f.trans h4,h5,h6⟩
theorem OK.made {φ:Ph} {h h':ak} {w:World} (ok:OK E φ h w) {o:aK} {O:Obj} (hn:h.new o=some h') (ho:OR E (φ.add h.nx ⟨w.heap.size,0,0⟩) o ⟨w.heap.size,0,0⟩ (some O)):
 OK E (φ.add h.nx ⟨w.heap.size,0,0⟩) h' (w.alloc O)∧Fr φ h w (φ.add h.nx ⟨w.heap.size,0,0⟩) h' (w.alloc O)∧φ.le (φ.add h.nx ⟨w.heap.size,0,0⟩):=
 ok.fresh (w':=w.alloc O) hn ⟨w.heap.size,0,0⟩ (by rw[show (w.alloc O).heap=w.heap.push O from rfl];simpa using ho)
  (fun c ep hc=>by rw[show (w.alloc O).heap=w.heap.push O from rfl,Array.getElem?_push,if_neg (by simpa using ep)]) (by simp) (Nat.le_refl _) rfl rfl rfl
theorem OK.YD {φ:Ph} {h:ak} {w:World} (ok:OK E φ h w) {i:Nat} {o o':aK} {l:Loc} (hg:h.get i=some o) (G5:o.rw=true) (hl:φ i=some l) {O:Obj} (ho:OR E φ o' l (some O)):
 OK E φ (h.put i (some o')) (w.putObj l.fI O)∧Fr φ h w φ (h.put i (some o')) (w.putObj l.fI O):=by
 have lM:l.fI<w.heap.size:=by
  rcases Nat.lt_or_ge l.fI w.heap.size with h1 | h1
  · exact h1
  · have:=ok.live i o l hg hl
    rw[Array.getElem?_eq_none h1] at this
    exact this.absurd.elim
 exact ok.change hg G5 hl (by rw[World.putObj_heap_same lM];exact ho) (fun c hc=>World.putObj_heap_other hc) World.putObj_size rfl rfl rfl
theorem OK.adO {φ:Ph} {h:ak} {w:World} (ok:OK E φ h w) {i:Nat} {o:aK} {l:Loc} (hg:h.get i=some o) (G5:o.rw=true) (hl:φ i=some l) (O:Obj):
 OK E φ (h.put i none) (w.putObj l.fI O)∧Fr φ h w φ (h.put i none) (w.putObj l.fI O):=by
 have gE:∀j p,(h.put i none).get j=some p→h.get j=some p∧j≠i:=fun j p hj=>by
  by_cases e:i=j
  · subst e;rw[ak.di] at hj;simp at hj
  · rw[ak.bR e] at hj;exact ⟨hj,Ne.symm e⟩
 refine ⟨⟨ok.An,ok.nx,ok.vo,fun j p m hj hm=>?_,fun j k p q m n hj hk=>ok.inj j k p q m n (gE j p hj).1 (gE k q hk).1⟩,
  ⟨Ph.le_refl φ,fun _ _=>rfl,Nat.le_refl _,rfl,rfl,rfl,by simp,fun b _ hn=>World.putObj_heap_other (fun e=>hn i o l hg G5 hl e.symm),fun j p m hj hr hm=> .inr ⟨j,p,m,(gE j p hj).1,hr,hm,rfl⟩⟩⟩
 obtain ⟨pc,ep⟩:=gE j p hj
 rw[World.putObj_heap_other (fun e=>ep (ok.inj j i p o m l pc hg hm hl (.inr G5) e))]
 exact ok.live j p m pc hm
theorem HI {s:St} {dn:Nat} {h1:ak} {X':List qK} (ho:PM s=some (dn,h1,X')) {φ:Ph} {a:Act} {w:World} {b:Frame} {K:Bool→List Frame} (hs:SR φ s.ts s.ds a) (ok:OK E φ s.h w) (gL:nH φ b K s.rc)
 (ps:Array Tmp) (as_ bd:Code):∃φ1 w1 ld mark,φ.le φ1∧OK E φ1 h1 w1∧Fr φ s.h w φ1 h1 w1∧φ1 dn=some ld∧SR φ1 s.ts X' {a with defers:=mark++a.defers}∧
  (Instr.enterLoop b.fn a.tmps ps as_ bd b.roundOf).run E.P w= .ok (w1.heap.size,mark) (w1.alloc (.loop {state:= .ready,pending:=none,fn:=b.fn,tmps:=a.tmps,params:=ps,assign:=as_,body:=bd,defers:=ld.fI})):=by
 unfold PM at ho
 split at ho
 · rename_i l hl
   split at ho
   · rename_i st pd ts sg wj bd' dn' hg
     simp at ho;obtain ⟨rfl,rfl,rfl⟩:=ho
     rw[hl] at gL
     obtain ⟨ll,hφ,Qb⟩:=gL
     obtain ⟨_,r,hr,yE⟩:=ok.live _ _ _ hg hφ
     obtain ⟨ld,hd1,hd2⟩:=yE.defers
     refine ⟨φ,w,ld,[],Ph.le_refl φ,ok,Fr.refl _ _ _,hd1,⟨hs.ts,hs.ds⟩,?_⟩
     rw[Qb,run_enterLoop_inner hr,hd2]
   · simp at ho
 · rename_i CZ
   split at ho
   · rename_i h1' hn
     simp at ho;obtain ⟨rfl,rfl,rfl⟩:=ho
     obtain ⟨HE,fr1,hle⟩:=ok.made (O:= .deferred (some [])) hn ⟨rfl,rfl⟩
     have gZ:(φ.add s.h.nx ⟨w.heap.size,0,0⟩) s.h.nx=some ⟨w.heap.size,0,0⟩:=by simp [Ph.add]
     refine ⟨_,_,⟨w.heap.size,0,0⟩,[{target:= .collected w.heap.size,args:= #[]}],hle,HE,fr1,gZ,⟨hs.ts.mono hle,⟨_,gZ,rfl⟩,hs.ds.mono hle⟩,?_⟩
     rw[gL.plain (Bl CZ),run_enterLoop_outer]
     simp
   · simp at ho
theorem Qo {c:Code} {e:kR} (h:L9 (some c)=some e):(∃id,c= .exit id∧e= .exit id)∨(c= .ret∧e= .ret):=by
 cases c<;>simp [L9] at h
 · exact .inl ⟨_,rfl,h.symm⟩
 · exact .inr ⟨rfl,h.symm⟩
theorem Fq {call:a_} (dC:iB E call) {f:Operand} {ps:Array Tmp} {as_ bd:Code} {s s':St} {e:kR} (h:nC E call f ps as_ bd s= .ok e s')
 {φ:Ph} {a:Act} {w:World} {b:Frame} {k:List Item} {K:Bool→List Frame} (hs:SR φ s.ts s.ds a) (ok:OK E φ s.h w) (gL:nH φ b K s.rc) (G7:(E.P.funcs[b.fn]?).isSome=true):
 qn E φ s.h w b K k (lone (b.atR a (.code (.rangeFunc f ps as_ bd)::k)) (cur K s.rc) w) e s':=by
 unfold nC at h
 split at h
 · rename_i g first captured hf
   split at h
   · rename_i dn h1 X' ho
     split at h
     · rename_i h2 hn
       have hfv:=nD ok.gl hs.ts hf
       generalize lA:a.eval f=cv at hfv
       obtain ⟨UA,iZ,rfl,hfs,hcs⟩:=hfv.A7
       obtain ⟨φ1,w1,ld,mark,abb,HE,fr1,hld,sA,vu⟩:=HI ho hs ok gL ps as_ bd
       obtain ⟨Br,Yz,UH⟩:=HE.made (O:= .loop {state:= .ready,pending:=none,fn:=b.fn,tmps:=a.tmps,params:=ps,assign:=as_,body:=bd,defers:=ld.fI}) hn
        ⟨rfl,_,rfl,⟨rfl,rfl,hs.ts.mono (Ph.le_trans abb (fun j m hm=>by
         unfold Ph.add;split
         · rename_i e;subst e;exact absurd (HE.An _ _ hm) (Nat.lt_irrefl _)
         · exact hm)),rfl,rfl,rfl,⟨ld,by
         unfold Ph.add;split
         · rename_i e;subst e;exact absurd (HE.An _ _ hld) (Nat.lt_irrefl _)
         · exact hld,rfl⟩,G7⟩⟩
       have hle:=Ph.le_trans abb UH
       have gZ:(φ1.add h1.nx ⟨w1.heap.size,0,0⟩) h1.nx=some ⟨w1.heap.size,0,0⟩:=by simp [Ph.add]
       generalize hφ2:φ1.add h1.nx ⟨w1.heap.size,0,0⟩=φ2 at Br Yz UH hle gZ
       have hl:LR φ2 (first++[.sC h1.nx]++captured) (UA.toList++[.func (.yield w1.heap.size) #[] #[]]++iZ.toList):=
        ((hfs.mono hle).append (.cons (.yield gZ) (.nil φ2))).append (hcs.mono hle)
       have De:∀w',(resolve a.eval (rangeCall f w1.heap.size) 0).run E.P w'= .ok {target:= .fn (.func g) iZ,args:=UA++ #[.func (.yield w1.heap.size) #[] #[]]} w':=fun w'=>by
        have adP:a.eval (.const (.func (.yield w1.heap.size) #[] #[]))= .func (.yield w1.heap.size) #[] #[]:=rfl
        simp [resolve,Deferred.ofValue,lA,adP]
       have start:∀n st,oG E φ2 (w1.alloc (.loop {state:= .ready,pending:=none,fn:=b.fn,tmps:=a.tmps,params:=ps,assign:=as_,body:=bd,defers:=ld.fI})) (.fn g) (UA.toList++[.func (.yield w1.heap.size) #[] #[]]++iZ.toList) n st→
        step E.P (lone (b.atR a (.code (.rangeFunc f ps as_ bd)::k)) (cur K s.rc) w)= .next (lone st (b.atR {a with defers:=mark++a.defers} (.inRangeFunc w1.heap.size::k)::cur K s.rc)
         (w1.alloc (.loop {state:= .ready,pending:=none,fn:=b.fn,tmps:=a.tmps,params:=ps,assign:=as_,body:=bd,defers:=ld.fI}))):=fun n st hp=>by
        cases hp with
        | fn _ _ hr=>
          have hinv:(invoke (Target.fn (.func g) iZ) (UA++ #[.func (.yield w1.heap.size) #[] #[]])).run E.P (w1.alloc (.loop {state:= .ready,pending:=none,fn:=b.fn,tmps:=a.tmps,params:=ps,assign:=as_,body:=bd,defers:=ld.fI}))=
           .ok (.enter g (UA.toList++[Value.func (.yield w1.heap.size) #[] #[]]++iZ.toList).toArray) (w1.alloc (.loop {state:= .ready,pending:=none,fn:=b.fn,tmps:=a.tmps,params:=ps,assign:=as_,body:=bd,defers:=ld.fI})):=by
           have e:(UA.toList++[Value.func (.yield w1.heap.size) #[] #[]]++iZ.toList).toArray=UA++ #[Value.func (.yield w1.heap.size) #[] #[]]++iZ:=by
            apply Array.toList_inj.1;simp
           rw[e] at hr ⊢
           simpa [invoke] using hr
          exact stepR_rangeFunc vu (De _) hinv
       split at h
       ·
        rename_i v h3 hc
        obtain ⟨n,st,hp,gP⟩:=dC.ret _ _ _ _ _ hc φ2 _ _ Br trivial hl
        obtain ⟨φ3,w3,v',_,ok3,T4,jo⟩:=gP (b.atR {a with defers:=mark++a.defers} (.inRangeFunc w1.heap.size::k)) (cur K s.rc)
        rw[finish_atR_inRangeFunc] at jo
        split at h
        · simp at h
        · rename_i st' ja ml sg wj bd' dn' CZ hg
          split at h
          · rename_i e1 hj
            simp at h;obtain ⟨rfl,rfl⟩:=h
            have UI:=T4.ext _ _ gZ
            obtain ⟨_,r,hr,yE⟩:=ok3.live _ _ _ hg UI
            have abc:r.state≠ .busy:=by rw[yE.state];intro e;subst e;exact CZ rfl
            obtain ⟨ok4,fr4⟩:=ok3.YD (o':= .loop .exhausted ja ml sg wj bd' dn') hg rfl UI (O:= .loop {r with state:= .exhausted}) ⟨rfl,_,rfl,⟨rfl,yE.pending,yE.tmps,yE.params,yE.assign,yE.body,yE.defers,yE.fn⟩⟩
            obtain ⟨W4,hW4⟩:∃W4,W4=w3.putObj w1.heap.size (.loop {r with state:= .exhausted}):=⟨_,rfl⟩
            have ok4:OK E φ3 (h3.put h1.nx (some (.loop .exhausted ja ml sg wj bd' dn'))) W4:=by rw[hW4];exact ok4
            have fr4:Fr φ3 h3 w3 φ3 (h3.put h1.nx (some (.loop .exhausted ja ml sg wj bd' dn'))) W4:=by rw[hW4];exact fr4
            have abd:=stepR_endRangeFunc (P:=E.P) (b:=b) (a:={a with defers:=mark++a.defers}) (k:=k) (cs:=cur K s.rc) (run_endLoop hr abc)
            rw[←hW4] at abd
            have pe:=((fr1.trans Yz).trans T4).trans fr4
            have jq:=Steps.trans (.head (start n st hp) jo) (.one abd)
            rw[yE.pending] at jq
            have YE:=Ph.le_trans UH T4.ext
            have Qp:=Ph.le_trans hle T4.ext
            cases ja with
            | none=>
              simp [L9] at hj;subst hj
              exact ⟨φ3,_,_,_,.normal,sA.mono YE,ok4,pe,gL.mono Qp,jq⟩
            | some c=>
              rcases Qo hj with ⟨id,rfl,rfl⟩ | ⟨rfl,rfl⟩
              · exact ⟨φ3,_,_,_,.exit id,sA.mono YE,ok4,pe,gL.mono Qp,k,rfl,jq⟩
              · exact ⟨φ3,_,_,_,.ret,sA.mono YE,ok4,pe,gL.mono Qp,k,jq⟩
          · simp at h
        · simp at h
       ·
        rename_i v h3 hc
        simp at h;obtain ⟨rfl,rfl⟩:=h
        obtain ⟨n,st,hp,gP⟩:=dC.panic _ _ _ _ _ hc φ2 _ _ Br trivial hl
        obtain ⟨φ3,w3,v',hv,ok3,T4,jo⟩:=gP (b.atR {a with defers:=mark++a.defers} (.inRangeFunc w1.heap.size::k)) (cur K s.rc)
        rw[Frame.raise_atR] at jo
        exact ⟨φ3,w3,_,_,.panic v v' hv,sA.mono (Ph.le_trans UH T4.ext),ok3,(fr1.trans Yz).trans T4,gL.mono (Ph.le_trans hle T4.ext),_,.head (start n st hp) jo⟩
       · simp at h
     · simp at h
   · simp at h
 · simp at h
end Go.Ab
end
section
namespace Go.Ab
variable {E:Env}
theorem vA (hE:kU E) {call:a_} (dC:iB E call) {ops:Array Oper}:∀{l:List Oper} {is:List Nat} (_:is.length=l.length) (_:∀(j i:Nat),is[j]? =some i→l[j]? =ops[i]?) {s s':St} {e:kR} (_:kB E call ops l s= .ok e s')
 {φ:Ph} {a:Act} {w:World} {b:Frame} {k:List Item} {K:Bool→List Frame} (_:SR φ s.ts s.ds a) (_:OK E φ s.h w) (_:nH φ b K s.rc),
 qn E φ s.h w b K k (lone (b.atR a (.inRegion ops is::k)) (cur K s.rc) w) e s'
 | [],is,hl,hi,s,s',e,h,φ,a,w,b,k,K,hs,ok,gL=>by
   cases is with
   | cons _ _=>simp at hl
   | nil=>
     simp [kB] at h;obtain ⟨rfl,rfl⟩:=h
     exact ⟨φ,w,a,_,.normal,hs,ok,Fr.refl _ _ _,gL,.one stepR_region_end⟩
 | o::l,is,hl,hi,s,s',e,h,φ,a,w,b,k,K,hs,ok,gL=>by
   cases is with
   | nil=>simp at hl
   | cons i is=>
     have ho:ops[i]? =some o:=by have:=hi 0 i (by simp);simpa using this.symm
     have W5:is.length=l.length:=by simpa using hl
     have ET:∀(j i':Nat),is[j]? =some i'→l[j]? =ops[i']? :=fun j i' hj=>by have:=hi (j+1) i' (by simpa using hj);simpa using this
     simp only[kB] at h
     have T3:=vv (ops:=ops) hs.ts o
     split at h
     · rename_i hw
       rw[←T3] at hw
       split at h
       · rename_i s1 qg
         obtain ⟨φ1,w1,a1,e1,x1,x2,x3,x4,x5,x6⟩:=(DT hE dC ho qg hs ok gL hw (rest:=is) (k:=k)).is
         cases x1
         exact ((vA hE dC W5 ET h x2 x3 x5).of_steps x6).later x4
       · rename_i ep
         obtain ⟨φ1,w1,a1,e1,x1,x2,x3,x4,x5,x6⟩:=(DT hE dC ho h hs ok gL hw (rest:=is) (k:=k)).is
         cases x1 with
         | normal=>exact (ep _ h).elim
         | exit=>exact x6.elim
         | ret=>exact x6.elim
         | panic v v' hv=>exact ⟨φ1,w1,a1,_,.panic v v' hv,x2,x3,x4,x5,x6⟩
     · rename_i hw
       have qQ:SR φ (dR s.ts o.dst AV.undef) s.ds (a.put o.dst undef):=hs.put o.dst (VR.undef φ)
       refine (vA hE dC W5 ET h qQ ok gL).of_steps (.one ?_)
       have:=stepR_op_skip (P:=E.P) (b:=b) (a:=a) (k:=k) (cs:=cur K s.rc) (w:=w) (ops:=ops) (i:=i) (rest:=is) (by rw[ho];simp;rw[T3];simpa using hw)
       rw[this,ho];rfl
set_option maxHeartbeats 1000000 in
theorem vB (hE:kU E) {call:a_} (dC:iB E call):∀(n:Nat) (c:Code) {s s':St} {e:kR} (_:exec E call n c s= .ok e s')
 {φ:Ph} {a:Act} {w:World} {b:Frame} {k:List Item} {K:Bool→List Frame} (_:SR φ s.ts s.ds a) (_:OK E φ s.h w) (_:nH φ b K s.rc) (_:(E.P.funcs[b.fn]?).isSome=true),
 qn E φ s.h w b K k (lone (b.atR a (.code c::k)) (cur K s.rc) w) e s'∧∀c',c= .loop c'→qn E φ s.h w b K k (lone (b.atR a (.code c':: .inLoop c'::k)) (cur K s.rc) w) e s':=by
 intro n
 induction n with
 | zero=>intro c s s' e h;simp [exec] at h
 | succ n ih2=>
   have ih:∀(c:Code) {s s':St} {e:kR} (_:exec E call n c s= .ok e s')
    {φ:Ph} {a:Act} {w:World} {b:Frame} {k:List Item} {K:Bool→List Frame} (_:SR φ s.ts s.ds a) (_:OK E φ s.h w) (_:nH φ b K s.rc) (_:(E.P.funcs[b.fn]?).isSome=true),
    qn E φ s.h w b K k (lone (b.atR a (.code c::k)) (cur K s.rc) w) e s':=fun c _ _ _ h _ _ _ _ _ _ hs ok gL G7=>(ih2 c h hs ok gL G7).1
   intro c s s' e h φ a w b k K hs ok gL G7
   have Xf:∀c',c= .loop c'→qn E φ s.h w b K k (lone (b.atR a (.code c':: .inLoop c'::k)) (cur K s.rc) w) e s':=by
    rintro c rfl
    simp only[exec] at h
    split at h
    · rename_i s1 h1
      obtain ⟨φ1,w1,a1,e1,x1,x2,x3,x4,x5,x6⟩:=(ih c h1 hs ok gL G7 (k:= .inLoop c::k)).is
      cases x1
      exact (((ih2 (.loop c) h x2 x3 x5 G7).2 c rfl).of_steps (Steps.trans x6 (.one stepR_inLoop))).later x4
    · rename_i ep
      obtain ⟨φ1,w1,a1,e1,x1,x2,x3,x4,x5,x6⟩:=(ih c h hs ok gL G7 (k:= .inLoop c::k)).is
      refine ⟨φ1,w1,a1,e1,x1,x2,x3,x4,x5,.pass (x:= .inLoop c) (fun _=>rfl) ?_ x6⟩
      cases x1 with
      | normal=>exact (ep _ h).elim
      | exit=>simp
      | ret=>simp
      | panic=>simp
   refine ⟨?_,Xf⟩
   cases c with
   | skip=>simp [exec] at h;obtain ⟨rfl,rfl⟩:=h;exact ⟨φ,w,a,_,.normal,hs,ok,Fr.refl _ _ _,gL,.one stepR_skip⟩
   | label l=>simp [exec] at h;obtain ⟨rfl,rfl⟩:=h;exact ⟨φ,w,a,_,.normal,hs,ok,Fr.refl _ _ _,gL,.one stepR_label⟩
   | ret=>simp [exec] at h;obtain ⟨rfl,rfl⟩:=h;exact ⟨φ,w,a,_,.ret,hs,ok,Fr.refl _ _ _,gL,k,Steps.refl _ _⟩
   | exit id=>simp [exec] at h;obtain ⟨rfl,rfl⟩:=h;exact ⟨φ,w,a,_,.exit id,hs,ok,Fr.refl _ _ _,gL,k,rfl,Steps.refl _ _⟩
   | seq x y=>
     simp only[exec] at h
     split at h
     · rename_i s1 h1
       obtain ⟨φ1,w1,a1,e1,x1,x2,x3,x4,x5,x6⟩:=(ih x h1 hs ok gL G7 (k:= .code y::k)).is
       cases x1
       exact ((ih y h x2 x3 x5 G7).of_steps (.head stepR_seq x6)).later x4
     · rename_i ep
       obtain ⟨φ1,w1,a1,e1,x1,x2,x3,x4,x5,x6⟩:=(ih x h hs ok gL G7 (k:= .code y::k)).is
       refine ⟨φ1,w1,a1,e1,x1,x2,x3,x4,x5,.of_steps (.one stepR_seq) (.pass (x:= .code y) (fun _=>rfl) ?_ x6)⟩
       cases x1 with
       | normal=>exact (ep _ h).elim
       | exit=>simp
       | ret=>simp
       | panic=>simp
   | cond x y z=>
     simp only[exec] at h
     split at h
     · rename_i hx
       have h1:=nD ok.gl hs.ts hx
       generalize lA:a.eval x=cv at h1
       cases h1
       exact (ih y h hs ok gL G7).of_steps (.one (stepR_cond lA))
     · rename_i hx
       have h1:=nD ok.gl hs.ts hx
       generalize lA:a.eval x=cv at h1
       cases h1
       exact (ih z h hs ok gL G7).of_steps (.one (stepR_cond lA))
     · simp at h
   | block id c=>
     simp only[exec] at h
     split at h
     · rename_i Py s1 h1
       obtain ⟨φ1,w1,a1,e1,x1,x2,x3,x4,x5,x6⟩:=(ih c h1 hs ok gL G7 (k:= .inBlock id::k)).is
       cases x1
       split at h
       · rename_i hid
         simp at h;obtain ⟨rfl,rfl⟩:=h
         obtain ⟨todo,ht,jo⟩:=x6
         exact ⟨φ1,w1,a1,_,.normal,x2,x3,x4,x5,.head stepR_block (Steps.trans jo (.one (stepR_exit (by rw[ht];simp [exitTo,hid]))))⟩
       · rename_i hid
         simp at h;obtain ⟨rfl,rfl⟩:=h
         obtain ⟨todo,ht,jo⟩:=x6
         refine ⟨φ1,w1,a1,_,.exit Py,x2,x3,x4,x5,todo,?_,.head stepR_block jo⟩
         have:(id==Py)=false:=by simp;exact fun h=>hid h.symm
         rw[ht];simp [exitTo,this]
     · rename_i ep
       obtain ⟨φ1,w1,a1,e1,x1,x2,x3,x4,x5,x6⟩:=(ih c h hs ok gL G7 (k:= .inBlock id::k)).is
       cases x1 with
       | normal=>exact ⟨φ1,w1,a1,_,.normal,x2,x3,x4,x5,.head stepR_block (Steps.trans x6 (.one stepR_inBlock))⟩
       | exit Py=>exact (ep _ _ h).elim
       | ret=>exact ⟨φ1,w1,a1,_,.ret,x2,x3,x4,x5,.of_steps (e:= .ret) (k:=k) (.one stepR_block) x6⟩
       | panic v v' hv=>exact ⟨φ1,w1,a1,_,.panic v v' hv,x2,x3,x4,x5,.of_steps (e:= .panic _) (k:=k) (.one stepR_block) x6⟩
   | loop c=>exact (Xf c rfl).of_steps (.one stepR_loop)
   | region id ops draw=>
     simp only[exec] at h
     cases draw with
     | false=>
       have qg:=vA hE dC (ops:=ops) (l:=ops.toList) (is:=List.range ops.size) (by simp) (fun j i hj=>by
        have:=List.getElem?_eq_some_iff.1 hj
        obtain ⟨h1,h2⟩:=this
        simp at h1 h2;subst h2;simp) h hs ok gL (b:=b) (k:=k)
       exact qg.of_steps (.one stepR_region)
     | true=>
       obtain ⟨h1,h2,⟨rfl,φ',a',w',x1,x2,x3,x4,x5⟩ | ⟨v,rfl,hp⟩⟩:=HF hE hE.mixed dC h hs ok gL (b:=b) (k:=k) id
       · refine ⟨φ',w',a',_,.normal,⟨x1,by rw[h2,x2];exact hs.ds.mono x4.ext⟩,x3,x4,by rw[h1];exact gL.mono x4.ext,?_⟩
         rw[h1];exact x5
       · obtain ⟨φ',a',w',v',todo,x0,x1,x2,x3,x4,x5⟩:=hp.is
         refine ⟨φ',w',a',_,.panic v v' x0,⟨x1,by rw[h2,x2];exact hs.ds.mono x4.ext⟩,x3,x4,by rw[h1];exact gL.mono x4.ext,todo,?_⟩
         rw[h1];exact x5
   | rangeFunc f ps a1 b1=>
     simp only[exec] at h
     exact Fq dC h hs ok gL G7
   | scope c=>
     simp only[exec] at h
     have s1:∀{m},Steps E.P (lone (b.atR a (.code c:: .inScope c::k)) (cur K s.rc) w) m→Steps E.P (lone (b.atR a (.code (.scope c)::k)) (cur K s.rc) w) m:=fun q=> .head (step_lone_go (by simp [stepG,stepG.exec,Frame.atR])) q
     obtain ⟨φ1,w1,a1,e1,x1,x2,x3,x4,x5,x6⟩:=(ih c h hs ok gL G7 (k:= .inScope c::k)).is
     cases x1 with
     | normal=>exact ⟨φ1,w1,a1,_,.normal,x2,x3,x4,x5,s1 (Steps.trans x6 (.one (step_lone_go (by simp [stepG,stepG.exec,Frame.atR]))))⟩
     | exit Py=>exact ⟨φ1,w1,a1,_,.exit Py,x2,x3,x4,x5,.of_steps (e:= .exit Py) (k:=k) (s1 (Steps.refl _ _)) (.pass (x:= .inScope c) (fun _=>rfl) (by simp) x6)⟩
     | ret=>exact ⟨φ1,w1,a1,_,.ret,x2,x3,x4,x5,.of_steps (e:= .ret) (k:=k) (s1 (Steps.refl _ _)) (.pass (x:= .inScope c) (fun _=>rfl) (by simp) x6)⟩
     | panic v v' hv=>exact ⟨φ1,w1,a1,_,.panic v v' hv,x2,x3,x4,x5,.of_steps (e:= .panic _) (k:=k) (s1 (Steps.refl _ _)) (.pass (x:= .inScope c) (fun _=>rfl) (by simp) x6)⟩
   | goto l=>simp [exec] at h
   | refuse why=>simp [exec] at h
end Go.Ab
end
section
namespace Go.Ab
variable {E:Env}
theorem HJ {φ:Ph} {h:ak} {w:World} (ok:OK E φ h w) {ts:List AV} {tmps:Array Value} (ht:LR φ ts tmps.toList):∀{l:List ResultVar} {vs:List AV} (_:kS E h ts l=some vs),
 ∃qR,LR φ vs qR∧(l.mapM (fun | .tmp t=>pure (tmps.getD t undef) | .cell a t=>do loadVar t (←asAddr (tmps.getD a undef)):ResultVar→Sem Value)).run E.P w= .ok qR w
 | [],vs,h=>by simp [kS] at h;subst h;exact ⟨[],LR.nil φ,rfl⟩
 | r::rest,vs,h=>by
   have gE:∀t,VR φ (ts.getD t AV.undef) (tmps.getD t undef):=fun t=>by
    have:=ht.getD (VR.undef φ) t
    rw[show tmps.getD t undef=tmps.toList.getD t undef by simp [Array.getD_eq_getD_getElem?,List.getD]]
    exact this
   simp only[kS] at h
   split at h
   · simp at h
   · rename_i v hv
     split at h
     · simp at h
     · rename_i vs0 J7
       simp at h;subst h
       obtain ⟨qR,hl,hr⟩:=HJ ok ht J7
       cases r with
       | tmp t=>
         simp at hv;subst hv
         refine ⟨tmps.getD t undef::qR,.cons (by simpa using gE t) hl,?_⟩
         simp only[List.mapM_cons,Sem.run_bind,Sem.run_pure,Result.andThen_ok,hr]
       | cell ad t=>
         simp only at hv
         obtain ⟨x',hx,gP⟩:=DP ok (gE ad) hv
         refine ⟨x'::qR,.cons hx hl,?_⟩
         have hr0:=gP w rfl
         have:(do loadVar t (←asAddr (tmps.getD ad undef)):Sem Value).run E.P w= .ok x' w:=by
          have hv2:=gE ad
          unfold bm at hv
          split at hv
          · rename_i i o heq
            rw[heq] at hv2
            generalize hq:tmps.getD ad undef=q at hv2 hr0
            cases hv2
            simpa [Instr.loadAt,Instr.sureAddr,asAddr] using hr0
          · simp at hv
         simp only[List.mapM_cons]
         rw[Sem.run_bind,this]
         simp only[Sem.run_bind,Sem.run_pure,Result.andThen_ok,hr]
theorem sW {φ:Ph} {h:ak} {w:World} (ok:OK E φ h w) {ts:List AV} {tmps:Array Value} (ht:LR φ ts tmps.toList) {fn:Func} {vs:List AV} (hv:kS E h ts fn.results.toList=some vs):
 ∃v',VR φ (h_ vs) v'∧(results fn tmps).run E.P w= .ok v' w:=by
 obtain ⟨qR,hl,hr⟩:=HJ ok ht hv
 have hm:(fn.results.mapM (fun | .tmp t=>pure (tmps.getD t undef) | .cell a t=>do loadVar t (←asAddr (tmps.getD a undef)):ResultVar→Sem Value)).run E.P w= .ok qR.toArray w:=by
  rw[Array.mapM_eq_mapM_toList]
  show Sem.run E.P (Functor.map List.toArray (_:Sem (List Value))) w=_
  rw[Sem.run_map]
  refine (congrArg (fun r=>Result.andThen r _) hr).trans ?_
  rfl
 refine ⟨if h:qR.toArray.size=1 then qR.toArray[0] else .tuple qR.toArray,?_,?_⟩
 · cases vs with
   | nil=>rw[hl.jz];exact VR.tuple' (LR.nil φ)
   | cons v vs=>
     obtain ⟨y,ys,rfl,hy,uA⟩:=hl.cN
     cases vs with
     | nil=>rw[uA.jz];simpa [h_] using hy
     | cons v2 vs2=>
       obtain ⟨y2,ys2,rfl,T5,adQ⟩:=uA.cN
       have:¬(y::y2::ys2).toArray.size=1:=by simp
       rw[dif_neg this]
       exact VR.tuple' (.cons hy (.cons T5 adQ))
 · unfold results
   rw[Sem.run_bind]
   refine (congrArg (fun r=>Result.andThen r _) hm).trans ?_
   rfl
def bare (f:FuncId) (kind:CallKind):Frame:={fn:=f,tmps:= #[],todo:=[],defers:=[],mode:= .run,kind:=kind,roundOf:=none}
theorem Qq {P:Program} {f:FuncId} {fn:Func} {c:Code} (hf:P.funcs[f]? =some fn) (hb:fn.body=some c) (vs:List Value) (kind:CallKind):
 Frame.enter P f vs.toArray kind=(bare f kind).atR {tmps:=vs.toArray++Array.replicate (fn.ntmps - vs.length) undef,defers:=[]} [.code c]:=by
 simp [Frame.enter,Frame.atR,hf,hb,bare]
theorem sX (hE:kU E) {call:a_} (dC:iB E call) {fuel:Nat} {f:FuncId} {fn:Func} {c:Code} (hf:E.P.funcs[f]? =some fn) (hb:fn.body=some c) {args:List AV} {h:ak} {rc:RC} {e:kR} {s':St}
 (gF:nQ E call fuel fn c args h rc= .ok e s') {φ:Ph} {w:World} {vs:List Value} (ok:OK E φ h w) (hl:LR φ args vs) {kind:CallKind} {K:Bool→List Frame} (gL:nH φ (bare f kind) K rc):
 qn E φ h w (bare f kind) K [] (lone (Frame.enter E.P f vs.toArray kind) (cur K rc) w) e s':=by
 rw[Qq hf hb]
 refine (vB hE dC fuel c (s:={ts:=args++List.replicate (fn.ntmps - args.length) AV.undef,h,ds:=[],rc}) gF (a:={tmps:=vs.toArray++Array.replicate (fn.ntmps - vs.length) undef,defers:=[]}) (b:=bare f kind) (k:=[]) ⟨?_,trivial⟩ ok gL (by show (E.P.funcs[f]?).isSome=true;rw[hf];rfl)).1
 have:=hl.append (LR.replicate (VR.undef φ) (fn.ntmps - args.length))
 rw[hl.1] at this
 simpa [hl.1] using this
theorem enters {E:Env} (hE:kU E) {f:FuncId} {fn:Func} {c:Code} (hf:E.P.funcs[f]? =some fn) (hb:fn.body=some c) (vs:Array Value) (w:World):(callFunc f vs).run E.P w= .ok (.enter f vs) w:=by
 have hn:=hE.names f fn hf
 have:(fn.name== "runtime.NumGoroutine")=false:=by rw[beq_eq_false_iff_ne];exact hn
 simp only[callFunc,Sem.run_bind,run_program,Result.andThen_ok,hf,this,Bool.false_eq_true,if_false,hb,Option.isNone_some,Sem.run_pure]
noncomputable def iy (E:Env) (call:a_) (fuel:Nat) (g:FuncId) (as_:List AV) (h:ak) (rc:RC):Option (ak×RC):=match E.P.funcs[g]? with
 | none=>none
 | some fg=>match fg.body with
   | none=>none
   | some bg=>match nQ E call fuel fg bg as_ h rc with
     | .ok .normal s'=>if s'.ds.isEmpty&&(kS E s'.h s'.ts fg.results.toList).isSome then some (s'.h,s'.rc) else none
     | .ok .ret s'=>if s'.ds.isEmpty&&(kS E s'.h s'.ts fg.results.toList).isSome then some (s'.h,s'.rc) else none
     | _=>none
theorem sY {φ:Ph} {ds:List Deferred} (h:W3 φ [] ds):ds=[]:=by cases ds with | nil=>rfl | cons _ _=>exact h.elim
def qX (c:Bool→Frame):RC→Frame
 | .done=>{c true with mode:=settle (c true).mode}
 | _=>{c false with mode:=settle (c false).mode}
theorem sZ (hE:kU E) {call:a_} (dC:iB E call) {fuel:Nat} {g:FuncId} {as_:List AV} {h h':ak} {rc UJ:RC} (hd:iy E call fuel g as_ h rc=some (h',UJ)) {φ:Ph} {w:World} {vs:List Value}
 (ok:OK E φ h w) (hl:LR φ as_ vs) {c:Bool→Frame} {cs:List Frame} (gL:nH φ (bare g .deferred) (fun x=>c x::cs) rc):
 ∃φ' w',OK E φ' h' w'∧Fr φ h w φ' h' w'∧nH φ' (bare g .deferred) (fun x=>c x::cs) UJ∧(callFunc g vs.toArray).run E.P w= .ok (.enter g vs.toArray) w∧
  Steps E.P (lone (Frame.enter E.P g vs.toArray .deferred) (cur (fun x=>c x::cs) rc) w)
   (lone (qX c UJ) cs w'):=by
 unfold iy at hd
 split at hd
 · simp at hd
 rename_i fg hf
 split at hd
 · simp at hd
 rename_i bg hb
 have key:∀(s':St) (e:kR),(e= .normal∨e= .ret)→nQ E call fuel fg bg as_ h rc= .ok e s'→s'.ds.isEmpty=true→(kS E s'.h s'.ts fg.results.toList).isSome=true→s'.h=h'→s'.rc=UJ→
  ∃φ' w',OK E φ' h' w'∧Fr φ h w φ' h' w'∧nH φ' (bare g .deferred) (fun x=>c x::cs) UJ∧(callFunc g vs.toArray).run E.P w= .ok (.enter g vs.toArray) w∧
  Steps E.P (lone (Frame.enter E.P g vs.toArray .deferred) (cur (fun x=>c x::cs) rc) w)
   (lone (qX c UJ) cs w'):=by
  intro s' e he gF Kk De hh hr
  subst hh;subst hr
  obtain ⟨φ',w',a',e',x1,x2,x3,x4,x5,x6⟩:=(sX hE dC hf hb gF ok hl (kind:= .deferred) gL).is
  refine ⟨φ',w',x3,x4,x5,enters hE hf hb _ w,?_⟩
  obtain ⟨qR,adR⟩:=Option.isSome_iff_exists.1 De
  obtain ⟨v',_,gP⟩:=sW x3 x2.ts adR
  have hdn:a'.defers=[]:=sY (by have:=x2.ds;rw[List.isEmpty_iff.1 Kk] at this;exact this)
  have fin:∀todo,step E.P (lone {(bare g .deferred).atR a' todo with mode:= .returning} (cur (fun x=>c x::cs) s'.rc) w')=
   .next (lone (qX c s'.rc) cs w'):=fun todo=>by
   have zx:({(bare g .deferred).atR a' todo with mode:= .returning}:Frame).going E.P w' (.returned v'):=⟨rfl,hdn,fg,hf,gP⟩
   have hk:({(bare g .deferred).atR a' todo with mode:= .returning}:Frame).kind= .deferred:=rfl
   cases afQ:s'.rc with
   | no=>exact step_going_returned (c:=c false) (cs:=cs) hk zx
   | ja v=>exact step_going_returned (c:=c false) (cs:=cs) hk zx
   | done=>exact step_going_returned (c:=c true) (cs:=cs) hk zx
   | G4 l=>exact step_going_returned (c:=c false) (cs:=cs) hk zx
  rcases he with rfl | rfl
  · cases x1
    exact Steps.trans x6 (.head (stepR_end rfl) (.one (fin [])))
  · cases x1
    obtain ⟨todo,hs⟩:=x6
    exact Steps.trans hs (.head (stepR_ret rfl) (.one (fin _)))
 split at hd
 · rename_i s' gF
   split at hd
   · rename_i hc
     simp at hd;obtain ⟨rfl,rfl⟩:=hd
     simp only[Bool.and_eq_true] at hc
     exact key s' .normal (.inl rfl) gF hc.1 hc.2 rfl rfl
   · simp at hd
 · rename_i s' gF
   split at hd
   · rename_i hc
     simp at hd;obtain ⟨rfl,rfl⟩:=hd
     simp only[Bool.and_eq_true] at hc
     exact key s' .ret (.inr rfl) gF hc.1 hc.2 rfl rfl
   · simp at hd
 · simp at hd
theorem ke (hE:kU E) {call:a_} (dC:iB E call) {fuel:Nat}:∀(ds:List qK) {p p':Option AV} {h h':ak} (_:cZ (iy E call fuel) ds p h=some (p',h')) {φ:Ph} {w:World} {fr:Frame} {cs:List Frame}
 (_:OK E φ h w) (_:W3 φ ds fr.defers) (_:(p=none∧fr.mode= .returning)∨∃v v',p=some v∧VR φ v v'∧fr.mode= .panicking [{v:=v',recovered:=false}]),
 ∃φ' w' m',OK E φ' h' w'∧Fr φ h w φ' h' w'∧((p'=none∧m'= .returning)∨∃v v',p'=some v∧VR φ' v v'∧m'= .panicking [{v:=v',recovered:=false}])∧
  Steps E.P (lone fr cs w) (lone {fr with defers:=[],mode:=m'} cs w')
 | [],p,p',h,h',hu,φ,w,fr,cs,ok,Kk,hp=>by
   simp [cZ] at hu;obtain ⟨rfl,rfl⟩:=hu
   have:=sY Kk
   refine ⟨φ,w,fr.mode,ok,Fr.refl _ _ _,?_,?_⟩
   · exact hp
   · rw[←this];exact Steps.refl _ _
 | .col r::ds,p,p',h,h',hu,φ,w,fr,cs,ok,Kk,hp=>by
   cases YF:fr.defers with
   | nil=>rw[YF] at Kk;exact Kk.elim
   | cons d' yz=>
   rw[YF] at Kk
   obtain ⟨⟨l,hl,UK⟩,Qs⟩:=Kk
   have Qt:fr.mode≠ .run:=by
    rcases hp with ⟨_,hm⟩ | ⟨v,v',_,_,hm⟩<;>rw[hm]<;>simp
   simp only[cZ] at hu
   split at hu
   · rename_i hg
     obtain ⟨_,hb⟩:=ok.live _ _ _ hg hl
     obtain ⟨HE,f1⟩:=ok.adO hg rfl hl (.deferred none)
     have PD:=step_collected (P:=E.P) (cs:=cs) Qt YF UK (run_takeDeferred hb)
     obtain ⟨φ2,w2,m2,Br,f2,Qu,Kl⟩:=ke hE dC ds hu (fr:={fr with defers:=[]++yz}) (cs:=cs) HE (by simpa using Qs) hp
     exact ⟨φ2,w2,m2,Br,f1.trans f2,Qu,.head PD Kl⟩
   · simp at hu
 | .call df afe::ds,p,p',h,h',hu,φ,w,fr,cs,ok,Kk,hp=>by
   cases YF:fr.defers with
   | nil=>rw[YF] at Kk;exact Kk.elim
   | cons d' yz=>
   rw[YF] at Kk
   obtain ⟨⟨cap,UK,Be⟩,Qs⟩:=Kk
   have Qt:fr.mode≠ .run:=by
    rcases hp with ⟨_,hm⟩ | ⟨v,v',_,_,hm⟩<;>rw[hm]<;>simp
   have hinv:∀(PF:(callFunc df (d'.args++cap).toList.toArray).run E.P w= .ok (.enter df (d'.args++cap).toList.toArray) w),(invoke d'.target d'.args).run E.P w= .ok (.enter df (d'.args++cap).toList.toArray) w:=fun PF=>by
    have e:(d'.args++cap).toList.toArray=d'.args++cap:=Array.toArray_toList ..
    rw[e] at PF ⊢
    rw[UK];exact PF
   have PD:∀(PF:(callFunc df (d'.args++cap).toList.toArray).run E.P w= .ok (.enter df (d'.args++cap).toList.toArray) w),step E.P (lone fr cs w)= .next (lone (Frame.enter E.P df (d'.args++cap).toList.toArray .deferred) ({fr with defers:=yz}::cs) w):=fun PF=>step_defer Qt YF UK (hinv PF)
   cases p with
   | none=>
     simp only[cZ] at hu
     split at hu
     · rename_i h1 rc1 hcd
       have hm:fr.mode= .returning:=by
        rcases hp with ⟨_,hm⟩ | ⟨v,v',e,_,_⟩
        · exact hm
        · simp at e
       obtain ⟨φ1,w1,HE,f1,_,PF,jo⟩:=sZ hE dC hcd ok Be (c:=fun _=>{fr with defers:=yz}) (cs:=cs) ⟨rfl,fun JI hk=>by simp [tryRecover,show JI.kind= .deferred from hk,hm]⟩
       have sj:qX (fun _=>{fr with defers:=yz}) rc1={fr with defers:=yz}:=by
        cases rc1<;>simp [qX,hm,settle]
       rw[sj] at jo
       obtain ⟨φ2,w2,m2,Br,f2,Qu,Kl⟩:=ke hE dC ds hu (fr:={fr with defers:=yz}) (cs:=cs) HE (Qs.mono f1.ext) (.inl ⟨rfl,hm⟩)
       exact ⟨φ2,w2,m2,Br,f1.trans f2,Qu,.head (PD PF) (Steps.trans jo Kl)⟩
     · simp at hu
   | some v=>
     obtain ⟨v',hv,hm⟩:∃v',VR φ v v'∧fr.mode= .panicking [{v:=v',recovered:=false}]:=by
      rcases hp with ⟨e,_⟩ | ⟨v1,v',e,hv,hm⟩
      · simp at e
      · simp at e;subst e;exact ⟨v',hv,hm⟩
     have gL:nH φ (bare df .deferred) (fun x=>(if x then {fr with defers:=yz,mode:= .panicking [{v:=v',recovered:=true}]} else {fr with defers:=yz})::cs) (.ja v):=
      ⟨rfl,⟨v',hv,fun JI hk=>by simp [tryRecover,show JI.kind= .deferred from hk,hm]⟩,fun JI hk=>by simp [tryRecover,show JI.kind= .deferred from hk]⟩
     simp only[cZ] at hu
     split at hu
     · rename_i h1 v1 hcd
       obtain ⟨φ1,w1,HE,f1,_,PF,jo⟩:=sZ hE dC hcd ok Be (c:=fun x=>if x then {fr with defers:=yz,mode:= .panicking [{v:=v',recovered:=true}]} else {fr with defers:=yz}) (cs:=cs) gL
       have sj:qX (fun x=>if x then {fr with defers:=yz,mode:= .panicking [{v:=v',recovered:=true}]} else {fr with defers:=yz}) (.ja v1)={fr with defers:=yz}:=by simp [qX,hm,settle]
       rw[sj] at jo
       simp only[Bool.false_eq_true,if_false,cur] at jo
       obtain ⟨φ2,w2,m2,Br,f2,Qu,Kl⟩:=ke hE dC ds hu (fr:={fr with defers:=yz}) (cs:=cs) HE (Qs.mono f1.ext) (.inr ⟨v,v',rfl,hv.mono f1.ext,hm⟩)
       exact ⟨φ2,w2,m2,Br,f1.trans f2,Qu,.head (PD PF) (Steps.trans jo Kl)⟩
     · rename_i h1 hcd
       obtain ⟨φ1,w1,HE,f1,_,PF,jo⟩:=sZ hE dC hcd ok Be (c:=fun x=>if x then {fr with defers:=yz,mode:= .panicking [{v:=v',recovered:=true}]} else {fr with defers:=yz}) (cs:=cs) gL
       have sj:qX (fun x=>if x then {fr with defers:=yz,mode:= .panicking [{v:=v',recovered:=true}]} else {fr with defers:=yz}) .done={fr with defers:=yz,mode:= .returning}:=by simp [qX,settle]
       rw[sj] at jo
       simp only[Bool.false_eq_true,if_false,cur] at jo
       obtain ⟨φ2,w2,m2,Br,f2,Qu,Kl⟩:=ke hE dC ds hu (fr:={fr with defers:=yz,mode:= .returning}) (cs:=cs) HE (Qs.mono f1.ext) (.inl ⟨rfl,rfl⟩)
       exact ⟨φ2,w2,m2,Br,f1.trans f2,Qu,.head (PD PF) (Steps.trans jo Kl)⟩
     · simp at hu
theorem HK (hE:kU E) (fuel d:Nat) (ih:iB E (gN E d fuel)):(∀f args h v h',gN E (d+1) fuel (.fn f) args h= .ret v h'→lN E f args h v h')∧(∀f args h v h',gN E (d+1) fuel (.fn f) args h= .panic v h'→Md E f args h v h'):=by
 have key:∀(f:FuncId) (args:List AV) (h:ak) (out:jn),gN E (d+1) fuel (.fn f) args h=out→(∀why q,out≠ .fail why q)→
  ∃fn c e s p,E.P.funcs[f]? =some fn∧fn.body=some c∧nQ E (gN E d fuel) fuel fn c args h .no= .ok e s∧
   ((p=none∧(e= .normal∨e= .ret))∨∃v,p=some v∧e= .panic v)∧
   ((∃v h',out= .panic v h'∧cZ (iy E (gN E d fuel) fuel) s.ds p s.h=some (some v,h'))∨
    ∃vs h',out= .ret (h_ vs) h'∧cZ (iy E (gN E d fuel) fuel) s.ds p s.h=some (none,h')∧kS E h' s.ts fn.results.toList=some vs):=by
  intro f args h out e ep
  simp only[gN] at e
  split at e
  · exact absurd e.symm (ep _ _)
  rename_i fn hf
  split at e
  · exact absurd e.symm (ep _ _)
  rename_i c hb
  have fin:∀(p:Option AV) (s:St),(match cZ (iy E (gN E d fuel) fuel) s.ds p s.h with
   | none=>jn.fail "unwind" none
   | some (some v,h')=> .panic v h'
   | some (none,h')=>match kS E h' s.ts fn.results.toList with
     | some vs=> .ret (h_ vs) h'
     | none=> .fail "results" none)=out→
   ((∃v h',out= .panic v h'∧cZ (iy E (gN E d fuel) fuel) s.ds p s.h=some (some v,h'))∨
    ∃vs h',out= .ret (h_ vs) h'∧cZ (iy E (gN E d fuel) fuel) s.ds p s.h=some (none,h')∧kS E h' s.ts fn.results.toList=some vs):=by
   intro p s hm
   split at hm
   · exact absurd hm.symm (ep _ _)
   · rename_i v h' hu;exact .inl ⟨v,h',hm.symm,hu⟩
   · rename_i h' hu
     split at hm
     · rename_i vs hv;exact .inr ⟨vs,h',hm.symm,hu,hv⟩
     · exact absurd hm.symm (ep _ _)
  split at e
  · rename_i s gF;exact ⟨fn,c,_,s,none,hf,hb,gF,.inl ⟨rfl,.inl rfl⟩,fin none s e⟩
  · rename_i s gF;exact ⟨fn,c,_,s,none,hf,hb,gF,.inl ⟨rfl,.inr rfl⟩,fin none s e⟩
  · rename_i v s gF;exact ⟨fn,c,_,s,some v,hf,hb,gF,.inr ⟨v,rfl,rfl⟩,fin (some v) s e⟩
  · exact absurd e.symm (ep _ _)
  · exact absurd e.symm (ep _ _)
 have run:∀(f:FuncId) (fn:Func) (c:Code) (args:List AV) (h:ak) (e:kR) (s:St) (p p':Option AV) (h':ak),E.P.funcs[f]? =some fn→fn.body=some c→nQ E (gN E d fuel) fuel fn c args h .no= .ok e s→
  ((p=none∧(e= .normal∨e= .ret))∨∃v,p=some v∧e= .panic v)→cZ (iy E (gN E d fuel) fuel) s.ds p s.h=some (p',h')→
  ∀(φ:Ph) (w:World) (vs:List Value),OK E φ h w→LR φ args vs→∀cs,∃φ' w' m' tmps todo,OK E φ' h' w'∧Fr φ h w φ' h' w'∧LR φ' s.ts tmps.toList∧
   ((p'=none∧m'= .returning)∨∃v v',p'=some v∧VR φ' v v'∧m'= .panicking [{v:=v',recovered:=false}])∧
   Steps E.P (lone (Frame.enter E.P f vs.toArray .normal) cs w) (lone {(bare f .normal).atR {tmps,defers:=[]} todo with mode:=m'} cs w'):=by
  intro f fn c args h e s p p' h' hf hb gF hp hu φ w vs ok hl cs
  obtain ⟨φ1,w1,a1,e1,x1,x2,x3,x4,x5,x6⟩:=(sX hE ih hf hb gF ok hl (kind:= .normal) (K:=fun _=>cs) ⟨rfl,fun fr hk=>by simp [tryRecover,show fr.kind= .normal from hk]⟩).is
  have HL:cur (fun _=>cs) s.rc=cs:=by cases s.rc<;>rfl
  have Qv:cur (fun _=>cs) RC.no=cs:=rfl
  rw[HL] at x6
  rw[Qv] at x6
  have hm:∃todo m,((p=none∧m= .returning)∨∃v v',p=some v∧VR φ1 v v'∧m= .panicking [{v:=v',recovered:=false}])∧
   Steps E.P (lone (Frame.enter E.P f vs.toArray .normal) cs w) (lone {(bare f .normal).atR a1 todo with mode:=m} cs w1):=by
   rcases hp with ⟨rfl,rfl | rfl⟩ | ⟨v,rfl,rfl⟩
   · cases x1;exact ⟨[],.returning,.inl ⟨rfl,rfl⟩,Steps.trans x6 (.one (stepR_end rfl))⟩
   · cases x1;obtain ⟨todo,hs⟩:=x6;exact ⟨_,.returning,.inl ⟨rfl,rfl⟩,Steps.trans hs (.one (stepR_ret rfl))⟩
   · cases x1 with
     | panic _ v' hv=>obtain ⟨todo,hs⟩:=x6;exact ⟨todo,_,.inr ⟨v,v',rfl,hv,rfl⟩,hs⟩
  obtain ⟨todo,m,hmp,sA⟩:=hm
  obtain ⟨φ2,w2,m2,Br,f2,Qu,hs2⟩:=ke hE ih s.ds hu (fr:={(bare f .normal).atR a1 todo with mode:=m}) (cs:=cs) x3 x2.ds (by
   rcases hmp with ⟨e,em⟩ | ⟨v,v',e,hv,em⟩
   · exact .inl ⟨e,em⟩
   · exact .inr ⟨v,v',e,hv,em⟩)
  exact ⟨φ2,w2,m2,a1.tmps,todo,Br,x4.trans f2,x2.ts.mono f2.ext,Qu,Steps.trans sA hs2⟩
 refine ⟨fun f args h v h' e=>?_,fun f args h v h' e=>?_⟩
 · obtain ⟨fn,c,e1,s,p,hf,hb,gF,hp,qi⟩:=key f args h _ e (by simp)
   rcases qi with ⟨v1,h1,he,_⟩ | ⟨vs1,h1,he,hu,De⟩
   · simp at he
   · simp at he;obtain ⟨rfl,rfl⟩:=he
     intro φ w vs ok hl
     refine ⟨enters hE hf hb _ w,fun cs=>?_⟩
     obtain ⟨φ',w',m',tmps,todo,rW,fr,ht,hm,hs⟩:=run f fn c args h e1 s p none h' hf hb gF hp hu φ w vs ok hl cs
     obtain ⟨v',hv,gP⟩:=sW rW ht De
     rcases hm with ⟨_,rfl⟩ | ⟨v,v'',e,_⟩
     · exact ⟨φ',w',v',_,hv,rW,fr,hs,rfl,rfl,rfl,rfl,fn,hf,gP⟩
     · simp at e
 · obtain ⟨fn,c,e1,s,p,hf,hb,gF,hp,qi⟩:=key f args h _ e (by simp)
   rcases qi with ⟨v1,h1,he,hu⟩ | ⟨vs1,h1,he,_⟩
   · simp at he;obtain ⟨rfl,rfl⟩:=he
     intro φ w vs ok hl
     refine ⟨enters hE hf hb _ w,fun cs=>?_⟩
     obtain ⟨φ',w',m',tmps,todo,rW,fr,ht,hm,hs⟩:=run f fn c args h e1 s p (some v) h' hf hb gF hp hu φ w vs ok hl cs
     rcases hm with ⟨e,_⟩ | ⟨v2,v',e,hv,rfl⟩
     · simp at e
     · simp at e;subst e
       exact ⟨φ',w',v',_,hv,rW,fr,hs,rfl,rfl,rfl,fn,hf⟩
   · simp at he
theorem vC {l:Nat} {yn:Option Code} {s:St} {v:AV} {h':ak} (he:A6 l yn s= .ret v h') {φ:Ph} {w:World} (ok:OK E φ s.h w) {ll:Loc} (hl:φ l=some ll):
 ∃w',v= .bool yn.isNone∧OK E φ h' w'∧Fr φ s.h w φ h' w'∧(Instr.endRound ll.fI yn).run E.P w= .ok (.bool yn.isNone) w':=by
 unfold A6 at he
 split at he
 · rename_i st pd ts ps as_ bd dn hg
   simp only[jn.ret.injEq] at he;obtain ⟨rfl,rfl⟩:=he
   obtain ⟨_,r,hr,yE⟩:=ok.live _ _ _ hg hl
   obtain ⟨HE,f1⟩:=ok.YD (o':= .loop (if yn.isNone then .ready else .done) yn ts ps as_ bd dn) hg rfl hl (O:= .loop {r with state:=if yn.isNone then .ready else .done,pending:=yn})
    ⟨by have:=ok.live _ _ _ hg hl;exact this.1,_,rfl,⟨rfl,rfl,yE.tmps,yE.params,yE.assign,yE.body,yE.defers,yE.fn⟩⟩
   exact ⟨_,rfl,HE,f1,run_endRound yn hr⟩
 · simp at he
theorem HM {φ:Ph}:∀{ps:List Tmp} {args:List AV} {vs:List Value} (_:LR φ args vs) {ts:List AV} {tmps:Array Value} (_:LR φ ts tmps.toList),
 LR φ ((ps.zip args).foldl (fun ts x=>ts.set x.1 x.2) ts) (((ps.zip vs).foldl (fun (tmps:Array Value) (x:Tmp×Value)=>tmps.setIfInBounds x.1 x.2) tmps).toList)
 | [],_,_,_,_,_,ht=>by simpa using ht
 | p::ps,[],vs,hl,ts,tmps,ht=>by rw[hl.jz];simpa using ht
 | p::ps,x::xs,vs,hl,ts,tmps,ht=>by
   obtain ⟨y,ys,rfl,hy,uA⟩:=hl.cN
   simp only[List.zip_cons_cons,List.foldl_cons]
   exact HM uA (by simpa using ht.set hy p)
theorem vD (hE:kU E) {call:a_} (dC:iB E call) {fuel l:Nat} {args:List AV} {h:ak} {out:jn} (ho:sI E call fuel l args h=out) (ep:∀why q,out≠ .fail why q)
 {φ:Ph} {w:World} {vs:List Value} (ok:OK E φ h w) {ll:Loc} (hφ:φ l=some ll) (hl:LR φ args vs):
 ∃f tmps assign body,(Instr.yield ll.fI vs.toArray).run E.P w= .ok (.round ll.fI f tmps assign body) w∧∀c cs,
  (∀v h',out= .ret v h'→∃φ' w' v',VR φ' v v'∧OK E φ' h' w'∧Fr φ h w φ' h' w'∧Steps E.P (lone (Frame.round ll.fI f tmps assign body .normal) (c::cs) w) (lone (c.finish v') cs w'))∧
  (∀v h',out= .panic v h'→∃φ' w' v',VR φ' v v'∧OK E φ' h' w'∧Fr φ h w φ' h' w'∧Steps E.P (lone (Frame.round ll.fI f tmps assign body .normal) (c::cs) w) (lone (c.raise [{v:=v',recovered:=false}]) cs w')):=by
 unfold sI at ho
 split at ho
 · rename_i st pd ts ps as_ bd dn hg
   split at ho
   · rename_i hlen
     split at ho
     · rename_i s1 hx1
       split at ho
       · rename_i pd2 Ya WY Ul Yb Yc hg1
         obtain ⟨afR,r,hr,yE⟩:=ok.live _ _ _ hg hφ
         have He:vs.toArray.size=r.params.size:=by
          have h1:=congrArg List.length yE.params
          have h2:=hl.1
          simp at h1 ⊢;omega
         refine ⟨r.fn,_,r.assign,r.body,run_yield hr He,fun c cs=>?_⟩
         have abe:LR φ ((ps.zip args).foldl (fun ts x=>ts.set x.1 x.2) ts) ((r.params.zip vs.toArray).foldl (fun tmps (t,a)=>tmps.setIfInBounds t a) r.tmps).toList:=by
          have:=HM (ps:=ps) hl yE.tmps
          rw[←Array.foldl_toList,Array.toList_zip,yE.params]
          exact this
         generalize htm:(r.params.zip vs.toArray).foldl (fun tmps (t,a)=>tmps.setIfInBounds t a) r.tmps=Mj at abe
         let b:Frame:={fn:=r.fn,tmps:= #[],todo:=[],defers:=[],mode:= .run,kind:= .normal,roundOf:=some ll.fI}
         have hb:b.roundOf=some ll.fI:=rfl
         have hk:b.kind= .normal:=rfl
         have yA:Frame.round ll.fI r.fn Mj r.assign r.body .normal=b.atR {tmps:=Mj,defers:=[]} [.code r.assign,.beginRound,.code r.body]:=rfl
         rw[yE.assign,yE.body] at yA ⊢
         rw[yA]
         have HL:∀rc,cur (fun _=>c::cs) rc=c::cs:=fun rc=>by cases rc<;>rfl
         obtain ⟨φ1,w1,a1,e1,x1,x2,x3,x4,x5,x6⟩:=(vB hE dC fuel as_ hx1 (a:={tmps:=Mj,defers:=[]}) (b:=b) (k:=[.beginRound,.code bd]) (K:=fun _=>c::cs) ⟨abe,trivial⟩ ok ⟨ll,hφ,rfl⟩ yE.fn).1.is
         cases x1
         rw[HL,HL] at x6
         have hφ1:=x4.ext _ _ hφ
         obtain ⟨abf,r1,hr1,HN⟩:=x3.live _ _ _ hg1 hφ1
         obtain ⟨Br,f2⟩:=x3.YD (o':= .loop .busy pd2 Ya WY Ul Yb Yc) hg1 rfl hφ1 (O:= .loop {r1 with state:= .busy})
          ⟨abf,_,rfl,⟨rfl,HN.pending,HN.tmps,HN.params,HN.assign,HN.body,HN.defers,HN.fn⟩⟩
         have adS:=stepR_beginRound (P:=E.P) (b:=b) (a:=a1) (k:=[.code bd]) (cs:=c::cs) hb (run_beginRound hr1 HN.state)
         have Ar:=Steps.trans x6 (.one adS)
         have body:∀(e:kR) (s2:St),exec E call fuel bd {s1 with h:=s1.h.put l (some (.loop .busy pd2 Ya WY Ul Yb Yc))}= .ok e s2→
          ∃φ' w' a' e',Yt φ' e e'∧SR φ' s2.ts s2.ds a'∧OK E φ' s2.h w'∧Fr φ h w φ' s2.h w'∧φ' l=some ll∧HG E.P (lone (b.atR {tmps:=Mj,defers:=[]} [.code as_,.beginRound,.code bd]) (c::cs) w) b [] (c::cs) e' a' w':=by
          intro e s2 UL
          obtain ⟨φ3,w3,a3,e3,y1,y2,y3,y4,y5,y6⟩:=(vB hE dC fuel bd UL (a:=a1) (b:=b) (k:=[]) (K:=fun _=>c::cs) x2 Br x5 yE.fn).1.is
          rw[HL,HL] at y6
          exact ⟨φ3,w3,a3,e3,y1,y2,y3,(x4.trans f2).trans y4,y4.ext _ _ hφ1,.of_steps Ar y6⟩
         split at ho
         · rename_i s2 UL
           obtain ⟨φ3,w3,a3,e3,y1,y2,y3,y4,UI,y6⟩:=body _ _ UL
           cases y1
           refine ⟨fun v h' e=>?_,fun v h' e=>?_⟩
           · obtain ⟨w4,rfl,z1,z2,z3⟩:=vC (ho.trans e) y3 UI
             exact ⟨φ3,w4,_,.bool _,z1,y4.trans z2,Steps.trans y6 (.one (stepR_round_end hb hk z3))⟩
           · rw[e] at ho;unfold A6 at ho;split at ho<;>simp at ho
         · rename_i s2 UL
           obtain ⟨φ3,w3,a3,e3,y1,y2,y3,y4,UI,y6⟩:=body _ _ UL
           cases y1
           refine ⟨fun v h' e=>?_,fun v h' e=>?_⟩
           · obtain ⟨w4,rfl,z1,z2,z3⟩:=vC (ho.trans e) y3 UI
             obtain ⟨todo,hs⟩:=y6
             exact ⟨φ3,w4,_,.bool _,z1,y4.trans z2,Steps.trans hs (.one (stepR_round_ret hb hk z3))⟩
           · rw[e] at ho;unfold A6 at ho;split at ho<;>simp at ho
         · rename_i id s2 UL
           obtain ⟨φ3,w3,a3,e3,y1,y2,y3,y4,UI,y6⟩:=body _ _ UL
           cases y1
           refine ⟨fun v h' e=>?_,fun v h' e=>?_⟩
           · obtain ⟨w4,rfl,z1,z2,z3⟩:=vC (ho.trans e) y3 UI
             obtain ⟨todo,ht,hs⟩:=y6
             exact ⟨φ3,w4,_,.bool _,z1,y4.trans z2,Steps.trans hs (.one (stepR_round_exit hb hk ht z3))⟩
           · rw[e] at ho;unfold A6 at ho;split at ho<;>simp at ho
         · rename_i v2 s2 UL
           obtain ⟨φ3,w3,a3,e3,y1,y2,y3,y4,UI,y6⟩:=body _ _ UL
           split at ho
           · rename_i Kk
             refine ⟨fun v h' e=>by rw[e] at ho;simp at ho,fun v h' e=>?_⟩
             rw[e] at ho;simp at ho;obtain ⟨rfl,rfl⟩:=ho
             cases y1 with
             | panic _ v' hv=>
               obtain ⟨todo,hs⟩:=y6
               have hdn:a3.defers=[]:=sY (by have:=y2.ds;rw[List.isEmpty_iff.1 Kk] at this;exact this)
               obtain ⟨fn,G7⟩:=Option.isSome_iff_exists.1 yE.fn
               exact ⟨φ3,w3,v',hv,y3,y4,Steps.trans hs (.one (step_leave_panicked ⟨rfl,hdn,fn,G7⟩))⟩
           · exact absurd ho.symm (ep _ _)
         · exact absurd ho.symm (ep _ _)
       · exact absurd ho.symm (ep _ _)
     · exact absurd ho.symm (ep _ _)
     · exact absurd ho.symm (ep _ _)
   · exact absurd ho.symm (ep _ _)
 · exact absurd ho.symm (ep _ _)
theorem zE (hE:kU E) (fuel:Nat):∀d,iB E (gN E d fuel)
 | 0=>⟨fun f args h v h' e=>by simp [gN] at e,fun f args h v h' e=>by simp [gN] at e⟩
 | d+1=>by
   have ih:=zE hE fuel d
   obtain ⟨k1,k2⟩:=HK hE fuel d ih
   refine ⟨fun F args h v h' e=>?_,fun F args h v h' e=>?_⟩
   · cases F with
     | fn f=>exact (k1 f args h v h' e).any
     | yl l=>
       simp only[gN] at e
       intro φ w vs ok hf hl
       obtain ⟨ll,hφ⟩:=hf
       obtain ⟨f,tmps,assign,body,hy,gP⟩:=vD hE ih e (by simp) ok hφ hl
       exact ⟨_,_,.yl l ll hφ vs f tmps assign body hy,fun c cs=>(gP c cs).1 v h' rfl⟩
   · cases F with
     | fn f=>exact (k2 f args h v h' e).any
     | yl l=>
       simp only[gN] at e
       intro φ w vs ok hf hl
       obtain ⟨ll,hφ⟩:=hf
       obtain ⟨f,tmps,assign,body,hy,gP⟩:=vD hE ih e (by simp) ok hφ hl
       exact ⟨_,_,.yl l ll hφ vs f tmps assign body hy,fun c cs=>(gP c cs).2 v h' rfl⟩
end Go.Ab
end
section
namespace Go.Ab.Fa
structure Acc (T:Type) where
 f:T→AV
structure Upd (T:Type) where
 f:AV→T→T
structure RF where
 T:Type
 N:Nat
 get:Nat→Acc T
 set:Nat→Upd T
 z:T
 Qw:∀i,i<N→(get i).f z=AV.undef
 wQ:∀i,i<N→∀v r,(get i).f ((set i).f v r)=v
 tY:∀i j,i<N→j<N→i≠j→∀v r,(get j).f ((set i).f v r)=(get j).f r
def UM (i:Nat):Acc (P8 (P8 AV)):=s8 (i/8) fun p=>s8 (i%8) fun q=>⟨fun r=>q (p r)⟩
noncomputable def YG (i:Nat):Upd (P8 (P8 AV)):=e8 (i/8) fun p=>e8 (i%8) fun q=>⟨fun v r=>p (q fun _=>v) r⟩
noncomputable def rf2:RF where
 T:=P8 (P8 AV)
 N:=64
 get:=UM
 set:=YG
 z:=P8.all (P8.all AV.undef)
 Qw i h:=by simp only[UM,uV,AO]
 wQ i h v r:=by simp only[UM,YG,uV,zp,dh]
 tY i j hi hj h v r:=by
  simp only[UM,YG,uV,zp]
  by_cases h1:i/8=j/8
  · rw[h1,dh,dY (by omega) (by omega) (by omega)]
  · rw[dY (by omega) (by omega) h1]
def UN (i:Nat):Acc (P8 (P8 (P8 AV))):=s8 (i/64) fun o=>s8 (i/8%8) fun p=>s8 (i%8) fun q=>⟨fun r=>q (p (o r))⟩
noncomputable def YH (i:Nat):Upd (P8 (P8 (P8 AV))):=e8 (i/64) fun o=>e8 (i/8%8) fun p=>e8 (i%8) fun q=>⟨fun v r=>o (p (q fun _=>v)) r⟩
noncomputable def rf3:RF where
 T:=P8 (P8 (P8 AV))
 N:=512
 get:=UN
 set:=YH
 z:=P8.all (P8.all (P8.all AV.undef))
 Qw i h:=by simp only[UN,uV,AO]
 wQ i h v r:=by simp only[UN,YH,uV,zp,dh]
 tY i j hi hj h v r:=by
  simp only[UN,YH,uV,zp]
  by_cases h1:i/64=j/64
  · rw[h1,dh]
    by_cases h2:i/8%8=j/8%8
    · rw[h2,dh,dY (by omega) (by omega) (by omega)]
    · rw[dY (by omega) (by omega) h2]
  · rw[dY (by omega) (by omega) h1]
section
variable (F:RF) (n:Nat)
def eU (r:F.T):List AV:=(List.range n).map fun i=>(F.get i).f r
theorem iP (r:F.T):(eU F n r).length=n:=by simp [eU]
theorem tZ (r:F.T) {i:Nat} (h:i<n):(eU F n r)[i]? =some ((F.get i).f r):=by simp [eU,h]
theorem HO (r:F.T) (i:Nat):(eU F n r).getD i AV.undef=if i<n then (F.get i).f r else AV.undef:=by
 rw[List.getD_eq_getElem?_getD]
 split
 · rename_i h;rw[tZ F n r h];rfl
 · rw[List.getElem?_eq_none (by rw[iP];omega)];rfl
theorem UO (hn:n≤F.N) (r:F.T) {i:Nat} (h:i<n) (v:AV):(eU F n r).set i v=eU F n ((F.set i).f v r):=by
 apply List.ext_getElem?
 intro j
 rw[List.getElem?_set]
 by_cases hj:j<n
 · rw[tZ F n _ hj,tZ F n _ hj,iP]
   by_cases e:i=j
   · subst e;simp [F.wQ i (by omega),h]
   · rw[if_neg e,F.tY i j (by omega) (by omega) e]
 · rw[List.getElem?_eq_none (l:=eU F n r) (by rw[iP];omega),List.getElem?_eq_none (l:=eU F n _) (by rw[iP];omega),iP]
   rw[if_neg (by omega)]
noncomputable def PG:List AV→F.T→Nat→F.T:=fun l=>List.rec (motive:=fun _=>F.T→Nat→F.T) (fun r _=>r) (fun v _ ih r i=>ih ((F.set i).f v r) (Nat.add i 1)) l
theorem UP (r:F.T) (i:Nat):PG F [] r i=r:=rfl
theorem Qx (v:AV) (l:List AV) (r:F.T) (i:Nat):PG F (v::l) r i=PG F l ((F.set i).f v r) (i+1):=rfl
theorem Mk (hn:n≤F.N):∀(l:List AV) (r:F.T) (i:Nat),i+l.length≤n→∀j,j<n→(F.get j).f (PG F l r i)=if i≤j∧j<i+l.length then l.getD (j - i) AV.undef else (F.get j).f r
 | [],r,i,_,j,hj=>by rw[UP,if_neg (by rw[List.length_nil];omega)]
 | v::l,r,i,h,j,hj=>by
   simp only[List.length_cons] at h
   rw[Qx,Mk hn l _ (i+1) (by omega) j hj]
   simp only[List.length_cons]
   by_cases h1:i+1≤j∧j<i+1+l.length
   · rw[if_pos h1,if_pos (by omega)]
     obtain ⟨m,hm⟩:∃m,j - i=m+1:=⟨j - i - 1,by omega⟩
     rw[hm,show j -(i+1)=m by omega,List.getD_cons_succ]
   · rw[if_neg h1]
     by_cases h2:i=j
     · subst h2;rw[F.wQ i (by omega),if_pos (by omega)];simp
     · rw[F.tY i j (by omega) (by omega) h2,if_neg (by omega)]
theorem Ml (hn:n≤F.N) (l:List AV) (h:l.length≤n):eU F n (PG F l F.z 0)=l++List.replicate (n - l.length) AV.undef:=by
 apply List.ext_getElem?
 intro j
 by_cases hj:j<n
 · rw[tZ F n _ hj,Mk F n hn l F.z 0 (by omega) j hj]
   by_cases h1:j<l.length
   · rw[if_pos (by omega),List.getElem?_append_left h1,Nat.sub_zero,List.getD_eq_getElem?_getD,List.getElem?_eq_getElem h1];rfl
   · rw[if_neg (by omega),List.getElem?_append_right (by omega),F.Qw j (by omega),List.getElem?_replicate,if_pos (by omega)]
 · rw[List.getElem?_eq_none (by rw[iP];omega),List.getElem?_eq_none (by simp;omega)]
end
end Go.Ab.Fa
end
section
namespace Go.Ab.Fa
section
variable {R:Type}
noncomputable def jQ (f:Bool→R) (d:R) (v:AV):R:=
 AV.rec (motive_1:=fun _=>R) (motive_2:=fun _=>Unit) (fun b=>f b) (fun _ _=>d) (fun _=>d) d (fun _ _=>d) d (fun _ _ _ _ _=>d) d (fun _=>d) (fun _ _ _ _ _=>d) (fun _=>d) d (fun _ _ _=>d) d (fun _ _=>d) (fun _ _=>d) d d () (fun _ _ _ _=>()) v
noncomputable def oJ (f:IntKind→Int→R) (d:R) (v:AV):R:=
 AV.rec (motive_1:=fun _=>R) (motive_2:=fun _=>Unit) (fun _=>d) (fun k n=>f k n) (fun _=>d) d (fun _ _=>d) d (fun _ _ _ _ _=>d) d (fun _=>d) (fun _ _ _ _ _=>d) (fun _=>d) d (fun _ _ _=>d) d (fun _ _=>d) (fun _ _=>d) d d () (fun _ _ _ _=>()) v
noncomputable def qY (f:List UInt8→R) (d:R) (v:AV):R:=
 AV.rec (motive_1:=fun _=>R) (motive_2:=fun _=>Unit) (fun _=>d) (fun _ _=>d) (fun s=>f s) d (fun _ _=>d) d (fun _ _ _ _ _=>d) d (fun _=>d) (fun _ _ _ _ _=>d) (fun _=>d) d (fun _ _ _=>d) d (fun _ _=>d) (fun _ _=>d) d d () (fun _ _ _ _=>()) v
noncomputable def yF (f:Nat→Nat→R) (d:R) (v:AV):R:=
 AV.rec (motive_1:=fun _=>R) (motive_2:=fun _=>Unit) (fun _=>d) (fun _ _=>d) (fun _=>d) d (fun i o=>f i o) d (fun _ _ _ _ _=>d) d (fun _=>d) (fun _ _ _ _ _=>d) (fun _=>d) d (fun _ _ _=>d) d (fun _ _=>d) (fun _ _=>d) d d () (fun _ _ _ _=>()) v
noncomputable def jR (e:R) (f:Nat→Nat→Nat→Nat→Bool→R) (d:R) (v:AV):R:=
 AV.rec (motive_1:=fun _=>R) (motive_2:=fun _=>Unit) (fun _=>d) (fun _ _=>d) (fun _=>d) d (fun _ _=>d) e (fun i o l c b=>f i o l c b) d (fun _=>d) (fun _ _ _ _ _=>d) (fun _=>d) d (fun _ _ _=>d) d (fun _ _=>d) (fun _ _=>d) d d () (fun _ _ _ _=>()) v
noncomputable def vZ (z d:R) (v:AV):R:=
 AV.rec (motive_1:=fun _=>R) (motive_2:=fun _=>Unit) (fun _=>d) (fun _ _=>d) (fun _=>d) d (fun _ _=>d) d (fun _ _ _ _ _=>d) d (fun _=>d) (fun _ _ _ _ _=>d) (fun _=>d) d (fun _ _ _=>d) d (fun _ _=>d) (fun _ _=>d) z d () (fun _ _ _ _=>()) v
noncomputable def Mm (f:FuncId→List AV→List AV→R) (y:Nat→R) (d:R) (v:AV):R:=
 AV.rec (motive_1:=fun _=>R) (motive_2:=fun _=>Unit) (fun _=>d) (fun _ _=>d) (fun _=>d) d (fun _ _=>d) d (fun _ _ _ _ _=>d) d (fun _=>d) (fun g a b _ _=>f g a b) (fun l=>y l) d (fun _ _ _=>d) d (fun _ _=>d) (fun _ _=>d) d d () (fun _ _ _ _=>()) v
noncomputable def yG (f:List AV→R) (t:List AV→R) (d:R) (v:AV):R:=
 AV.rec (motive_1:=fun _=>R) (motive_2:=fun _=>Unit) (fun _=>d) (fun _ _=>d) (fun _=>d) d (fun _ _=>d) d (fun _ _ _ _ _=>d) d (fun _=>d) (fun _ _ _ _ _=>d) (fun _=>d) d (fun _ _ _=>d) d (fun cs _=>f cs) (fun cs _=>t cs) d d () (fun _ _ _ _=>()) v
noncomputable def qZ (f:TypeId→AV→R) (d:R) (v:AV):R:=
 AV.rec (motive_1:=fun _=>R) (motive_2:=fun _=>Unit) (fun _=>d) (fun _ _=>d) (fun _=>d) d (fun _ _=>d) d (fun _ _ _ _ _=>d) d (fun _=>d) (fun _ _ _ _ _=>d) (fun _=>d) d (fun t v _=>f t v) d (fun _ _=>d) (fun _ _=>d) d d () (fun _ _ _ _=>()) v
noncomputable def Fs (v:AV):Bool:=
 AV.rec (motive_1:=fun _=>Bool) (motive_2:=fun _=>Unit) (fun _=>false) (fun _ _=>false) (fun _=>false) false (fun _ _=>true) false (fun _ _ _ _ _=>true) false (fun _=>true) (fun _ _ _ _ _=>true) (fun _=>false) false (fun _ _ _=>false) false (fun _ _=>false) (fun _ _=>false) false false () (fun _ _ _ _=>()) v
noncomputable def ob {α:Type} (d:R) (f:α→R) (o:Option α):R:=Option.rec (motive:=fun _=>R) d f o
noncomputable def bc (b:Bool) (x y:R):R:=Bool.rec (motive:=fun _=>R) y x b
noncomputable def yH (f:List AV→TypeId→Bool→R) (d:R) (o:aK):R:=
 aK.rec (motive:=fun _=>R) (fun cs e ro=>f cs e ro) (fun _ _=>d) (fun _ _=>d) (fun _ _ _ _=>d) (fun _ _ _ _ _ _ _=>d) d o
noncomputable def lu (f:Nat→R) (d:R) (n:Int):R:=Int.rec (motive:=fun _=>R) f (fun _=>d) n
noncomputable def YI (a b c d e f g h:R) (k:IntKind):R:=IntKind.rec (motive:=fun _=>R) a b c d e f g h k
end
noncomputable def kc (k:IntKind):Nat:=YI 0 1 2 3 4 5 6 7 k
noncomputable def Qy (k j:IntKind):Bool:=Nat.beq (kc k) (kc j)
noncomputable def uC (k:IntKind):Nat:=YI 128 32768 2147483648 9223372036854775808 256 65536 4294967296 18446744073709551616 k
noncomputable def Qz (k:IntKind):Nat:=YI 8 16 32 64 8 16 32 64 k
noncomputable def Xg (k:IntKind):Bool:=YI true true true true false false false false k
noncomputable def va (k:IntKind) (n:Int):Int:=
 Int.rec (motive:=fun _=>Int) (fun m=>bc (Nat.ble (uC k) m) (bc (Xg k) (k.wrap (Int.ofNat m)) (Int.ofNat (Nat.mod m (uC k)))) (Int.ofNat m))
  (fun m=>bc (Xg k) (bc (Nat.ble (uC k) m) (k.wrap (Int.negSucc m)) (Int.negSucc m)) (k.wrap (Int.negSucc m))) n
noncomputable def Ft (a b:Int):Int:=lu (fun x=>lu (fun y=>Int.ofNat (Nat.add x y)) (Int.add a b) b) (Int.add a b) a
noncomputable def Fu (a b:Int):Int:=lu (fun x=>lu (fun y=>bc (Nat.ble y x) (Int.ofNat (Nat.sub x y)) (Int.negSucc (Nat.sub (Nat.sub y x) 1))) (Int.sub a b) b) (Int.sub a b) a
noncomputable def QA (a b:Int):Int:=lu (fun x=>lu (fun y=>Int.ofNat (Nat.mul x y)) (Int.mul a b) b) (Int.mul a b) a
noncomputable def Xh (a b:Int):Bool:=
 Int.rec (motive:=fun _=>Bool) (fun x=>Int.rec (motive:=fun _=>Bool) (fun y=>Nat.beq x y) (fun _=>false) b) (fun x=>Int.rec (motive:=fun _=>Bool) (fun _=>false) (fun y=>Nat.beq x y) b) a
noncomputable def UQ (a b:Int):Bool:=
 Int.rec (motive:=fun _=>Bool) (fun x=>Int.rec (motive:=fun _=>Bool) (fun y=>Nat.ble (Nat.add x 1) y) (fun _=>false) b) (fun x=>Int.rec (motive:=fun _=>Bool) (fun _=>true) (fun y=>Nat.ble (Nat.add y 1) x) b) a
noncomputable def vE (b:Bool):Bool:=bc b false true
noncomputable def UR (op:BinOp):IntKind→Int→Int→Option AV:=match op with
 | .add=>fun k a b=>some (.int k (va k (Ft a b)))
 | .sub=>fun k a b=>some (.int k (va k (Fu a b)))
 | .mul=>fun k a b=>some (.int k (va k (QA a b)))
 | .eql=>fun _ a b=>some (.bool (Xh a b))
 | .neq=>fun _ a b=>some (.bool (vE (Xh a b)))
 | .lss=>fun _ a b=>some (.bool (UQ a b))
 | .leq=>fun _ a b=>some (.bool (vE (UQ b a)))
 | .gtr=>fun _ a b=>some (.bool (UQ b a))
 | .geq=>fun _ a b=>some (.bool (vE (UQ a b)))
 | .quo=>fun k a b=>lu (fun x=>lu (fun y=>bc (Nat.beq y 0) none (some (.int k (va k (Int.ofNat (Nat.div x y)))))) (dz .quo k a b) b) (dz .quo k a b) a
 | .rem=>fun k a b=>lu (fun x=>lu (fun y=>bc (Nat.beq y 0) none (some (.int k (Int.ofNat (Nat.mod x y))))) (dz .rem k a b) b) (dz .rem k a b) a
 | .and=>fun k a b=>lu (fun x=>lu (fun y=>bc (Nat.ble (uC k) x) (dz .and k a b) (bc (Nat.ble (uC k) y) (dz .and k a b) (some (.int k (Int.ofNat (Nat.land x y)))))) (dz .and k a b) b) (dz .and k a b) a
 | .or=>fun k a b=>lu (fun x=>lu (fun y=>bc (Nat.ble (uC k) x) (dz .or k a b) (bc (Nat.ble (uC k) y) (dz .or k a b) (some (.int k (Int.ofNat (Nat.lor x y)))))) (dz .or k a b) b) (dz .or k a b) a
 | op=>fun k a b=>dz op k a b
noncomputable def QB (k:IntKind) (y:Nat):Nat:=bc (Nat.ble (Qz k) y) (Qz k) y
noncomputable def abg (k:IntKind) (a b:Int):Option AV:=lu (fun y=>some (.int k (va k (QA a (Int.ofNat (Nat.pow 2 (QB k y))))))) none b
noncomputable def abh (k:IntKind) (a b:Int):Option AV:=lu (fun y=>some (.int k (lu (fun x=>Int.ofNat (Nat.div x (Nat.pow 2 (QB k y)))) (a.fdiv (2^(min y k.bits))) a))) none b
section
variable {α:Type}
noncomputable def jc (l:List α):Nat:=List.rec (motive:=fun _=>Nat) 0 (fun _ _ ih=>Nat.add ih 1) l
noncomputable def jd (l:List α):Nat→Option α:=List.rec (motive:=fun _=>Nat→Option α) (fun _=>none) (fun v _ ih o=>bc (Nat.beq o 0) (some v) (ih (Nat.sub o 1))) l
noncomputable def s4 (l:List α):Nat→List α:=List.rec (motive:=fun _=>Nat→List α) (fun _=> []) (fun v tl ih o=>bc (Nat.beq o 0) (v::tl) (ih (Nat.sub o 1))) l
noncomputable def s5 (l:List α):Nat→List α:=List.rec (motive:=fun _=>Nat→List α) (fun _=> []) (fun v _ ih o=>bc (Nat.beq o 0) [] (v::ih (Nat.sub o 1))) l
noncomputable def lF (l m:List α):List α:=List.rec (motive:=fun _=>List α) m (fun v _ ih=>v::ih) l
noncomputable def yI (f:α→Bool) (l:List α):Bool:=List.rec (motive:=fun _=>Bool) true (fun v _ ih=>bc (f v) ih false) l
noncomputable def HQ (vs:List α):List α→List α:=
 List.rec (motive:=fun _=>List α→List α) (fun cs=>cs) (fun v _ ih cs=>List.rec (motive:=fun _=>List α) [] (fun _ tl _=>v::ih tl) cs) vs
noncomputable def HR (vs cs:List α):Nat→List α:=
 List.rec (motive:=fun _=>Nat→List α) (fun _=> []) (fun c tl ih o=>bc (Nat.beq o 0) (HQ vs (c::tl)) (c::ih (Nat.sub o 1))) cs
noncomputable def leq (f:α→α→Bool) (l:List α):List α→Bool:=
 List.rec (motive:=fun _=>List α→Bool) (fun m=>List.rec (motive:=fun _=>Bool) true (fun _ _ _=>false) m)
  (fun x _ ih m=>List.rec (motive:=fun _=>Bool) false (fun y tl _=>bc (f x y) (ih tl) false) m) l
end
noncomputable def Bv (a b:UInt8):Bool:=Nat.beq a.toBitVec.toFin.val b.toBitVec.toFin.val
noncomputable def US (v:AV):Bool:=yG (fun _=>false) (fun _=>false) true v
noncomputable def lO (v:AV):List AV:=yG (fun cs=>cs) (fun _=> [v]) [v] v
end Go.Ab.Fa
end
section
namespace Go.Ab.Fa
section
variable {α β:Type}
noncomputable def As (l:List Nat) (x:Nat):Bool:=List.rec (motive:=fun _=>Bool) false (fun y _ ih=>bc (Nat.beq x y) true ih) l
noncomputable def YJ (f:α→Bool) (l:List α):Bool:=List.rec (motive:=fun _=>Bool) false (fun v _ ih=>bc (f v) true ih) l
noncomputable def allI (f:α→Nat→Bool) (l:List α) (i:Nat):Bool:=List.rec (motive:=fun _=>Nat→Bool) (fun _=>true) (fun v _ ih i=>bc (f v i) (canon (Nat.add i 1) ih) false) l i
noncomputable def HS (f:α→Nat→Bool) (l:List α) (i:Nat):List Nat:=List.rec (motive:=fun _=>Nat→List Nat) (fun _=> []) (fun v _ ih i=>bc (f v i) (i::canon (Nat.add i 1) ih) (canon (Nat.add i 1) ih)) l i
noncomputable def Fv (f:α→Bool) (l:List α):Nat:=List.rec (motive:=fun _=>Nat) 0 (fun v _ ih=>bc (f v) (Nat.add ih 1) ih) l
noncomputable def Km (f:α→Bool) (l:List α):Nat:=List.rec (motive:=fun _=>Nat) 0 (fun v _ ih=>bc (f v) (Nat.add ih 1) 0) l
noncomputable def Bw (l:List α) (i:Nat) (d:α):α:=ob d (fun x=>x) (jd l i)
noncomputable def pM (l:List α):(List α→β)→β:=List.rec (motive:=fun _=>(List α→β)→β) (fun k=>k []) (fun x _ ih k=>ih fun tl=>k (x::tl)) l
theorem yJ (l:List α) (k:List α→β):pM l k=k l:=by
 induction l generalizing k with
 | nil=>rfl
 | cons y tl ih=>show pM tl (fun tl=>k (y::tl))=_;rw[ih]
noncomputable def Kn (l:List α) (k:List α→β):β:=List.rec (motive:=fun _=>β) (k []) (fun x tl _=>k (x::tl)) l
theorem Oa (l:List α) (k:List α→β):Kn l k=k l:=by cases l<;>rfl
noncomputable def Fw (f:List β→α→List β) (l:List α) (b:List β):List β:=List.rec (motive:=fun _=>List β→List β) (fun b=>b) (fun v _ ih b=>Kn (f b v) ih) l b
theorem D0 (f:List β→α→List β) (l:List α) (b:List β):Fw f l b=l.foldl f b:=by
 induction l generalizing b with
 | nil=>rfl
 | cons y tl ih=>show Kn (f b y) (Fw f tl)=_;rw[Oa,ih];rfl
theorem s6 (b:Bool) (x y:α):bc b x y=bif b then x else y:=by cases b<;>rfl
theorem At (x y:Nat):(x==y)=Nat.beq x y:=by
 cases h:Nat.beq x y
 · rw[beq_eq_false_iff_ne];intro e;subst e;rw[Nat.beq_refl] at h;exact absurd h (by simp)
 · rw[Nat.eq_of_beq_eq_true h];simp
theorem t_ (l:List Nat) (x:Nat):As l x=l.contains x:=by
 induction l with
 | nil=>rfl
 | cons y tl ih=>
   show bc (Nat.beq x y) true (As tl x)=_
   rw[ih,s6,List.contains_cons,At]
   cases Nat.beq x y<;>rfl
theorem UT (f:α→Bool) (l:List α):YJ f l=l.any f:=by
 induction l with
 | nil=>rfl
 | cons y tl ih=>show bc (f y) true (YJ f tl)=_;rw[ih,s6,List.any_cons];cases f y<;>rfl
theorem ra (f:α→Bool) (l:List α):yI f l=l.all f:=by
 induction l with
 | nil=>rfl
 | cons y tl ih=>show bc (f y) (yI f tl) false=_;rw[ih,s6,List.all_cons];cases f y<;>rfl
theorem Fx (f:α→Nat→Bool) (l:List α) (i:Nat):allI f l i=(l.zipIdx i).all fun p=>f p.1 p.2:=by
 induction l generalizing i with
 | nil=>rfl
 | cons y tl ih=>show bc (f y i) (canon (i+1) (allI f tl)) false=_;rw[lJ,ih,s6,List.zipIdx_cons,List.all_cons];cases f y i<;>rfl
theorem HU (f:α→Nat→Bool) (l:List α) (i:Nat):HS f l i=((l.zipIdx i).filter fun p=>f p.1 p.2).map (·.2):=by
 induction l generalizing i with
 | nil=>rfl
 | cons y tl ih=>
   show bc (f y i) (i::canon (i+1) (HS f tl)) (canon (i+1) (HS f tl))=_
   rw[lJ,ih,s6,List.zipIdx_cons,List.filter_cons];cases f y i<;>simp
theorem Ob (f:α→Bool) (l:List α):Fv f l=(l.filter f).length:=by
 induction l with
 | nil=>rfl
 | cons y tl ih=>show bc (f y) (Fv f tl+1) (Fv f tl)=_;rw[ih,s6,List.filter_cons];cases f y<;>simp
theorem Oc (f:α→Bool) (l:List α):Km f l=(l.takeWhile f).length:=by
 induction l with
 | nil=>rfl
 | cons y tl ih=>show bc (f y) (Km f tl+1) 0=_;rw[ih,s6,List.takeWhile_cons];cases f y<;>simp
theorem g5 (l:List α) (i:Nat):jd l i=l[i]? :=by
 induction l generalizing i with
 | nil=>rfl
 | cons y tl ih=>
   show bc (Nat.beq i 0) (some y) (jd tl (i - 1))=_
   rw[ih,s6]
   cases i with
   | zero=>rfl
   | succ i=>rw[show Nat.beq (i+1) 0=false from rfl];simp
theorem wR (l:List α) (i:Nat) (d:α):Bw l i d=l.getD i d:=by
 unfold Bw;rw[g5,List.getD_eq_getElem?_getD];cases l[i]? <;>rfl
theorem fY (l:List α):jc l=l.length:=by
 induction l with
 | nil=>rfl
 | cons y tl ih=>show jc tl+1=_;rw[ih];rfl
theorem nX (l m:List α):lF l m=l++m:=by
 induction l with
 | nil=>rfl
 | cons y tl ih=>show y::lF tl m=_;rw[ih];rfl
end
noncomputable def zF (p:Program) (t:TypeId):Option TypeInfo:=ob (p.info? t) (fun i=>some i) (jd p.types.toList t)
noncomputable def Xi (i:TypeInfo) (p:Program):Option TypeDesc:=TypeDesc.rec (motive:=fun _=>Option TypeDesc) (some i.desc) (some i.desc) (fun _=>some i.desc) (fun _=>some i.desc) (fun _=>some i.desc) (some i.desc) (some i.desc)
 (fun _=>some i.desc) (fun _=>some i.desc) (fun _ _=>some i.desc) (fun _ _=>some i.desc) (fun _ _=>some i.desc) (fun _=>some i.desc) (fun _ _ _=>some i.desc) (fun _=>some i.desc) (fun _=>some i.desc)
 (fun _ u=>ob none (fun j=>some j.desc) (zF p u)) i.desc
noncomputable def kf (p:Program) (t:TypeId):Option TypeDesc:=ob none (fun i=>Xi i p) (zF p t)
theorem s7 (p:Program) (t:TypeId):zF p t=p.info? t:=by
 unfold zF;rw[g5,Array.getElem?_toList]
 cases h:p.types[t]? with
 | none=>rfl
 | some i=>
   show some i=p.info? t
   unfold Tables.info?
   obtain ⟨lM,_⟩:=Array.getElem?_eq_some_iff.mp h
   rw[if_pos lM,h]
theorem iQ (p:Program) (t:TypeId):kf p t=p.underlying t:=by
 unfold kf Program.underlying
 rw[s7]
 cases p.info? t with
 | none=>rfl
 | some i=>
   show Xi i p=_
   obtain ⟨d,_⟩:=i
   cases d with
   | named a u=>show ob none (fun j=>some j.desc) (zF p u)=Option.map (fun x=>x.desc) (p.info? u);rw[s7];cases p.info? u<;>rfl
   | _=>rfl
noncomputable def YK (p:Program) (f:FuncId):Option Func:=jd p.funcs.toList f
theorem UU (p:Program) (f:FuncId):YK p f=p.funcs[f]? :=by
 unfold YK;rw[g5];exact Array.getElem?_toList
variable (E:Env)
noncomputable def qo (op:Op):Bool:=match op with
 | .store .. | .mapUpdate .. | .insert .. | .mapEntry .. | .entryStore .. | .next .. | .panic _ | .defer _=>true
 | .convert _ dst _=>match kf E.P dst with
   | some (.slice _)=>true
   | _=>false
 | .call c=>match c.callee with
   | .builtin .len | .builtin .cap | .builtin .max | .builtin .min=>false
   | .builtin _=>true
   | .value (.func f)=>match E.mO f with
     | none=>true
     | some _=>false
   | _=>true
 | _=>false
theorem s9 (op:Op):qo E op=fJ E op:=by
 unfold qo fJ
 cases op<;>try rfl
 · simp only[iQ]
   rename_i dst _
   generalize E.P.underlying dst=u
   cases u with
   | none=>rfl
   | some d=>cases d<;>rfl
 · rename_i c
   rcases c with ⟨cA,a,t⟩
   cases cA with
   | value x=>
     cases x with
     | func f=>simp only;cases E.mO f<;>rfl
     | _=>rfl
   | builtin b=>cases b<;>rfl
   | _=>rfl
noncomputable def Xj (g:Ground):Bool:=Ground.rec (motive:=fun _=>Bool) true true true true (fun _=>false) (fun _=>false) g
noncomputable def vF (o:Oper):List Nat:=List.rec (motive:=fun _=>List Nat) [] (fun e _ ih=>bc (Xj e.ground) (e.on::ih) ih) o.after.toList
theorem D1 (o:Oper):vF o=lj o:=by
 unfold vF lj
 induction o.after.toList with
 | nil=>rfl
 | cons e tl ih=>
   show bc (Xj e.ground) (e.on::_) _=_
   rw[ih,List.filter_cons]
   obtain ⟨on,g⟩:=e
   cases g<;>rfl
noncomputable def UW (l:List Nat) (x:Nat):List Nat:=bc (As l x) l (x::l)
noncomputable def Mn (acc:List (List Nat)) (es:List Nat):List Nat:=Fw (fun l e=>Fw UW (Bw acc e []) (UW l e)) es []
noncomputable def QC (l:List Oper):List (List Nat)→List (List Nat):=List.rec (motive:=fun _=>List (List Nat)→List (List Nat)) (fun acc=>acc) (fun o _ ih acc=>pM (Mn acc (vF o)) fun a=>pM (lF acc [a]) ih) l
theorem Mo (l:List Nat) (x:Nat):UW l x=if l.contains x then l else x::l:=by
 unfold UW;rw[t_,s6];cases l.contains x<;>rfl
theorem QD (acc:List (List Nat)) (o:Oper):Mn acc (vF o)=(lj o).foldl (fun l e=>(acc.getD e []).foldl (fun l x=>if l.contains x then l else x::l) (if l.contains e then l else e::l)) []:=by
 unfold Mn
 rw[D0,D1]
 congr 1
 funext l e
 rw[D0,wR,Mo]
 congr 1
 funext l x
 exact Mo l x
theorem HV:∀(l:List Oper) (acc:List (List Nat)),QC l acc=Hb l acc
 | [],_=>rfl
 | o::rest,acc=>by
   show pM (Mn acc (vF o)) (fun a=>pM (lF acc [a]) (QC rest))=_
   rw[yJ,yJ,HV rest,nX,QD];rfl
noncomputable def oK (an:List (List Nat)) (i j:Nat):Bool:=As (Bw an i []) j
theorem qp (an:List (List Nat)) (i j:Nat):oK an i j=dN an i j:=by
 unfold oK dN Hc;rw[t_,wR]
noncomputable def Bx (ops:List Oper) (an:List (List Nat)):Bool:=
 allI (fun o i=>bc (yI (fun e=>bc (Nat.ble (Nat.add e 1) i) (oK an i e) false) (vF o)) (yI (fun j=>bc (Nat.ble (Nat.add j 1) i) (YJ (fun e=>bc (Nat.beq e j) true (oK an e j)) (vF o)) false) (Bw an i [])) false) ops 0
theorem ua (a b:Nat):decide (a<b)=Nat.ble (a+1) b:=by
 by_cases h:a<b
 · rw[decide_eq_true h,Nat.ble_eq_true_of_le h]
 · rw[decide_eq_false h];symm;rw[Bool.eq_false_iff];intro e;exact h (Nat.le_of_ble_eq_true e)
theorem oL (a b:Bool):bc a b false=(a&&b):=by cases a<;>rfl
theorem Xk (a b:Bool):bc a true b=(a||b):=by cases a<;>rfl
theorem HW (ops:List Oper) (an:List (List Nat)):Bx ops an=AP ops an:=by
 unfold Bx AP
 rw[Fx]
 congr 1
 funext ⟨o,i⟩
 simp only[oL,Xk,ra,UT,wR,D1,qp,ua,At]
 rfl
noncomputable def YL (l:List Operand):List Nat:=List.rec (motive:=fun _=>List Nat) [] (fun x _ ih=>Operand.rec (motive:=fun _=>List Nat) (fun t=>t::ih) (fun _=>ih) (fun _=>ih) (fun _=>ih) x) l
theorem UX (l:List Operand):YL l=l.filterMap fun | .tmp t=>some t | _=>none:=by
 induction l with
 | nil=>rfl
 | cons x tl ih=>
   cases x<;>simp only[List.filterMap_cons,←ih]<;>rfl
noncomputable def opL (op:Op):List Operand:=match op with
 | .move x | .assign x | .box _ x | .load _ x | .nilCheck x | .unOp _ _ x | .convert _ _ x | .fieldAddr _ x _ | .field _ x _ | .extract x _=> [x]
 | .pick c a b=> [c,a,b]
 | .store _ a v | .binOp _ _ a v _ | .indexAddr _ a v | .index _ a v=> [a,v]
 | .alloc _=> []
 | .call c=>lF (match c.callee with | .value f=> [f] | .invoke r _=> [r] | .builtin _=> []) c.args.toList
 | op=>op.operands.toList
theorem YM (op:Op):opL op=op.operands.toList:=by
 cases op<;>try rfl
 rename_i c
 obtain ⟨cA,a,t⟩:=c
 cases cA<;>simp [opL,Op.operands,Call.operands,nX]
noncomputable def By (ops:List Oper) (an:List (List Nat)):Bool:=
 allI (fun o i=>bc (ob true (fun g=>bc (oK an i g.1) (ob false (fun p=>ob false (fun _=>true) p.dst) (jd ops g.1)) false) o.guard)
  (allI (fun p j=>bc (Nat.beq i j) true (ob true (fun d=>bc (ob true (fun a=>vE (Nat.beq a d)) o.dst) (bc (As (YL (opL o.op)) d) (bc (oK an i j) true (oK an j i)) true) false) p.dst)) ops 0) false) ops 0
theorem HX (ops:List Oper) (an:List (List Nat)):By ops an=AQ ops an:=by
 unfold By AQ
 rw[Fx]
 congr 1
 funext ⟨o,i⟩
 simp only[oL,Xk,qp]
 congr 1
 · obtain ⟨dst,op,ty,pos,after,guard⟩:=o
   cases guard with
   | none=>rfl
   | some g=>
     show (dN an i g.1&&ob false (fun p=>ob false (fun _=>true) p.dst) (jd ops g.1))=_
     rw[g5]
     congr 1
     cases ops[g.1]? with
     | none=>rfl
     | some p=>
       show ob false (fun _=>true) p.dst=(p.dst).isSome
       cases p.dst<;>rfl
 · rw[Fx]
   congr 1
   funext ⟨p,j⟩
   show (Nat.beq i j||_)=(i==j||_)
   rw[At]
   congr 1
   obtain ⟨dst,op,ty,pos,after,guard⟩:=p
   cases dst with
   | none=>rfl
   | some d=>
     show (ob true (fun a=>vE (Nat.beq a d)) o.dst&&bc (As (YL (opL o.op)) d) (dN an i j||dN an j i) true)=(o.dst !=some d&&(!(tmpsOf o).contains d||dN an i j||dN an j i))
     congr 1
     · cases o.dst with
       | none=>rfl
       | some a=>
         show vE (Nat.beq a d)= !(some a==some d)
         rw[Option.some_beq_some,At]
         cases Nat.beq a d<;>rfl
     · rw[t_,UX,YM,Bool.or_assoc]
       show bc ((tmpsOf o).contains d) _ _=_
       cases (tmpsOf o).contains d<;>rfl
noncomputable def Ko (an:List (List Nat)) (l:List Nat):Bool:=List.rec (motive:=fun _=>Bool) true (fun e rest ih=>List.rec (motive:=fun _=>Bool) true (fun f _ _=>bc (oK an f e) ih false) rest) l
theorem D2 (an:List (List Nat)):∀l,Ko an l=tQ an l
 | []=>rfl
 | [e]=>rfl
 | e::f::rest=>by
   show bc (oK an f e) (Ko an (f::rest)) false=_
   rw[D2 an (f::rest),qp,oL];rfl
noncomputable def QE (ops:List Oper):List Nat:=HS (fun o _=>qo E o.op) ops 0
theorem QF (ops:List Oper):QE E ops=nB E ops:=by
 unfold QE nB;rw[HU];simp only[s9]
noncomputable def D3 (bE:List Nat) (an:List (List Nat)) (i:Nat):Nat:=Fv (fun e=>oK an i e) bE
theorem HY (bE:List Nat) (an:List (List Nat)) (i:Nat):D3 bE an i=EM bE an i:=by
 unfold D3 EM;rw[Ob];simp only[qp]
noncomputable def Fy (ops:List Oper) (bE:List Nat) (an:List (List Nat)) (k:Nat):List Nat:=
 lF (HS (fun o i=>bc (qo E o.op) false (Nat.beq (D3 bE an i) k)) ops 0) (ob [] (fun x=> [x]) (jd bE k))
theorem Od (ops:List Oper) (bE:List Nat) (an:List (List Nat)) (k:Nat):Fy E ops bE an k=group E ops bE an k:=by
 unfold Fy group
 rw[nX,HU,g5]
 congr 1
 · congr 1
   congr 1
   funext ⟨o,i⟩
   show bc (qo E o.op) false (Nat.beq (D3 bE an i) k)=(!fJ E o.op&&(EM bE an i==k))
   rw[s9,HY,At];cases fJ E o.op<;>rfl
 · cases bE[k]? <;>rfl
noncomputable def Fz (ops:List Oper) (bE:List Nat) (an:List (List Nat)) (n:Nat):Nat→List Nat:=
 Nat.rec (motive:=fun _=>Nat→List Nat) (fun _=> []) (fun _ ih k=>lF (Fy E ops bE an k) (canon (Nat.add k 1) ih)) n
theorem Bz (ops:List Oper) (bE:List Nat) (an:List (List Nat)):∀n k,Fz E ops bE an n k=ox E ops bE an n k
 | 0,_=>rfl
 | n+1,k=>by
   show lF (Fy E ops bE an k) (canon (k+1) (Fz E ops bE an n))=_
   rw[lJ,Bz ops bE an n,nX,Od];rfl
noncomputable def AT (bE:List Nat) (an:List (List Nat)) (i:Nat):Nat:=Km (fun e=>vE (oK an e i)) bE
theorem Kp (bE:List Nat) (an:List (List Nat)) (i:Nat):AT bE an i=kC bE an i:=by
 unfold AT kC;rw[Oc];congr 2;funext e;rw[qp];cases dN an e i<;>rfl
noncomputable def Kq (n:Nat):List Nat→List Nat:=Nat.rec (motive:=fun _=>List Nat→List Nat) (fun l=>l) (fun m ih l=>ih (m::l)) n
theorem D4:∀n l,Kq n l=List.range.loop n l
 | 0,_=>rfl
 | n+1,l=>D4 n (n::l)
noncomputable def FA (ops:List Oper) (an:List (List Nat)) (bE:List Nat) (l:List Nat):List Nat→Nat→Bool:=
 List.rec (motive:=fun _=>List Nat→Nat→Bool) (fun seen k=>bc (yI (fun i=>As seen i) (Kq (jc ops) [])) (Nat.beq k (jc bE)) false)
  (fun i _ ih seen k=>bc (Nat.ble (Nat.add i 1) (jc ops)) (bc (As seen i) false (bc (yI (fun j=>As seen j) (Bw an i []))
   (bc (ob (qo E (default:Oper).op) (fun o=>qo E o.op) (jd ops i)) (bc (ob false (fun e=>Nat.beq e i) (jd bE k)) (canon (Nat.add k 1) (ih (i::seen))) false)
    (bc (Nat.beq (D3 bE an i) k) (ih (i::seen) k) false)) false)) false) l
theorem yK (ops:Array Oper) (an:List (List Nat)) (bE:List Nat):∀l seen k,FA E ops.toList an bE l seen k=lk E ops an bE l seen k
 | [],seen,k=>by
   show bc (yI (fun i=>As seen i) (Kq (jc ops.toList) [])) (Nat.beq k (jc bE)) false=_
   rw[oL,ra,D4,fY,fY]
   simp only[t_]
   unfold lk
   rw[At,Array.length_toList]
   rfl
 | i::rest,seen,k=>by
   show bc (Nat.ble (i+1) (jc ops.toList)) (bc (As seen i) false (bc (yI (fun j=>As seen j) (Bw an i []))
    (bc (ob (qo E (default:Oper).op) (fun o=>qo E o.op) (jd ops.toList i)) (bc (ob false (fun e=>Nat.beq e i) (jd bE k)) (canon (k+1) (FA E ops.toList an bE rest (i::seen))) false)
     (bc (Nat.beq (D3 bE an i) k) (FA E ops.toList an bE rest (i::seen) k) false)) false)) false=_
   rw[lJ,yK ops an bE rest,yK ops an bE rest,ra,wR,t_,HY,fY]
   simp only[t_]
   rw[show ob (qo E (default:Oper).op) (fun o=>qo E o.op) (jd ops.toList i)=fJ E ((ops.getD i default).op) by
    rw[g5,s9]
    rw[show ops.getD i default=(ops.toList[i]?).getD default by rw[Array.getElem?_toList,Array.getD_eq_getD_getElem?]]
    cases ops.toList[i]? with
    | none=>rfl
    | some o=>exact s9 E o.op]
   rw[show ob false (fun e=>Nat.beq e i) (jd bE k)=(bE[k]? ==some i) by rw[g5];cases bE[k]? with
    | none=>rfl
    | some e=>rw[Option.some_beq_some,At];rfl]
   rw[lk,ua]
   simp only[oL]
   rw[←At (EM bE an i) k,show ops.toList.length=ops.size from Array.length_toList]
   rw[s6,s6]
   show (Nat.ble (i+1) ops.size&&(bif List.contains seen i then false else _))=_
   unfold Hc
   cases Nat.ble (i+1) ops.size<;>cases List.contains seen i<;>cases (an.getD i []).all (fun j=>List.contains seen j)<;>cases fJ E ((ops.getD i default).op)<;>rfl
noncomputable def nin (x:Nat) (l:List Nat):Bool:=List.rec (motive:=fun _=>Bool) true (fun y _ ih=>bc (Nat.beq x y) false ih) l
noncomputable def FB (l:List Nat):Bool:=List.rec (motive:=fun _=>Bool) true (fun x tl ih=>bc (nin x tl) ih false) l
theorem YN (x:Nat) (l:List Nat):nin x l= !l.contains x:=by
 induction l with
 | nil=>rfl
 | cons y tl ih=>
   show bc (Nat.beq x y) false (nin x tl)=_
   rw[ih,List.contains_cons,At]
   cases Nat.beq x y<;>rfl
theorem yL:∀l,FB l=nodup l
 | []=>rfl
 | x::tl=>by
   show bc (nin x tl) (FB tl) false=_
   rw[yL tl,YN,oL];rfl
noncomputable def QG {R:Type} (ops:Array Oper) (k:mj→R) (d:R):R:=
 pM ops.toList fun l=>pM (QC l []) fun an=>pM (QE E l) fun bE=>pM (Fz E l bE an (Nat.add (jc bE) 1) 0) fun order=>
 bc (Bx l an) (bc (By l an) (bc (Ko an bE) (bc (FB bE) (bc (FA E l an bE order [] 0) (k ⟨an,bE,order⟩) d) d) d) d) d
theorem QH {R:Type} (ops:Array Oper) (k:mj→R) (d:R):QG E ops k d=match sG E ops with | some pl=>k pl | none=>d:=by
 unfold QG sG
 simp only[yJ,HV,QF,Bz,HW,HX,D2,yL,yK,fY]
 generalize AP ops.toList (Hb ops.toList [])=a
 generalize AQ ops.toList (Hb ops.toList [])=b
 generalize tQ (Hb ops.toList []) (nB E ops.toList)=c
 generalize nodup (nB E ops.toList)=e
 show bc a (bc b (bc c (bc e (bc (lk E ops _ _ (ox E ops.toList _ _ ((nB E ops.toList).length+1) 0) [] 0) _ d) d) d) d) d=_
 generalize lk E ops (Hb ops.toList []) (nB E ops.toList) (ox E ops.toList (nB E ops.toList) (Hb ops.toList []) ((nB E ops.toList).length+1) 0) [] 0=f
 cases a<;>cases b<;>cases c<;>cases e<;>cases f<;>rfl
end Go.Ab.Fa
end
