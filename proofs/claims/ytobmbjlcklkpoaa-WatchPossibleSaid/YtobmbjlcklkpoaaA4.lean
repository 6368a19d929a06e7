import Derived.Test.YtobmbjlcklkpoaaA3
import Derived.Test.YtobmbjlcklkpoaaA0
set_option linter.unusedVariables false
set_option linter.unusedSimpArgs false
section
namespace Go.Ab
variable {E:Env}
def HX (P:Program) (m:Machine) (b:Frame) (k:List Item) (cs:List Frame):Exit→Act→World→Prop
 | .normal,a,w=>Steps P m (lone (b.atR a k) cs w)
 | .exit id,a,w=>∃todo,exitTo id todo=exitTo id k∧Steps P m (lone (b.atR a (.code (.exit id)::todo)) cs w)
 | .ret,a,w=>∃todo,Steps P m (lone (b.atR a (.code .ret::todo)) cs w)
 | .panic chain,a,w=>∃todo,Steps P m (lone {b.atR a todo with mode:= .panicking chain} cs w)
 | _,_,_=>False
theorem HX.of_steps {P:Program} {m m':Machine} {b:Frame} {k:List Item} {cs:List Frame} {e:Exit} {a:Act} {w:World} (hs:Steps P m m') (h:HX P m' b k cs e a w):HX P m b k cs e a w:=by
 cases e with
 | normal=>exact Steps.trans hs h
 | exit id=>obtain ⟨t,h1,h2⟩:=h;exact ⟨t,h1,Steps.trans hs h2⟩
 | ret=>obtain ⟨t,h2⟩:=h;exact ⟨t,Steps.trans hs h2⟩
 | panic c=>obtain ⟨t,h2⟩:=h;exact ⟨t,Steps.trans hs h2⟩
 | goto l=>exact h.elim
 | outgrown=>exact h.elim
theorem HX.pass {P:Program} {m:Machine} {b:Frame} {x:Item} {k:List Item} {cs:List Frame} {e:Exit} {a:Act} {w:World} (hx:∀id,exitTo id (x::k)=exitTo id k) (hn:e≠ .normal) (h:HX P m b (x::k) cs e a w):HX P m b k cs e a w:=by
 cases e with
 | normal=>exact absurd rfl hn
 | exit id=>obtain ⟨t,h1,h2⟩:=h;exact ⟨t,h1.trans (hx id),h2⟩
 | ret=>exact h
 | panic c=>exact h
 | goto l=>exact h.elim
 | outgrown=>exact h.elim
structure qe (E:Env) (φ:Ph) (h:aw) (w:World) (b:Frame) (K:Bool→List Frame) (k:List Item) (m:Machine) (e:iC) (s':St):Prop where
 is:∃φ' w' a' e',Yt φ' e e'∧SR φ' s'.ts s'.ds a'∧OK E φ' s'.h w'∧Fr φ h w φ' s'.h w'∧nA φ' b K s'.rc∧HX E.P m b k (cur K s'.rc) e' a' w'
theorem qe.of_steps {φ:Ph} {h:aw} {w:World} {b:Frame} {K:Bool→List Frame} {k:List Item} {m m':Machine} {e:iC} {s':St} (hs:Steps E.P m m') (x:qe E φ h w b K k m' e s'):qe E φ h w b K k m e s':=by
 obtain ⟨φ',w',a',e',h1,h2,h3,h4,h5,h6⟩:=x.is
 exact ⟨φ',w',a',e',h1,h2,h3,h4,h5,.of_steps hs h6⟩
theorem qe.later {φ φ₁:Ph} {h h₁:aw} {w w₁:World} {b:Frame} {K:Bool→List Frame} {k:List Item} {m:Machine} {e:iC} {s':St} (f:Fr φ h w φ₁ h₁ w₁) (x:qe E φ₁ h₁ w₁ b K k m e s'):qe E φ h w b K k m e s':=by
 obtain ⟨φ',w',a',e',h1,h2,h3,h4,h5,h6⟩:=x.is
 exact ⟨φ',w',a',e',h1,h2,h3,f.trans h4,h5,h6⟩
theorem OK.made {φ:Ph} {h h':aw} {w:World} (ok:OK E φ h w) {o:aY} {O:Obj} (hn:h.new o=some h') (ho:OR E (φ.add h.nx ⟨w.heap.size,0,0⟩) o ⟨w.heap.size,0,0⟩ (some O)):
 OK E (φ.add h.nx ⟨w.heap.size,0,0⟩) h' (w.alloc O)∧Fr φ h w (φ.add h.nx ⟨w.heap.size,0,0⟩) h' (w.alloc O)∧φ.le (φ.add h.nx ⟨w.heap.size,0,0⟩):=
 ok.fresh (w':=w.alloc O) hn ⟨w.heap.size,0,0⟩ (by rw[show (w.alloc O).heap=w.heap.push O from rfl];simpa using ho)
  (fun c eM hc=>by rw[show (w.alloc O).heap=w.heap.push O from rfl,Array.getElem?_push,if_neg (by simpa using eM)]) (by simp) (Nat.le_refl _) rfl rfl rfl
theorem OK.YD {φ:Ph} {h:aw} {w:World} (ok:OK E φ h w) {i:Nat} {o o':aY} {l:Loc} (hg:h.get i=some o) (He:o.rw=true) (hl:φ i=some l) {O:Obj} (ho:OR E φ o' l (some O)):
 OK E φ (h.put i (some o')) (w.putObj l.eg O)∧Fr φ h w φ (h.put i (some o')) (w.putObj l.eg O):=by
 have lR:l.eg<w.heap.size:=by
  rcases Nat.lt_or_ge l.eg w.heap.size with h1 | h1
  · exact h1
  · have:=ok.live i o l hg hl
    rw[Array.getElem?_eq_none h1] at this
    exact this.absurd.elim
 exact ok.change hg He hl (by rw[World.putObj_heap_same lR];exact ho) (fun c hc=>World.putObj_heap_other hc) World.putObj_size rfl rfl rfl
theorem OK.shut {φ:Ph} {h:aw} {w:World} (ok:OK E φ h w) {i:Nat} {o:aY} {l:Loc} (hg:h.get i=some o) (He:o.rw=true) (hl:φ i=some l) (O:Obj):
 OK E φ (h.put i none) (w.putObj l.eg O)∧Fr φ h w φ (h.put i none) (w.putObj l.eg O):=by
 have gZ:∀j p,(h.put i none).get j=some p→h.get j=some p∧j≠i:=fun j p hj=>by
  by_cases e:i=j
  · subst e;rw[aw.bU] at hj;simp at hj
  · rw[aw.bx e] at hj;exact ⟨hj,Ne.symm e⟩
 refine ⟨⟨ok.z_,ok.nx,ok.vh,fun j p m hj hm=>?_,fun j k p q m n hj hk=>ok.inj j k p q m n (gZ j p hj).1 (gZ k q hk).1⟩,
  ⟨Ph.le_refl φ,fun _ _=>rfl,Nat.le_refl _,rfl,rfl,rfl,by simp,fun b _ hn=>World.putObj_heap_other (fun e=>hn i o l hg He hl e.symm),fun j p m hj hr hm=> .inr ⟨j,p,m,(gZ j p hj).1,hr,hm,rfl⟩⟩⟩
 obtain ⟨pf,eM⟩:=gZ j p hj
 rw[World.putObj_heap_other (fun e=>eM (ok.inj j i p o m l pf hg hm hl (.inr He) e))]
 exact ok.live j p m pf hm
theorem HY {s:St} {dn:Nat} {h1:aw} {Ye:List oh} (ho:L_ s=some (dn,h1,Ye)) {φ:Ph} {a:Act} {w:World} {b:Frame} {K:Bool→List Frame} (hs:SR φ s.ts s.ds a) (ok:OK E φ s.h w) (gM:nA φ b K s.rc)
 (ps:Array Tmp) (as_ bd:Code):∃φ1 w1 ld mark,φ.le φ1∧OK E φ1 h1 w1∧Fr φ s.h w φ1 h1 w1∧φ1 dn=some ld∧SR φ1 s.ts Ye {a with defers:=mark++a.defers}∧
  (Instr.enterLoop b.fn a.tmps ps as_ bd b.roundOf).run E.P w= .ok (w1.heap.size,mark) (w1.alloc (.loop {state:= .ready,pending:=none,fn:=b.fn,tmps:=a.tmps,params:=ps,assign:=as_,body:=bd,defers:=ld.eg})):=by
 unfold L_ at ho
 split at ho
 · rename_i l hl
   split at ho
   · rename_i st pd ts qy um Uw Ux hg
     simp at ho;obtain ⟨rfl,rfl,rfl⟩:=ho
     rw[hl] at gM
     obtain ⟨ll,hφ,P7⟩:=gM
     obtain ⟨_,r,hr,yr⟩:=ok.live _ _ _ hg hφ
     obtain ⟨ld,hd1,UT⟩:=yr.defers
     refine ⟨φ,w,ld,[],Ph.le_refl φ,ok,Fr.refl _ _ _,hd1,⟨hs.ts,hs.ds⟩,?_⟩
     rw[P7,run_enterLoop_inner hr,UT]
   · simp at ho
 · rename_i CV
   split at ho
   · rename_i h1' hn
     simp at ho;obtain ⟨rfl,rfl,rfl⟩:=ho
     obtain ⟨HV,fr1,hle⟩:=ok.made (O:= .deferred (some [])) hn ⟨rfl,rfl⟩
     have iE:(φ.add s.h.nx ⟨w.heap.size,0,0⟩) s.h.nx=some ⟨w.heap.size,0,0⟩:=by simp [Ph.add]
     refine ⟨_,_,⟨w.heap.size,0,0⟩,[{target:= .collected w.heap.size,args:= #[]}],hle,HV,fr1,iE,⟨hs.ts.mono hle,⟨_,iE,rfl⟩,hs.ds.mono hle⟩,?_⟩
     rw[gM.plain (A5 CV),run_enterLoop_outer]
     simp
   · simp at ho
theorem Ql {c:Code} {e:iC} (h:Hq (some c)=some e):(∃id,c= .exit id∧e= .exit id)∨(c= .ret∧e= .ret):=by
 cases c<;>simp [Hq] at h
 · exact .inl ⟨_,rfl,h.symm⟩
 · exact .inr ⟨rfl,h.symm⟩
theorem Fq {call:bj} (dq:iI E call) {f:Operand} {ps:Array Tmp} {as_ bd:Code} {s s':St} {e:iC} (h:lO E call f ps as_ bd s= .ok e s')
 {φ:Ph} {a:Act} {w:World} {b:Frame} {k:List Item} {K:Bool→List Frame} (hs:SR φ s.ts s.ds a) (ok:OK E φ s.h w) (gM:nA φ b K s.rc) (CX:(E.P.funcs[b.fn]?).isSome=true):
 qe E φ s.h w b K k (lone (b.atR a (.code (.rangeFunc f ps as_ bd)::k)) (cur K s.rc) w) e s':=by
 unfold lO at h
 split at h
 · rename_i g first captured hf
   split at h
   · rename_i dn h1 Ye ho
     split at h
     · rename_i h2 hn
       have hfv:=nw ok.gl hs.ts hf
       generalize lC:a.eval f=cv at hfv
       obtain ⟨UM,iO,rfl,hfs,hcs⟩:=hfv.v_
       obtain ⟨φ1,w1,ld,mark,abl,HV,fr1,hld,r7,vm⟩:=HY ho hs ok gM ps as_ bd
       obtain ⟨A',Yz,UU⟩:=HV.made (O:= .loop {state:= .ready,pending:=none,fn:=b.fn,tmps:=a.tmps,params:=ps,assign:=as_,body:=bd,defers:=ld.eg}) hn
        ⟨rfl,_,rfl,⟨rfl,rfl,hs.ts.mono (Ph.le_trans abl (fun j m hm=>by
         unfold Ph.add;split
         · rename_i e;subst e;exact absurd (HV.z_ _ _ hm) (Nat.lt_irrefl _)
         · exact hm)),rfl,rfl,rfl,⟨ld,by
         unfold Ph.add;split
         · rename_i e;subst e;exact absurd (HV.z_ _ _ hld) (Nat.lt_irrefl _)
         · exact hld,rfl⟩,CX⟩⟩
       have hle:=Ph.le_trans abl UU
       have iE:(φ1.add h1.nx ⟨w1.heap.size,0,0⟩) h1.nx=some ⟨w1.heap.size,0,0⟩:=by simp [Ph.add]
       generalize hφ2:φ1.add h1.nx ⟨w1.heap.size,0,0⟩=φ2 at A' Yz UU hle iE
       have hl:LR φ2 (first++[.cQ h1.nx]++captured) (UM.toList++[.func (.yield w1.heap.size) #[] #[]]++iO.toList):=
        ((hfs.mono hle).append (.cons (.yield iE) (.nil φ2))).append (hcs.mono hle)
       have C8:∀w',(resolve a.eval (rangeCall f w1.heap.size) 0).run E.P w'= .ok {target:= .fn (.func g) iO,args:=UM++ #[.func (.yield w1.heap.size) #[] #[]]} w':=fun w'=>by
        have Qm:a.eval (.const (.func (.yield w1.heap.size) #[] #[]))= .func (.yield w1.heap.size) #[] #[]:=rfl
        simp [resolve,Deferred.ofValue,lC,Qm]
       have start:∀n st,ow E φ2 (w1.alloc (.loop {state:= .ready,pending:=none,fn:=b.fn,tmps:=a.tmps,params:=ps,assign:=as_,body:=bd,defers:=ld.eg})) (.fn g) (UM.toList++[.func (.yield w1.heap.size) #[] #[]]++iO.toList) n st→
        step E.P (lone (b.atR a (.code (.rangeFunc f ps as_ bd)::k)) (cur K s.rc) w)= .next (lone st (b.atR {a with defers:=mark++a.defers} (.inRangeFunc w1.heap.size::k)::cur K s.rc)
         (w1.alloc (.loop {state:= .ready,pending:=none,fn:=b.fn,tmps:=a.tmps,params:=ps,assign:=as_,body:=bd,defers:=ld.eg}))):=fun n st hp=>by
        cases hp with
        | fn _ _ hr=>
          have hinv:(invoke (Target.fn (.func g) iO) (UM++ #[.func (.yield w1.heap.size) #[] #[]])).run E.P (w1.alloc (.loop {state:= .ready,pending:=none,fn:=b.fn,tmps:=a.tmps,params:=ps,assign:=as_,body:=bd,defers:=ld.eg}))=
           .ok (.enter g (UM.toList++[Value.func (.yield w1.heap.size) #[] #[]]++iO.toList).toArray) (w1.alloc (.loop {state:= .ready,pending:=none,fn:=b.fn,tmps:=a.tmps,params:=ps,assign:=as_,body:=bd,defers:=ld.eg})):=by
           have e:(UM.toList++[Value.func (.yield w1.heap.size) #[] #[]]++iO.toList).toArray=UM++ #[Value.func (.yield w1.heap.size) #[] #[]]++iO:=by
            apply Array.toList_inj.1;simp
           rw[e] at hr ⊢
           simpa [invoke] using hr
          exact stepR_rangeFunc vm (C8 _) hinv
       split at h
       ·
        rename_i v h3 hc
        obtain ⟨n,st,hp,gv⟩:=dq.ret _ _ _ _ _ hc φ2 _ _ A' trivial hl
        obtain ⟨φ3,w3,v',_,ok3,Uj,jk⟩:=gv (b.atR {a with defers:=mark++a.defers} (.inRangeFunc w1.heap.size::k)) (cur K s.rc)
        rw[finish_atR_inRangeFunc] at jk
        split at h
        · simp at h
        · rename_i st' iy jY qy um Uw Ux CV hg
          split at h
          · rename_i e1 hj
            simp at h;obtain ⟨rfl,rfl⟩:=h
            have Pl:=Uj.ext _ _ iE
            obtain ⟨_,r,hr,yr⟩:=ok3.live _ _ _ hg Pl
            have abm:r.state≠ .busy:=by rw[yr.state];intro e;subst e;exact CV rfl
            obtain ⟨ok4,fr4⟩:=ok3.YD (o':= .loop .exhausted iy jY qy um Uw Ux) hg rfl Pl (O:= .loop {r with state:= .exhausted}) ⟨rfl,_,rfl,⟨rfl,yr.pending,yr.tmps,yr.params,yr.assign,yr.body,yr.defers,yr.fn⟩⟩
            obtain ⟨W4,hW4⟩:∃W4,W4=w3.putObj w1.heap.size (.loop {r with state:= .exhausted}):=⟨_,rfl⟩
            have ok4:OK E φ3 (h3.put h1.nx (some (.loop .exhausted iy jY qy um Uw Ux))) W4:=by rw[hW4];exact ok4
            have fr4:Fr φ3 h3 w3 φ3 (h3.put h1.nx (some (.loop .exhausted iy jY qy um Uw Ux))) W4:=by rw[hW4];exact fr4
            have abn:=stepR_endRangeFunc (P:=E.P) (b:=b) (a:={a with defers:=mark++a.defers}) (k:=k) (cs:=cur K s.rc) (run_endLoop hr abm)
            rw[←hW4] at abn
            have oa:=((fr1.trans Yz).trans Uj).trans fr4
            have jv:=Steps.trans (.head (start n st hp) jk) (.one abn)
            rw[yr.pending] at jv
            have YE:=Ph.le_trans UU Uj.ext
            have Qo:=Ph.le_trans hle Uj.ext
            cases iy with
            | none=>
              simp [Hq] at hj;subst hj
              exact ⟨φ3,_,_,_,.normal,r7.mono YE,ok4,oa,gM.mono Qo,jv⟩
            | some c=>
              rcases Ql hj with ⟨id,rfl,rfl⟩ | ⟨rfl,rfl⟩
              · exact ⟨φ3,_,_,_,.exit id,r7.mono YE,ok4,oa,gM.mono Qo,k,rfl,jv⟩
              · exact ⟨φ3,_,_,_,.ret,r7.mono YE,ok4,oa,gM.mono Qo,k,jv⟩
          · simp at h
        · simp at h
       ·
        rename_i v h3 hc
        simp at h;obtain ⟨rfl,rfl⟩:=h
        obtain ⟨n,st,hp,gv⟩:=dq.panic _ _ _ _ _ hc φ2 _ _ A' trivial hl
        obtain ⟨φ3,w3,v',hv,ok3,Uj,jk⟩:=gv (b.atR {a with defers:=mark++a.defers} (.inRangeFunc w1.heap.size::k)) (cur K s.rc)
        rw[Frame.raise_atR] at jk
        exact ⟨φ3,w3,_,_,.panic v v' hv,r7.mono (Ph.le_trans UU Uj.ext),ok3,(fr1.trans Yz).trans Uj,gM.mono (Ph.le_trans hle Uj.ext),_,.head (start n st hp) jk⟩
       · simp at h
     · simp at h
   · simp at h
 · simp at h
end Go.Ab
end
section
namespace Go.Ab
variable {E:Env}
theorem vu (hE:kK E) {call:bj} (dq:iI E call) {ops:Array Oper}:∀{l:List Oper} {is:List Nat} (_:is.length=l.length) (_:∀(j i:Nat),is[j]? =some i→l[j]? =ops[i]?) {s s':St} {e:iC} (_:kt E call ops l s= .ok e s')
 {φ:Ph} {a:Act} {w:World} {b:Frame} {k:List Item} {K:Bool→List Frame} (_:SR φ s.ts s.ds a) (_:OK E φ s.h w) (_:nA φ b K s.rc),
 qe E φ s.h w b K k (lone (b.atR a (.inRegion ops is::k)) (cur K s.rc) w) e s'
 | [],is,hl,hi,s,s',e,h,φ,a,w,b,k,K,hs,ok,gM=>by
   cases is with
   | cons _ _=>simp at hl
   | nil=>
     simp [kt] at h;obtain ⟨rfl,rfl⟩:=h
     exact ⟨φ,w,a,_,.normal,hs,ok,Fr.refl _ _ _,gM,.one stepR_region_end⟩
 | o::l,is,hl,hi,s,s',e,h,φ,a,w,b,k,K,hs,ok,gM=>by
   cases is with
   | nil=>simp at hl
   | cons i is=>
     have ho:ops[i]? =some o:=by have:=hi 0 i (by simp);simpa using this.symm
     have Uh:is.length=l.length:=by simpa using hl
     have ES:∀(j i':Nat),is[j]? =some i'→l[j]? =ops[i']? :=fun j i' hj=>by have:=hi (j+1) i' (by simpa using hj);simpa using this
     simp only[kt] at h
     have Ui:=vo (ops:=ops) hs.ts o
     split at h
     · rename_i hw
       rw[←Ui] at hw
       split at h
       · rename_i s1 pY
         obtain ⟨φ1,w1,a1,e1,x1,x2,x3,x4,x5,x6⟩:=(DE hE dq ho pY hs ok gM hw (rest:=is) (k:=k)).is
         cases x1
         exact ((vu hE dq Uh ES h x2 x3 x5).of_steps x6).later x4
       · rename_i eM
         obtain ⟨φ1,w1,a1,e1,x1,x2,x3,x4,x5,x6⟩:=(DE hE dq ho h hs ok gM hw (rest:=is) (k:=k)).is
         cases x1 with
         | normal=>exact (eM _ h).elim
         | exit=>exact x6.elim
         | ret=>exact x6.elim
         | panic v v' hv=>exact ⟨φ1,w1,a1,_,.panic v v' hv,x2,x3,x4,x5,x6⟩
     · rename_i hw
       have qI:SR φ (dR s.ts o.dst AV.undef) s.ds (a.put o.dst undef):=hs.put o.dst (VR.undef φ)
       refine (vu hE dq Uh ES h qI ok gM).of_steps (.one ?_)
       have:=stepR_op_skip (P:=E.P) (b:=b) (a:=a) (k:=k) (cs:=cur K s.rc) (w:=w) (ops:=ops) (i:=i) (rest:=is) (by rw[ho];simp;rw[Ui];simpa using hw)
       rw[this,ho];rfl
set_option maxHeartbeats 1000000 in
theorem vv (hE:kK E) {call:bj} (dq:iI E call):∀(n:Nat) (c:Code) {s s':St} {e:iC} (_:exec E call n c s= .ok e s')
 {φ:Ph} {a:Act} {w:World} {b:Frame} {k:List Item} {K:Bool→List Frame} (_:SR φ s.ts s.ds a) (_:OK E φ s.h w) (_:nA φ b K s.rc) (_:(E.P.funcs[b.fn]?).isSome=true),
 qe E φ s.h w b K k (lone (b.atR a (.code c::k)) (cur K s.rc) w) e s'∧∀c',c= .loop c'→qe E φ s.h w b K k (lone (b.atR a (.code c':: .inLoop c'::k)) (cur K s.rc) w) e s':=by
 intro n
 induction n with
 | zero=>intro c s s' e h;simp [exec] at h
 | succ n ih2=>
   have ih:∀(c:Code) {s s':St} {e:iC} (_:exec E call n c s= .ok e s')
    {φ:Ph} {a:Act} {w:World} {b:Frame} {k:List Item} {K:Bool→List Frame} (_:SR φ s.ts s.ds a) (_:OK E φ s.h w) (_:nA φ b K s.rc) (_:(E.P.funcs[b.fn]?).isSome=true),
    qe E φ s.h w b K k (lone (b.atR a (.code c::k)) (cur K s.rc) w) e s':=fun c _ _ _ h _ _ _ _ _ _ hs ok gM CX=>(ih2 c h hs ok gM CX).1
   intro c s s' e h φ a w b k K hs ok gM CX
   have Xd:∀c',c= .loop c'→qe E φ s.h w b K k (lone (b.atR a (.code c':: .inLoop c'::k)) (cur K s.rc) w) e s':=by
    rintro c rfl
    simp only[exec] at h
    split at h
    · rename_i s1 h1
      obtain ⟨φ1,w1,a1,e1,x1,x2,x3,x4,x5,x6⟩:=(ih c h1 hs ok gM CX (k:= .inLoop c::k)).is
      cases x1
      exact (((ih2 (.loop c) h x2 x3 x5 CX).2 c rfl).of_steps (Steps.trans x6 (.one stepR_inLoop))).later x4
    · rename_i eM
      obtain ⟨φ1,w1,a1,e1,x1,x2,x3,x4,x5,x6⟩:=(ih c h hs ok gM CX (k:= .inLoop c::k)).is
      refine ⟨φ1,w1,a1,e1,x1,x2,x3,x4,x5,.pass (x:= .inLoop c) (fun _=>rfl) ?_ x6⟩
      cases x1 with
      | normal=>exact (eM _ h).elim
      | exit=>simp
      | ret=>simp
      | panic=>simp
   refine ⟨?_,Xd⟩
   cases c with
   | skip=>simp [exec] at h;obtain ⟨rfl,rfl⟩:=h;exact ⟨φ,w,a,_,.normal,hs,ok,Fr.refl _ _ _,gM,.one stepR_skip⟩
   | label l=>simp [exec] at h;obtain ⟨rfl,rfl⟩:=h;exact ⟨φ,w,a,_,.normal,hs,ok,Fr.refl _ _ _,gM,.one stepR_label⟩
   | ret=>simp [exec] at h;obtain ⟨rfl,rfl⟩:=h;exact ⟨φ,w,a,_,.ret,hs,ok,Fr.refl _ _ _,gM,k,Steps.refl _ _⟩
   | exit id=>simp [exec] at h;obtain ⟨rfl,rfl⟩:=h;exact ⟨φ,w,a,_,.exit id,hs,ok,Fr.refl _ _ _,gM,k,rfl,Steps.refl _ _⟩
   | seq x y=>
     simp only[exec] at h
     split at h
     · rename_i s1 h1
       obtain ⟨φ1,w1,a1,e1,x1,x2,x3,x4,x5,x6⟩:=(ih x h1 hs ok gM CX (k:= .code y::k)).is
       cases x1
       exact ((ih y h x2 x3 x5 CX).of_steps (.head stepR_seq x6)).later x4
     · rename_i eM
       obtain ⟨φ1,w1,a1,e1,x1,x2,x3,x4,x5,x6⟩:=(ih x h hs ok gM CX (k:= .code y::k)).is
       refine ⟨φ1,w1,a1,e1,x1,x2,x3,x4,x5,.of_steps (.one stepR_seq) (.pass (x:= .code y) (fun _=>rfl) ?_ x6)⟩
       cases x1 with
       | normal=>exact (eM _ h).elim
       | exit=>simp
       | ret=>simp
       | panic=>simp
   | cond x y z=>
     simp only[exec] at h
     split at h
     · rename_i hx
       have h1:=nw ok.gl hs.ts hx
       generalize lC:a.eval x=cv at h1
       cases h1
       exact (ih y h hs ok gM CX).of_steps (.one (stepR_cond lC))
     · rename_i hx
       have h1:=nw ok.gl hs.ts hx
       generalize lC:a.eval x=cv at h1
       cases h1
       exact (ih z h hs ok gM CX).of_steps (.one (stepR_cond lC))
     · simp at h
   | block id c=>
     simp only[exec] at h
     split at h
     · rename_i O9 s1 h1
       obtain ⟨φ1,w1,a1,e1,x1,x2,x3,x4,x5,x6⟩:=(ih c h1 hs ok gM CX (k:= .inBlock id::k)).is
       cases x1
       split at h
       · rename_i hid
         simp at h;obtain ⟨rfl,rfl⟩:=h
         obtain ⟨todo,ht,jk⟩:=x6
         exact ⟨φ1,w1,a1,_,.normal,x2,x3,x4,x5,.head stepR_block (Steps.trans jk (.one (stepR_exit (by rw[ht];simp [exitTo,hid]))))⟩
       · rename_i hid
         simp at h;obtain ⟨rfl,rfl⟩:=h
         obtain ⟨todo,ht,jk⟩:=x6
         refine ⟨φ1,w1,a1,_,.exit O9,x2,x3,x4,x5,todo,?_,.head stepR_block jk⟩
         have:(id==O9)=false:=by simp;exact fun h=>hid h.symm
         rw[ht];simp [exitTo,this]
     · rename_i eM
       obtain ⟨φ1,w1,a1,e1,x1,x2,x3,x4,x5,x6⟩:=(ih c h hs ok gM CX (k:= .inBlock id::k)).is
       cases x1 with
       | normal=>exact ⟨φ1,w1,a1,_,.normal,x2,x3,x4,x5,.head stepR_block (Steps.trans x6 (.one stepR_inBlock))⟩
       | exit O9=>exact (eM _ _ h).elim
       | ret=>exact ⟨φ1,w1,a1,_,.ret,x2,x3,x4,x5,.of_steps (e:= .ret) (k:=k) (.one stepR_block) x6⟩
       | panic v v' hv=>exact ⟨φ1,w1,a1,_,.panic v v' hv,x2,x3,x4,x5,.of_steps (e:= .panic _) (k:=k) (.one stepR_block) x6⟩
   | loop c=>exact (Xd c rfl).of_steps (.one stepR_loop)
   | region id ops draw=>
     simp only[exec] at h
     cases draw with
     | false=>
       have pY:=vu hE dq (ops:=ops) (l:=ops.toList) (is:=List.range ops.size) (by simp) (fun j i hj=>by
        have:=List.getElem?_eq_some_iff.1 hj
        obtain ⟨h1,h2⟩:=this
        simp at h1 h2;subst h2;simp) h hs ok gM (b:=b) (k:=k)
       exact pY.of_steps (.one stepR_region)
     | true=>
       obtain ⟨h1,h2,⟨rfl,φ',a',w',x1,x2,x3,x4,x5⟩ | ⟨v,rfl,hp⟩⟩:=HW hE hE.mixed dq h hs ok gM (b:=b) (k:=k) id
       · refine ⟨φ',w',a',_,.normal,⟨x1,by rw[h2,x2];exact hs.ds.mono x4.ext⟩,x3,x4,by rw[h1];exact gM.mono x4.ext,?_⟩
         rw[h1];exact x5
       · obtain ⟨φ',a',w',v',todo,x0,x1,x2,x3,x4,x5⟩:=hp.is
         refine ⟨φ',w',a',_,.panic v v' x0,⟨x1,by rw[h2,x2];exact hs.ds.mono x4.ext⟩,x3,x4,by rw[h1];exact gM.mono x4.ext,todo,?_⟩
         rw[h1];exact x5
   | rangeFunc f ps a1 b1=>
     simp only[exec] at h
     exact Fq dq h hs ok gM CX
   | scope c=>
     simp only[exec] at h
     have s1:∀{m},Steps E.P (lone (b.atR a (.code c:: .inScope c::k)) (cur K s.rc) w) m→Steps E.P (lone (b.atR a (.code (.scope c)::k)) (cur K s.rc) w) m:=fun q=> .head (step_lone_go (by simp [stepG,stepG.exec,Frame.atR])) q
     obtain ⟨φ1,w1,a1,e1,x1,x2,x3,x4,x5,x6⟩:=(ih c h hs ok gM CX (k:= .inScope c::k)).is
     cases x1 with
     | normal=>exact ⟨φ1,w1,a1,_,.normal,x2,x3,x4,x5,s1 (Steps.trans x6 (.one (step_lone_go (by simp [stepG,stepG.exec,Frame.atR]))))⟩
     | exit O9=>exact ⟨φ1,w1,a1,_,.exit O9,x2,x3,x4,x5,.of_steps (e:= .exit O9) (k:=k) (s1 (Steps.refl _ _)) (.pass (x:= .inScope c) (fun _=>rfl) (by simp) x6)⟩
     | ret=>exact ⟨φ1,w1,a1,_,.ret,x2,x3,x4,x5,.of_steps (e:= .ret) (k:=k) (s1 (Steps.refl _ _)) (.pass (x:= .inScope c) (fun _=>rfl) (by simp) x6)⟩
     | panic v v' hv=>exact ⟨φ1,w1,a1,_,.panic v v' hv,x2,x3,x4,x5,.of_steps (e:= .panic _) (k:=k) (s1 (Steps.refl _ _)) (.pass (x:= .inScope c) (fun _=>rfl) (by simp) x6)⟩
   | goto l=>simp [exec] at h
   | refuse why=>simp [exec] at h
end Go.Ab
end
section
namespace Go.Ab
variable {E:Env}
theorem HZ {φ:Ph} {h:aw} {w:World} (ok:OK E φ h w) {ts:List AV} {tmps:Array Value} (ht:LR φ ts tmps.toList):∀{l:List ResultVar} {vs:List AV} (_:j5 E h ts l=some vs),
 ∃qJ,LR φ vs qJ∧(l.mapM (fun | .tmp t=>pure (tmps.getD t undef) | .cell a t=>do loadVar t (←asAddr (tmps.getD a undef)):ResultVar→Sem Value)).run E.P w= .ok qJ w
 | [],vs,h=>by simp [j5] at h;subst h;exact ⟨[],LR.nil φ,rfl⟩
 | r::rest,vs,h=>by
   have gZ:∀t,VR φ (ts.getD t AV.undef) (tmps.getD t undef):=fun t=>by
    have:=ht.getD (VR.undef φ) t
    rw[show tmps.getD t undef=tmps.toList.getD t undef by simp [Array.getD_eq_getD_getElem?,List.getD]]
    exact this
   simp only[j5] at h
   split at h
   · simp at h
   · rename_i v hv
     split at h
     · simp at h
     · rename_i vs0 Hy
       simp at h;subst h
       obtain ⟨qJ,hl,hr⟩:=HZ ok ht Hy
       cases r with
       | tmp t=>
         simp at hv;subst hv
         refine ⟨tmps.getD t undef::qJ,.cons (by simpa using gZ t) hl,?_⟩
         simp only[List.mapM_cons,Sem.run_bind,Sem.run_pure,Result.andThen_ok,hr]
       | cell ad t=>
         simp only at hv
         obtain ⟨x',hx,gv⟩:=DB ok (gZ ad) hv
         refine ⟨x'::qJ,.cons hx hl,?_⟩
         have hr0:=gv w rfl
         have:(do loadVar t (←asAddr (tmps.getD ad undef)):Sem Value).run E.P w= .ok x' w:=by
          have hv2:=gZ ad
          unfold bA at hv
          split at hv
          · rename_i i o heq
            rw[heq] at hv2
            generalize hq:tmps.getD ad undef=q at hv2 hr0
            cases hv2
            simpa [Instr.loadAt,Instr.sureAddr,asAddr] using hr0
          · simp at hv
         simp only[List.mapM_cons]
         rw[Sem.run_bind,this]
         simp only[Sem.run_bind,Sem.run_pure,Result.andThen_ok,hr]
theorem sD {φ:Ph} {h:aw} {w:World} (ok:OK E φ h w) {ts:List AV} {tmps:Array Value} (ht:LR φ ts tmps.toList) {fn:Func} {vs:List AV} (hv:j5 E h ts fn.results.toList=some vs):
 ∃v',VR φ (gF vs) v'∧(results fn tmps).run E.P w= .ok v' w:=by
 obtain ⟨qJ,hl,hr⟩:=HZ ok ht hv
 have hm:(fn.results.mapM (fun | .tmp t=>pure (tmps.getD t undef) | .cell a t=>do loadVar t (←asAddr (tmps.getD a undef)):ResultVar→Sem Value)).run E.P w= .ok qJ.toArray w:=by
  rw[Array.mapM_eq_mapM_toList]
  show Sem.run E.P (Functor.map List.toArray (_:Sem (List Value))) w=_
  rw[Sem.run_map]
  refine (congrArg (fun r=>Result.andThen r _) hr).trans ?_
  rfl
 refine ⟨if h:qJ.toArray.size=1 then qJ.toArray[0] else .tuple qJ.toArray,?_,?_⟩
 · cases vs with
   | nil=>rw[hl.gK];exact VR.tuple' (LR.nil φ)
   | cons v vs=>
     obtain ⟨y,ys,rfl,hy,uo⟩:=hl.cz
     cases vs with
     | nil=>rw[uo.gK];simpa [gF] using hy
     | cons v2 vs2=>
       obtain ⟨y2,ys2,rfl,hy2,aew⟩:=uo.cz
       have:¬(y::y2::ys2).toArray.size=1:=by simp
       rw[dif_neg this]
       exact VR.tuple' (.cons hy (.cons hy2 aew))
 · unfold results
   rw[Sem.run_bind]
   refine (congrArg (fun r=>Result.andThen r _) hm).trans ?_
   rfl
def bare (f:FuncId) (kind:CallKind):Frame:={fn:=f,tmps:= #[],todo:=[],defers:=[],mode:= .run,kind:=kind,roundOf:=none}
theorem Qp {P:Program} {f:FuncId} {fn:Func} {c:Code} (hf:P.funcs[f]? =some fn) (hb:fn.body=some c) (vs:List Value) (kind:CallKind):
 Frame.enter P f vs.toArray kind=(bare f kind).atR {tmps:=vs.toArray++Array.replicate (fn.ntmps - vs.length) undef,defers:=[]} [.code c]:=by
 simp [Frame.enter,Frame.atR,hf,hb,bare]
theorem sE (hE:kK E) {call:bj} (dq:iI E call) {fuel:Nat} {f:FuncId} {fn:Func} {c:Code} (hf:E.P.funcs[f]? =some fn) (hb:fn.body=some c) {args:List AV} {h:aw} {rc:RC} {e:iC} {s':St}
 (gG:mU E call fuel fn c args h rc= .ok e s') {φ:Ph} {w:World} {vs:List Value} (ok:OK E φ h w) (hl:LR φ args vs) {kind:CallKind} {K:Bool→List Frame} (gM:nA φ (bare f kind) K rc):
 qe E φ h w (bare f kind) K [] (lone (Frame.enter E.P f vs.toArray kind) (cur K rc) w) e s':=by
 rw[Qp hf hb]
 refine (vv hE dq fuel c (s:={ts:=args++List.replicate (fn.ntmps - args.length) AV.undef,h,ds:=[],rc}) gG (a:={tmps:=vs.toArray++Array.replicate (fn.ntmps - vs.length) undef,defers:=[]}) (b:=bare f kind) (k:=[]) ⟨?_,trivial⟩ ok gM (by show (E.P.funcs[f]?).isSome=true;rw[hf];rfl)).1
 have:=hl.append (LR.replicate (VR.undef φ) (fn.ntmps - args.length))
 rw[hl.1] at this
 simpa [hl.1] using this
theorem enters {E:Env} (hE:kK E) {f:FuncId} {fn:Func} {c:Code} (hf:E.P.funcs[f]? =some fn) (hb:fn.body=some c) (vs:Array Value) (w:World):(callFunc f vs).run E.P w= .ok (.enter f vs) w:=by
 have hn:=hE.names f fn hf
 have:(fn.name== "runtime.NumGoroutine")=false:=by rw[beq_eq_false_iff_ne];exact hn
 simp only[callFunc,Sem.run_bind,run_program,Result.andThen_ok,hf,this,Bool.false_eq_true,if_false,hb,Option.isNone_some,Sem.run_pure]
noncomputable def iD (E:Env) (call:bj) (fuel:Nat) (g:FuncId) (as_:List AV) (h:aw) (rc:RC):Option (aw×RC):=match E.P.funcs[g]? with
 | none=>none
 | some fg=>match fg.body with
   | none=>none
   | some bg=>match mU E call fuel fg bg as_ h rc with
     | .ok .normal s'=>if s'.ds.isEmpty&&(j5 E s'.h s'.ts fg.results.toList).isSome then some (s'.h,s'.rc) else none
     | .ok .ret s'=>if s'.ds.isEmpty&&(j5 E s'.h s'.ts fg.results.toList).isSome then some (s'.h,s'.rc) else none
     | _=>none
theorem sF {φ:Ph} {ds:List Deferred} (h:W5 φ [] ds):ds=[]:=by cases ds with | nil=>rfl | cons _ _=>exact h.elim
def qP (c:Bool→Frame):RC→Frame
 | .done=>{c true with mode:=settle (c true).mode}
 | _=>{c false with mode:=settle (c false).mode}
theorem sG (hE:kK E) {call:bj} (dq:iI E call) {fuel:Nat} {g:FuncId} {as_:List AV} {h h':aw} {rc UW:RC} (hd:iD E call fuel g as_ h rc=some (h',UW)) {φ:Ph} {w:World} {vs:List Value}
 (ok:OK E φ h w) (hl:LR φ as_ vs) {c:Bool→Frame} {cs:List Frame} (gM:nA φ (bare g .deferred) (fun x=>c x::cs) rc):
 ∃φ' w',OK E φ' h' w'∧Fr φ h w φ' h' w'∧nA φ' (bare g .deferred) (fun x=>c x::cs) UW∧(callFunc g vs.toArray).run E.P w= .ok (.enter g vs.toArray) w∧
  Steps E.P (lone (Frame.enter E.P g vs.toArray .deferred) (cur (fun x=>c x::cs) rc) w)
   (lone (qP c UW) cs w'):=by
 unfold iD at hd
 split at hd
 · simp at hd
 rename_i fg hf
 split at hd
 · simp at hd
 rename_i bg hb
 have key:∀(s':St) (e:iC),(e= .normal∨e= .ret)→mU E call fuel fg bg as_ h rc= .ok e s'→s'.ds.isEmpty=true→(j5 E s'.h s'.ts fg.results.toList).isSome=true→s'.h=h'→s'.rc=UW→
  ∃φ' w',OK E φ' h' w'∧Fr φ h w φ' h' w'∧nA φ' (bare g .deferred) (fun x=>c x::cs) UW∧(callFunc g vs.toArray).run E.P w= .ok (.enter g vs.toArray) w∧
  Steps E.P (lone (Frame.enter E.P g vs.toArray .deferred) (cur (fun x=>c x::cs) rc) w)
   (lone (qP c UW) cs w'):=by
  intro s' e he gG Ky C8 hh hr
  subst hh;subst hr
  obtain ⟨φ',w',a',e',x1,x2,x3,x4,x5,x6⟩:=(sE hE dq hf hb gG ok hl (kind:= .deferred) gM).is
  refine ⟨φ',w',x3,x4,x5,enters hE hf hb _ w,?_⟩
  obtain ⟨qJ,aex⟩:=Option.isSome_iff_exists.1 C8
  obtain ⟨v',_,gv⟩:=sD x3 x2.ts aex
  have hdn:a'.defers=[]:=sF (by have:=x2.ds;rw[List.isEmpty_iff.1 Ky] at this;exact this)
  have fin:∀todo,step E.P (lone {(bare g .deferred).atR a' todo with mode:= .returning} (cur (fun x=>c x::cs) s'.rc) w')=
   .next (lone (qP c s'.rc) cs w'):=fun todo=>by
   have zh:({(bare g .deferred).atR a' todo with mode:= .returning}:Frame).going E.P w' (.returned v'):=⟨rfl,hdn,fg,hf,gv⟩
   have hk:({(bare g .deferred).atR a' todo with mode:= .returning}:Frame).kind= .deferred:=rfl
   cases ag9:s'.rc with
   | no=>exact step_going_returned (c:=c false) (cs:=cs) hk zh
   | iy v=>exact step_going_returned (c:=c false) (cs:=cs) hk zh
   | done=>exact step_going_returned (c:=c true) (cs:=cs) hk zh
   | pX l=>exact step_going_returned (c:=c false) (cs:=cs) hk zh
  rcases he with rfl | rfl
  · cases x1
    exact Steps.trans x6 (.head (stepR_end rfl) (.one (fin [])))
  · cases x1
    obtain ⟨todo,hs⟩:=x6
    exact Steps.trans hs (.head (stepR_ret rfl) (.one (fin _)))
 split at hd
 · rename_i s' gG
   split at hd
   · rename_i hc
     simp at hd;obtain ⟨rfl,rfl⟩:=hd
     simp only[Bool.and_eq_true] at hc
     exact key s' .normal (.inl rfl) gG hc.1 hc.2 rfl rfl
   · simp at hd
 · rename_i s' gG
   split at hd
   · rename_i hc
     simp at hd;obtain ⟨rfl,rfl⟩:=hd
     simp only[Bool.and_eq_true] at hc
     exact key s' .ret (.inr rfl) gG hc.1 hc.2 rfl rfl
   · simp at hd
 · simp at hd
theorem j8 (hE:kK E) {call:bj} (dq:iI E call) {fuel:Nat}:∀(ds:List oh) {p p':Option AV} {h h':aw} (_:cO (iD E call fuel) ds p h=some (p',h')) {φ:Ph} {w:World} {fr:Frame} {cs:List Frame}
 (_:OK E φ h w) (_:W5 φ ds fr.defers) (_:(p=none∧fr.mode= .returning)∨∃v v',p=some v∧VR φ v v'∧fr.mode= .panicking [{v:=v',recovered:=false}]),
 ∃φ' w' m',OK E φ' h' w'∧Fr φ h w φ' h' w'∧((p'=none∧m'= .returning)∨∃v v',p'=some v∧VR φ' v v'∧m'= .panicking [{v:=v',recovered:=false}])∧
  Steps E.P (lone fr cs w) (lone {fr with defers:=[],mode:=m'} cs w')
 | [],p,p',h,h',hu,φ,w,fr,cs,ok,Ky,hp=>by
   simp [cO] at hu;obtain ⟨rfl,rfl⟩:=hu
   have:=sF Ky
   refine ⟨φ,w,fr.mode,ok,Fr.refl _ _ _,?_,?_⟩
   · exact hp
   · rw[←this];exact Steps.refl _ _
 | .rQ r::ds,p,p',h,h',hu,φ,w,fr,cs,ok,Ky,hp=>by
   cases YF:fr.defers with
   | nil=>rw[YF] at Ky;exact Ky.elim
   | cons d' yj=>
   rw[YF] at Ky
   obtain ⟨⟨l,hl,UX⟩,Qq⟩:=Ky
   have Qs:fr.mode≠ .run:=by
    rcases hp with ⟨_,hm⟩ | ⟨v,v',_,_,hm⟩<;>rw[hm]<;>simp
   simp only[cO] at hu
   split at hu
   · rename_i hg
     obtain ⟨_,hb⟩:=ok.live _ _ _ hg hl
     obtain ⟨HV,f1⟩:=ok.shut hg rfl hl (.deferred none)
     have st1:=step_collected (P:=E.P) (cs:=cs) Qs YF UX (run_takeDeferred hb)
     obtain ⟨φ2,w2,m2,A',f2,Qt,Kz⟩:=j8 hE dq ds hu (fr:={fr with defers:=[]++yj}) (cs:=cs) HV (by simpa using Qq) hp
     exact ⟨φ2,w2,m2,A',f1.trans f2,Qt,.head st1 Kz⟩
   · simp at hu
 | .call df agq::ds,p,p',h,h',hu,φ,w,fr,cs,ok,Ky,hp=>by
   cases YF:fr.defers with
   | nil=>rw[YF] at Ky;exact Ky.elim
   | cons d' yj=>
   rw[YF] at Ky
   obtain ⟨⟨cap,UX,AZ⟩,Qq⟩:=Ky
   have Qs:fr.mode≠ .run:=by
    rcases hp with ⟨_,hm⟩ | ⟨v,v',_,_,hm⟩<;>rw[hm]<;>simp
   have hinv:∀(Pm:(callFunc df (d'.args++cap).toList.toArray).run E.P w= .ok (.enter df (d'.args++cap).toList.toArray) w),(invoke d'.target d'.args).run E.P w= .ok (.enter df (d'.args++cap).toList.toArray) w:=fun Pm=>by
    have e:(d'.args++cap).toList.toArray=d'.args++cap:=Array.toArray_toList ..
    rw[e] at Pm ⊢
    rw[UX];exact Pm
   have st1:∀(Pm:(callFunc df (d'.args++cap).toList.toArray).run E.P w= .ok (.enter df (d'.args++cap).toList.toArray) w),step E.P (lone fr cs w)= .next (lone (Frame.enter E.P df (d'.args++cap).toList.toArray .deferred) ({fr with defers:=yj}::cs) w):=fun Pm=>step_defer Qs YF UX (hinv Pm)
   cases p with
   | none=>
     simp only[cO] at hu
     split at hu
     · rename_i h1 rc1 hcd
       have hm:fr.mode= .returning:=by
        rcases hp with ⟨_,hm⟩ | ⟨v,v',e,_,_⟩
        · exact hm
        · simp at e
       obtain ⟨φ1,w1,HV,f1,_,Pm,jk⟩:=sG hE dq hcd ok AZ (c:=fun _=>{fr with defers:=yj}) (cs:=cs) ⟨rfl,fun J2 hk=>by simp [tryRecover,show J2.kind= .deferred from hk,hm]⟩
       have qd:qP (fun _=>{fr with defers:=yj}) rc1={fr with defers:=yj}:=by
        cases rc1<;>simp [qP,hm,settle]
       rw[qd] at jk
       obtain ⟨φ2,w2,m2,A',f2,Qt,Kz⟩:=j8 hE dq ds hu (fr:={fr with defers:=yj}) (cs:=cs) HV (Qq.mono f1.ext) (.inl ⟨rfl,hm⟩)
       exact ⟨φ2,w2,m2,A',f1.trans f2,Qt,.head (st1 Pm) (Steps.trans jk Kz)⟩
     · simp at hu
   | some v=>
     obtain ⟨v',hv,hm⟩:∃v',VR φ v v'∧fr.mode= .panicking [{v:=v',recovered:=false}]:=by
      rcases hp with ⟨e,_⟩ | ⟨v1,v',e,hv,hm⟩
      · simp at e
      · simp at e;subst e;exact ⟨v',hv,hm⟩
     have gM:nA φ (bare df .deferred) (fun x=>(if x then {fr with defers:=yj,mode:= .panicking [{v:=v',recovered:=true}]} else {fr with defers:=yj})::cs) (.iy v):=
      ⟨rfl,⟨v',hv,fun J2 hk=>by simp [tryRecover,show J2.kind= .deferred from hk,hm]⟩,fun J2 hk=>by simp [tryRecover,show J2.kind= .deferred from hk]⟩
     simp only[cO] at hu
     split at hu
     · rename_i h1 v1 hcd
       obtain ⟨φ1,w1,HV,f1,_,Pm,jk⟩:=sG hE dq hcd ok AZ (c:=fun x=>if x then {fr with defers:=yj,mode:= .panicking [{v:=v',recovered:=true}]} else {fr with defers:=yj}) (cs:=cs) gM
       have qd:qP (fun x=>if x then {fr with defers:=yj,mode:= .panicking [{v:=v',recovered:=true}]} else {fr with defers:=yj}) (.iy v1)={fr with defers:=yj}:=by simp [qP,hm,settle]
       rw[qd] at jk
       simp only[Bool.false_eq_true,if_false,cur] at jk
       obtain ⟨φ2,w2,m2,A',f2,Qt,Kz⟩:=j8 hE dq ds hu (fr:={fr with defers:=yj}) (cs:=cs) HV (Qq.mono f1.ext) (.inr ⟨v,v',rfl,hv.mono f1.ext,hm⟩)
       exact ⟨φ2,w2,m2,A',f1.trans f2,Qt,.head (st1 Pm) (Steps.trans jk Kz)⟩
     · rename_i h1 hcd
       obtain ⟨φ1,w1,HV,f1,_,Pm,jk⟩:=sG hE dq hcd ok AZ (c:=fun x=>if x then {fr with defers:=yj,mode:= .panicking [{v:=v',recovered:=true}]} else {fr with defers:=yj}) (cs:=cs) gM
       have qd:qP (fun x=>if x then {fr with defers:=yj,mode:= .panicking [{v:=v',recovered:=true}]} else {fr with defers:=yj}) .done={fr with defers:=yj,mode:= .returning}:=by simp [qP,settle]
       rw[qd] at jk
       simp only[Bool.false_eq_true,if_false,cur] at jk
       obtain ⟨φ2,w2,m2,A',f2,Qt,Kz⟩:=j8 hE dq ds hu (fr:={fr with defers:=yj,mode:= .returning}) (cs:=cs) HV (Qq.mono f1.ext) (.inl ⟨rfl,rfl⟩)
       exact ⟨φ2,w2,m2,A',f1.trans f2,Qt,.head (st1 Pm) (Steps.trans jk Kz)⟩
     · simp at hu
theorem H0 (hE:kK E) (fuel d:Nat) (ih:iI E (gS E d fuel)):(∀f args h v h',gS E (d+1) fuel (.fn f) args h= .ret v h'→lD E f args h v h')∧(∀f args h v h',gS E (d+1) fuel (.fn f) args h= .panic v h'→Me E f args h v h'):=by
 have key:∀(f:FuncId) (args:List AV) (h:aw) (out:ju),gS E (d+1) fuel (.fn f) args h=out→(∀why q,out≠ .fail why q)→
  ∃fn c e s p,E.P.funcs[f]? =some fn∧fn.body=some c∧mU E (gS E d fuel) fuel fn c args h .no= .ok e s∧
   ((p=none∧(e= .normal∨e= .ret))∨∃v,p=some v∧e= .panic v)∧
   ((∃v h',out= .panic v h'∧cO (iD E (gS E d fuel) fuel) s.ds p s.h=some (some v,h'))∨
    ∃vs h',out= .ret (gF vs) h'∧cO (iD E (gS E d fuel) fuel) s.ds p s.h=some (none,h')∧j5 E h' s.ts fn.results.toList=some vs):=by
  intro f args h out e eM
  simp only[gS] at e
  split at e
  · exact absurd e.symm (eM _ _)
  rename_i fn hf
  split at e
  · exact absurd e.symm (eM _ _)
  rename_i c hb
  have fin:∀(p:Option AV) (s:St),(match cO (iD E (gS E d fuel) fuel) s.ds p s.h with
   | none=>ju.fail "unwind" none
   | some (some v,h')=> .panic v h'
   | some (none,h')=>match j5 E h' s.ts fn.results.toList with
     | some vs=> .ret (gF vs) h'
     | none=> .fail "results" none)=out→
   ((∃v h',out= .panic v h'∧cO (iD E (gS E d fuel) fuel) s.ds p s.h=some (some v,h'))∨
    ∃vs h',out= .ret (gF vs) h'∧cO (iD E (gS E d fuel) fuel) s.ds p s.h=some (none,h')∧j5 E h' s.ts fn.results.toList=some vs):=by
   intro p s hm
   split at hm
   · exact absurd hm.symm (eM _ _)
   · rename_i v h' hu;exact .inl ⟨v,h',hm.symm,hu⟩
   · rename_i h' hu
     split at hm
     · rename_i vs hv;exact .inr ⟨vs,h',hm.symm,hu,hv⟩
     · exact absurd hm.symm (eM _ _)
  split at e
  · rename_i s gG;exact ⟨fn,c,_,s,none,hf,hb,gG,.inl ⟨rfl,.inl rfl⟩,fin none s e⟩
  · rename_i s gG;exact ⟨fn,c,_,s,none,hf,hb,gG,.inl ⟨rfl,.inr rfl⟩,fin none s e⟩
  · rename_i v s gG;exact ⟨fn,c,_,s,some v,hf,hb,gG,.inr ⟨v,rfl,rfl⟩,fin (some v) s e⟩
  · exact absurd e.symm (eM _ _)
  · exact absurd e.symm (eM _ _)
 have run:∀(f:FuncId) (fn:Func) (c:Code) (args:List AV) (h:aw) (e:iC) (s:St) (p p':Option AV) (h':aw),E.P.funcs[f]? =some fn→fn.body=some c→mU E (gS E d fuel) fuel fn c args h .no= .ok e s→
  ((p=none∧(e= .normal∨e= .ret))∨∃v,p=some v∧e= .panic v)→cO (iD E (gS E d fuel) fuel) s.ds p s.h=some (p',h')→
  ∀(φ:Ph) (w:World) (vs:List Value),OK E φ h w→LR φ args vs→∀cs,∃φ' w' m' tmps todo,OK E φ' h' w'∧Fr φ h w φ' h' w'∧LR φ' s.ts tmps.toList∧
   ((p'=none∧m'= .returning)∨∃v v',p'=some v∧VR φ' v v'∧m'= .panicking [{v:=v',recovered:=false}])∧
   Steps E.P (lone (Frame.enter E.P f vs.toArray .normal) cs w) (lone {(bare f .normal).atR {tmps,defers:=[]} todo with mode:=m'} cs w'):=by
  intro f fn c args h e s p p' h' hf hb gG hp hu φ w vs ok hl cs
  obtain ⟨φ1,w1,a1,e1,x1,x2,x3,x4,x5,x6⟩:=(sE hE ih hf hb gG ok hl (kind:= .normal) (K:=fun _=>cs) ⟨rfl,fun fr hk=>by simp [tryRecover,show fr.kind= .normal from hk]⟩).is
  have H2:cur (fun _=>cs) s.rc=cs:=by cases s.rc<;>rfl
  have Qu:cur (fun _=>cs) RC.no=cs:=rfl
  rw[H2] at x6
  rw[Qu] at x6
  have hm:∃todo m,((p=none∧m= .returning)∨∃v v',p=some v∧VR φ1 v v'∧m= .panicking [{v:=v',recovered:=false}])∧
   Steps E.P (lone (Frame.enter E.P f vs.toArray .normal) cs w) (lone {(bare f .normal).atR a1 todo with mode:=m} cs w1):=by
   rcases hp with ⟨rfl,rfl | rfl⟩ | ⟨v,rfl,rfl⟩
   · cases x1;exact ⟨[],.returning,.inl ⟨rfl,rfl⟩,Steps.trans x6 (.one (stepR_end rfl))⟩
   · cases x1;obtain ⟨todo,hs⟩:=x6;exact ⟨_,.returning,.inl ⟨rfl,rfl⟩,Steps.trans hs (.one (stepR_ret rfl))⟩
   · cases x1 with
     | panic _ v' hv=>obtain ⟨todo,hs⟩:=x6;exact ⟨todo,_,.inr ⟨v,v',rfl,hv,rfl⟩,hs⟩
  obtain ⟨todo,m,hmp,r7⟩:=hm
  obtain ⟨φ2,w2,m2,A',f2,Qt,hs2⟩:=j8 hE ih s.ds hu (fr:={(bare f .normal).atR a1 todo with mode:=m}) (cs:=cs) x3 x2.ds (by
   rcases hmp with ⟨e,em⟩ | ⟨v,v',e,hv,em⟩
   · exact .inl ⟨e,em⟩
   · exact .inr ⟨v,v',e,hv,em⟩)
  exact ⟨φ2,w2,m2,a1.tmps,todo,A',x4.trans f2,x2.ts.mono f2.ext,Qt,Steps.trans r7 hs2⟩
 refine ⟨fun f args h v h' e=>?_,fun f args h v h' e=>?_⟩
 · obtain ⟨fn,c,e1,s,p,hf,hb,gG,hp,pZ⟩:=key f args h _ e (by simp)
   rcases pZ with ⟨v1,h1,he,_⟩ | ⟨vs1,h1,he,hu,C8⟩
   · simp at he
   · simp at he;obtain ⟨rfl,rfl⟩:=he
     intro φ w vs ok hl
     refine ⟨enters hE hf hb _ w,fun cs=>?_⟩
     obtain ⟨φ',w',m',tmps,todo,r_,fr,ht,hm,hs⟩:=run f fn c args h e1 s p none h' hf hb gG hp hu φ w vs ok hl cs
     obtain ⟨v',hv,gv⟩:=sD r_ ht C8
     rcases hm with ⟨_,rfl⟩ | ⟨v,v'',e,_⟩
     · exact ⟨φ',w',v',_,hv,r_,fr,hs,rfl,rfl,rfl,rfl,fn,hf,gv⟩
     · simp at e
 · obtain ⟨fn,c,e1,s,p,hf,hb,gG,hp,pZ⟩:=key f args h _ e (by simp)
   rcases pZ with ⟨v1,h1,he,hu⟩ | ⟨vs1,h1,he,_⟩
   · simp at he;obtain ⟨rfl,rfl⟩:=he
     intro φ w vs ok hl
     refine ⟨enters hE hf hb _ w,fun cs=>?_⟩
     obtain ⟨φ',w',m',tmps,todo,r_,fr,ht,hm,hs⟩:=run f fn c args h e1 s p (some v) h' hf hb gG hp hu φ w vs ok hl cs
     rcases hm with ⟨e,_⟩ | ⟨v2,v',e,hv,rfl⟩
     · simp at e
     · simp at e;subst e
       exact ⟨φ',w',v',_,hv,r_,fr,hs,rfl,rfl,rfl,fn,hf⟩
   · simp at he
theorem vw {l:Nat} {jump:Option Code} {s:St} {v:AV} {h':aw} (he:zZ l jump s= .ret v h') {φ:Ph} {w:World} (ok:OK E φ s.h w) {ll:Loc} (hl:φ l=some ll):
 ∃w',v= .bool jump.isNone∧OK E φ h' w'∧Fr φ s.h w φ h' w'∧(Instr.endRound ll.eg jump).run E.P w= .ok (.bool jump.isNone) w':=by
 unfold zZ at he
 split at he
 · rename_i st pd ts ps as_ bd dn hg
   simp only[ju.ret.injEq] at he;obtain ⟨rfl,rfl⟩:=he
   obtain ⟨_,r,hr,yr⟩:=ok.live _ _ _ hg hl
   obtain ⟨HV,f1⟩:=ok.YD (o':= .loop (if jump.isNone then .ready else .done) jump ts ps as_ bd dn) hg rfl hl (O:= .loop {r with state:=if jump.isNone then .ready else .done,pending:=jump})
    ⟨by have:=ok.live _ _ _ hg hl;exact this.1,_,rfl,⟨rfl,rfl,yr.tmps,yr.params,yr.assign,yr.body,yr.defers,yr.fn⟩⟩
   exact ⟨_,rfl,HV,f1,run_endRound jump hr⟩
 · simp at he
theorem H4 {φ:Ph}:∀{ps:List Tmp} {args:List AV} {vs:List Value} (_:LR φ args vs) {ts:List AV} {tmps:Array Value} (_:LR φ ts tmps.toList),
 LR φ ((ps.zip args).foldl (fun ts x=>ts.set x.1 x.2) ts) (((ps.zip vs).foldl (fun (tmps:Array Value) (x:Tmp×Value)=>tmps.setIfInBounds x.1 x.2) tmps).toList)
 | [],_,_,_,_,_,ht=>by simpa using ht
 | p::ps,[],vs,hl,ts,tmps,ht=>by rw[hl.gK];simpa using ht
 | p::ps,x::xs,vs,hl,ts,tmps,ht=>by
   obtain ⟨y,ys,rfl,hy,uo⟩:=hl.cz
   simp only[List.zip_cons_cons,List.foldl_cons]
   exact H4 uo (by simpa using ht.set hy p)
theorem vx (hE:kK E) {call:bj} (dq:iI E call) {fuel l:Nat} {args:List AV} {h:aw} {out:ju} (ho:qF E call fuel l args h=out) (eM:∀why q,out≠ .fail why q)
 {φ:Ph} {w:World} {vs:List Value} (ok:OK E φ h w) {ll:Loc} (hφ:φ l=some ll) (hl:LR φ args vs):
 ∃f tmps assign body,(Instr.yield ll.eg vs.toArray).run E.P w= .ok (.round ll.eg f tmps assign body) w∧∀c cs,
  (∀v h',out= .ret v h'→∃φ' w' v',VR φ' v v'∧OK E φ' h' w'∧Fr φ h w φ' h' w'∧Steps E.P (lone (Frame.round ll.eg f tmps assign body .normal) (c::cs) w) (lone (c.finish v') cs w'))∧
  (∀v h',out= .panic v h'→∃φ' w' v',VR φ' v v'∧OK E φ' h' w'∧Fr φ h w φ' h' w'∧Steps E.P (lone (Frame.round ll.eg f tmps assign body .normal) (c::cs) w) (lone (c.raise [{v:=v',recovered:=false}]) cs w')):=by
 unfold qF at ho
 split at ho
 · rename_i st pd ts ps as_ bd dn hg
   split at ho
   · rename_i hlen
     split at ho
     · rename_i s1 hx1
       split at ho
       · rename_i pd2 T' PF O_ Ua Ub hg1
         obtain ⟨aha,r,hr,yr⟩:=ok.live _ _ _ hg hφ
         have NS:vs.toArray.size=r.params.size:=by
          have h1:=congrArg List.length yr.params
          have h2:=hl.1
          simp at h1 ⊢;omega
         refine ⟨r.fn,_,r.assign,r.body,run_yield hr NS,fun c cs=>?_⟩
         have abo:LR φ ((ps.zip args).foldl (fun ts x=>ts.set x.1 x.2) ts) ((r.params.zip vs.toArray).foldl (fun tmps (t,a)=>tmps.setIfInBounds t a) r.tmps).toList:=by
          have:=H4 (ps:=ps) hl yr.tmps
          rw[←Array.foldl_toList,Array.toList_zip,yr.params]
          exact this
         generalize htm:(r.params.zip vs.toArray).foldl (fun tmps (t,a)=>tmps.setIfInBounds t a) r.tmps=Mk at abo
         let b:Frame:={fn:=r.fn,tmps:= #[],todo:=[],defers:=[],mode:= .run,kind:= .normal,roundOf:=some ll.eg}
         have hb:b.roundOf=some ll.eg:=rfl
         have hk:b.kind= .normal:=rfl
         have ym:Frame.round ll.eg r.fn Mk r.assign r.body .normal=b.atR {tmps:=Mk,defers:=[]} [.code r.assign,.beginRound,.code r.body]:=rfl
         rw[yr.assign,yr.body] at ym ⊢
         rw[ym]
         have H2:∀rc,cur (fun _=>c::cs) rc=c::cs:=fun rc=>by cases rc<;>rfl
         obtain ⟨φ1,w1,a1,e1,x1,x2,x3,x4,x5,x6⟩:=(vv hE dq fuel as_ hx1 (a:={tmps:=Mk,defers:=[]}) (b:=b) (k:=[.beginRound,.code bd]) (K:=fun _=>c::cs) ⟨abo,trivial⟩ ok ⟨ll,hφ,rfl⟩ yr.fn).1.is
         cases x1
         rw[H2,H2] at x6
         have hφ1:=x4.ext _ _ hφ
         obtain ⟨abp,r1,hr1,H5⟩:=x3.live _ _ _ hg1 hφ1
         obtain ⟨A',f2⟩:=x3.YD (o':= .loop .busy pd2 T' PF O_ Ua Ub) hg1 rfl hφ1 (O:= .loop {r1 with state:= .busy})
          ⟨abp,_,rfl,⟨rfl,H5.pending,H5.tmps,H5.params,H5.assign,H5.body,H5.defers,H5.fn⟩⟩
         have aey:=stepR_beginRound (P:=E.P) (b:=b) (a:=a1) (k:=[.code bd]) (cs:=c::cs) hb (run_beginRound hr1 H5.state)
         have uq:=Steps.trans x6 (.one aey)
         have body:∀(e:iC) (s2:St),exec E call fuel bd {s1 with h:=s1.h.put l (some (.loop .busy pd2 T' PF O_ Ua Ub))}= .ok e s2→
          ∃φ' w' a' e',Yt φ' e e'∧SR φ' s2.ts s2.ds a'∧OK E φ' s2.h w'∧Fr φ h w φ' s2.h w'∧φ' l=some ll∧HX E.P (lone (b.atR {tmps:=Mk,defers:=[]} [.code as_,.beginRound,.code bd]) (c::cs) w) b [] (c::cs) e' a' w':=by
          intro e s2 UY
          obtain ⟨φ3,w3,a3,e3,y1,y2,y3,y4,y5,y6⟩:=(vv hE dq fuel bd UY (a:=a1) (b:=b) (k:=[]) (K:=fun _=>c::cs) x2 A' x5 yr.fn).1.is
          rw[H2,H2] at y6
          exact ⟨φ3,w3,a3,e3,y1,y2,y3,(x4.trans f2).trans y4,y4.ext _ _ hφ1,.of_steps uq y6⟩
         split at ho
         · rename_i s2 UY
           obtain ⟨φ3,w3,a3,e3,y1,y2,y3,y4,Pl,y6⟩:=body _ _ UY
           cases y1
           refine ⟨fun v h' e=>?_,fun v h' e=>?_⟩
           · obtain ⟨w4,rfl,z1,z2,z3⟩:=vw (ho.trans e) y3 Pl
             exact ⟨φ3,w4,_,.bool _,z1,y4.trans z2,Steps.trans y6 (.one (stepR_round_end hb hk z3))⟩
           · rw[e] at ho;unfold zZ at ho;split at ho<;>simp at ho
         · rename_i s2 UY
           obtain ⟨φ3,w3,a3,e3,y1,y2,y3,y4,Pl,y6⟩:=body _ _ UY
           cases y1
           refine ⟨fun v h' e=>?_,fun v h' e=>?_⟩
           · obtain ⟨w4,rfl,z1,z2,z3⟩:=vw (ho.trans e) y3 Pl
             obtain ⟨todo,hs⟩:=y6
             exact ⟨φ3,w4,_,.bool _,z1,y4.trans z2,Steps.trans hs (.one (stepR_round_ret hb hk z3))⟩
           · rw[e] at ho;unfold zZ at ho;split at ho<;>simp at ho
         · rename_i id s2 UY
           obtain ⟨φ3,w3,a3,e3,y1,y2,y3,y4,Pl,y6⟩:=body _ _ UY
           cases y1
           refine ⟨fun v h' e=>?_,fun v h' e=>?_⟩
           · obtain ⟨w4,rfl,z1,z2,z3⟩:=vw (ho.trans e) y3 Pl
             obtain ⟨todo,ht,hs⟩:=y6
             exact ⟨φ3,w4,_,.bool _,z1,y4.trans z2,Steps.trans hs (.one (stepR_round_exit hb hk ht z3))⟩
           · rw[e] at ho;unfold zZ at ho;split at ho<;>simp at ho
         · rename_i v2 s2 UY
           obtain ⟨φ3,w3,a3,e3,y1,y2,y3,y4,Pl,y6⟩:=body _ _ UY
           split at ho
           · rename_i Ky
             refine ⟨fun v h' e=>by rw[e] at ho;simp at ho,fun v h' e=>?_⟩
             rw[e] at ho;simp at ho;obtain ⟨rfl,rfl⟩:=ho
             cases y1 with
             | panic _ v' hv=>
               obtain ⟨todo,hs⟩:=y6
               have hdn:a3.defers=[]:=sF (by have:=y2.ds;rw[List.isEmpty_iff.1 Ky] at this;exact this)
               obtain ⟨fn,CX⟩:=Option.isSome_iff_exists.1 yr.fn
               exact ⟨φ3,w3,v',hv,y3,y4,Steps.trans hs (.one (step_leave_panicked ⟨rfl,hdn,fn,CX⟩))⟩
           · exact absurd ho.symm (eM _ _)
         · exact absurd ho.symm (eM _ _)
       · exact absurd ho.symm (eM _ _)
     · exact absurd ho.symm (eM _ _)
     · exact absurd ho.symm (eM _ _)
   · exact absurd ho.symm (eM _ _)
 · exact absurd ho.symm (eM _ _)
theorem zn (hE:kK E) (fuel:Nat):∀d,iI E (gS E d fuel)
 | 0=>⟨fun f args h v h' e=>by simp [gS] at e,fun f args h v h' e=>by simp [gS] at e⟩
 | d+1=>by
   have ih:=zn hE fuel d
   obtain ⟨k1,k2⟩:=H0 hE fuel d ih
   refine ⟨fun F args h v h' e=>?_,fun F args h v h' e=>?_⟩
   · cases F with
     | fn f=>exact (k1 f args h v h' e).any
     | vg l=>
       simp only[gS] at e
       intro φ w vs ok hf hl
       obtain ⟨ll,hφ⟩:=hf
       obtain ⟨f,tmps,assign,body,hy,gv⟩:=vx hE ih e (by simp) ok hφ hl
       exact ⟨_,_,.vg l ll hφ vs f tmps assign body hy,fun c cs=>(gv c cs).1 v h' rfl⟩
   · cases F with
     | fn f=>exact (k2 f args h v h' e).any
     | vg l=>
       simp only[gS] at e
       intro φ w vs ok hf hl
       obtain ⟨ll,hφ⟩:=hf
       obtain ⟨f,tmps,assign,body,hy,gv⟩:=vx hE ih e (by simp) ok hφ hl
       exact ⟨_,_,.vg l ll hφ vs f tmps assign body hy,fun c cs=>(gv c cs).2 v h' rfl⟩
end Go.Ab
end
section
namespace Go.Ab.Fa
structure Acc (T:Type) where
 f:T→AV
structure Upd (T:Type) where
 f:AV→T→T
structure RF where
 T:Type
 N:Nat
 get:Nat→Acc T
 set:Nat→Upd T
 z:T
 Qv:∀i,i<N→(get i).f z=AV.undef
 wD:∀i,i<N→∀v r,(get i).f ((set i).f v r)=v
 tW:∀i j,i<N→j<N→i≠j→∀v r,(get j).f ((set i).f v r)=(get j).f r
def UZ (i:Nat):Acc (P8 (P8 AV)):=s8 (i/8) fun p=>s8 (i%8) fun q=>⟨fun r=>q (p r)⟩
noncomputable def YG (i:Nat):Upd (P8 (P8 AV)):=e8 (i/8) fun p=>e8 (i%8) fun q=>⟨fun v r=>p (q fun _=>v) r⟩
noncomputable def rf2:RF where
 T:=P8 (P8 AV)
 N:=64
 get:=UZ
 set:=YG
 z:=P8.all (P8.all AV.undef)
 Qv i h:=by simp only[UZ,uI,Av]
 wD i h v r:=by simp only[UZ,YG,uI,zc,dk]
 tW i j hi hj h v r:=by
  simp only[UZ,YG,uI,zc]
  by_cases h1:i/8=j/8
  · rw[h1,dk,dV (by omega) (by omega) (by omega)]
  · rw[dV (by omega) (by omega) h1]
def U0 (i:Nat):Acc (P8 (P8 (P8 AV))):=s8 (i/64) fun o=>s8 (i/8%8) fun p=>s8 (i%8) fun q=>⟨fun r=>q (p (o r))⟩
noncomputable def YH (i:Nat):Upd (P8 (P8 (P8 AV))):=e8 (i/64) fun o=>e8 (i/8%8) fun p=>e8 (i%8) fun q=>⟨fun v r=>o (p (q fun _=>v)) r⟩
noncomputable def rf3:RF where
 T:=P8 (P8 (P8 AV))
 N:=512
 get:=U0
 set:=YH
 z:=P8.all (P8.all (P8.all AV.undef))
 Qv i h:=by simp only[U0,uI,Av]
 wD i h v r:=by simp only[U0,YH,uI,zc,dk]
 tW i j hi hj h v r:=by
  simp only[U0,YH,uI,zc]
  by_cases h1:i/64=j/64
  · rw[h1,dk]
    by_cases h2:i/8%8=j/8%8
    · rw[h2,dk,dV (by omega) (by omega) (by omega)]
    · rw[dV (by omega) (by omega) h2]
  · rw[dV (by omega) (by omega) h1]
section
variable (F:RF) (n:Nat)
def fk (r:F.T):List AV:=(List.range n).map fun i=>(F.get i).f r
theorem ja (r:F.T):(fk F n r).length=n:=by simp [fk]
theorem tX (r:F.T) {i:Nat} (h:i<n):(fk F n r)[i]? =some ((F.get i).f r):=by simp [fk,h]
theorem H6 (r:F.T) (i:Nat):(fk F n r).getD i AV.undef=if i<n then (F.get i).f r else AV.undef:=by
 rw[List.getD_eq_getElem?_getD]
 split
 · rename_i h;rw[tX F n r h];rfl
 · rw[List.getElem?_eq_none (by rw[ja];omega)];rfl
theorem U1 (hn:n≤F.N) (r:F.T) {i:Nat} (h:i<n) (v:AV):(fk F n r).set i v=fk F n ((F.set i).f v r):=by
 apply List.ext_getElem?
 intro j
 rw[List.getElem?_set]
 by_cases hj:j<n
 · rw[tX F n _ hj,tX F n _ hj,ja]
   by_cases e:i=j
   · subst e;simp [F.wD i (by omega),h]
   · rw[if_neg e,F.tW i j (by omega) (by omega) e]
 · rw[List.getElem?_eq_none (l:=fk F n r) (by rw[ja];omega),List.getElem?_eq_none (l:=fk F n _) (by rw[ja];omega),ja]
   rw[if_neg (by omega)]
noncomputable def Pn:List AV→F.T→Nat→F.T:=fun l=>List.rec (motive:=fun _=>F.T→Nat→F.T) (fun r _=>r) (fun v _ ih r i=>ih ((F.set i).f v r) (Nat.add i 1)) l
theorem U2 (r:F.T) (i:Nat):Pn F [] r i=r:=rfl
theorem Qw (v:AV) (l:List AV) (r:F.T) (i:Nat):Pn F (v::l) r i=Pn F l ((F.set i).f v r) (i+1):=rfl
theorem Ml (hn:n≤F.N):∀(l:List AV) (r:F.T) (i:Nat),i+l.length≤n→∀j,j<n→(F.get j).f (Pn F l r i)=if i≤j∧j<i+l.length then l.getD (j - i) AV.undef else (F.get j).f r
 | [],r,i,_,j,hj=>by rw[U2,if_neg (by rw[List.length_nil];omega)]
 | v::l,r,i,h,j,hj=>by
   simp only[List.length_cons] at h
   rw[Qw,Ml hn l _ (i+1) (by omega) j hj]
   simp only[List.length_cons]
   by_cases h1:i+1≤j∧j<i+1+l.length
   · rw[if_pos h1,if_pos (by omega)]
     obtain ⟨m,hm⟩:∃m,j - i=m+1:=⟨j - i - 1,by omega⟩
     rw[hm,show j -(i+1)=m by omega,List.getD_cons_succ]
   · rw[if_neg h1]
     by_cases h2:i=j
     · subst h2;rw[F.wD i (by omega),if_pos (by omega)];simp
     · rw[F.tW i j (by omega) (by omega) h2,if_neg (by omega)]
theorem Mm (hn:n≤F.N) (l:List AV) (h:l.length≤n):fk F n (Pn F l F.z 0)=l++List.replicate (n - l.length) AV.undef:=by
 apply List.ext_getElem?
 intro j
 by_cases hj:j<n
 · rw[tX F n _ hj,Ml F n hn l F.z 0 (by omega) j hj]
   by_cases h1:j<l.length
   · rw[if_pos (by omega),List.getElem?_append_left h1,Nat.sub_zero,List.getD_eq_getElem?_getD,List.getElem?_eq_getElem h1];rfl
   · rw[if_neg (by omega),List.getElem?_append_right (by omega),F.Qv j (by omega),List.getElem?_replicate,if_pos (by omega)]
 · rw[List.getElem?_eq_none (by rw[ja];omega),List.getElem?_eq_none (by simp;omega)]
end
end Go.Ab.Fa
end
section
namespace Go.Ab.Fa
section
variable {R:Type}
noncomputable def jF (f:Bool→R) (d:R) (v:AV):R:=
 AV.rec (motive_1:=fun _=>R) (motive_2:=fun _=>Unit) (fun b=>f b) (fun _ _=>d) (fun _=>d) d (fun _ _=>d) d (fun _ _ _ _ _=>d) d (fun _=>d) (fun _ _ _ _ _=>d) (fun _=>d) d (fun _ _ _=>d) d (fun _ _=>d) (fun _ _=>d) d d () (fun _ _ _ _=>()) v
noncomputable def oC (f:IntKind→Int→R) (d:R) (v:AV):R:=
 AV.rec (motive_1:=fun _=>R) (motive_2:=fun _=>Unit) (fun _=>d) (fun k n=>f k n) (fun _=>d) d (fun _ _=>d) d (fun _ _ _ _ _=>d) d (fun _=>d) (fun _ _ _ _ _=>d) (fun _=>d) d (fun _ _ _=>d) d (fun _ _=>d) (fun _ _=>d) d d () (fun _ _ _ _=>()) v
noncomputable def qQ (f:List UInt8→R) (d:R) (v:AV):R:=
 AV.rec (motive_1:=fun _=>R) (motive_2:=fun _=>Unit) (fun _=>d) (fun _ _=>d) (fun s=>f s) d (fun _ _=>d) d (fun _ _ _ _ _=>d) d (fun _=>d) (fun _ _ _ _ _=>d) (fun _=>d) d (fun _ _ _=>d) d (fun _ _=>d) (fun _ _=>d) d d () (fun _ _ _ _=>()) v
noncomputable def yu (f:Nat→Nat→R) (d:R) (v:AV):R:=
 AV.rec (motive_1:=fun _=>R) (motive_2:=fun _=>Unit) (fun _=>d) (fun _ _=>d) (fun _=>d) d (fun i o=>f i o) d (fun _ _ _ _ _=>d) d (fun _=>d) (fun _ _ _ _ _=>d) (fun _=>d) d (fun _ _ _=>d) d (fun _ _=>d) (fun _ _=>d) d d () (fun _ _ _ _=>()) v
noncomputable def jG (e:R) (f:Nat→Nat→Nat→Nat→Bool→R) (d:R) (v:AV):R:=
 AV.rec (motive_1:=fun _=>R) (motive_2:=fun _=>Unit) (fun _=>d) (fun _ _=>d) (fun _=>d) d (fun _ _=>d) e (fun i o l c b=>f i o l c b) d (fun _=>d) (fun _ _ _ _ _=>d) (fun _=>d) d (fun _ _ _=>d) d (fun _ _=>d) (fun _ _=>d) d d () (fun _ _ _ _=>()) v
noncomputable def vZ (z d:R) (v:AV):R:=
 AV.rec (motive_1:=fun _=>R) (motive_2:=fun _=>Unit) (fun _=>d) (fun _ _=>d) (fun _=>d) d (fun _ _=>d) d (fun _ _ _ _ _=>d) d (fun _=>d) (fun _ _ _ _ _=>d) (fun _=>d) d (fun _ _ _=>d) d (fun _ _=>d) (fun _ _=>d) z d () (fun _ _ _ _=>()) v
noncomputable def Mn (f:FuncId→List AV→List AV→R) (y:Nat→R) (d:R) (v:AV):R:=
 AV.rec (motive_1:=fun _=>R) (motive_2:=fun _=>Unit) (fun _=>d) (fun _ _=>d) (fun _=>d) d (fun _ _=>d) d (fun _ _ _ _ _=>d) d (fun _=>d) (fun g a b _ _=>f g a b) (fun l=>y l) d (fun _ _ _=>d) d (fun _ _=>d) (fun _ _=>d) d d () (fun _ _ _ _=>()) v
noncomputable def yv (f:List AV→R) (t:List AV→R) (d:R) (v:AV):R:=
 AV.rec (motive_1:=fun _=>R) (motive_2:=fun _=>Unit) (fun _=>d) (fun _ _=>d) (fun _=>d) d (fun _ _=>d) d (fun _ _ _ _ _=>d) d (fun _=>d) (fun _ _ _ _ _=>d) (fun _=>d) d (fun _ _ _=>d) d (fun cs _=>f cs) (fun cs _=>t cs) d d () (fun _ _ _ _=>()) v
noncomputable def qR (f:TypeId→AV→R) (d:R) (v:AV):R:=
 AV.rec (motive_1:=fun _=>R) (motive_2:=fun _=>Unit) (fun _=>d) (fun _ _=>d) (fun _=>d) d (fun _ _=>d) d (fun _ _ _ _ _=>d) d (fun _=>d) (fun _ _ _ _ _=>d) (fun _=>d) d (fun t v _=>f t v) d (fun _ _=>d) (fun _ _=>d) d d () (fun _ _ _ _=>()) v
noncomputable def Fs (v:AV):Bool:=
 AV.rec (motive_1:=fun _=>Bool) (motive_2:=fun _=>Unit) (fun _=>false) (fun _ _=>false) (fun _=>false) false (fun _ _=>true) false (fun _ _ _ _ _=>true) false (fun _=>true) (fun _ _ _ _ _=>true) (fun _=>false) false (fun _ _ _=>false) false (fun _ _=>false) (fun _ _=>false) false false () (fun _ _ _ _=>()) v
noncomputable def ob {α:Type} (d:R) (f:α→R) (o:Option α):R:=Option.rec (motive:=fun _=>R) d f o
noncomputable def bc (b:Bool) (x y:R):R:=Bool.rec (motive:=fun _=>R) y x b
noncomputable def yw (f:List AV→TypeId→Bool→R) (d:R) (o:aY):R:=
 aY.rec (motive:=fun _=>R) (fun cs e ro=>f cs e ro) (fun _ _=>d) (fun _ _=>d) (fun _ _ _ _=>d) (fun _ _ _ _ _ _ _=>d) d o
noncomputable def lq (f:Nat→R) (d:R) (n:Int):R:=Int.rec (motive:=fun _=>R) f (fun _=>d) n
noncomputable def YI (a b c d e f g h:R) (k:IntKind):R:=IntKind.rec (motive:=fun _=>R) a b c d e f g h k
end
noncomputable def kc (k:IntKind):Nat:=YI 0 1 2 3 4 5 6 7 k
noncomputable def Qx (k j:IntKind):Bool:=Nat.beq (kc k) (kc j)
noncomputable def ur (k:IntKind):Nat:=YI 128 32768 2147483648 9223372036854775808 256 65536 4294967296 18446744073709551616 k
noncomputable def Qy (k:IntKind):Nat:=YI 8 16 32 64 8 16 32 64 k
noncomputable def Xe (k:IntKind):Bool:=YI true true true true false false false false k
noncomputable def uN (k:IntKind) (n:Int):Int:=
 Int.rec (motive:=fun _=>Int) (fun m=>bc (Nat.ble (ur k) m) (bc (Xe k) (k.wrap (Int.ofNat m)) (Int.ofNat (Nat.mod m (ur k)))) (Int.ofNat m))
  (fun m=>bc (Xe k) (bc (Nat.ble (ur k) m) (k.wrap (Int.negSucc m)) (Int.negSucc m)) (k.wrap (Int.negSucc m))) n
noncomputable def N5 (a b:Int):Int:=lq (fun x=>lq (fun y=>Int.ofNat (Nat.add x y)) (Int.add a b) b) (Int.add a b) a
noncomputable def Ft (a b:Int):Int:=lq (fun x=>lq (fun y=>bc (Nat.ble y x) (Int.ofNat (Nat.sub x y)) (Int.negSucc (Nat.sub (Nat.sub y x) 1))) (Int.sub a b) b) (Int.sub a b) a
noncomputable def Qz (a b:Int):Int:=lq (fun x=>lq (fun y=>Int.ofNat (Nat.mul x y)) (Int.mul a b) b) (Int.mul a b) a
noncomputable def Xf (a b:Int):Bool:=
 Int.rec (motive:=fun _=>Bool) (fun x=>Int.rec (motive:=fun _=>Bool) (fun y=>Nat.beq x y) (fun _=>false) b) (fun x=>Int.rec (motive:=fun _=>Bool) (fun _=>false) (fun y=>Nat.beq x y) b) a
noncomputable def U3 (a b:Int):Bool:=
 Int.rec (motive:=fun _=>Bool) (fun x=>Int.rec (motive:=fun _=>Bool) (fun y=>Nat.ble (Nat.add x 1) y) (fun _=>false) b) (fun x=>Int.rec (motive:=fun _=>Bool) (fun _=>true) (fun y=>Nat.ble (Nat.add y 1) x) b) a
noncomputable def vy (b:Bool):Bool:=bc b false true
noncomputable def U4 (op:BinOp):IntKind→Int→Int→Option AV:=match op with
 | .add=>fun k a b=>some (.int k (uN k (N5 a b)))
 | .sub=>fun k a b=>some (.int k (uN k (Ft a b)))
 | .mul=>fun k a b=>some (.int k (uN k (Qz a b)))
 | .eql=>fun _ a b=>some (.bool (Xf a b))
 | .neq=>fun _ a b=>some (.bool (vy (Xf a b)))
 | .lss=>fun _ a b=>some (.bool (U3 a b))
 | .leq=>fun _ a b=>some (.bool (vy (U3 b a)))
 | .gtr=>fun _ a b=>some (.bool (U3 b a))
 | .geq=>fun _ a b=>some (.bool (vy (U3 a b)))
 | .quo=>fun k a b=>lq (fun x=>lq (fun y=>bc (Nat.beq y 0) none (some (.int k (uN k (Int.ofNat (Nat.div x y)))))) (dg .quo k a b) b) (dg .quo k a b) a
 | .rem=>fun k a b=>lq (fun x=>lq (fun y=>bc (Nat.beq y 0) none (some (.int k (Int.ofNat (Nat.mod x y))))) (dg .rem k a b) b) (dg .rem k a b) a
 | .and=>fun k a b=>lq (fun x=>lq (fun y=>bc (Nat.ble (ur k) x) (dg .and k a b) (bc (Nat.ble (ur k) y) (dg .and k a b) (some (.int k (Int.ofNat (Nat.land x y)))))) (dg .and k a b) b) (dg .and k a b) a
 | .or=>fun k a b=>lq (fun x=>lq (fun y=>bc (Nat.ble (ur k) x) (dg .or k a b) (bc (Nat.ble (ur k) y) (dg .or k a b) (some (.int k (Int.ofNat (Nat.lor x y)))))) (dg .or k a b) b) (dg .or k a b) a
 | op=>fun k a b=>dg op k a b
noncomputable def QA (k:IntKind) (y:Nat):Nat:=bc (Nat.ble (Qy k) y) (Qy k) y
noncomputable def abq (k:IntKind) (a b:Int):Option AV:=lq (fun y=>some (.int k (uN k (Qz a (Int.ofNat (Nat.pow 2 (QA k y))))))) none b
noncomputable def abr (k:IntKind) (a b:Int):Option AV:=lq (fun y=>some (.int k (lq (fun x=>Int.ofNat (Nat.div x (Nat.pow 2 (QA k y)))) (a.fdiv (2^(min y k.bits))) a))) none b
section
variable {α:Type}
noncomputable def jm (l:List α):Nat:=List.rec (motive:=fun _=>Nat) 0 (fun _ _ ih=>Nat.add ih 1) l
noncomputable def jn (l:List α):Nat→Option α:=List.rec (motive:=fun _=>Nat→Option α) (fun _=>none) (fun v _ ih o=>bc (Nat.beq o 0) (some v) (ih (Nat.sub o 1))) l
noncomputable def sH (l:List α):Nat→List α:=List.rec (motive:=fun _=>Nat→List α) (fun _=> []) (fun v tl ih o=>bc (Nat.beq o 0) (v::tl) (ih (Nat.sub o 1))) l
noncomputable def sI (l:List α):Nat→List α:=List.rec (motive:=fun _=>Nat→List α) (fun _=> []) (fun v _ ih o=>bc (Nat.beq o 0) [] (v::ih (Nat.sub o 1))) l
noncomputable def lM (l m:List α):List α:=List.rec (motive:=fun _=>List α) m (fun v _ ih=>v::ih) l
noncomputable def yx (f:α→Bool) (l:List α):Bool:=List.rec (motive:=fun _=>Bool) true (fun v _ ih=>bc (f v) ih false) l
noncomputable def H7 (vs:List α):List α→List α:=
 List.rec (motive:=fun _=>List α→List α) (fun cs=>cs) (fun v _ ih cs=>List.rec (motive:=fun _=>List α) [] (fun _ tl _=>v::ih tl) cs) vs
noncomputable def H8 (vs cs:List α):Nat→List α:=
 List.rec (motive:=fun _=>Nat→List α) (fun _=> []) (fun c tl ih o=>bc (Nat.beq o 0) (H7 vs (c::tl)) (c::ih (Nat.sub o 1))) cs
noncomputable def leq (f:α→α→Bool) (l:List α):List α→Bool:=
 List.rec (motive:=fun _=>List α→Bool) (fun m=>List.rec (motive:=fun _=>Bool) true (fun _ _ _=>false) m)
  (fun x _ ih m=>List.rec (motive:=fun _=>Bool) false (fun y tl _=>bc (f x y) (ih tl) false) m) l
end
noncomputable def Be (a b:UInt8):Bool:=Nat.beq a.toBitVec.toFin.val b.toBitVec.toFin.val
noncomputable def U5 (v:AV):Bool:=yv (fun _=>false) (fun _=>false) true v
noncomputable def lS (v:AV):List AV:=yv (fun cs=>cs) (fun _=> [v]) [v] v
end Go.Ab.Fa
end
section
namespace Go.Ab.Fa
section
variable {α β:Type}
noncomputable def Ae (l:List Nat) (x:Nat):Bool:=List.rec (motive:=fun _=>Bool) false (fun y _ ih=>bc (Nat.beq x y) true ih) l
noncomputable def YJ (f:α→Bool) (l:List α):Bool:=List.rec (motive:=fun _=>Bool) false (fun v _ ih=>bc (f v) true ih) l
noncomputable def allI (f:α→Nat→Bool) (l:List α) (i:Nat):Bool:=List.rec (motive:=fun _=>Nat→Bool) (fun _=>true) (fun v _ ih i=>bc (f v i) (canon (Nat.add i 1) ih) false) l i
noncomputable def H9 (f:α→Nat→Bool) (l:List α) (i:Nat):List Nat:=List.rec (motive:=fun _=>Nat→List Nat) (fun _=> []) (fun v _ ih i=>bc (f v i) (i::canon (Nat.add i 1) ih) (canon (Nat.add i 1) ih)) l i
noncomputable def Fu (f:α→Bool) (l:List α):Nat:=List.rec (motive:=fun _=>Nat) 0 (fun v _ ih=>bc (f v) (Nat.add ih 1) ih) l
noncomputable def KA (f:α→Bool) (l:List α):Nat:=List.rec (motive:=fun _=>Nat) 0 (fun v _ ih=>bc (f v) (Nat.add ih 1) 0) l
noncomputable def Bf (l:List α) (i:Nat) (d:α):α:=ob d (fun x=>x) (jn l i)
noncomputable def pK (l:List α):(List α→β)→β:=List.rec (motive:=fun _=>(List α→β)→β) (fun k=>k []) (fun x _ ih k=>ih fun tl=>k (x::tl)) l
theorem yz (l:List α) (k:List α→β):pK l k=k l:=by
 induction l generalizing k with
 | nil=>rfl
 | cons y tl ih=>show pK tl (fun tl=>k (y::tl))=_;rw[ih]
noncomputable def KC (l:List α) (k:List α→β):β:=List.rec (motive:=fun _=>β) (k []) (fun x tl _=>k (x::tl)) l
theorem N6 (l:List α) (k:List α→β):KC l k=k l:=by cases l<;>rfl
noncomputable def Fv (f:List β→α→List β) (l:List α) (b:List β):List β:=List.rec (motive:=fun _=>List β→List β) (fun b=>b) (fun v _ ih b=>KC (f b v) ih) l b
theorem DK (f:List β→α→List β) (l:List α) (b:List β):Fv f l b=l.foldl f b:=by
 induction l generalizing b with
 | nil=>rfl
 | cons y tl ih=>show KC (f b y) (Fv f tl)=_;rw[N6,ih];rfl
theorem sJ (b:Bool) (x y:α):bc b x y=bif b then x else y:=by cases b<;>rfl
theorem Af (x y:Nat):(x==y)=Nat.beq x y:=by
 cases h:Nat.beq x y
 · rw[beq_eq_false_iff_ne];intro e;subst e;rw[Nat.beq_refl] at h;exact absurd h (by simp)
 · rw[Nat.eq_of_beq_eq_true h];simp
theorem tY (l:List Nat) (x:Nat):Ae l x=l.contains x:=by
 induction l with
 | nil=>rfl
 | cons y tl ih=>
   show bc (Nat.beq x y) true (Ae tl x)=_
   rw[ih,sJ,List.contains_cons,Af]
   cases Nat.beq x y<;>rfl
theorem U6 (f:α→Bool) (l:List α):YJ f l=l.any f:=by
 induction l with
 | nil=>rfl
 | cons y tl ih=>show bc (f y) true (YJ f tl)=_;rw[ih,sJ,List.any_cons];cases f y<;>rfl
theorem qS (f:α→Bool) (l:List α):yx f l=l.all f:=by
 induction l with
 | nil=>rfl
 | cons y tl ih=>show bc (f y) (yx f tl) false=_;rw[ih,sJ,List.all_cons];cases f y<;>rfl
theorem Fx (f:α→Nat→Bool) (l:List α) (i:Nat):allI f l i=(l.zipIdx i).all fun p=>f p.1 p.2:=by
 induction l generalizing i with
 | nil=>rfl
 | cons y tl ih=>show bc (f y i) (canon (i+1) (allI f tl)) false=_;rw[lN,ih,sJ,List.zipIdx_cons,List.all_cons];cases f y i<;>rfl
theorem H_ (f:α→Nat→Bool) (l:List α) (i:Nat):H9 f l i=((l.zipIdx i).filter fun p=>f p.1 p.2).map (·.2):=by
 induction l generalizing i with
 | nil=>rfl
 | cons y tl ih=>
   show bc (f y i) (i::canon (i+1) (H9 f tl)) (canon (i+1) (H9 f tl))=_
   rw[lN,ih,sJ,List.zipIdx_cons,List.filter_cons];cases f y i<;>simp
theorem N7 (f:α→Bool) (l:List α):Fu f l=(l.filter f).length:=by
 induction l with
 | nil=>rfl
 | cons y tl ih=>show bc (f y) (Fu f tl+1) (Fu f tl)=_;rw[ih,sJ,List.filter_cons];cases f y<;>simp
theorem N8 (f:α→Bool) (l:List α):KA f l=(l.takeWhile f).length:=by
 induction l with
 | nil=>rfl
 | cons y tl ih=>show bc (f y) (KA f tl+1) 0=_;rw[ih,sJ,List.takeWhile_cons];cases f y<;>simp
theorem hZ (l:List α) (i:Nat):jn l i=l[i]? :=by
 induction l generalizing i with
 | nil=>rfl
 | cons y tl ih=>
   show bc (Nat.beq i 0) (some y) (jn tl (i - 1))=_
   rw[ih,sJ]
   cases i with
   | zero=>rfl
   | succ i=>rw[show Nat.beq (i+1) 0=false from rfl];simp
theorem wE (l:List α) (i:Nat) (d:α):Bf l i d=l.getD i d:=by
 unfold Bf;rw[hZ,List.getD_eq_getElem?_getD];cases l[i]? <;>rfl
theorem fU (l:List α):jm l=l.length:=by
 induction l with
 | nil=>rfl
 | cons y tl ih=>show jm tl+1=_;rw[ih];rfl
theorem nN (l m:List α):lM l m=l++m:=by
 induction l with
 | nil=>rfl
 | cons y tl ih=>show y::lM tl m=_;rw[ih];rfl
end
noncomputable def zo (p:Program) (t:TypeId):Option TypeInfo:=ob (p.info? t) (fun i=>some i) (jn p.types.toList t)
noncomputable def Xg (i:TypeInfo) (p:Program):Option TypeDesc:=TypeDesc.rec (motive:=fun _=>Option TypeDesc) (some i.desc) (some i.desc) (fun _=>some i.desc) (fun _=>some i.desc) (fun _=>some i.desc) (some i.desc) (some i.desc)
 (fun _=>some i.desc) (fun _=>some i.desc) (fun _ _=>some i.desc) (fun _ _=>some i.desc) (fun _ _=>some i.desc) (fun _=>some i.desc) (fun _ _ _=>some i.desc) (fun _=>some i.desc) (fun _=>some i.desc)
 (fun _ u=>ob none (fun j=>some j.desc) (zo p u)) i.desc
noncomputable def j9 (p:Program) (t:TypeId):Option TypeDesc:=ob none (fun i=>Xg i p) (zo p t)
theorem sK (p:Program) (t:TypeId):zo p t=p.info? t:=by
 unfold zo;rw[hZ,Array.getElem?_toList]
 cases h:p.types[t]? with
 | none=>rfl
 | some i=>
   show some i=p.info? t
   unfold Tables.info?
   obtain ⟨lR,_⟩:=Array.getElem?_eq_some_iff.mp h
   rw[if_pos lR,h]
theorem jb (p:Program) (t:TypeId):j9 p t=p.underlying t:=by
 unfold j9 Program.underlying
 rw[sK]
 cases p.info? t with
 | none=>rfl
 | some i=>
   show Xg i p=_
   obtain ⟨d,_⟩:=i
   cases d with
   | named a u=>show ob none (fun j=>some j.desc) (zo p u)=Option.map (fun x=>x.desc) (p.info? u);rw[sK];cases p.info? u<;>rfl
   | _=>rfl
noncomputable def YK (p:Program) (f:FuncId):Option Func:=jn p.funcs.toList f
theorem U7 (p:Program) (f:FuncId):YK p f=p.funcs[f]? :=by
 unfold YK;rw[hZ];exact Array.getElem?_toList
variable (E:Env)
noncomputable def qf (op:Op):Bool:=match op with
 | .store .. | .mapUpdate .. | .insert .. | .mapEntry .. | .entryStore .. | .next .. | .panic _ | .defer _=>true
 | .convert _ dst _=>match j9 E.P dst with
   | some (.slice _)=>true
   | _=>false
 | .call c=>match c.callee with
   | .builtin .len | .builtin .cap | .builtin .max | .builtin .min=>false
   | .builtin _=>true
   | .value (.func f)=>match E.mO f with
     | none=>true
     | some _=>false
   | _=>true
 | _=>false
theorem sL (op:Op):qf E op=fI E op:=by
 unfold qf fI
 cases op<;>try rfl
 · simp only[jb]
   rename_i dst _
   generalize E.P.underlying dst=u
   cases u with
   | none=>rfl
   | some d=>cases d<;>rfl
 · rename_i c
   rcases c with ⟨cJ,a,t⟩
   cases cJ with
   | value x=>
     cases x with
     | func f=>simp only;cases E.mO f<;>rfl
     | _=>rfl
   | builtin b=>cases b<;>rfl
   | _=>rfl
noncomputable def Xh (g:Ground):Bool:=Ground.rec (motive:=fun _=>Bool) true true true true (fun _=>false) (fun _=>false) g
noncomputable def vz (o:Oper):List Nat:=List.rec (motive:=fun _=>List Nat) [] (fun e _ ih=>bc (Xh e.ground) (e.on::ih) ih) o.after.toList
theorem DL (o:Oper):vz o=kW o:=by
 unfold vz kW
 induction o.after.toList with
 | nil=>rfl
 | cons e tl ih=>
   show bc (Xh e.ground) (e.on::_) _=_
   rw[ih,List.filter_cons]
   obtain ⟨on,g⟩:=e
   cases g<;>rfl
noncomputable def U8 (l:List Nat) (x:Nat):List Nat:=bc (Ae l x) l (x::l)
noncomputable def Mo (acc:List (List Nat)) (es:List Nat):List Nat:=Fv (fun l e=>Fv U8 (Bf acc e []) (U8 l e)) es []
noncomputable def QB (l:List Oper):List (List Nat)→List (List Nat):=List.rec (motive:=fun _=>List (List Nat)→List (List Nat)) (fun acc=>acc) (fun o _ ih acc=>pK (Mo acc (vz o)) fun a=>pK (lM acc [a]) ih) l
theorem Mp (l:List Nat) (x:Nat):U8 l x=if l.contains x then l else x::l:=by
 unfold U8;rw[tY,sJ];cases l.contains x<;>rfl
theorem QC (acc:List (List Nat)) (o:Oper):Mo acc (vz o)=(kW o).foldl (fun l e=>(acc.getD e []).foldl (fun l x=>if l.contains x then l else x::l) (if l.contains e then l else e::l)) []:=by
 unfold Mo
 rw[DK,DL]
 congr 1
 funext l e
 rw[DK,wE,Mp]
 congr 1
 funext l x
 exact Mp l x
theorem H':∀(l:List Oper) (acc:List (List Nat)),QB l acc=Ho l acc
 | [],_=>rfl
 | o::rest,acc=>by
   show pK (Mo acc (vz o)) (fun a=>pK (lM acc [a]) (QB rest))=_
   rw[yz,yz,H' rest,nN,QC];rfl
noncomputable def oD (an:List (List Nat)) (i j:Nat):Bool:=Ae (Bf an i []) j
theorem qg (an:List (List Nat)) (i j:Nat):oD an i j=dM an i j:=by
 unfold oD dM Hp;rw[tY,wE]
noncomputable def Bg (ops:List Oper) (an:List (List Nat)):Bool:=
 allI (fun o i=>bc (yx (fun e=>bc (Nat.ble (Nat.add e 1) i) (oD an i e) false) (vz o)) (yx (fun j=>bc (Nat.ble (Nat.add j 1) i) (YJ (fun e=>bc (Nat.beq e j) true (oD an e j)) (vz o)) false) (Bf an i [])) false) ops 0
theorem tZ (a b:Nat):decide (a<b)=Nat.ble (a+1) b:=by
 by_cases h:a<b
 · rw[decide_eq_true h,Nat.ble_eq_true_of_le h]
 · rw[decide_eq_false h];symm;rw[Bool.eq_false_iff];intro e;exact h (Nat.le_of_ble_eq_true e)
theorem oE (a b:Bool):bc a b false=(a&&b):=by cases a<;>rfl
theorem Xi (a b:Bool):bc a true b=(a||b):=by cases a<;>rfl
theorem Ia (ops:List Oper) (an:List (List Nat)):Bg ops an=Aw ops an:=by
 unfold Bg Aw
 rw[Fx]
 congr 1
 funext ⟨o,i⟩
 simp only[oE,Xi,qS,U6,wE,DL,qg,tZ,Af]
 rfl
noncomputable def YL (l:List Operand):List Nat:=List.rec (motive:=fun _=>List Nat) [] (fun x _ ih=>Operand.rec (motive:=fun _=>List Nat) (fun t=>t::ih) (fun _=>ih) (fun _=>ih) (fun _=>ih) x) l
theorem U9 (l:List Operand):YL l=l.filterMap fun | .tmp t=>some t | _=>none:=by
 induction l with
 | nil=>rfl
 | cons x tl ih=>
   cases x<;>simp only[List.filterMap_cons,←ih]<;>rfl
noncomputable def opL (op:Op):List Operand:=match op with
 | .move x | .assign x | .box _ x | .load _ x | .nilCheck x | .unOp _ _ x | .convert _ _ x | .fieldAddr _ x _ | .field _ x _ | .extract x _=> [x]
 | .pick c a b=> [c,a,b]
 | .store _ a v | .binOp _ _ a v _ | .indexAddr _ a v | .index _ a v=> [a,v]
 | .alloc _=> []
 | .call c=>lM (match c.callee with | .value f=> [f] | .invoke r _=> [r] | .builtin _=> []) c.args.toList
 | op=>op.operands.toList
theorem YM (op:Op):opL op=op.operands.toList:=by
 cases op<;>try rfl
 rename_i c
 obtain ⟨cJ,a,t⟩:=c
 cases cJ<;>simp [opL,Op.operands,Call.operands,nN]
noncomputable def Bh (ops:List Oper) (an:List (List Nat)):Bool:=
 allI (fun o i=>bc (ob true (fun g=>bc (oD an i g.1) (ob false (fun p=>ob false (fun _=>true) p.dst) (jn ops g.1)) false) o.guard)
  (allI (fun p j=>bc (Nat.beq i j) true (ob true (fun d=>bc (ob true (fun a=>vy (Nat.beq a d)) o.dst) (bc (Ae (YL (opL o.op)) d) (bc (oD an i j) true (oD an j i)) true) false) p.dst)) ops 0) false) ops 0
theorem Ib (ops:List Oper) (an:List (List Nat)):Bh ops an=Ax ops an:=by
 unfold Bh Ax
 rw[Fx]
 congr 1
 funext ⟨o,i⟩
 simp only[oE,Xi,qg]
 congr 1
 · obtain ⟨dst,op,ty,pos,after,guard⟩:=o
   cases guard with
   | none=>rfl
   | some g=>
     show (dM an i g.1&&ob false (fun p=>ob false (fun _=>true) p.dst) (jn ops g.1))=_
     rw[hZ]
     congr 1
     cases ops[g.1]? with
     | none=>rfl
     | some p=>
       show ob false (fun _=>true) p.dst=(p.dst).isSome
       cases p.dst<;>rfl
 · rw[Fx]
   congr 1
   funext ⟨p,j⟩
   show (Nat.beq i j||_)=(i==j||_)
   rw[Af]
   congr 1
   obtain ⟨dst,op,ty,pos,after,guard⟩:=p
   cases dst with
   | none=>rfl
   | some d=>
     show (ob true (fun a=>vy (Nat.beq a d)) o.dst&&bc (Ae (YL (opL o.op)) d) (dM an i j||dM an j i) true)=(o.dst !=some d&&(!(tmpsOf o).contains d||dM an i j||dM an j i))
     congr 1
     · cases o.dst with
       | none=>rfl
       | some a=>
         show vy (Nat.beq a d)= !(some a==some d)
         rw[Option.some_beq_some,Af]
         cases Nat.beq a d<;>rfl
     · rw[tY,U9,YM,Bool.or_assoc]
       show bc ((tmpsOf o).contains d) _ _=_
       cases (tmpsOf o).contains d<;>rfl
noncomputable def KD (an:List (List Nat)) (l:List Nat):Bool:=List.rec (motive:=fun _=>Bool) true (fun e rest ih=>List.rec (motive:=fun _=>Bool) true (fun f _ _=>bc (oD an f e) ih false) rest) l
theorem DM (an:List (List Nat)):∀l,KD an l=tN an l
 | []=>rfl
 | [e]=>rfl
 | e::f::rest=>by
   show bc (oD an f e) (KD an (f::rest)) false=_
   rw[DM an (f::rest),qg,oE];rfl
noncomputable def QD (ops:List Oper):List Nat:=H9 (fun o _=>qf E o.op) ops 0
theorem QE (ops:List Oper):QD E ops=nv E ops:=by
 unfold QD nv;rw[H_];simp only[sL]
noncomputable def DN (bP:List Nat) (an:List (List Nat)) (i:Nat):Nat:=Fu (fun e=>oD an i e) bP
theorem Ic (bP:List Nat) (an:List (List Nat)) (i:Nat):DN bP an i=EL bP an i:=by
 unfold DN EL;rw[N7];simp only[qg]
noncomputable def Fy (ops:List Oper) (bP:List Nat) (an:List (List Nat)) (k:Nat):List Nat:=
 lM (H9 (fun o i=>bc (qf E o.op) false (Nat.beq (DN bP an i) k)) ops 0) (ob [] (fun x=> [x]) (jn bP k))
theorem N9 (ops:List Oper) (bP:List Nat) (an:List (List Nat)) (k:Nat):Fy E ops bP an k=group E ops bP an k:=by
 unfold Fy group
 rw[nN,H_,hZ]
 congr 1
 · congr 1
   congr 1
   funext ⟨o,i⟩
   show bc (qf E o.op) false (Nat.beq (DN bP an i) k)=(!fI E o.op&&(EL bP an i==k))
   rw[sL,Ic,Af];cases fI E o.op<;>rfl
 · cases bP[k]? <;>rfl
noncomputable def Fz (ops:List Oper) (bP:List Nat) (an:List (List Nat)) (n:Nat):Nat→List Nat:=
 Nat.rec (motive:=fun _=>Nat→List Nat) (fun _=> []) (fun _ ih k=>lM (Fy E ops bP an k) (canon (Nat.add k 1) ih)) n
theorem Bi (ops:List Oper) (bP:List Nat) (an:List (List Nat)):∀n k,Fz E ops bP an n k=oi E ops bP an n k
 | 0,_=>rfl
 | n+1,k=>by
   show lM (Fy E ops bP an k) (canon (k+1) (Fz E ops bP an n))=_
   rw[lN,Bi ops bP an n,nN,N9];rfl
noncomputable def AB (bP:List Nat) (an:List (List Nat)) (i:Nat):Nat:=KA (fun e=>vy (oD an e i)) bP
theorem KE (bP:List Nat) (an:List (List Nat)) (i:Nat):AB bP an i=ku bP an i:=by
 unfold AB ku;rw[N8];congr 2;funext e;rw[qg];cases dM an e i<;>rfl
noncomputable def KH (n:Nat):List Nat→List Nat:=Nat.rec (motive:=fun _=>List Nat→List Nat) (fun l=>l) (fun m ih l=>ih (m::l)) n
theorem DP:∀n l,KH n l=List.range.loop n l
 | 0,_=>rfl
 | n+1,l=>DP n (n::l)
noncomputable def FA (ops:List Oper) (an:List (List Nat)) (bP:List Nat) (l:List Nat):List Nat→Nat→Bool:=
 List.rec (motive:=fun _=>List Nat→Nat→Bool) (fun seen k=>bc (yx (fun i=>Ae seen i) (KH (jm ops) [])) (Nat.beq k (jm bP)) false)
  (fun i _ ih seen k=>bc (Nat.ble (Nat.add i 1) (jm ops)) (bc (Ae seen i) false (bc (yx (fun j=>Ae seen j) (Bf an i []))
   (bc (ob (qf E (default:Oper).op) (fun o=>qf E o.op) (jn ops i)) (bc (ob false (fun e=>Nat.beq e i) (jn bP k)) (canon (Nat.add k 1) (ih (i::seen))) false)
    (bc (Nat.beq (DN bP an i) k) (ih (i::seen) k) false)) false)) false) l
theorem yA (ops:Array Oper) (an:List (List Nat)) (bP:List Nat):∀l seen k,FA E ops.toList an bP l seen k=kX E ops an bP l seen k
 | [],seen,k=>by
   show bc (yx (fun i=>Ae seen i) (KH (jm ops.toList) [])) (Nat.beq k (jm bP)) false=_
   rw[oE,qS,DP,fU,fU]
   simp only[tY]
   unfold kX
   rw[Af,Array.length_toList]
   rfl
 | i::rest,seen,k=>by
   show bc (Nat.ble (i+1) (jm ops.toList)) (bc (Ae seen i) false (bc (yx (fun j=>Ae seen j) (Bf an i []))
    (bc (ob (qf E (default:Oper).op) (fun o=>qf E o.op) (jn ops.toList i)) (bc (ob false (fun e=>Nat.beq e i) (jn bP k)) (canon (k+1) (FA E ops.toList an bP rest (i::seen))) false)
     (bc (Nat.beq (DN bP an i) k) (FA E ops.toList an bP rest (i::seen) k) false)) false)) false=_
   rw[lN,yA ops an bP rest,yA ops an bP rest,qS,wE,tY,Ic,fU]
   simp only[tY]
   rw[show ob (qf E (default:Oper).op) (fun o=>qf E o.op) (jn ops.toList i)=fI E ((ops.getD i default).op) by
    rw[hZ,sL]
    rw[show ops.getD i default=(ops.toList[i]?).getD default by rw[Array.getElem?_toList,Array.getD_eq_getD_getElem?]]
    cases ops.toList[i]? with
    | none=>rfl
    | some o=>exact sL E o.op]
   rw[show ob false (fun e=>Nat.beq e i) (jn bP k)=(bP[k]? ==some i) by rw[hZ];cases bP[k]? with
    | none=>rfl
    | some e=>rw[Option.some_beq_some,Af];rfl]
   rw[kX,tZ]
   simp only[oE]
   rw[←Af (EL bP an i) k,show ops.toList.length=ops.size from Array.length_toList]
   rw[sJ,sJ]
   show (Nat.ble (i+1) ops.size&&(bif List.contains seen i then false else _))=_
   unfold Hp
   cases Nat.ble (i+1) ops.size<;>cases List.contains seen i<;>cases (an.getD i []).all (fun j=>List.contains seen j)<;>cases fI E ((ops.getD i default).op)<;>rfl
noncomputable def nin (x:Nat) (l:List Nat):Bool:=List.rec (motive:=fun _=>Bool) true (fun y _ ih=>bc (Nat.beq x y) false ih) l
noncomputable def FB (l:List Nat):Bool:=List.rec (motive:=fun _=>Bool) true (fun x tl ih=>bc (nin x tl) ih false) l
theorem YN (x:Nat) (l:List Nat):nin x l= !l.contains x:=by
 induction l with
 | nil=>rfl
 | cons y tl ih=>
   show bc (Nat.beq x y) false (nin x tl)=_
   rw[ih,List.contains_cons,Af]
   cases Nat.beq x y<;>rfl
theorem yB:∀l,FB l=nodup l
 | []=>rfl
 | x::tl=>by
   show bc (nin x tl) (FB tl) false=_
   rw[yB tl,YN,oE];rfl
noncomputable def QF {R:Type} (ops:Array Oper) (k:mD→R) (d:R):R:=
 pK ops.toList fun l=>pK (QB l []) fun an=>pK (QD E l) fun bP=>pK (Fz E l bP an (Nat.add (jm bP) 1) 0) fun order=>
 bc (Bg l an) (bc (Bh l an) (bc (KD an bP) (bc (FB bP) (bc (FA E l an bP order [] 0) (k ⟨an,bP,order⟩) d) d) d) d) d
theorem QG {R:Type} (ops:Array Oper) (k:mD→R) (d:R):QF E ops k d=match sj E ops with | some pl=>k pl | none=>d:=by
 unfold QF sj
 simp only[yz,H',QE,Bi,Ia,Ib,DM,yB,yA,fU]
 generalize Aw ops.toList (Ho ops.toList [])=a
 generalize Ax ops.toList (Ho ops.toList [])=b
 generalize tN (Ho ops.toList []) (nv E ops.toList)=c
 generalize nodup (nv E ops.toList)=e
 show bc a (bc b (bc c (bc e (bc (kX E ops _ _ (oi E ops.toList _ _ ((nv E ops.toList).length+1) 0) [] 0) _ d) d) d) d) d=_
 generalize kX E ops (Ho ops.toList []) (nv E ops.toList) (oi E ops.toList (nv E ops.toList) (Ho ops.toList []) ((nv E ops.toList).length+1) 0) [] 0=f
 cases a<;>cases b<;>cases c<;>cases e<;>cases f<;>rfl
end Go.Ab.Fa
end
