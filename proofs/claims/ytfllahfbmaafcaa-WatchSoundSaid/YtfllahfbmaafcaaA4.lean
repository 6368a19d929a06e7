import Derived.Test.YtfllahfbmaafcaaA3
import Derived.Test.YtfllahfbmaafcaaA0
set_option linter.unusedVariables false
set_option linter.unusedSimpArgs false
section
namespace Go.Ab
variable {E:Env}
def IG (P:Program) (m:Machine) (b:Frame) (k:List Item) (cs:List Frame):Exit→Act→World→Prop
 | .normal,a,w=>Steps P m (lone (b.atR a k) cs w)
 | .exit id,a,w=>∃todo,exitTo id todo=exitTo id k∧Steps P m (lone (b.atR a (.code (.exit id)::todo)) cs w)
 | .ret,a,w=>∃todo,Steps P m (lone (b.atR a (.code .ret::todo)) cs w)
 | .panic chain,a,w=>∃todo,Steps P m (lone {b.atR a todo with mode:= .panicking chain} cs w)
 | _,_,_=>False
theorem IG.of_steps {P:Program} {m m':Machine} {b:Frame} {k:List Item} {cs:List Frame} {e:Exit} {a:Act} {w:World} (hs:Steps P m m') (h:IG P m' b k cs e a w):IG P m b k cs e a w:=by
 cases e with
 | normal=>exact Steps.trans hs h
 | exit id=>obtain ⟨t,h1,h2⟩:=h;exact ⟨t,h1,Steps.trans hs h2⟩
 | ret=>obtain ⟨t,h2⟩:=h;exact ⟨t,Steps.trans hs h2⟩
 | panic c=>obtain ⟨t,h2⟩:=h;exact ⟨t,Steps.trans hs h2⟩
 | goto l=>exact h.elim
 | outgrown=>exact h.elim
theorem IG.pass {P:Program} {m:Machine} {b:Frame} {x:Item} {k:List Item} {cs:List Frame} {e:Exit} {a:Act} {w:World} (hx:∀id,exitTo id (x::k)=exitTo id k) (hn:e≠ .normal) (h:IG P m b (x::k) cs e a w):IG P m b k cs e a w:=by
 cases e with
 | normal=>exact absurd rfl hn
 | exit id=>obtain ⟨t,h1,h2⟩:=h;exact ⟨t,h1.trans (hx id),h2⟩
 | ret=>exact h
 | panic c=>exact h
 | goto l=>exact h.elim
 | outgrown=>exact h.elim
structure pY (E:Env) (φ:Ph) (h:au) (w:World) (b:Frame) (K:Bool→List Frame) (k:List Item) (m:Machine) (e:hZ) (s':St):Prop where
 is:∃φ' w' a' e',ExR φ' e e'∧SR φ' s'.ts s'.ds a'∧OK E φ' s'.h w'∧Fr φ h w φ' s'.h w'∧nh φ' b K s'.rc∧IG E.P m b k (cur K s'.rc) e' a' w'
theorem pY.of_steps {φ:Ph} {h:au} {w:World} {b:Frame} {K:Bool→List Frame} {k:List Item} {m m':Machine} {e:hZ} {s':St} (hs:Steps E.P m m') (x:pY E φ h w b K k m' e s'):pY E φ h w b K k m e s':=by
 obtain ⟨φ',w',a',e',h1,h2,h3,h4,h5,h6⟩:=x.is
 exact ⟨φ',w',a',e',h1,h2,h3,h4,h5,.of_steps hs h6⟩
theorem pY.later {φ φ₁:Ph} {h h₁:au} {w w₁:World} {b:Frame} {K:Bool→List Frame} {k:List Item} {m:Machine} {e:hZ} {s':St} (f:Fr φ h w φ₁ h₁ w₁) (x:pY E φ₁ h₁ w₁ b K k m e s'):pY E φ h w b K k m e s':=by
 obtain ⟨φ',w',a',e',h1,h2,h3,h4,h5,h6⟩:=x.is
 exact ⟨φ',w',a',e',h1,h2,h3,f.trans h4,h5,h6⟩
theorem OK.made {φ:Ph} {h h':au} {w:World} (ok:OK E φ h w) {o:a_} {O:Obj} (hn:h.new o=some h') (ho:OR E (φ.add h.nx ⟨w.heap.size,0,0⟩) o ⟨w.heap.size,0,0⟩ (some O)):
 OK E (φ.add h.nx ⟨w.heap.size,0,0⟩) h' (w.alloc O)∧Fr φ h w (φ.add h.nx ⟨w.heap.size,0,0⟩) h' (w.alloc O)∧φ.le (φ.add h.nx ⟨w.heap.size,0,0⟩):=
 ok.fresh (w':=w.alloc O) hn ⟨w.heap.size,0,0⟩ (by rw[show (w.alloc O).heap=w.heap.push O from rfl];simpa using ho)
  (fun c dR hc=>by rw[show (w.alloc O).heap=w.heap.push O from rfl,Array.getElem?_push,if_neg (by simpa using dR)]) (by simp) (Nat.le_refl _) rfl rfl rfl
theorem OK.aaB {φ:Ph} {h:au} {w:World} (ok:OK E φ h w) {i:Nat} {o o':a_} {l:Loc} (hg:h.get i=some o) (HV:o.rw=true) (hl:φ i=some l) {O:Obj} (ho:OR E φ o' l (some O)):
 OK E φ (h.put i (some o')) (w.putObj l.dY O)∧Fr φ h w φ (h.put i (some o')) (w.putObj l.dY O):=by
 have ke:l.dY<w.heap.size:=by
  rcases Nat.lt_or_ge l.dY w.heap.size with h1 | h1
  · exact h1
  · have:=ok.live i o l hg hl
    rw[Array.getElem?_eq_none h1] at this
    exact this.absurd.elim
 exact ok.change hg HV hl (by rw[World.putObj_heap_same ke];exact ho) (fun c hc=>World.putObj_heap_other hc) World.putObj_size rfl rfl rfl
theorem OK.shut {φ:Ph} {h:au} {w:World} (ok:OK E φ h w) {i:Nat} {o:a_} {l:Loc} (hg:h.get i=some o) (HV:o.rw=true) (hl:φ i=some l) (O:Obj):
 OK E φ (h.put i none) (w.putObj l.dY O)∧Fr φ h w φ (h.put i none) (w.putObj l.dY O):=by
 have fZ:∀j p,(h.put i none).get j=some p→h.get j=some p∧j≠i:=fun j p hj=>by
  by_cases e:i=j
  · subst e;rw[au.bS] at hj;simp at hj
  · rw[au.bA e] at hj;exact ⟨hj,Ne.symm e⟩
 refine ⟨⟨ok.AO,ok.nx,ok.vl,fun j p m hj hm=>?_,fun j k p q m n hj hk=>ok.inj j k p q m n (fZ j p hj).1 (fZ k q hk).1⟩,
  ⟨Ph.le_refl φ,fun _ _=>rfl,Nat.le_refl _,rfl,rfl,rfl,by simp,fun b _ hn=>World.putObj_heap_other (fun e=>hn i o l hg HV hl e.symm),fun j p m hj hr hm=> .inr ⟨j,p,m,(fZ j p hj).1,hr,hm,rfl⟩⟩⟩
 obtain ⟨nR,dR⟩:=fZ j p hj
 rw[World.putObj_heap_other (fun e=>dR (ok.inj j i p o m l nR hg hm hl (.inr HV) e))]
 exact ok.live j p m nR hm
theorem IH {s:St} {dn:Nat} {h1:au} {ds1:List od} (ho:M5 s=some (dn,h1,ds1)) {φ:Ph} {a:Act} {w:World} {b:Frame} {K:Bool→List Frame} (hs:SR φ s.ts s.ds a) (ok:OK E φ s.h w) (gE:nh φ b K s.rc)
 (ps:Array Tmp) (as_ bd:Code):∃φ1 w1 ld mark,φ.le φ1∧OK E φ1 h1 w1∧Fr φ s.h w φ1 h1 w1∧φ1 dn=some ld∧SR φ1 s.ts ds1 {a with defers:=mark++a.defers}∧
  (Instr.enterLoop b.fn a.tmps ps as_ bd b.roundOf).run E.P w= .ok (w1.heap.size,mark) (w1.alloc (.loop {state:= .ready,pending:=none,fn:=b.fn,tmps:=a.tmps,params:=ps,assign:=as_,body:=bd,defers:=ld.dY})):=by
 unfold M5 at ho
 split at ho
 · rename_i l hl
   split at ho
   · rename_i st pd ts qy ux Wj Wl hg
     simp at ho;obtain ⟨rfl,rfl,rfl⟩:=ho
     rw[hl] at gE
     obtain ⟨ll,hφ,Ro⟩:=gE
     obtain ⟨_,r,hr,yJ⟩:=ok.live _ _ _ hg hφ
     obtain ⟨ld,hd1,WI⟩:=yJ.defers
     refine ⟨φ,w,ld,[],Ph.le_refl φ,ok,Fr.refl _ _ _,hd1,⟨hs.ts,hs.ds⟩,?_⟩
     rw[Ro,run_enterLoop_inner hr,WI]
   · simp at ho
 · rename_i Dy
   split at ho
   · rename_i h1' hn
     simp at ho;obtain ⟨rfl,rfl,rfl⟩:=ho
     obtain ⟨IE,fr1,hle⟩:=ok.made (O:= .deferred (some [])) hn ⟨rfl,rfl⟩
     have gT:(φ.add s.h.nx ⟨w.heap.size,0,0⟩) s.h.nx=some ⟨w.heap.size,0,0⟩:=by simp [Ph.add]
     refine ⟨_,_,⟨w.heap.size,0,0⟩,[{target:= .collected w.heap.size,args:= #[]}],hle,IE,fr1,gT,⟨hs.ts.mono hle,⟨_,gT,rfl⟩,hs.ds.mono hle⟩,?_⟩
     rw[gE.plain (BH Dy),run_enterLoop_outer]
     simp
   · simp at ho
theorem RA {c:Code} {e:hZ} (h:Ia (some c)=some e):(∃id,c= .exit id∧e= .exit id)∨(c= .ret∧e= .ret):=by
 cases c<;>simp [Ia] at h
 · exact .inl ⟨_,rfl,h.symm⟩
 · exact .inr ⟨rfl,h.symm⟩
theorem Gh {call:bw} (dg:ic E call) {f:Operand} {ps:Array Tmp} {as_ bd:Code} {s s':St} {e:hZ} (h:lh E call f ps as_ bd s= .ok e s')
 {φ:Ph} {a:Act} {w:World} {b:Frame} {k:List Item} {K:Bool→List Frame} (hs:SR φ s.ts s.ds a) (ok:OK E φ s.h w) (gE:nh φ b K s.rc) (Dz:(E.P.funcs[b.fn]?).isSome=true):
 pY E φ s.h w b K k (lone (b.atR a (.code (.rangeFunc f ps as_ bd)::k)) (cur K s.rc) w) e s':=by
 unfold lh at h
 split at h
 · rename_i g first captured hf
   split at h
   · rename_i dn h1 ds1 ho
     split at h
     · rename_i h2 hn
       have hfv:=nf ok.gl hs.ts hf
       generalize kK:a.eval f=cv at hfv
       obtain ⟨WA,iw,rfl,hfs,hcs⟩:=hfv.wj
       obtain ⟨φ1,w1,ld,mark,adz,IE,fr1,hld,r_,vp⟩:=IH ho hs ok gE ps as_ bd
       obtain ⟨BP,fr2,WJ⟩:=IE.made (O:= .loop {state:= .ready,pending:=none,fn:=b.fn,tmps:=a.tmps,params:=ps,assign:=as_,body:=bd,defers:=ld.dY}) hn
        ⟨rfl,_,rfl,⟨rfl,rfl,hs.ts.mono (Ph.le_trans adz (fun j m hm=>by
         unfold Ph.add;split
         · rename_i e;subst e;exact absurd (IE.AO _ _ hm) (Nat.lt_irrefl _)
         · exact hm)),rfl,rfl,rfl,⟨ld,by
         unfold Ph.add;split
         · rename_i e;subst e;exact absurd (IE.AO _ _ hld) (Nat.lt_irrefl _)
         · exact hld,rfl⟩,Dz⟩⟩
       have hle:=Ph.le_trans adz WJ
       have gT:(φ1.add h1.nx ⟨w1.heap.size,0,0⟩) h1.nx=some ⟨w1.heap.size,0,0⟩:=by simp [Ph.add]
       generalize hφ2:φ1.add h1.nx ⟨w1.heap.size,0,0⟩=φ2 at BP fr2 WJ hle gT
       have hl:LR φ2 (first++[.cM h1.nx]++captured) (WA.toList++[.func (.yield w1.heap.size) #[] #[]]++iw.toList):=
        ((hfs.mono hle).append (.cons (.yield gT) (.nil φ2))).append (hcs.mono hle)
       have DJ:∀w',(resolve a.eval (rangeCall f w1.heap.size) 0).run E.P w'= .ok {target:= .fn (.func g) iw,args:=WA++ #[.func (.yield w1.heap.size) #[] #[]]} w':=fun w'=>by
        have RB:a.eval (.const (.func (.yield w1.heap.size) #[] #[]))= .func (.yield w1.heap.size) #[] #[]:=rfl
        simp [resolve,Deferred.ofValue,kK,RB]
       have start:∀n st,ot E φ2 (w1.alloc (.loop {state:= .ready,pending:=none,fn:=b.fn,tmps:=a.tmps,params:=ps,assign:=as_,body:=bd,defers:=ld.dY})) (.fn g) (WA.toList++[.func (.yield w1.heap.size) #[] #[]]++iw.toList) n st→
        step E.P (lone (b.atR a (.code (.rangeFunc f ps as_ bd)::k)) (cur K s.rc) w)= .next (lone st (b.atR {a with defers:=mark++a.defers} (.inRangeFunc w1.heap.size::k)::cur K s.rc)
         (w1.alloc (.loop {state:= .ready,pending:=none,fn:=b.fn,tmps:=a.tmps,params:=ps,assign:=as_,body:=bd,defers:=ld.dY}))):=fun n st hp=>by
        cases hp with
        | fn _ _ hr=>
          have hinv:(invoke (Target.fn (.func g) iw) (WA++ #[.func (.yield w1.heap.size) #[] #[]])).run E.P (w1.alloc (.loop {state:= .ready,pending:=none,fn:=b.fn,tmps:=a.tmps,params:=ps,assign:=as_,body:=bd,defers:=ld.dY}))=
           .ok (.enter g (WA.toList++[Value.func (.yield w1.heap.size) #[] #[]]++iw.toList).toArray) (w1.alloc (.loop {state:= .ready,pending:=none,fn:=b.fn,tmps:=a.tmps,params:=ps,assign:=as_,body:=bd,defers:=ld.dY})):=by
           have e:(WA.toList++[Value.func (.yield w1.heap.size) #[] #[]]++iw.toList).toArray=WA++ #[Value.func (.yield w1.heap.size) #[] #[]]++iw:=by
            apply Array.toList_inj.1;simp
           rw[e] at hr ⊢
           simpa [invoke] using hr
          exact stepR_rangeFunc vp (DJ _) hinv
       split at h
       ·
        rename_i v h3 hc
        obtain ⟨n,st,hp,fU⟩:=dg.ret _ _ _ _ _ hc φ2 _ _ BP trivial hl
        obtain ⟨φ3,w3,v',_,ok3,V8,iP⟩:=fU (b.atR {a with defers:=mark++a.defers} (.inRangeFunc w1.heap.size::k)) (cur K s.rc)
        rw[finish_atR_inRangeFunc] at iP
        split at h
        · simp at h
        · rename_i st' hQ jH qy ux Wj Wl Dy hg
          split at h
          · rename_i e1 hj
            simp at h;obtain ⟨rfl,rfl⟩:=h
            have QM:=V8.ext _ _ gT
            obtain ⟨_,r,hr,yJ⟩:=ok3.live _ _ _ hg QM
            have adA:r.state≠ .busy:=by rw[yJ.state];intro e;subst e;exact Dy rfl
            obtain ⟨ok4,fr4⟩:=ok3.aaB (o':= .loop .exhausted hQ jH qy ux Wj Wl) hg rfl QM (O:= .loop {r with state:= .exhausted}) ⟨rfl,_,rfl,⟨rfl,yJ.pending,yJ.tmps,yJ.params,yJ.assign,yJ.body,yJ.defers,yJ.fn⟩⟩
            obtain ⟨W4,hW4⟩:∃W4,W4=w3.putObj w1.heap.size (.loop {r with state:= .exhausted}):=⟨_,rfl⟩
            have ok4:OK E φ3 (h3.put h1.nx (some (.loop .exhausted hQ jH qy ux Wj Wl))) W4:=by rw[hW4];exact ok4
            have fr4:Fr φ3 h3 w3 φ3 (h3.put h1.nx (some (.loop .exhausted hQ jH qy ux Wj Wl))) W4:=by rw[hW4];exact fr4
            have adB:=stepR_endRangeFunc (P:=E.P) (b:=b) (a:={a with defers:=mark++a.defers}) (k:=k) (cs:=cur K s.rc) (run_endLoop hr adA)
            rw[←hW4] at adB
            have nV:=((fr1.trans fr2).trans V8).trans fr4
            have je:=Steps.trans (.head (start n st hp) iP) (.one adB)
            rw[yJ.pending] at je
            have aaC:=Ph.le_trans WJ V8.ext
            have RD:=Ph.le_trans hle V8.ext
            cases hQ with
            | none=>
              simp [Ia] at hj;subst hj
              exact ⟨φ3,_,_,_,.normal,r_.mono aaC,ok4,nV,gE.mono RD,je⟩
            | some c=>
              rcases RA hj with ⟨id,rfl,rfl⟩ | ⟨rfl,rfl⟩
              · exact ⟨φ3,_,_,_,.exit id,r_.mono aaC,ok4,nV,gE.mono RD,k,rfl,je⟩
              · exact ⟨φ3,_,_,_,.ret,r_.mono aaC,ok4,nV,gE.mono RD,k,je⟩
          · simp at h
        · simp at h
       ·
        rename_i v h3 hc
        simp at h;obtain ⟨rfl,rfl⟩:=h
        obtain ⟨n,st,hp,fU⟩:=dg.panic _ _ _ _ _ hc φ2 _ _ BP trivial hl
        obtain ⟨φ3,w3,v',hv,ok3,V8,iP⟩:=fU (b.atR {a with defers:=mark++a.defers} (.inRangeFunc w1.heap.size::k)) (cur K s.rc)
        rw[Frame.raise_atR] at iP
        exact ⟨φ3,w3,_,_,.panic v v' hv,r_.mono (Ph.le_trans WJ V8.ext),ok3,(fr1.trans fr2).trans V8,gE.mono (Ph.le_trans hle V8.ext),_,.head (start n st hp) iP⟩
       · simp at h
     · simp at h
   · simp at h
 · simp at h
end Go.Ab
end
section
namespace Go.Ab
variable {E:Env}
theorem vx (hE:kh E) {call:bw} (dg:ic E call) {ops:Array Oper}:∀{l:List Oper} {is:List Nat} (_:is.length=l.length) (_:∀(j i:Nat),is[j]? =some i→l[j]? =ops[i]?) {s s':St} {e:hZ} (_:jZ E call ops l s= .ok e s')
 {φ:Ph} {a:Act} {w:World} {b:Frame} {k:List Item} {K:Bool→List Frame} (_:SR φ s.ts s.ds a) (_:OK E φ s.h w) (_:nh φ b K s.rc),
 pY E φ s.h w b K k (lone (b.atR a (.inRegion ops is::k)) (cur K s.rc) w) e s'
 | [],is,hl,hi,s,s',e,h,φ,a,w,b,k,K,hs,ok,gE=>by
   cases is with
   | cons _ _=>simp at hl
   | nil=>
     simp [jZ] at h;obtain ⟨rfl,rfl⟩:=h
     exact ⟨φ,w,a,_,.normal,hs,ok,Fr.refl _ _ _,gE,.one stepR_region_end⟩
 | o::l,is,hl,hi,s,s',e,h,φ,a,w,b,k,K,hs,ok,gE=>by
   cases is with
   | nil=>simp at hl
   | cons i is=>
     have ho:ops[i]? =some o:=by have:=hi 0 i (by simp);simpa using this.symm
     have V6:is.length=l.length:=by simpa using hl
     have FT:∀(j i':Nat),is[j]? =some i'→l[j]? =ops[i']? :=fun j i' hj=>by have:=hi (j+1) i' (by simpa using hj);simpa using this
     simp only[jZ] at h
     have V7:=vr (ops:=ops) hs.ts o
     split at h
     · rename_i hw
       rw[←V7] at hw
       split at h
       · rename_i s1 pQ
         obtain ⟨φ1,w1,a1,e1,x1,x2,x3,x4,x5,x6⟩:=(Ei hE dg ho pQ hs ok gE hw (rest:=is) (k:=k)).is
         cases x1
         exact ((vx hE dg V6 FT h x2 x3 x5).of_steps x6).later x4
       · rename_i dR
         obtain ⟨φ1,w1,a1,e1,x1,x2,x3,x4,x5,x6⟩:=(Ei hE dg ho h hs ok gE hw (rest:=is) (k:=k)).is
         cases x1 with
         | normal=>exact (dR _ h).elim
         | exit=>exact x6.elim
         | ret=>exact x6.elim
         | panic v v' hv=>exact ⟨φ1,w1,a1,_,.panic v v' hv,x2,x3,x4,x5,x6⟩
     · rename_i hw
       have qI:SR φ (dH s.ts o.dst AV.undef) s.ds (a.put o.dst undef):=hs.put o.dst (VR.undef φ)
       refine (vx hE dg V6 FT h qI ok gE).of_steps (.one ?_)
       have:=stepR_op_skip (P:=E.P) (b:=b) (a:=a) (k:=k) (cs:=cur K s.rc) (w:=w) (ops:=ops) (i:=i) (rest:=is) (by rw[ho];simp;rw[V7];simpa using hw)
       rw[this,ho];rfl
set_option maxHeartbeats 1000000 in
theorem vy (hE:kh E) {call:bw} (dg:ic E call):∀(n:Nat) (c:Code) {s s':St} {e:hZ} (_:exec E call n c s= .ok e s')
 {φ:Ph} {a:Act} {w:World} {b:Frame} {k:List Item} {K:Bool→List Frame} (_:SR φ s.ts s.ds a) (_:OK E φ s.h w) (_:nh φ b K s.rc) (_:(E.P.funcs[b.fn]?).isSome=true),
 pY E φ s.h w b K k (lone (b.atR a (.code c::k)) (cur K s.rc) w) e s'∧∀c',c= .loop c'→pY E φ s.h w b K k (lone (b.atR a (.code c':: .inLoop c'::k)) (cur K s.rc) w) e s':=by
 intro n
 induction n with
 | zero=>intro c s s' e h;simp [exec] at h
 | succ n ih2=>
   have ih:∀(c:Code) {s s':St} {e:hZ} (_:exec E call n c s= .ok e s')
    {φ:Ph} {a:Act} {w:World} {b:Frame} {k:List Item} {K:Bool→List Frame} (_:SR φ s.ts s.ds a) (_:OK E φ s.h w) (_:nh φ b K s.rc) (_:(E.P.funcs[b.fn]?).isSome=true),
    pY E φ s.h w b K k (lone (b.atR a (.code c::k)) (cur K s.rc) w) e s':=fun c _ _ _ h _ _ _ _ _ _ hs ok gE Dz=>(ih2 c h hs ok gE Dz).1
   intro c s s' e h φ a w b k K hs ok gE Dz
   have Zc:∀c',c= .loop c'→pY E φ s.h w b K k (lone (b.atR a (.code c':: .inLoop c'::k)) (cur K s.rc) w) e s':=by
    rintro c rfl
    simp only[exec] at h
    split at h
    · rename_i s1 h1
      obtain ⟨φ1,w1,a1,e1,x1,x2,x3,x4,x5,x6⟩:=(ih c h1 hs ok gE Dz (k:= .inLoop c::k)).is
      cases x1
      exact (((ih2 (.loop c) h x2 x3 x5 Dz).2 c rfl).of_steps (Steps.trans x6 (.one stepR_inLoop))).later x4
    · rename_i dR
      obtain ⟨φ1,w1,a1,e1,x1,x2,x3,x4,x5,x6⟩:=(ih c h hs ok gE Dz (k:= .inLoop c::k)).is
      refine ⟨φ1,w1,a1,e1,x1,x2,x3,x4,x5,.pass (x:= .inLoop c) (fun _=>rfl) ?_ x6⟩
      cases x1 with
      | normal=>exact (dR _ h).elim
      | exit=>simp
      | ret=>simp
      | panic=>simp
   refine ⟨?_,Zc⟩
   cases c with
   | skip=>simp [exec] at h;obtain ⟨rfl,rfl⟩:=h;exact ⟨φ,w,a,_,.normal,hs,ok,Fr.refl _ _ _,gE,.one stepR_skip⟩
   | label l=>simp [exec] at h;obtain ⟨rfl,rfl⟩:=h;exact ⟨φ,w,a,_,.normal,hs,ok,Fr.refl _ _ _,gE,.one stepR_label⟩
   | ret=>simp [exec] at h;obtain ⟨rfl,rfl⟩:=h;exact ⟨φ,w,a,_,.ret,hs,ok,Fr.refl _ _ _,gE,k,Steps.refl _ _⟩
   | exit id=>simp [exec] at h;obtain ⟨rfl,rfl⟩:=h;exact ⟨φ,w,a,_,.exit id,hs,ok,Fr.refl _ _ _,gE,k,rfl,Steps.refl _ _⟩
   | seq x y=>
     simp only[exec] at h
     split at h
     · rename_i s1 h1
       obtain ⟨φ1,w1,a1,e1,x1,x2,x3,x4,x5,x6⟩:=(ih x h1 hs ok gE Dz (k:= .code y::k)).is
       cases x1
       exact ((ih y h x2 x3 x5 Dz).of_steps (.head stepR_seq x6)).later x4
     · rename_i dR
       obtain ⟨φ1,w1,a1,e1,x1,x2,x3,x4,x5,x6⟩:=(ih x h hs ok gE Dz (k:= .code y::k)).is
       refine ⟨φ1,w1,a1,e1,x1,x2,x3,x4,x5,.of_steps (.one stepR_seq) (.pass (x:= .code y) (fun _=>rfl) ?_ x6)⟩
       cases x1 with
       | normal=>exact (dR _ h).elim
       | exit=>simp
       | ret=>simp
       | panic=>simp
   | cond x y z=>
     simp only[exec] at h
     split at h
     · rename_i hx
       have h1:=nf ok.gl hs.ts hx
       generalize kK:a.eval x=cv at h1
       cases h1
       exact (ih y h hs ok gE Dz).of_steps (.one (stepR_cond kK))
     · rename_i hx
       have h1:=nf ok.gl hs.ts hx
       generalize kK:a.eval x=cv at h1
       cases h1
       exact (ih z h hs ok gE Dz).of_steps (.one (stepR_cond kK))
     · simp at h
   | block id c=>
     simp only[exec] at h
     split at h
     · rename_i QB s1 h1
       obtain ⟨φ1,w1,a1,e1,x1,x2,x3,x4,x5,x6⟩:=(ih c h1 hs ok gE Dz (k:= .inBlock id::k)).is
       cases x1
       split at h
       · rename_i hid
         simp at h;obtain ⟨rfl,rfl⟩:=h
         obtain ⟨todo,ht,iP⟩:=x6
         exact ⟨φ1,w1,a1,_,.normal,x2,x3,x4,x5,.head stepR_block (Steps.trans iP (.one (stepR_exit (by rw[ht];simp [exitTo,hid]))))⟩
       · rename_i hid
         simp at h;obtain ⟨rfl,rfl⟩:=h
         obtain ⟨todo,ht,iP⟩:=x6
         refine ⟨φ1,w1,a1,_,.exit QB,x2,x3,x4,x5,todo,?_,.head stepR_block iP⟩
         have:(id==QB)=false:=by simp;exact fun h=>hid h.symm
         rw[ht];simp [exitTo,this]
     · rename_i dR
       obtain ⟨φ1,w1,a1,e1,x1,x2,x3,x4,x5,x6⟩:=(ih c h hs ok gE Dz (k:= .inBlock id::k)).is
       cases x1 with
       | normal=>exact ⟨φ1,w1,a1,_,.normal,x2,x3,x4,x5,.head stepR_block (Steps.trans x6 (.one stepR_inBlock))⟩
       | exit QB=>exact (dR _ _ h).elim
       | ret=>exact ⟨φ1,w1,a1,_,.ret,x2,x3,x4,x5,.of_steps (e:= .ret) (k:=k) (.one stepR_block) x6⟩
       | panic v v' hv=>exact ⟨φ1,w1,a1,_,.panic v v' hv,x2,x3,x4,x5,.of_steps (e:= .panic _) (k:=k) (.one stepR_block) x6⟩
   | loop c=>exact (Zc c rfl).of_steps (.one stepR_loop)
   | region id ops draw=>
     simp only[exec] at h
     cases draw with
     | false=>
       have pQ:=vx hE dg (ops:=ops) (l:=ops.toList) (is:=List.range ops.size) (by simp) (fun j i hj=>by
        have:=List.getElem?_eq_some_iff.1 hj
        obtain ⟨h1,h2⟩:=this
        simp at h1 h2;subst h2;simp) h hs ok gE (b:=b) (k:=k)
       exact pQ.of_steps (.one stepR_region)
     | true=>
       obtain ⟨h1,h2,⟨rfl,φ',a',w',x1,x2,x3,x4,x5⟩ | ⟨v,rfl,hp⟩⟩:=IF hE hE.mixed dg h hs ok gE (b:=b) (k:=k) id
       · refine ⟨φ',w',a',_,.normal,⟨x1,by rw[h2,x2];exact hs.ds.mono x4.ext⟩,x3,x4,by rw[h1];exact gE.mono x4.ext,?_⟩
         rw[h1];exact x5
       · obtain ⟨φ',a',w',v',todo,x0,x1,x2,x3,x4,x5⟩:=hp.is
         refine ⟨φ',w',a',_,.panic v v' x0,⟨x1,by rw[h2,x2];exact hs.ds.mono x4.ext⟩,x3,x4,by rw[h1];exact gE.mono x4.ext,todo,?_⟩
         rw[h1];exact x5
   | rangeFunc f ps a1 b1=>
     simp only[exec] at h
     exact Gh dg h hs ok gE Dz
   | scope c=>
     simp only[exec] at h
     have s1:∀{m},Steps E.P (lone (b.atR a (.code c:: .inScope c::k)) (cur K s.rc) w) m→Steps E.P (lone (b.atR a (.code (.scope c)::k)) (cur K s.rc) w) m:=fun q=> .head (step_lone_go (by simp [stepG,stepG.exec,Frame.atR])) q
     obtain ⟨φ1,w1,a1,e1,x1,x2,x3,x4,x5,x6⟩:=(ih c h hs ok gE Dz (k:= .inScope c::k)).is
     cases x1 with
     | normal=>exact ⟨φ1,w1,a1,_,.normal,x2,x3,x4,x5,s1 (Steps.trans x6 (.one (step_lone_go (by simp [stepG,stepG.exec,Frame.atR]))))⟩
     | exit QB=>exact ⟨φ1,w1,a1,_,.exit QB,x2,x3,x4,x5,.of_steps (e:= .exit QB) (k:=k) (s1 (Steps.refl _ _)) (.pass (x:= .inScope c) (fun _=>rfl) (by simp) x6)⟩
     | ret=>exact ⟨φ1,w1,a1,_,.ret,x2,x3,x4,x5,.of_steps (e:= .ret) (k:=k) (s1 (Steps.refl _ _)) (.pass (x:= .inScope c) (fun _=>rfl) (by simp) x6)⟩
     | panic v v' hv=>exact ⟨φ1,w1,a1,_,.panic v v' hv,x2,x3,x4,x5,.of_steps (e:= .panic _) (k:=k) (s1 (Steps.refl _ _)) (.pass (x:= .inScope c) (fun _=>rfl) (by simp) x6)⟩
   | goto l=>simp [exec] at h
   | refuse why=>simp [exec] at h
end Go.Ab
end
section
namespace Go.Ab
variable {E:Env}
theorem II {φ:Ph} {h:au} {w:World} (ok:OK E φ h w) {ts:List AV} {tmps:Array Value} (ht:LR φ ts tmps.toList):∀{l:List ResultVar} {vs:List AV} (_:jM E h ts l=some vs),
 ∃qJ,LR φ vs qJ∧(l.mapM (fun | .tmp t=>pure (tmps.getD t undef) | .cell a t=>do loadVar t (←asAddr (tmps.getD a undef)):ResultVar→Sem Value)).run E.P w= .ok qJ w
 | [],vs,h=>by simp [jM] at h;subst h;exact ⟨[],LR.nil φ,rfl⟩
 | r::rest,vs,h=>by
   have fZ:∀t,VR φ (ts.getD t AV.undef) (tmps.getD t undef):=fun t=>by
    have:=ht.getD (VR.undef φ) t
    rw[show tmps.getD t undef=tmps.toList.getD t undef by simp [Array.getD_eq_getD_getElem?,List.getD]]
    exact this
   simp only[jM] at h
   split at h
   · simp at h
   · rename_i v hv
     split at h
     · simp at h
     · rename_i vs0 Ij
       simp at h;subst h
       obtain ⟨qJ,hl,hr⟩:=II ok ht Ij
       cases r with
       | tmp t=>
         simp at hv;subst hv
         refine ⟨tmps.getD t undef::qJ,.cons (by simpa using fZ t) hl,?_⟩
         simp only[List.mapM_cons,Sem.run_bind,Sem.run_pure,Result.andThen_ok,hr]
       | cell ad t=>
         simp only at hv
         obtain ⟨x',hx,fU⟩:=Ef ok (fZ ad) hv
         refine ⟨x'::qJ,.cons hx hl,?_⟩
         have hr0:=fU w rfl
         have:(do loadVar t (←asAddr (tmps.getD ad undef)):Sem Value).run E.P w= .ok x' w:=by
          have hv2:=fZ ad
          unfold bG at hv
          split at hv
          · rename_i i o heq
            rw[heq] at hv2
            generalize hq:tmps.getD ad undef=q at hv2 hr0
            cases hv2
            simpa [Instr.loadAt,Instr.sureAddr,asAddr] using hr0
          · simp at hv
         simp only[List.mapM_cons]
         rw[Sem.run_bind,this]
         simp only[Sem.run_bind,Sem.run_pure,Result.andThen_ok,hr]
theorem sC {φ:Ph} {h:au} {w:World} (ok:OK E φ h w) {ts:List AV} {tmps:Array Value} (ht:LR φ ts tmps.toList) {fn:Func} {vs:List AV} (hv:jM E h ts fn.results.toList=some vs):
 ∃v',VR φ (fY vs) v'∧(results fn tmps).run E.P w= .ok v' w:=by
 obtain ⟨qJ,hl,hr⟩:=II ok ht hv
 have hm:(fn.results.mapM (fun | .tmp t=>pure (tmps.getD t undef) | .cell a t=>do loadVar t (←asAddr (tmps.getD a undef)):ResultVar→Sem Value)).run E.P w= .ok qJ.toArray w:=by
  rw[Array.mapM_eq_mapM_toList]
  show Sem.run E.P (Functor.map List.toArray (_:Sem (List Value))) w=_
  rw[Sem.run_map]
  refine (congrArg (fun r=>Result.andThen r _) hr).trans ?_
  rfl
 refine ⟨if h:qJ.toArray.size=1 then qJ.toArray[0] else .tuple qJ.toArray,?_,?_⟩
 · cases vs with
   | nil=>rw[hl.gC];exact VR.tuple' (LR.nil φ)
   | cons v vs=>
     obtain ⟨y,ys,rfl,hy,uy⟩:=hl.cr
     cases vs with
     | nil=>rw[uy.gC];simpa [fY] using hy
     | cons v2 vs2=>
       obtain ⟨y2,ys2,rfl,hy2,ag9⟩:=uy.cr
       have:¬(y::y2::ys2).toArray.size=1:=by simp
       rw[dif_neg this]
       exact VR.tuple' (.cons hy (.cons hy2 ag9))
 · unfold results
   rw[Sem.run_bind]
   refine (congrArg (fun r=>Result.andThen r _) hm).trans ?_
   rfl
def bare (f:FuncId) (kind:CallKind):Frame:={fn:=f,tmps:= #[],todo:=[],defers:=[],mode:= .run,kind:=kind,roundOf:=none}
theorem RE {P:Program} {f:FuncId} {fn:Func} {c:Code} (hf:P.funcs[f]? =some fn) (hb:fn.body=some c) (vs:List Value) (kind:CallKind):
 Frame.enter P f vs.toArray kind=(bare f kind).atR {tmps:=vs.toArray++Array.replicate (fn.ntmps - vs.length) undef,defers:=[]} [.code c]:=by
 simp [Frame.enter,Frame.atR,hf,hb,bare]
theorem sD (hE:kh E) {call:bw} (dg:ic E call) {fuel:Nat} {f:FuncId} {fn:Func} {c:Code} (hf:E.P.funcs[f]? =some fn) (hb:fn.body=some c) {args:List AV} {h:au} {rc:RC} {e:hZ} {s':St}
 (f_:mD E call fuel fn c args h rc= .ok e s') {φ:Ph} {w:World} {vs:List Value} (ok:OK E φ h w) (hl:LR φ args vs) {kind:CallKind} {K:Bool→List Frame} (gE:nh φ (bare f kind) K rc):
 pY E φ h w (bare f kind) K [] (lone (Frame.enter E.P f vs.toArray kind) (cur K rc) w) e s':=by
 rw[RE hf hb]
 refine (vy hE dg fuel c (s:={ts:=args++List.replicate (fn.ntmps - args.length) AV.undef,h,ds:=[],rc}) f_ (a:={tmps:=vs.toArray++Array.replicate (fn.ntmps - vs.length) undef,defers:=[]}) (b:=bare f kind) (k:=[]) ⟨?_,trivial⟩ ok gE (by show (E.P.funcs[f]?).isSome=true;rw[hf];rfl)).1
 have:=hl.append (LR.replicate (VR.undef φ) (fn.ntmps - args.length))
 rw[hl.1] at this
 simpa [hl.1] using this
theorem enters {E:Env} (hE:kh E) {f:FuncId} {fn:Func} {c:Code} (hf:E.P.funcs[f]? =some fn) (hb:fn.body=some c) (vs:Array Value) (w:World):(callFunc f vs).run E.P w= .ok (.enter f vs) w:=by
 have hn:=hE.names f fn hf
 have:(fn.name== "runtime.NumGoroutine")=false:=by rw[beq_eq_false_iff_ne];exact hn
 simp only[callFunc,Sem.run_bind,run_program,Result.andThen_ok,hf,this,Bool.false_eq_true,if_false,hb,Option.isNone_some,Sem.run_pure]
noncomputable def h_ (E:Env) (call:bw) (fuel:Nat) (g:FuncId) (as_:List AV) (h:au) (rc:RC):Option (au×RC):=match E.P.funcs[g]? with
 | none=>none
 | some fg=>match fg.body with
   | none=>none
   | some bg=>match mD E call fuel fg bg as_ h rc with
     | .ok .normal s'=>if s'.ds.isEmpty&&(jM E s'.h s'.ts fg.results.toList).isSome then some (s'.h,s'.rc) else none
     | .ok .ret s'=>if s'.ds.isEmpty&&(jM E s'.h s'.ts fg.results.toList).isSome then some (s'.h,s'.rc) else none
     | _=>none
theorem sE {φ:Ph} {ds:List Deferred} (h:Y5 φ [] ds):ds=[]:=by cases ds with | nil=>rfl | cons _ _=>exact h.elim
def qP (c:Bool→Frame):RC→Frame
 | .done=>{c true with mode:=settle (c true).mode}
 | _=>{c false with mode:=settle (c false).mode}
theorem sF (hE:kh E) {call:bw} (dg:ic E call) {fuel:Nat} {g:FuncId} {as_:List AV} {h h':au} {rc WK:RC} (hd:h_ E call fuel g as_ h rc=some (h',WK)) {φ:Ph} {w:World} {vs:List Value}
 (ok:OK E φ h w) (hl:LR φ as_ vs) {c:Bool→Frame} {cs:List Frame} (gE:nh φ (bare g .deferred) (fun x=>c x::cs) rc):
 ∃φ' w',OK E φ' h' w'∧Fr φ h w φ' h' w'∧nh φ' (bare g .deferred) (fun x=>c x::cs) WK∧(callFunc g vs.toArray).run E.P w= .ok (.enter g vs.toArray) w∧
  Steps E.P (lone (Frame.enter E.P g vs.toArray .deferred) (cur (fun x=>c x::cs) rc) w)
   (lone (qP c WK) cs w'):=by
 unfold h_ at hd
 split at hd
 · simp at hd
 rename_i fg hf
 split at hd
 · simp at hd
 rename_i bg hb
 have key:∀(s':St) (e:hZ),(e= .normal∨e= .ret)→mD E call fuel fg bg as_ h rc= .ok e s'→s'.ds.isEmpty=true→(jM E s'.h s'.ts fg.results.toList).isSome=true→s'.h=h'→s'.rc=WK→
  ∃φ' w',OK E φ' h' w'∧Fr φ h w φ' h' w'∧nh φ' (bare g .deferred) (fun x=>c x::cs) WK∧(callFunc g vs.toArray).run E.P w= .ok (.enter g vs.toArray) w∧
  Steps E.P (lone (Frame.enter E.P g vs.toArray .deferred) (cur (fun x=>c x::cs) rc) w)
   (lone (qP c WK) cs w'):=by
  intro s' e he f_ Li DJ hh hr
  subst hh;subst hr
  obtain ⟨φ',w',a',e',x1,x2,x3,x4,x5,x6⟩:=(sD hE dg hf hb f_ ok hl (kind:= .deferred) gE).is
  refine ⟨φ',w',x3,x4,x5,enters hE hf hb _ w,?_⟩
  obtain ⟨qJ,aha⟩:=Option.isSome_iff_exists.1 DJ
  obtain ⟨v',_,fU⟩:=sC x3 x2.ts aha
  have hdn:a'.defers=[]:=sE (by have:=x2.ds;rw[List.isEmpty_iff.1 Li] at this;exact this)
  have fin:∀todo,step E.P (lone {(bare g .deferred).atR a' todo with mode:= .returning} (cur (fun x=>c x::cs) s'.rc) w')=
   .next (lone (qP c s'.rc) cs w'):=fun todo=>by
   have zK:({(bare g .deferred).atR a' todo with mode:= .returning}:Frame).going E.P w' (.returned v'):=⟨rfl,hdn,fg,hf,fU⟩
   have hk:({(bare g .deferred).atR a' todo with mode:= .returning}:Frame).kind= .deferred:=rfl
   cases aj4:s'.rc with
   | no=>exact step_going_returned (c:=c false) (cs:=cs) hk zK
   | hQ v=>exact step_going_returned (c:=c false) (cs:=cs) hk zK
   | done=>exact step_going_returned (c:=c true) (cs:=cs) hk zK
   | pP l=>exact step_going_returned (c:=c false) (cs:=cs) hk zK
  rcases he with rfl | rfl
  · cases x1
    exact Steps.trans x6 (.head (stepR_end rfl) (.one (fin [])))
  · cases x1
    obtain ⟨todo,hs⟩:=x6
    exact Steps.trans hs (.head (stepR_ret rfl) (.one (fin _)))
 split at hd
 · rename_i s' f_
   split at hd
   · rename_i hc
     simp at hd;obtain ⟨rfl,rfl⟩:=hd
     simp only[Bool.and_eq_true] at hc
     exact key s' .normal (.inl rfl) f_ hc.1 hc.2 rfl rfl
   · simp at hd
 · rename_i s' f_
   split at hd
   · rename_i hc
     simp at hd;obtain ⟨rfl,rfl⟩:=hd
     simp only[Bool.and_eq_true] at hc
     exact key s' .ret (.inr rfl) f_ hc.1 hc.2 rfl rfl
   · simp at hd
 · simp at hd
theorem jP (hE:kh E) {call:bw} (dg:ic E call) {fuel:Nat}:∀(ds:List od) {p p':Option AV} {h h':au} (_:cJ (h_ E call fuel) ds p h=some (p',h')) {φ:Ph} {w:World} {fr:Frame} {cs:List Frame}
 (_:OK E φ h w) (_:Y5 φ ds fr.defers) (_:(p=none∧fr.mode= .returning)∨∃v v',p=some v∧VR φ v v'∧fr.mode= .panicking [{v:=v',recovered:=false}]),
 ∃φ' w' m',OK E φ' h' w'∧Fr φ h w φ' h' w'∧((p'=none∧m'= .returning)∨∃v v',p'=some v∧VR φ' v v'∧m'= .panicking [{v:=v',recovered:=false}])∧
  Steps E.P (lone fr cs w) (lone {fr with defers:=[],mode:=m'} cs w')
 | [],p,p',h,h',hu,φ,w,fr,cs,ok,Li,hp=>by
   simp [cJ] at hu;obtain ⟨rfl,rfl⟩:=hu
   have:=sE Li
   refine ⟨φ,w,fr.mode,ok,Fr.refl _ _ _,?_,?_⟩
   · exact hp
   · rw[←this];exact Steps.refl _ _
 | .rQ r::ds,p,p',h,h',hu,φ,w,fr,cs,ok,Li,hp=>by
   cases hfd:fr.defers with
   | nil=>rw[hfd] at Li;exact Li.elim
   | cons d' yD=>
   rw[hfd] at Li
   obtain ⟨⟨l,hl,WL⟩,RG⟩:=Li
   have RH:fr.mode≠ .run:=by
    rcases hp with ⟨_,hm⟩ | ⟨v,v',_,_,hm⟩<;>rw[hm]<;>simp
   simp only[cJ] at hu
   split at hu
   · rename_i hg
     obtain ⟨_,hb⟩:=ok.live _ _ _ hg hl
     obtain ⟨IE,f1⟩:=ok.shut hg rfl hl (.deferred none)
     have st1:=step_collected (P:=E.P) (cs:=cs) RH hfd WL (run_takeDeferred hb)
     obtain ⟨φ2,w2,m2,BP,f2,RI,Lj⟩:=jP hE dg ds hu (fr:={fr with defers:=[]++yD}) (cs:=cs) IE (by simpa using RG) hp
     exact ⟨φ2,w2,m2,BP,f1.trans f2,RI,.head st1 Lj⟩
   · simp at hu
 | .call df ai8::ds,p,p',h,h',hu,φ,w,fr,cs,ok,Li,hp=>by
   cases hfd:fr.defers with
   | nil=>rw[hfd] at Li;exact Li.elim
   | cons d' yD=>
   rw[hfd] at Li
   obtain ⟨⟨cap,WL,Bz⟩,RG⟩:=Li
   have RH:fr.mode≠ .run:=by
    rcases hp with ⟨_,hm⟩ | ⟨v,v',_,_,hm⟩<;>rw[hm]<;>simp
   have hinv:∀(QN:(callFunc df (d'.args++cap).toList.toArray).run E.P w= .ok (.enter df (d'.args++cap).toList.toArray) w),(invoke d'.target d'.args).run E.P w= .ok (.enter df (d'.args++cap).toList.toArray) w:=fun QN=>by
    have e:(d'.args++cap).toList.toArray=d'.args++cap:=Array.toArray_toList ..
    rw[e] at QN ⊢
    rw[WL];exact QN
   have st1:∀(QN:(callFunc df (d'.args++cap).toList.toArray).run E.P w= .ok (.enter df (d'.args++cap).toList.toArray) w),step E.P (lone fr cs w)= .next (lone (Frame.enter E.P df (d'.args++cap).toList.toArray .deferred) ({fr with defers:=yD}::cs) w):=fun QN=>step_defer RH hfd WL (hinv QN)
   cases p with
   | none=>
     simp only[cJ] at hu
     split at hu
     · rename_i h1 rc1 hcd
       have hm:fr.mode= .returning:=by
        rcases hp with ⟨_,hm⟩ | ⟨v,v',e,_,_⟩
        · exact hm
        · simp at e
       obtain ⟨φ1,w1,IE,f1,_,QN,iP⟩:=sF hE dg hcd ok Bz (c:=fun _=>{fr with defers:=yD}) (cs:=cs) ⟨rfl,fun KC hk=>by simp [tryRecover,show KC.kind= .deferred from hk,hm]⟩
       have pX:qP (fun _=>{fr with defers:=yD}) rc1={fr with defers:=yD}:=by
        cases rc1<;>simp [qP,hm,settle]
       rw[pX] at iP
       obtain ⟨φ2,w2,m2,BP,f2,RI,Lj⟩:=jP hE dg ds hu (fr:={fr with defers:=yD}) (cs:=cs) IE (RG.mono f1.ext) (.inl ⟨rfl,hm⟩)
       exact ⟨φ2,w2,m2,BP,f1.trans f2,RI,.head (st1 QN) (Steps.trans iP Lj)⟩
     · simp at hu
   | some v=>
     obtain ⟨v',hv,hm⟩:∃v',VR φ v v'∧fr.mode= .panicking [{v:=v',recovered:=false}]:=by
      rcases hp with ⟨e,_⟩ | ⟨v1,v',e,hv,hm⟩
      · simp at e
      · simp at e;subst e;exact ⟨v',hv,hm⟩
     have gE:nh φ (bare df .deferred) (fun x=>(if x then {fr with defers:=yD,mode:= .panicking [{v:=v',recovered:=true}]} else {fr with defers:=yD})::cs) (.hQ v):=
      ⟨rfl,⟨v',hv,fun KC hk=>by simp [tryRecover,show KC.kind= .deferred from hk,hm]⟩,fun KC hk=>by simp [tryRecover,show KC.kind= .deferred from hk]⟩
     simp only[cJ] at hu
     split at hu
     · rename_i h1 v1 hcd
       obtain ⟨φ1,w1,IE,f1,_,QN,iP⟩:=sF hE dg hcd ok Bz (c:=fun x=>if x then {fr with defers:=yD,mode:= .panicking [{v:=v',recovered:=true}]} else {fr with defers:=yD}) (cs:=cs) gE
       have pX:qP (fun x=>if x then {fr with defers:=yD,mode:= .panicking [{v:=v',recovered:=true}]} else {fr with defers:=yD}) (.hQ v1)={fr with defers:=yD}:=by simp [qP,hm,settle]
       rw[pX] at iP
       simp only[Bool.false_eq_true,if_false,cur] at iP
       obtain ⟨φ2,w2,m2,BP,f2,RI,Lj⟩:=jP hE dg ds hu (fr:={fr with defers:=yD}) (cs:=cs) IE (RG.mono f1.ext) (.inr ⟨v,v',rfl,hv.mono f1.ext,hm⟩)
       exact ⟨φ2,w2,m2,BP,f1.trans f2,RI,.head (st1 QN) (Steps.trans iP Lj)⟩
     · rename_i h1 hcd
       obtain ⟨φ1,w1,IE,f1,_,QN,iP⟩:=sF hE dg hcd ok Bz (c:=fun x=>if x then {fr with defers:=yD,mode:= .panicking [{v:=v',recovered:=true}]} else {fr with defers:=yD}) (cs:=cs) gE
       have pX:qP (fun x=>if x then {fr with defers:=yD,mode:= .panicking [{v:=v',recovered:=true}]} else {fr with defers:=yD}) .done={fr with defers:=yD,mode:= .returning}:=by simp [qP,settle]
       rw[pX] at iP
       simp only[Bool.false_eq_true,if_false,cur] at iP
       obtain ⟨φ2,w2,m2,BP,f2,RI,Lj⟩:=jP hE dg ds hu (fr:={fr with defers:=yD,mode:= .returning}) (cs:=cs) IE (RG.mono f1.ext) (.inl ⟨rfl,rfl⟩)
       exact ⟨φ2,w2,m2,BP,f1.trans f2,RI,.head (st1 QN) (Steps.trans iP Lj)⟩
     · simp at hu
theorem IJ (hE:kh E) (fuel d:Nat) (ih:ic E (gI E d fuel)):(∀f args h v h',gI E (d+1) fuel (.fn f) args h= .ret v h'→kL E f args h v h')∧(∀f args h v h',gI E (d+1) fuel (.fn f) args h= .panic v h'→M' E f args h v h'):=by
 have key:∀(f:FuncId) (args:List AV) (h:au) (out:jd),gI E (d+1) fuel (.fn f) args h=out→(∀why q,out≠ .fail why q)→
  ∃fn c e s p,E.P.funcs[f]? =some fn∧fn.body=some c∧mD E (gI E d fuel) fuel fn c args h .no= .ok e s∧
   ((p=none∧(e= .normal∨e= .ret))∨∃v,p=some v∧e= .panic v)∧
   ((∃v h',out= .panic v h'∧cJ (h_ E (gI E d fuel) fuel) s.ds p s.h=some (some v,h'))∨
    ∃vs h',out= .ret (fY vs) h'∧cJ (h_ E (gI E d fuel) fuel) s.ds p s.h=some (none,h')∧jM E h' s.ts fn.results.toList=some vs):=by
  intro f args h out e dR
  simp only[gI] at e
  split at e
  · exact absurd e.symm (dR _ _)
  rename_i fn hf
  split at e
  · exact absurd e.symm (dR _ _)
  rename_i c hb
  have fin:∀(p:Option AV) (s:St),(match cJ (h_ E (gI E d fuel) fuel) s.ds p s.h with
   | none=>jd.fail "unwind" none
   | some (some v,h')=> .panic v h'
   | some (none,h')=>match jM E h' s.ts fn.results.toList with
     | some vs=> .ret (fY vs) h'
     | none=> .fail "results" none)=out→
   ((∃v h',out= .panic v h'∧cJ (h_ E (gI E d fuel) fuel) s.ds p s.h=some (some v,h'))∨
    ∃vs h',out= .ret (fY vs) h'∧cJ (h_ E (gI E d fuel) fuel) s.ds p s.h=some (none,h')∧jM E h' s.ts fn.results.toList=some vs):=by
   intro p s hm
   split at hm
   · exact absurd hm.symm (dR _ _)
   · rename_i v h' hu;exact .inl ⟨v,h',hm.symm,hu⟩
   · rename_i h' hu
     split at hm
     · rename_i vs hv;exact .inr ⟨vs,h',hm.symm,hu,hv⟩
     · exact absurd hm.symm (dR _ _)
  split at e
  · rename_i s f_;exact ⟨fn,c,_,s,none,hf,hb,f_,.inl ⟨rfl,.inl rfl⟩,fin none s e⟩
  · rename_i s f_;exact ⟨fn,c,_,s,none,hf,hb,f_,.inl ⟨rfl,.inr rfl⟩,fin none s e⟩
  · rename_i v s f_;exact ⟨fn,c,_,s,some v,hf,hb,f_,.inr ⟨v,rfl,rfl⟩,fin (some v) s e⟩
  · exact absurd e.symm (dR _ _)
  · exact absurd e.symm (dR _ _)
 have run:∀(f:FuncId) (fn:Func) (c:Code) (args:List AV) (h:au) (e:hZ) (s:St) (p p':Option AV) (h':au),E.P.funcs[f]? =some fn→fn.body=some c→mD E (gI E d fuel) fuel fn c args h .no= .ok e s→
  ((p=none∧(e= .normal∨e= .ret))∨∃v,p=some v∧e= .panic v)→cJ (h_ E (gI E d fuel) fuel) s.ds p s.h=some (p',h')→
  ∀(φ:Ph) (w:World) (vs:List Value),OK E φ h w→LR φ args vs→∀cs,∃φ' w' m' tmps todo,OK E φ' h' w'∧Fr φ h w φ' h' w'∧LR φ' s.ts tmps.toList∧
   ((p'=none∧m'= .returning)∨∃v v',p'=some v∧VR φ' v v'∧m'= .panicking [{v:=v',recovered:=false}])∧
   Steps E.P (lone (Frame.enter E.P f vs.toArray .normal) cs w) (lone {(bare f .normal).atR {tmps,defers:=[]} todo with mode:=m'} cs w'):=by
  intro f fn c args h e s p p' h' hf hb f_ hp hu φ w vs ok hl cs
  obtain ⟨φ1,w1,a1,e1,x1,x2,x3,x4,x5,x6⟩:=(sD hE ih hf hb f_ ok hl (kind:= .normal) (K:=fun _=>cs) ⟨rfl,fun fr hk=>by simp [tryRecover,show fr.kind= .normal from hk]⟩).is
  have IK:cur (fun _=>cs) s.rc=cs:=by cases s.rc<;>rfl
  have RJ:cur (fun _=>cs) RC.no=cs:=rfl
  rw[IK] at x6
  rw[RJ] at x6
  have hm:∃todo m,((p=none∧m= .returning)∨∃v v',p=some v∧VR φ1 v v'∧m= .panicking [{v:=v',recovered:=false}])∧
   Steps E.P (lone (Frame.enter E.P f vs.toArray .normal) cs w) (lone {(bare f .normal).atR a1 todo with mode:=m} cs w1):=by
   rcases hp with ⟨rfl,rfl | rfl⟩ | ⟨v,rfl,rfl⟩
   · cases x1;exact ⟨[],.returning,.inl ⟨rfl,rfl⟩,Steps.trans x6 (.one (stepR_end rfl))⟩
   · cases x1;obtain ⟨todo,hs⟩:=x6;exact ⟨_,.returning,.inl ⟨rfl,rfl⟩,Steps.trans hs (.one (stepR_ret rfl))⟩
   · cases x1 with
     | panic _ v' hv=>obtain ⟨todo,hs⟩:=x6;exact ⟨todo,_,.inr ⟨v,v',rfl,hv,rfl⟩,hs⟩
  obtain ⟨todo,m,hmp,r_⟩:=hm
  obtain ⟨φ2,w2,m2,BP,f2,RI,hs2⟩:=jP hE ih s.ds hu (fr:={(bare f .normal).atR a1 todo with mode:=m}) (cs:=cs) x3 x2.ds (by
   rcases hmp with ⟨e,em⟩ | ⟨v,v',e,hv,em⟩
   · exact .inl ⟨e,em⟩
   · exact .inr ⟨v,v',e,hv,em⟩)
  exact ⟨φ2,w2,m2,a1.tmps,todo,BP,x4.trans f2,x2.ts.mono f2.ext,RI,Steps.trans r_ hs2⟩
 refine ⟨fun f args h v h' e=>?_,fun f args h v h' e=>?_⟩
 · obtain ⟨fn,c,e1,s,p,hf,hb,f_,hp,pS⟩:=key f args h _ e (by simp)
   rcases pS with ⟨v1,h1,he,_⟩ | ⟨vs1,h1,he,hu,DJ⟩
   · simp at he
   · simp at he;obtain ⟨rfl,rfl⟩:=he
     intro φ w vs ok hl
     refine ⟨enters hE hf hb _ w,fun cs=>?_⟩
     obtain ⟨φ',w',m',tmps,todo,rJ,fr,ht,hm,hs⟩:=run f fn c args h e1 s p none h' hf hb f_ hp hu φ w vs ok hl cs
     obtain ⟨v',hv,fU⟩:=sC rJ ht DJ
     rcases hm with ⟨_,rfl⟩ | ⟨v,v'',e,_⟩
     · exact ⟨φ',w',v',_,hv,rJ,fr,hs,rfl,rfl,rfl,rfl,fn,hf,fU⟩
     · simp at e
 · obtain ⟨fn,c,e1,s,p,hf,hb,f_,hp,pS⟩:=key f args h _ e (by simp)
   rcases pS with ⟨v1,h1,he,hu⟩ | ⟨vs1,h1,he,_⟩
   · simp at he;obtain ⟨rfl,rfl⟩:=he
     intro φ w vs ok hl
     refine ⟨enters hE hf hb _ w,fun cs=>?_⟩
     obtain ⟨φ',w',m',tmps,todo,rJ,fr,ht,hm,hs⟩:=run f fn c args h e1 s p (some v) h' hf hb f_ hp hu φ w vs ok hl cs
     rcases hm with ⟨e,_⟩ | ⟨v2,v',e,hv,rfl⟩
     · simp at e
     · simp at e;subst e
       exact ⟨φ',w',v',_,hv,rJ,fr,hs,rfl,rfl,rfl,fn,hf⟩
   · simp at he
theorem vz {l:Nat} {jump:Option Code} {s:St} {v:AV} {h':au} (he:AN l jump s= .ret v h') {φ:Ph} {w:World} (ok:OK E φ s.h w) {ll:Loc} (hl:φ l=some ll):
 ∃w',v= .bool jump.isNone∧OK E φ h' w'∧Fr φ s.h w φ h' w'∧(Instr.endRound ll.dY jump).run E.P w= .ok (.bool jump.isNone) w':=by
 unfold AN at he
 split at he
 · rename_i st pd ts ps as_ bd dn hg
   simp only[jd.ret.injEq] at he;obtain ⟨rfl,rfl⟩:=he
   obtain ⟨_,r,hr,yJ⟩:=ok.live _ _ _ hg hl
   obtain ⟨IE,f1⟩:=ok.aaB (o':= .loop (if jump.isNone then .ready else .done) jump ts ps as_ bd dn) hg rfl hl (O:= .loop {r with state:=if jump.isNone then .ready else .done,pending:=jump})
    ⟨by have:=ok.live _ _ _ hg hl;exact this.1,_,rfl,⟨rfl,rfl,yJ.tmps,yJ.params,yJ.assign,yJ.body,yJ.defers,yJ.fn⟩⟩
   exact ⟨_,rfl,IE,f1,run_endRound jump hr⟩
 · simp at he
theorem IL {φ:Ph}:∀{ps:List Tmp} {args:List AV} {vs:List Value} (_:LR φ args vs) {ts:List AV} {tmps:Array Value} (_:LR φ ts tmps.toList),
 LR φ ((ps.zip args).foldl (fun ts x=>ts.set x.1 x.2) ts) (((ps.zip vs).foldl (fun (tmps:Array Value) (x:Tmp×Value)=>tmps.setIfInBounds x.1 x.2) tmps).toList)
 | [],_,_,_,_,_,ht=>by simpa using ht
 | p::ps,[],vs,hl,ts,tmps,ht=>by rw[hl.gC];simpa using ht
 | p::ps,x::xs,vs,hl,ts,tmps,ht=>by
   obtain ⟨y,ys,rfl,hy,uy⟩:=hl.cr
   simp only[List.zip_cons_cons,List.foldl_cons]
   exact IL uy (by simpa using ht.set hy p)
theorem vA (hE:kh E) {call:bw} (dg:ic E call) {fuel l:Nat} {args:List AV} {h:au} {out:jd} (ho:qF E call fuel l args h=out) (dR:∀why q,out≠ .fail why q)
 {φ:Ph} {w:World} {vs:List Value} (ok:OK E φ h w) {ll:Loc} (hφ:φ l=some ll) (hl:LR φ args vs):
 ∃f tmps assign body,(Instr.yield ll.dY vs.toArray).run E.P w= .ok (.round ll.dY f tmps assign body) w∧∀c cs,
  (∀v h',out= .ret v h'→∃φ' w' v',VR φ' v v'∧OK E φ' h' w'∧Fr φ h w φ' h' w'∧Steps E.P (lone (Frame.round ll.dY f tmps assign body .normal) (c::cs) w) (lone (c.finish v') cs w'))∧
  (∀v h',out= .panic v h'→∃φ' w' v',VR φ' v v'∧OK E φ' h' w'∧Fr φ h w φ' h' w'∧Steps E.P (lone (Frame.round ll.dY f tmps assign body .normal) (c::cs) w) (lone (c.raise [{v:=v',recovered:=false}]) cs w')):=by
 unfold qF at ho
 split at ho
 · rename_i st pd ts ps as_ bd dn hg
   split at ho
   · rename_i hlen
     split at ho
     · rename_i s1 hx1
       split at ho
       · rename_i pd2 VY Q0 QC VZ V0 hg1
         obtain ⟨aj5,r,hr,yJ⟩:=ok.live _ _ _ hg hφ
         have FN:vs.toArray.size=r.params.size:=by
          have h1:=congrArg List.length yJ.params
          have h2:=hl.1
          simp at h1 ⊢;omega
         refine ⟨r.fn,_,r.assign,r.body,run_yield hr FN,fun c cs=>?_⟩
         have adC:LR φ ((ps.zip args).foldl (fun ts x=>ts.set x.1 x.2) ts) ((r.params.zip vs.toArray).foldl (fun tmps (t,a)=>tmps.setIfInBounds t a) r.tmps).toList:=by
          have:=IL (ps:=ps) hl yJ.tmps
          rw[←Array.foldl_toList,Array.toList_zip,yJ.params]
          exact this
         generalize htm:(r.params.zip vs.toArray).foldl (fun tmps (t,a)=>tmps.setIfInBounds t a) r.tmps=Nh at adC
         let b:Frame:={fn:=r.fn,tmps:= #[],todo:=[],defers:=[],mode:= .run,kind:= .normal,roundOf:=some ll.dY}
         have hb:b.roundOf=some ll.dY:=rfl
         have hk:b.kind= .normal:=rfl
         have yE:Frame.round ll.dY r.fn Nh r.assign r.body .normal=b.atR {tmps:=Nh,defers:=[]} [.code r.assign,.beginRound,.code r.body]:=rfl
         rw[yJ.assign,yJ.body] at yE ⊢
         rw[yE]
         have IK:∀rc,cur (fun _=>c::cs) rc=c::cs:=fun rc=>by cases rc<;>rfl
         obtain ⟨φ1,w1,a1,e1,x1,x2,x3,x4,x5,x6⟩:=(vy hE dg fuel as_ hx1 (a:={tmps:=Nh,defers:=[]}) (b:=b) (k:=[.beginRound,.code bd]) (K:=fun _=>c::cs) ⟨adC,trivial⟩ ok ⟨ll,hφ,rfl⟩ yJ.fn).1.is
         cases x1
         rw[IK,IK] at x6
         have hφ1:=x4.ext _ _ hφ
         obtain ⟨adD,r1,hr1,IM⟩:=x3.live _ _ _ hg1 hφ1
         obtain ⟨BP,f2⟩:=x3.aaB (o':= .loop .busy pd2 VY Q0 QC VZ V0) hg1 rfl hφ1 (O:= .loop {r1 with state:= .busy})
          ⟨adD,_,rfl,⟨rfl,IM.pending,IM.tmps,IM.params,IM.assign,IM.body,IM.defers,IM.fn⟩⟩
         have ahb:=stepR_beginRound (P:=E.P) (b:=b) (a:=a1) (k:=[.code bd]) (cs:=c::cs) hb (run_beginRound hr1 IM.state)
         have uz:=Steps.trans x6 (.one ahb)
         have body:∀(e:hZ) (s2:St),exec E call fuel bd {s1 with h:=s1.h.put l (some (.loop .busy pd2 VY Q0 QC VZ V0))}= .ok e s2→
          ∃φ' w' a' e',ExR φ' e e'∧SR φ' s2.ts s2.ds a'∧OK E φ' s2.h w'∧Fr φ h w φ' s2.h w'∧φ' l=some ll∧IG E.P (lone (b.atR {tmps:=Nh,defers:=[]} [.code as_,.beginRound,.code bd]) (c::cs) w) b [] (c::cs) e' a' w':=by
          intro e s2 WM
          obtain ⟨φ3,w3,a3,e3,y1,y2,y3,y4,y5,y6⟩:=(vy hE dg fuel bd WM (a:=a1) (b:=b) (k:=[]) (K:=fun _=>c::cs) x2 BP x5 yJ.fn).1.is
          rw[IK,IK] at y6
          exact ⟨φ3,w3,a3,e3,y1,y2,y3,(x4.trans f2).trans y4,y4.ext _ _ hφ1,.of_steps uz y6⟩
         split at ho
         · rename_i s2 WM
           obtain ⟨φ3,w3,a3,e3,y1,y2,y3,y4,QM,y6⟩:=body _ _ WM
           cases y1
           refine ⟨fun v h' e=>?_,fun v h' e=>?_⟩
           · obtain ⟨w4,rfl,z1,z2,z3⟩:=vz (ho.trans e) y3 QM
             exact ⟨φ3,w4,_,.bool _,z1,y4.trans z2,Steps.trans y6 (.one (stepR_round_end hb hk z3))⟩
           · rw[e] at ho;unfold AN at ho;split at ho<;>simp at ho
         · rename_i s2 WM
           obtain ⟨φ3,w3,a3,e3,y1,y2,y3,y4,QM,y6⟩:=body _ _ WM
           cases y1
           refine ⟨fun v h' e=>?_,fun v h' e=>?_⟩
           · obtain ⟨w4,rfl,z1,z2,z3⟩:=vz (ho.trans e) y3 QM
             obtain ⟨todo,hs⟩:=y6
             exact ⟨φ3,w4,_,.bool _,z1,y4.trans z2,Steps.trans hs (.one (stepR_round_ret hb hk z3))⟩
           · rw[e] at ho;unfold AN at ho;split at ho<;>simp at ho
         · rename_i id s2 WM
           obtain ⟨φ3,w3,a3,e3,y1,y2,y3,y4,QM,y6⟩:=body _ _ WM
           cases y1
           refine ⟨fun v h' e=>?_,fun v h' e=>?_⟩
           · obtain ⟨w4,rfl,z1,z2,z3⟩:=vz (ho.trans e) y3 QM
             obtain ⟨todo,ht,hs⟩:=y6
             exact ⟨φ3,w4,_,.bool _,z1,y4.trans z2,Steps.trans hs (.one (stepR_round_exit hb hk ht z3))⟩
           · rw[e] at ho;unfold AN at ho;split at ho<;>simp at ho
         · rename_i v2 s2 WM
           obtain ⟨φ3,w3,a3,e3,y1,y2,y3,y4,QM,y6⟩:=body _ _ WM
           split at ho
           · rename_i Li
             refine ⟨fun v h' e=>by rw[e] at ho;simp at ho,fun v h' e=>?_⟩
             rw[e] at ho;simp at ho;obtain ⟨rfl,rfl⟩:=ho
             cases y1 with
             | panic _ v' hv=>
               obtain ⟨todo,hs⟩:=y6
               have hdn:a3.defers=[]:=sE (by have:=y2.ds;rw[List.isEmpty_iff.1 Li] at this;exact this)
               obtain ⟨fn,Dz⟩:=Option.isSome_iff_exists.1 yJ.fn
               exact ⟨φ3,w3,v',hv,y3,y4,Steps.trans hs (.one (step_leave_panicked ⟨rfl,hdn,fn,Dz⟩))⟩
           · exact absurd ho.symm (dR _ _)
         · exact absurd ho.symm (dR _ _)
       · exact absurd ho.symm (dR _ _)
     · exact absurd ho.symm (dR _ _)
     · exact absurd ho.symm (dR _ _)
   · exact absurd ho.symm (dR _ _)
 · exact absurd ho.symm (dR _ _)
theorem zP (hE:kh E) (fuel:Nat):∀d,ic E (gI E d fuel)
 | 0=>⟨fun f args h v h' e=>by simp [gI] at e,fun f args h v h' e=>by simp [gI] at e⟩
 | d+1=>by
   have ih:=zP hE fuel d
   obtain ⟨k1,k2⟩:=IJ hE fuel d ih
   refine ⟨fun F args h v h' e=>?_,fun F args h v h' e=>?_⟩
   · cases F with
     | fn f=>exact (k1 f args h v h' e).any
     | vk l=>
       simp only[gI] at e
       intro φ w vs ok hf hl
       obtain ⟨ll,hφ⟩:=hf
       obtain ⟨f,tmps,assign,body,hy,fU⟩:=vA hE ih e (by simp) ok hφ hl
       exact ⟨_,_,.vk l ll hφ vs f tmps assign body hy,fun c cs=>(fU c cs).1 v h' rfl⟩
   · cases F with
     | fn f=>exact (k2 f args h v h' e).any
     | vk l=>
       simp only[gI] at e
       intro φ w vs ok hf hl
       obtain ⟨ll,hφ⟩:=hf
       obtain ⟨f,tmps,assign,body,hy,fU⟩:=vA hE ih e (by simp) ok hφ hl
       exact ⟨_,_,.vk l ll hφ vs f tmps assign body hy,fun c cs=>(fU c cs).2 v h' rfl⟩
end Go.Ab
end
section
namespace Go.Ab.Fa
structure Acc (T:Type) where
 f:T→AV
structure Upd (T:Type) where
 f:AV→T→T
structure RF where
 T:Type
 N:Nat
 get:Nat→Acc T
 set:Nat→Upd T
 z:T
 RK:∀i,i<N→(get i).f z=AV.undef
 wK:∀i,i<N→∀v r,(get i).f ((set i).f v r)=v
 tX:∀i j,i<N→j<N→i≠j→∀v r,(get j).f ((set i).f v r)=(get j).f r
def WN (i:Nat):Acc (P8 (P8 AV)):=s8 (i/8) fun p=>s8 (i%8) fun q=>⟨fun r=>q (p r)⟩
noncomputable def aaD (i:Nat):Upd (P8 (P8 AV)):=e8 (i/8) fun p=>e8 (i%8) fun q=>⟨fun v r=>p (q fun _=>v) r⟩
noncomputable def rf2:RF where
 T:=P8 (P8 AV)
 N:=64
 get:=WN
 set:=aaD
 z:=P8.all (P8.all AV.undef)
 RK i h:=by simp only[WN,uL,Ba]
 wK i h v r:=by simp only[WN,aaD,uL,zE,cZ]
 tX i j hi hj h v r:=by
  simp only[WN,aaD,uL,zE]
  by_cases h1:i/8=j/8
  · rw[h1,cZ,dO (by omega) (by omega) (by omega)]
  · rw[dO (by omega) (by omega) h1]
def WO (i:Nat):Acc (P8 (P8 (P8 AV))):=s8 (i/64) fun o=>s8 (i/8%8) fun p=>s8 (i%8) fun q=>⟨fun r=>q (p (o r))⟩
noncomputable def aaE (i:Nat):Upd (P8 (P8 (P8 AV))):=e8 (i/64) fun o=>e8 (i/8%8) fun p=>e8 (i%8) fun q=>⟨fun v r=>o (p (q fun _=>v)) r⟩
noncomputable def rf3:RF where
 T:=P8 (P8 (P8 AV))
 N:=512
 get:=WO
 set:=aaE
 z:=P8.all (P8.all (P8.all AV.undef))
 RK i h:=by simp only[WO,uL,Ba]
 wK i h v r:=by simp only[WO,aaE,uL,zE,cZ]
 tX i j hi hj h v r:=by
  simp only[WO,aaE,uL,zE]
  by_cases h1:i/64=j/64
  · rw[h1,cZ]
    by_cases h2:i/8%8=j/8%8
    · rw[h2,cZ,dO (by omega) (by omega) (by omega)]
    · rw[dO (by omega) (by omega) h2]
  · rw[dO (by omega) (by omega) h1]
section
variable (F:RF) (n:Nat)
def eV (r:F.T):List AV:=(List.range n).map fun i=>(F.get i).f r
theorem iH (r:F.T):(eV F n r).length=n:=by simp [eV]
theorem tY (r:F.T) {i:Nat} (h:i<n):(eV F n r)[i]? =some ((F.get i).f r):=by simp [eV,h]
theorem IN (r:F.T) (i:Nat):(eV F n r).getD i AV.undef=if i<n then (F.get i).f r else AV.undef:=by
 rw[List.getD_eq_getElem?_getD]
 split
 · rename_i h;rw[tY F n r h];rfl
 · rw[List.getElem?_eq_none (by rw[iH];omega)];rfl
theorem WQ (hn:n≤F.N) (r:F.T) {i:Nat} (h:i<n) (v:AV):(eV F n r).set i v=eV F n ((F.set i).f v r):=by
 apply List.ext_getElem?
 intro j
 rw[List.getElem?_set]
 by_cases hj:j<n
 · rw[tY F n _ hj,tY F n _ hj,iH]
   by_cases e:i=j
   · subst e;simp [F.wK i (by omega),h]
   · rw[if_neg e,F.tX i j (by omega) (by omega) e]
 · rw[List.getElem?_eq_none (l:=eV F n r) (by rw[iH];omega),List.getElem?_eq_none (l:=eV F n _) (by rw[iH];omega),iH]
   rw[if_neg (by omega)]
noncomputable def QO:List AV→F.T→Nat→F.T:=fun l=>List.rec (motive:=fun _=>F.T→Nat→F.T) (fun r _=>r) (fun v _ ih r i=>ih ((F.set i).f v r) (Nat.add i 1)) l
theorem WR (r:F.T) (i:Nat):QO F [] r i=r:=rfl
theorem RL (v:AV) (l:List AV) (r:F.T) (i:Nat):QO F (v::l) r i=QO F l ((F.set i).f v r) (i+1):=rfl
theorem Ni (hn:n≤F.N):∀(l:List AV) (r:F.T) (i:Nat),i+l.length≤n→∀j,j<n→(F.get j).f (QO F l r i)=if i≤j∧j<i+l.length then l.getD (j - i) AV.undef else (F.get j).f r
 | [],r,i,_,j,hj=>by rw[WR,if_neg (by rw[List.length_nil];omega)]
 | v::l,r,i,h,j,hj=>by
   simp only[List.length_cons] at h
   rw[RL,Ni hn l _ (i+1) (by omega) j hj]
   simp only[List.length_cons]
   by_cases h1:i+1≤j∧j<i+1+l.length
   · rw[if_pos h1,if_pos (by omega)]
     obtain ⟨m,hm⟩:∃m,j - i=m+1:=⟨j - i - 1,by omega⟩
     rw[hm,show j -(i+1)=m by omega,List.getD_cons_succ]
   · rw[if_neg h1]
     by_cases h2:i=j
     · subst h2;rw[F.wK i (by omega),if_pos (by omega)];simp
     · rw[F.tX i j (by omega) (by omega) h2,if_neg (by omega)]
theorem Nj (hn:n≤F.N) (l:List AV) (h:l.length≤n):eV F n (QO F l F.z 0)=l++List.replicate (n - l.length) AV.undef:=by
 apply List.ext_getElem?
 intro j
 by_cases hj:j<n
 · rw[tY F n _ hj,Ni F n hn l F.z 0 (by omega) j hj]
   by_cases h1:j<l.length
   · rw[if_pos (by omega),List.getElem?_append_left h1,Nat.sub_zero,List.getD_eq_getElem?_getD,List.getElem?_eq_getElem h1];rfl
   · rw[if_neg (by omega),List.getElem?_append_right (by omega),F.RK j (by omega),List.getElem?_replicate,if_pos (by omega)]
 · rw[List.getElem?_eq_none (by rw[iH];omega),List.getElem?_eq_none (by simp;omega)]
end
end Go.Ab.Fa
end
section
namespace Go.Ab.Fa
section
variable {R:Type}
noncomputable def jt (f:Bool→R) (d:R) (v:AV):R:=
 AV.rec (motive_1:=fun _=>R) (motive_2:=fun _=>Unit) (fun b=>f b) (fun _ _=>d) (fun _=>d) d (fun _ _=>d) d (fun _ _ _ _ _=>d) d (fun _=>d) (fun _ _ _ _ _=>d) (fun _=>d) d (fun _ _ _=>d) d (fun _ _=>d) (fun _ _=>d) d d () (fun _ _ _ _=>()) v
noncomputable def ox (f:IntKind→Int→R) (d:R) (v:AV):R:=
 AV.rec (motive_1:=fun _=>R) (motive_2:=fun _=>Unit) (fun _=>d) (fun k n=>f k n) (fun _=>d) d (fun _ _=>d) d (fun _ _ _ _ _=>d) d (fun _=>d) (fun _ _ _ _ _=>d) (fun _=>d) d (fun _ _ _=>d) d (fun _ _=>d) (fun _ _=>d) d d () (fun _ _ _ _=>()) v
noncomputable def qQ (f:List UInt8→R) (d:R) (v:AV):R:=
 AV.rec (motive_1:=fun _=>R) (motive_2:=fun _=>Unit) (fun _=>d) (fun _ _=>d) (fun s=>f s) d (fun _ _=>d) d (fun _ _ _ _ _=>d) d (fun _=>d) (fun _ _ _ _ _=>d) (fun _=>d) d (fun _ _ _=>d) d (fun _ _=>d) (fun _ _=>d) d d () (fun _ _ _ _=>()) v
noncomputable def yK (f:Nat→Nat→R) (d:R) (v:AV):R:=
 AV.rec (motive_1:=fun _=>R) (motive_2:=fun _=>Unit) (fun _=>d) (fun _ _=>d) (fun _=>d) d (fun i o=>f i o) d (fun _ _ _ _ _=>d) d (fun _=>d) (fun _ _ _ _ _=>d) (fun _=>d) d (fun _ _ _=>d) d (fun _ _=>d) (fun _ _=>d) d d () (fun _ _ _ _=>()) v
noncomputable def ju (e:R) (f:Nat→Nat→Nat→Nat→Bool→R) (d:R) (v:AV):R:=
 AV.rec (motive_1:=fun _=>R) (motive_2:=fun _=>Unit) (fun _=>d) (fun _ _=>d) (fun _=>d) d (fun _ _=>d) e (fun i o l c b=>f i o l c b) d (fun _=>d) (fun _ _ _ _ _=>d) (fun _=>d) d (fun _ _ _=>d) d (fun _ _=>d) (fun _ _=>d) d d () (fun _ _ _ _=>()) v
noncomputable def vZ (z d:R) (v:AV):R:=
 AV.rec (motive_1:=fun _=>R) (motive_2:=fun _=>Unit) (fun _=>d) (fun _ _=>d) (fun _=>d) d (fun _ _=>d) d (fun _ _ _ _ _=>d) d (fun _=>d) (fun _ _ _ _ _=>d) (fun _=>d) d (fun _ _ _=>d) d (fun _ _=>d) (fun _ _=>d) z d () (fun _ _ _ _=>()) v
noncomputable def Nk (f:FuncId→List AV→List AV→R) (y:Nat→R) (d:R) (v:AV):R:=
 AV.rec (motive_1:=fun _=>R) (motive_2:=fun _=>Unit) (fun _=>d) (fun _ _=>d) (fun _=>d) d (fun _ _=>d) d (fun _ _ _ _ _=>d) d (fun _=>d) (fun g a b _ _=>f g a b) (fun l=>y l) d (fun _ _ _=>d) d (fun _ _=>d) (fun _ _=>d) d d () (fun _ _ _ _=>()) v
noncomputable def yL (f:List AV→R) (t:List AV→R) (d:R) (v:AV):R:=
 AV.rec (motive_1:=fun _=>R) (motive_2:=fun _=>Unit) (fun _=>d) (fun _ _=>d) (fun _=>d) d (fun _ _=>d) d (fun _ _ _ _ _=>d) d (fun _=>d) (fun _ _ _ _ _=>d) (fun _=>d) d (fun _ _ _=>d) d (fun cs _=>f cs) (fun cs _=>t cs) d d () (fun _ _ _ _=>()) v
noncomputable def qR (f:TypeId→AV→R) (d:R) (v:AV):R:=
 AV.rec (motive_1:=fun _=>R) (motive_2:=fun _=>Unit) (fun _=>d) (fun _ _=>d) (fun _=>d) d (fun _ _=>d) d (fun _ _ _ _ _=>d) d (fun _=>d) (fun _ _ _ _ _=>d) (fun _=>d) d (fun t v _=>f t v) d (fun _ _=>d) (fun _ _=>d) d d () (fun _ _ _ _=>()) v
noncomputable def Gi (v:AV):Bool:=
 AV.rec (motive_1:=fun _=>Bool) (motive_2:=fun _=>Unit) (fun _=>false) (fun _ _=>false) (fun _=>false) false (fun _ _=>true) false (fun _ _ _ _ _=>true) false (fun _=>true) (fun _ _ _ _ _=>true) (fun _=>false) false (fun _ _ _=>false) false (fun _ _=>false) (fun _ _=>false) false false () (fun _ _ _ _=>()) v
noncomputable def ob {α:Type} (d:R) (f:α→R) (o:Option α):R:=Option.rec (motive:=fun _=>R) d f o
noncomputable def bc (b:Bool) (x y:R):R:=Bool.rec (motive:=fun _=>R) y x b
noncomputable def yM (f:List AV→TypeId→Bool→R) (d:R) (o:a_):R:=
 a_.rec (motive:=fun _=>R) (fun cs e ro=>f cs e ro) (fun _ _=>d) (fun _ _=>d) (fun _ _ _ _=>d) (fun _ _ _ _ _ _ _=>d) d o
noncomputable def kD (f:Nat→R) (d:R) (n:Int):R:=Int.rec (motive:=fun _=>R) f (fun _=>d) n
noncomputable def kEl (a b c d e f g h:R) (k:IntKind):R:=IntKind.rec (motive:=fun _=>R) a b c d e f g h k
end
noncomputable def kc (k:IntKind):Nat:=kEl 0 1 2 3 4 5 6 7 k
noncomputable def RM (k j:IntKind):Bool:=Nat.beq (kc k) (kc j)
noncomputable def uA (k:IntKind):Nat:=kEl 128 32768 2147483648 9223372036854775808 256 65536 4294967296 18446744073709551616 k
noncomputable def RN (k:IntKind):Nat:=kEl 8 16 32 64 8 16 32 64 k
noncomputable def Zd (k:IntKind):Bool:=kEl true true true true false false false false k
noncomputable def uQ (k:IntKind) (n:Int):Int:=
 Int.rec (motive:=fun _=>Int) (fun m=>bc (Nat.ble (uA k) m) (bc (Zd k) (k.wrap (Int.ofNat m)) (Int.ofNat (Nat.mod m (uA k)))) (Int.ofNat m))
  (fun m=>bc (Zd k) (bc (Nat.ble (uA k) m) (k.wrap (Int.negSucc m)) (Int.negSucc m)) (k.wrap (Int.negSucc m))) n
noncomputable def Lk (a b:Int):Int:=kD (fun x=>kD (fun y=>Int.ofNat (Nat.add x y)) (Int.add a b) b) (Int.add a b) a
noncomputable def wM (a b:Int):Int:=kD (fun x=>kD (fun y=>bc (Nat.ble y x) (Int.ofNat (Nat.sub x y)) (Int.negSucc (Nat.sub (Nat.sub y x) 1))) (Int.sub a b) b) (Int.sub a b) a
noncomputable def RO (a b:Int):Int:=kD (fun x=>kD (fun y=>Int.ofNat (Nat.mul x y)) (Int.mul a b) b) (Int.mul a b) a
noncomputable def Ze (a b:Int):Bool:=
 Int.rec (motive:=fun _=>Bool) (fun x=>Int.rec (motive:=fun _=>Bool) (fun y=>Nat.beq x y) (fun _=>false) b) (fun x=>Int.rec (motive:=fun _=>Bool) (fun _=>false) (fun y=>Nat.beq x y) b) a
noncomputable def WS (a b:Int):Bool:=
 Int.rec (motive:=fun _=>Bool) (fun x=>Int.rec (motive:=fun _=>Bool) (fun y=>Nat.ble (Nat.add x 1) y) (fun _=>false) b) (fun x=>Int.rec (motive:=fun _=>Bool) (fun _=>true) (fun y=>Nat.ble (Nat.add y 1) x) b) a
noncomputable def vB (b:Bool):Bool:=bc b false true
noncomputable def WT (op:BinOp):IntKind→Int→Int→Option AV:=match op with
 | .add=>fun k a b=>some (.int k (uQ k (Lk a b)))
 | .sub=>fun k a b=>some (.int k (uQ k (wM a b)))
 | .mul=>fun k a b=>some (.int k (uQ k (RO a b)))
 | .eql=>fun _ a b=>some (.bool (Ze a b))
 | .neq=>fun _ a b=>some (.bool (vB (Ze a b)))
 | .lss=>fun _ a b=>some (.bool (WS a b))
 | .leq=>fun _ a b=>some (.bool (vB (WS b a)))
 | .gtr=>fun _ a b=>some (.bool (WS b a))
 | .geq=>fun _ a b=>some (.bool (vB (WS a b)))
 | .quo=>fun k a b=>kD (fun x=>kD (fun y=>bc (Nat.beq y 0) none (some (.int k (uQ k (Int.ofNat (Nat.div x y)))))) (cP .quo k a b) b) (cP .quo k a b) a
 | .rem=>fun k a b=>kD (fun x=>kD (fun y=>bc (Nat.beq y 0) none (some (.int k (Int.ofNat (Nat.mod x y))))) (cP .rem k a b) b) (cP .rem k a b) a
 | .and=>fun k a b=>kD (fun x=>kD (fun y=>bc (Nat.ble (uA k) x) (cP .and k a b) (bc (Nat.ble (uA k) y) (cP .and k a b) (some (.int k (Int.ofNat (Nat.land x y)))))) (cP .and k a b) b) (cP .and k a b) a
 | .or=>fun k a b=>kD (fun x=>kD (fun y=>bc (Nat.ble (uA k) x) (cP .or k a b) (bc (Nat.ble (uA k) y) (cP .or k a b) (some (.int k (Int.ofNat (Nat.lor x y)))))) (cP .or k a b) b) (cP .or k a b) a
 | op=>fun k a b=>cP op k a b
noncomputable def RP (k:IntKind) (y:Nat):Nat:=bc (Nat.ble (RN k) y) (RN k) y
noncomputable def adE (k:IntKind) (a b:Int):Option AV:=kD (fun y=>some (.int k (uQ k (RO a (Int.ofNat (Nat.pow 2 (RP k y))))))) none b
noncomputable def adF (k:IntKind) (a b:Int):Option AV:=kD (fun y=>some (.int k (kD (fun x=>Int.ofNat (Nat.div x (Nat.pow 2 (RP k y)))) (a.fdiv (2^(min y k.bits))) a))) none b
section
variable {α:Type}
noncomputable def iR (l:List α):Nat:=List.rec (motive:=fun _=>Nat) 0 (fun _ _ ih=>Nat.add ih 1) l
noncomputable def iS (l:List α):Nat→Option α:=List.rec (motive:=fun _=>Nat→Option α) (fun _=>none) (fun v _ ih o=>bc (Nat.beq o 0) (some v) (ih (Nat.sub o 1))) l
noncomputable def sG (l:List α):Nat→List α:=List.rec (motive:=fun _=>Nat→List α) (fun _=> []) (fun v tl ih o=>bc (Nat.beq o 0) (v::tl) (ih (Nat.sub o 1))) l
noncomputable def sH (l:List α):Nat→List α:=List.rec (motive:=fun _=>Nat→List α) (fun _=> []) (fun v _ ih o=>bc (Nat.beq o 0) [] (v::ih (Nat.sub o 1))) l
noncomputable def kW (l m:List α):List α:=List.rec (motive:=fun _=>List α) m (fun v _ ih=>v::ih) l
noncomputable def yN (f:α→Bool) (l:List α):Bool:=List.rec (motive:=fun _=>Bool) true (fun v _ ih=>bc (f v) ih false) l
noncomputable def IP (vs:List α):List α→List α:=
 List.rec (motive:=fun _=>List α→List α) (fun cs=>cs) (fun v _ ih cs=>List.rec (motive:=fun _=>List α) [] (fun _ tl _=>v::ih tl) cs) vs
noncomputable def IQ (vs cs:List α):Nat→List α:=
 List.rec (motive:=fun _=>Nat→List α) (fun _=> []) (fun c tl ih o=>bc (Nat.beq o 0) (IP vs (c::tl)) (c::ih (Nat.sub o 1))) cs
noncomputable def leq (f:α→α→Bool) (l:List α):List α→Bool:=
 List.rec (motive:=fun _=>List α→Bool) (fun m=>List.rec (motive:=fun _=>Bool) true (fun _ _ _=>false) m)
  (fun x _ ih m=>List.rec (motive:=fun _=>Bool) false (fun y tl _=>bc (f x y) (ih tl) false) m) l
end
noncomputable def BT (a b:UInt8):Bool:=Nat.beq a.toBitVec.toFin.val b.toBitVec.toFin.val
noncomputable def WU (v:AV):Bool:=yL (fun _=>false) (fun _=>false) true v
noncomputable def lq (v:AV):List AV:=yL (fun cs=>cs) (fun _=> [v]) [v] v
end Go.Ab.Fa
end
section
namespace Go.Ab.Fa
section
variable {α β:Type}
noncomputable def AT (l:List Nat) (x:Nat):Bool:=List.rec (motive:=fun _=>Bool) false (fun y _ ih=>bc (Nat.beq x y) true ih) l
noncomputable def aaF (f:α→Bool) (l:List α):Bool:=List.rec (motive:=fun _=>Bool) false (fun v _ ih=>bc (f v) true ih) l
noncomputable def allI (f:α→Nat→Bool) (l:List α) (i:Nat):Bool:=List.rec (motive:=fun _=>Nat→Bool) (fun _=>true) (fun v _ ih i=>bc (f v i) (canon (Nat.add i 1) ih) false) l i
noncomputable def IS (f:α→Nat→Bool) (l:List α) (i:Nat):List Nat:=List.rec (motive:=fun _=>Nat→List Nat) (fun _=> []) (fun v _ ih i=>bc (f v i) (i::canon (Nat.add i 1) ih) (canon (Nat.add i 1) ih)) l i
noncomputable def Gj (f:α→Bool) (l:List α):Nat:=List.rec (motive:=fun _=>Nat) 0 (fun v _ ih=>bc (f v) (Nat.add ih 1) ih) l
noncomputable def Ll (f:α→Bool) (l:List α):Nat:=List.rec (motive:=fun _=>Nat) 0 (fun v _ ih=>bc (f v) (Nat.add ih 1) 0) l
noncomputable def BU (l:List α) (i:Nat) (d:α):α:=ob d (fun x=>x) (iS l i)
noncomputable def pD (l:List α):(List α→β)→β:=List.rec (motive:=fun _=>(List α→β)→β) (fun k=>k []) (fun x _ ih k=>ih fun tl=>k (x::tl)) l
theorem yO (l:List α) (k:List α→β):pD l k=k l:=by
 induction l generalizing k with
 | nil=>rfl
 | cons y tl ih=>show pD tl (fun tl=>k (y::tl))=_;rw[ih]
noncomputable def Lm (l:List α) (k:List α→β):β:=List.rec (motive:=fun _=>β) (k []) (fun x tl _=>k (x::tl)) l
theorem OZ (l:List α) (k:List α→β):Lm l k=k l:=by cases l<;>rfl
noncomputable def Gk (f:List β→α→List β) (l:List α) (b:List β):List β:=List.rec (motive:=fun _=>List β→List β) (fun b=>b) (fun v _ ih b=>Lm (f b v) ih) l b
theorem Eo (f:List β→α→List β) (l:List α) (b:List β):Gk f l b=l.foldl f b:=by
 induction l generalizing b with
 | nil=>rfl
 | cons y tl ih=>show Lm (f b y) (Gk f tl)=_;rw[OZ,ih];rfl
theorem sI (b:Bool) (x y:α):bc b x y=bif b then x else y:=by cases b<;>rfl
theorem AU (x y:Nat):(x==y)=Nat.beq x y:=by
 cases h:Nat.beq x y
 · rw[beq_eq_false_iff_ne];intro e;subst e;rw[Nat.beq_refl] at h;exact absurd h (by simp)
 · rw[Nat.eq_of_beq_eq_true h];simp
theorem tZ (l:List Nat) (x:Nat):AT l x=l.contains x:=by
 induction l with
 | nil=>rfl
 | cons y tl ih=>
   show bc (Nat.beq x y) true (AT tl x)=_
   rw[ih,sI,List.contains_cons,AU]
   cases Nat.beq x y<;>rfl
theorem WV (f:α→Bool) (l:List α):aaF f l=l.any f:=by
 induction l with
 | nil=>rfl
 | cons y tl ih=>show bc (f y) true (aaF f tl)=_;rw[ih,sI,List.any_cons];cases f y<;>rfl
theorem qS (f:α→Bool) (l:List α):yN f l=l.all f:=by
 induction l with
 | nil=>rfl
 | cons y tl ih=>show bc (f y) (yN f tl) false=_;rw[ih,sI,List.all_cons];cases f y<;>rfl
theorem Gl (f:α→Nat→Bool) (l:List α) (i:Nat):allI f l i=(l.zipIdx i).all fun p=>f p.1 p.2:=by
 induction l generalizing i with
 | nil=>rfl
 | cons y tl ih=>show bc (f y i) (canon (i+1) (allI f tl)) false=_;rw[kZ,ih,sI,List.zipIdx_cons,List.all_cons];cases f y i<;>rfl
theorem IT (f:α→Nat→Bool) (l:List α) (i:Nat):IS f l i=((l.zipIdx i).filter fun p=>f p.1 p.2).map (·.2):=by
 induction l generalizing i with
 | nil=>rfl
 | cons y tl ih=>
   show bc (f y i) (i::canon (i+1) (IS f tl)) (canon (i+1) (IS f tl))=_
   rw[kZ,ih,sI,List.zipIdx_cons,List.filter_cons];cases f y i<;>simp
theorem O0 (f:α→Bool) (l:List α):Gj f l=(l.filter f).length:=by
 induction l with
 | nil=>rfl
 | cons y tl ih=>show bc (f y) (Gj f tl+1) (Gj f tl)=_;rw[ih,sI,List.filter_cons];cases f y<;>simp
theorem O1 (f:α→Bool) (l:List α):Ll f l=(l.takeWhile f).length:=by
 induction l with
 | nil=>rfl
 | cons y tl ih=>show bc (f y) (Ll f tl+1) 0=_;rw[ih,sI,List.takeWhile_cons];cases f y<;>simp
theorem gV (l:List α) (i:Nat):iS l i=l[i]? :=by
 induction l generalizing i with
 | nil=>rfl
 | cons y tl ih=>
   show bc (Nat.beq i 0) (some y) (iS tl (i - 1))=_
   rw[ih,sI]
   cases i with
   | zero=>rfl
   | succ i=>rw[show Nat.beq (i+1) 0=false from rfl];simp
theorem wN (l:List α) (i:Nat) (d:α):BU l i d=l.getD i d:=by
 unfold BU;rw[gV,List.getD_eq_getElem?_getD];cases l[i]? <;>rfl
theorem fL (l:List α):iR l=l.length:=by
 induction l with
 | nil=>rfl
 | cons y tl ih=>show iR tl+1=_;rw[ih];rfl
theorem nH (l m:List α):kW l m=l++m:=by
 induction l with
 | nil=>rfl
 | cons y tl ih=>show y::kW tl m=_;rw[ih];rfl
end
noncomputable def zQ (p:Program) (t:TypeId):Option TypeInfo:=ob (p.info? t) (fun i=>some i) (iS p.types.toList t)
noncomputable def Zf (i:TypeInfo) (p:Program):Option TypeDesc:=TypeDesc.rec (motive:=fun _=>Option TypeDesc) (some i.desc) (some i.desc) (fun _=>some i.desc) (fun _=>some i.desc) (fun _=>some i.desc) (some i.desc) (some i.desc)
 (fun _=>some i.desc) (fun _=>some i.desc) (fun _ _=>some i.desc) (fun _ _=>some i.desc) (fun _ _=>some i.desc) (fun _=>some i.desc) (fun _ _ _=>some i.desc) (fun _=>some i.desc) (fun _=>some i.desc)
 (fun _ u=>ob none (fun j=>some j.desc) (zQ p u)) i.desc
noncomputable def jQ (p:Program) (t:TypeId):Option TypeDesc:=ob none (fun i=>Zf i p) (zQ p t)
theorem sJ (p:Program) (t:TypeId):zQ p t=p.info? t:=by
 unfold zQ;rw[gV,Array.getElem?_toList]
 cases h:p.types[t]? with
 | none=>rfl
 | some i=>
   show some i=p.info? t
   unfold Tables.info?
   obtain ⟨ke,_⟩:=Array.getElem?_eq_some_iff.mp h
   rw[if_pos ke,h]
theorem iI (p:Program) (t:TypeId):jQ p t=p.underlying t:=by
 unfold jQ Program.underlying
 rw[sJ]
 cases p.info? t with
 | none=>rfl
 | some i=>
   show Zf i p=_
   obtain ⟨d,_⟩:=i
   cases d with
   | named a u=>show ob none (fun j=>some j.desc) (zQ p u)=Option.map (fun x=>x.desc) (p.info? u);rw[sJ];cases p.info? u<;>rfl
   | _=>rfl
noncomputable def aaG (p:Program) (f:FuncId):Option Func:=iS p.funcs.toList f
theorem WW (p:Program) (f:FuncId):aaG p f=p.funcs[f]? :=by
 unfold aaG;rw[gV];exact Array.getElem?_toList
variable (E:Env)
noncomputable def pZ (op:Op):Bool:=match op with
 | .store .. | .mapUpdate .. | .insert .. | .mapEntry .. | .entryStore .. | .next .. | .panic _ | .defer _=>true
 | .convert _ dst _=>match jQ E.P dst with
   | some (.slice _)=>true
   | _=>false
 | .call c=>match c.callee with
   | .builtin .len | .builtin .cap | .builtin .max | .builtin .min=>false
   | .builtin _=>true
   | .value (.func f)=>match E.mn f with
     | none=>true
     | some _=>false
   | _=>true
 | _=>false
theorem sK (op:Op):pZ E op=fk E op:=by
 unfold pZ fk
 cases op<;>try rfl
 · simp only[iI]
   rename_i dst _
   generalize E.P.underlying dst=u
   cases u with
   | none=>rfl
   | some d=>cases d<;>rfl
 · rename_i c
   rcases c with ⟨cW,a,t⟩
   cases cW with
   | value x=>
     cases x with
     | func f=>simp only;cases E.mn f<;>rfl
     | _=>rfl
   | builtin b=>cases b<;>rfl
   | _=>rfl
noncomputable def Zg (g:Ground):Bool:=Ground.rec (motive:=fun _=>Bool) true true true true (fun _=>false) (fun _=>false) g
noncomputable def vC (o:Oper):List Nat:=List.rec (motive:=fun _=>List Nat) [] (fun e _ ih=>bc (Zg e.ground) (e.on::ih) ih) o.after.toList
theorem Ep (o:Oper):vC o=kt o:=by
 unfold vC kt
 induction o.after.toList with
 | nil=>rfl
 | cons e tl ih=>
   show bc (Zg e.ground) (e.on::_) _=_
   rw[ih,List.filter_cons]
   obtain ⟨on,g⟩:=e
   cases g<;>rfl
noncomputable def WX (l:List Nat) (x:Nat):List Nat:=bc (AT l x) l (x::l)
noncomputable def Nl (acc:List (List Nat)) (es:List Nat):List Nat:=Gk (fun l e=>Gk WX (BU acc e []) (WX l e)) es []
noncomputable def RQ (l:List Oper):List (List Nat)→List (List Nat):=List.rec (motive:=fun _=>List (List Nat)→List (List Nat)) (fun acc=>acc) (fun o _ ih acc=>pD (Nl acc (vC o)) fun a=>pD (kW acc [a]) ih) l
theorem Nn (l:List Nat) (x:Nat):WX l x=if l.contains x then l else x::l:=by
 unfold WX;rw[tZ,sI];cases l.contains x<;>rfl
theorem RR (acc:List (List Nat)) (o:Oper):Nl acc (vC o)=(kt o).foldl (fun l e=>(acc.getD e []).foldl (fun l x=>if l.contains x then l else x::l) (if l.contains e then l else e::l)) []:=by
 unfold Nl
 rw[Eo,Ep]
 congr 1
 funext l e
 rw[Eo,wN,Nn]
 congr 1
 funext l x
 exact Nn l x
theorem IU:∀(l:List Oper) (acc:List (List Nat)),RQ l acc=H_ l acc
 | [],_=>rfl
 | o::rest,acc=>by
   show pD (Nl acc (vC o)) (fun a=>pD (kW acc [a]) (RQ rest))=_
   rw[yO,yO,IU rest,nH,RR];rfl
noncomputable def oA (an:List (List Nat)) (i j:Nat):Bool:=AT (BU an i []) j
theorem p_ (an:List (List Nat)) (i j:Nat):oA an i j=dC an i j:=by
 unfold oA dC H';rw[tZ,wN]
noncomputable def BW (ops:List Oper) (an:List (List Nat)):Bool:=
 allI (fun o i=>bc (yN (fun e=>bc (Nat.ble (Nat.add e 1) i) (oA an i e) false) (vC o)) (yN (fun j=>bc (Nat.ble (Nat.add j 1) i) (aaF (fun e=>bc (Nat.beq e j) true (oA an e j)) (vC o)) false) (BU an i [])) false) ops 0
theorem t_ (a b:Nat):decide (a<b)=Nat.ble (a+1) b:=by
 by_cases h:a<b
 · rw[decide_eq_true h,Nat.ble_eq_true_of_le h]
 · rw[decide_eq_false h];symm;rw[Bool.eq_false_iff];intro e;exact h (Nat.le_of_ble_eq_true e)
theorem oB (a b:Bool):bc a b false=(a&&b):=by cases a<;>rfl
theorem Zh (a b:Bool):bc a true b=(a||b):=by cases a<;>rfl
theorem IV (ops:List Oper) (an:List (List Nat)):BW ops an=Bb ops an:=by
 unfold BW Bb
 rw[Gl]
 congr 1
 funext ⟨o,i⟩
 simp only[oB,Zh,qS,WV,wN,Ep,p_,t_,AU]
 rfl
noncomputable def aaH (l:List Operand):List Nat:=List.rec (motive:=fun _=>List Nat) [] (fun x _ ih=>Operand.rec (motive:=fun _=>List Nat) (fun t=>t::ih) (fun _=>ih) (fun _=>ih) (fun _=>ih) x) l
theorem WY (l:List Operand):aaH l=l.filterMap fun | .tmp t=>some t | _=>none:=by
 induction l with
 | nil=>rfl
 | cons x tl ih=>
   cases x<;>simp only[List.filterMap_cons,←ih]<;>rfl
noncomputable def opL (op:Op):List Operand:=match op with
 | .move x | .assign x | .box _ x | .load _ x | .nilCheck x | .unOp _ _ x | .convert _ _ x | .fieldAddr _ x _ | .field _ x _ | .extract x _=> [x]
 | .pick c a b=> [c,a,b]
 | .store _ a v | .binOp _ _ a v _ | .indexAddr _ a v | .index _ a v=> [a,v]
 | .alloc _=> []
 | .call c=>kW (match c.callee with | .value f=> [f] | .invoke r _=> [r] | .builtin _=> []) c.args.toList
 | op=>op.operands.toList
theorem aaI (op:Op):opL op=op.operands.toList:=by
 cases op<;>try rfl
 rename_i c
 obtain ⟨cW,a,t⟩:=c
 cases cW<;>simp [opL,Op.operands,Call.operands,nH]
noncomputable def BX (ops:List Oper) (an:List (List Nat)):Bool:=
 allI (fun o i=>bc (ob true (fun g=>bc (oA an i g.1) (ob false (fun p=>ob false (fun _=>true) p.dst) (iS ops g.1)) false) o.guard)
  (allI (fun p j=>bc (Nat.beq i j) true (ob true (fun d=>bc (ob true (fun a=>vB (Nat.beq a d)) o.dst) (bc (AT (aaH (opL o.op)) d) (bc (oA an i j) true (oA an j i)) true) false) p.dst)) ops 0) false) ops 0
theorem IW (ops:List Oper) (an:List (List Nat)):BX ops an=Bc ops an:=by
 unfold BX Bc
 rw[Gl]
 congr 1
 funext ⟨o,i⟩
 simp only[oB,Zh,p_]
 congr 1
 · obtain ⟨dst,op,ty,pos,after,guard⟩:=o
   cases guard with
   | none=>rfl
   | some g=>
     show (dC an i g.1&&ob false (fun p=>ob false (fun _=>true) p.dst) (iS ops g.1))=_
     rw[gV]
     congr 1
     cases ops[g.1]? with
     | none=>rfl
     | some p=>
       show ob false (fun _=>true) p.dst=(p.dst).isSome
       cases p.dst<;>rfl
 · rw[Gl]
   congr 1
   funext ⟨p,j⟩
   show (Nat.beq i j||_)=(i==j||_)
   rw[AU]
   congr 1
   obtain ⟨dst,op,ty,pos,after,guard⟩:=p
   cases dst with
   | none=>rfl
   | some d=>
     show (ob true (fun a=>vB (Nat.beq a d)) o.dst&&bc (AT (aaH (opL o.op)) d) (dC an i j||dC an j i) true)=(o.dst !=some d&&(!(tmpsOf o).contains d||dC an i j||dC an j i))
     congr 1
     · cases o.dst with
       | none=>rfl
       | some a=>
         show vB (Nat.beq a d)= !(some a==some d)
         rw[Option.some_beq_some,AU]
         cases Nat.beq a d<;>rfl
     · rw[tZ,WY,aaI,Bool.or_assoc]
       show bc ((tmpsOf o).contains d) _ _=_
       cases (tmpsOf o).contains d<;>rfl
noncomputable def Ln (an:List (List Nat)) (l:List Nat):Bool:=List.rec (motive:=fun _=>Bool) true (fun e rest ih=>List.rec (motive:=fun _=>Bool) true (fun f _ _=>bc (oA an f e) ih false) rest) l
theorem Er (an:List (List Nat)):∀l,Ln an l=tO an l
 | []=>rfl
 | [e]=>rfl
 | e::f::rest=>by
   show bc (oA an f e) (Ln an (f::rest)) false=_
   rw[Er an (f::rest),p_,oB];rfl
noncomputable def RS (ops:List Oper):List Nat:=IS (fun o _=>pZ E o.op) ops 0
theorem RU (ops:List Oper):RS E ops=na E ops:=by
 unfold RS na;rw[IT];simp only[sK]
noncomputable def Es (bR:List Nat) (an:List (List Nat)) (i:Nat):Nat:=Gj (fun e=>oA an i e) bR
theorem IX (bR:List Nat) (an:List (List Nat)) (i:Nat):Es bR an i=FL bR an i:=by
 unfold Es FL;rw[O0];simp only[p_]
noncomputable def Gm (ops:List Oper) (bR:List Nat) (an:List (List Nat)) (k:Nat):List Nat:=
 kW (IS (fun o i=>bc (pZ E o.op) false (Nat.beq (Es bR an i) k)) ops 0) (ob [] (fun x=> [x]) (iS bR k))
theorem O2 (ops:List Oper) (bR:List Nat) (an:List (List Nat)) (k:Nat):Gm E ops bR an k=group E ops bR an k:=by
 unfold Gm group
 rw[nH,IT,gV]
 congr 1
 · congr 1
   congr 1
   funext ⟨o,i⟩
   show bc (pZ E o.op) false (Nat.beq (Es bR an i) k)=(!fk E o.op&&(FL bR an i==k))
   rw[sK,IX,AU];cases fk E o.op<;>rfl
 · cases bR[k]? <;>rfl
noncomputable def Gn (ops:List Oper) (bR:List Nat) (an:List (List Nat)) (n:Nat):Nat→List Nat:=
 Nat.rec (motive:=fun _=>Nat→List Nat) (fun _=> []) (fun _ ih k=>kW (Gm E ops bR an k) (canon (Nat.add k 1) ih)) n
theorem BY (ops:List Oper) (bR:List Nat) (an:List (List Nat)):∀n k,Gn E ops bR an n k=oe E ops bR an n k
 | 0,_=>rfl
 | n+1,k=>by
   show kW (Gm E ops bR an k) (canon (k+1) (Gn E ops bR an n))=_
   rw[kZ,BY ops bR an n,nH,O2];rfl
noncomputable def Bg (bR:List Nat) (an:List (List Nat)) (i:Nat):Nat:=Ll (fun e=>vB (oA an e i)) bR
theorem Lp (bR:List Nat) (an:List (List Nat)) (i:Nat):Bg bR an i=j0 bR an i:=by
 unfold Bg j0;rw[O1];congr 2;funext e;rw[p_];cases dC an e i<;>rfl
noncomputable def Lq (n:Nat):List Nat→List Nat:=Nat.rec (motive:=fun _=>List Nat→List Nat) (fun l=>l) (fun m ih l=>ih (m::l)) n
theorem Et:∀n l,Lq n l=List.range.loop n l
 | 0,_=>rfl
 | n+1,l=>Et n (n::l)
noncomputable def Gp (ops:List Oper) (an:List (List Nat)) (bR:List Nat) (l:List Nat):List Nat→Nat→Bool:=
 List.rec (motive:=fun _=>List Nat→Nat→Bool) (fun seen k=>bc (yN (fun i=>AT seen i) (Lq (iR ops) [])) (Nat.beq k (iR bR)) false)
  (fun i _ ih seen k=>bc (Nat.ble (Nat.add i 1) (iR ops)) (bc (AT seen i) false (bc (yN (fun j=>AT seen j) (BU an i []))
   (bc (ob (pZ E (default:Oper).op) (fun o=>pZ E o.op) (iS ops i)) (bc (ob false (fun e=>Nat.beq e i) (iS bR k)) (canon (Nat.add k 1) (ih (i::seen))) false)
    (bc (Nat.beq (Es bR an i) k) (ih (i::seen) k) false)) false)) false) l
theorem yP (ops:Array Oper) (an:List (List Nat)) (bR:List Nat):∀l seen k,Gp E ops.toList an bR l seen k=ku E ops an bR l seen k
 | [],seen,k=>by
   show bc (yN (fun i=>AT seen i) (Lq (iR ops.toList) [])) (Nat.beq k (iR bR)) false=_
   rw[oB,qS,Et,fL,fL]
   simp only[tZ]
   unfold ku
   rw[AU,Array.length_toList]
   rfl
 | i::rest,seen,k=>by
   show bc (Nat.ble (i+1) (iR ops.toList)) (bc (AT seen i) false (bc (yN (fun j=>AT seen j) (BU an i []))
    (bc (ob (pZ E (default:Oper).op) (fun o=>pZ E o.op) (iS ops.toList i)) (bc (ob false (fun e=>Nat.beq e i) (iS bR k)) (canon (k+1) (Gp E ops.toList an bR rest (i::seen))) false)
     (bc (Nat.beq (Es bR an i) k) (Gp E ops.toList an bR rest (i::seen) k) false)) false)) false=_
   rw[kZ,yP ops an bR rest,yP ops an bR rest,qS,wN,tZ,IX,fL]
   simp only[tZ]
   rw[show ob (pZ E (default:Oper).op) (fun o=>pZ E o.op) (iS ops.toList i)=fk E ((ops.getD i default).op) by
    rw[gV,sK]
    rw[show ops.getD i default=(ops.toList[i]?).getD default by rw[Array.getElem?_toList,Array.getD_eq_getD_getElem?]]
    cases ops.toList[i]? with
    | none=>rfl
    | some o=>exact sK E o.op]
   rw[show ob false (fun e=>Nat.beq e i) (iS bR k)=(bR[k]? ==some i) by rw[gV];cases bR[k]? with
    | none=>rfl
    | some e=>rw[Option.some_beq_some,AU];rfl]
   rw[ku,t_]
   simp only[oB]
   rw[←AU (FL bR an i) k,show ops.toList.length=ops.size from Array.length_toList]
   rw[sI,sI]
   show (Nat.ble (i+1) ops.size&&(bif List.contains seen i then false else _))=_
   unfold H'
   cases Nat.ble (i+1) ops.size<;>cases List.contains seen i<;>cases (an.getD i []).all (fun j=>List.contains seen j)<;>cases fk E ((ops.getD i default).op)<;>rfl
noncomputable def nin (x:Nat) (l:List Nat):Bool:=List.rec (motive:=fun _=>Bool) true (fun y _ ih=>bc (Nat.beq x y) false ih) l
noncomputable def Gq (l:List Nat):Bool:=List.rec (motive:=fun _=>Bool) true (fun x tl ih=>bc (nin x tl) ih false) l
theorem aaJ (x:Nat) (l:List Nat):nin x l= !l.contains x:=by
 induction l with
 | nil=>rfl
 | cons y tl ih=>
   show bc (Nat.beq x y) false (nin x tl)=_
   rw[ih,List.contains_cons,AU]
   cases Nat.beq x y<;>rfl
theorem yQ:∀l,Gq l=nodup l
 | []=>rfl
 | x::tl=>by
   show bc (nin x tl) (Gq tl) false=_
   rw[yQ tl,aaJ,oB];rfl
noncomputable def RV {R:Type} (ops:Array Oper) (k:lY→R) (d:R):R:=
 pD ops.toList fun l=>pD (RQ l []) fun an=>pD (RS E l) fun bR=>pD (Gn E l bR an (Nat.add (iR bR) 1) 0) fun order=>
 bc (BW l an) (bc (BX l an) (bc (Ln an bR) (bc (Gq bR) (bc (Gp E l an bR order [] 0) (k ⟨an,bR,order⟩) d) d) d) d) d
theorem RW {R:Type} (ops:Array Oper) (k:lY→R) (d:R):RV E ops k d=match sh E ops with | some pl=>k pl | none=>d:=by
 unfold RV sh
 simp only[yO,IU,RU,BY,IV,IW,Er,yQ,yP,fL]
 generalize Bb ops.toList (H_ ops.toList [])=a
 generalize Bc ops.toList (H_ ops.toList [])=b
 generalize tO (H_ ops.toList []) (na E ops.toList)=c
 generalize nodup (na E ops.toList)=e
 show bc a (bc b (bc c (bc e (bc (ku E ops _ _ (oe E ops.toList _ _ ((na E ops.toList).length+1) 0) [] 0) _ d) d) d) d) d=_
 generalize ku E ops (H_ ops.toList []) (na E ops.toList) (oe E ops.toList (na E ops.toList) (H_ ops.toList []) ((na E ops.toList).length+1) 0) [] 0=f
 cases a<;>cases b<;>cases c<;>cases e<;>cases f<;>rfl
end Go.Ab.Fa
end
