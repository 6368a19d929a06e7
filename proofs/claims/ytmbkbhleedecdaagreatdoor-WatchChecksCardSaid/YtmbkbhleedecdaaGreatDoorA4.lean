import Derived.Test.YtmbkbhleedecdaaGreatDoorA3
import Derived.Test.YtmbkbhleedecdaaGreatDoorA0
set_option linter.unusedVariables false
set_option linter.unusedSimpArgs false
section
namespace Go.Ab
variable {E:Env}
def He (P:Program) (m:Machine) (b:Frame) (k:List Item) (cs:List Frame):Exit→Act→World→Prop
 | .normal,a,w=>Steps P m (lone (b.atR a k) cs w)
 | .exit id,a,w=>∃todo,exitTo id todo=exitTo id k∧Steps P m (lone (b.atR a (.code (.exit id)::todo)) cs w)
 | .ret,a,w=>∃todo,Steps P m (lone (b.atR a (.code .ret::todo)) cs w)
 | .panic chain,a,w=>∃todo,Steps P m (lone {b.atR a todo with mode:= .panicking chain} cs w)
 | _,_,_=>False
theorem He.of_steps {P:Program} {m m':Machine} {b:Frame} {k:List Item} {cs:List Frame} {e:Exit} {a:Act} {w:World} (hs:Steps P m m') (h:He P m' b k cs e a w):He P m b k cs e a w:=by
 cases e with
 | normal=>exact Steps.trans hs h
 | exit id=>obtain ⟨t,h1,h2⟩:=h;exact ⟨t,h1,Steps.trans hs h2⟩
 | ret=>obtain ⟨t,h2⟩:=h;exact ⟨t,Steps.trans hs h2⟩
 | panic c=>obtain ⟨t,h2⟩:=h;exact ⟨t,Steps.trans hs h2⟩
 | goto l=>exact h.elim
 | outgrown=>exact h.elim
theorem He.pass {P:Program} {m:Machine} {b:Frame} {x:Item} {k:List Item} {cs:List Frame} {e:Exit} {a:Act} {w:World} (hx:∀id,exitTo id (x::k)=exitTo id k) (hn:e≠ .normal) (h:He P m b (x::k) cs e a w):He P m b k cs e a w:=by
 cases e with
 | normal=>exact absurd rfl hn
 | exit id=>obtain ⟨t,h1,h2⟩:=h;exact ⟨t,h1.trans (hx id),h2⟩
 | ret=>exact h
 | panic c=>exact h
 | goto l=>exact h.elim
 | outgrown=>exact h.elim
structure qf (E:Env) (φ:Ph) (h:ax) (w:World) (b:Frame) (K:Bool→List Frame) (k:List Item) (m:Machine) (e:jY) (s':St):Prop where
 is:∃φ' w' a' e',WE φ' e e'∧SR φ' s'.ts s'.ds a'∧OK E φ' s'.h w'∧Fr φ h w φ' s'.h w'∧mP φ' b K s'.rc∧He E.P m b k (cur K s'.rc) e' a' w'
theorem qf.of_steps {φ:Ph} {h:ax} {w:World} {b:Frame} {K:Bool→List Frame} {k:List Item} {m m':Machine} {e:jY} {s':St} (hs:Steps E.P m m') (x:qf E φ h w b K k m' e s'):qf E φ h w b K k m e s':=by
 obtain ⟨φ',w',a',e',h1,h2,h3,h4,h5,h6⟩:=x.is
 exact ⟨φ',w',a',e',h1,h2,h3,h4,h5,.of_steps hs h6⟩
theorem qf.later {φ φ₁:Ph} {h h₁:ax} {w w₁:World} {b:Frame} {K:Bool→List Frame} {k:List Item} {m:Machine} {e:jY} {s':St} (f:Fr φ h w φ₁ h₁ w₁) (x:qf E φ₁ h₁ w₁ b K k m e s'):qf E φ h w b K k m e s':=by
 obtain ⟨φ',w',a',e',h1,h2,h3,h4,h5,h6⟩:=x.is
 exact ⟨φ',w',a',e',h1,h2,h3,f.trans h4,h5,h6⟩
theorem OK.made {φ:Ph} {h h':ax} {w:World} (ok:OK E φ h w) {o:aK} {O:Obj} (hn:h.new o=some h') (ho:OR E (φ.add h.nx ⟨w.heap.size,0,0⟩) o ⟨w.heap.size,0,0⟩ (some O)):
 OK E (φ.add h.nx ⟨w.heap.size,0,0⟩) h' (w.alloc O)∧Fr φ h w (φ.add h.nx ⟨w.heap.size,0,0⟩) h' (w.alloc O)∧φ.le (φ.add h.nx ⟨w.heap.size,0,0⟩):=
 ok.fresh (w':=w.alloc O) hn ⟨w.heap.size,0,0⟩ (by rw[show (w.alloc O).heap=w.heap.push O from rfl];simpa using ho)
  (fun c ea hc=>by rw[show (w.alloc O).heap=w.heap.push O from rfl,Array.getElem?_push,if_neg (by simpa using ea)]) (by simp) (Nat.le_refl _) rfl rfl rfl
theorem OK.WQ {φ:Ph} {h:ax} {w:World} (ok:OK E φ h w) {i:Nat} {o o':aK} {l:Loc} (hg:h.get i=some o) (C8:o.rw=true) (hl:φ i=some l) {O:Obj} (ho:OR E φ o' l (some O)):
 OK E φ (h.put i (some o')) (w.putObj l.dY O)∧Fr φ h w φ (h.put i (some o')) (w.putObj l.dY O):=by
 have lr:l.dY<w.heap.size:=by
  rcases Nat.lt_or_ge l.dY w.heap.size with h1 | h1
  · exact h1
  · have:=ok.live i o l hg hl
    rw[Array.getElem?_eq_none h1] at this
    exact this.absurd.elim
 exact ok.change hg C8 hl (by rw[World.putObj_heap_same lr];exact ho) (fun c hc=>World.putObj_heap_other hc) World.putObj_size rfl rfl rfl
theorem OK.shut {φ:Ph} {h:ax} {w:World} (ok:OK E φ h w) {i:Nat} {o:aK} {l:Loc} (hg:h.get i=some o) (C8:o.rw=true) (hl:φ i=some l) (O:Obj):
 OK E φ (h.put i none) (w.putObj l.dY O)∧Fr φ h w φ (h.put i none) (w.putObj l.dY O):=by
 have fG:∀j p,(h.put i none).get j=some p→h.get j=some p∧j≠i:=fun j p hj=>by
  by_cases e:i=j
  · subst e;rw[ax.cn] at hj;simp at hj
  · rw[ax.bP e] at hj;exact ⟨hj,Ne.symm e⟩
 refine ⟨⟨ok.zf,ok.nx,ok.uG,fun j p m hj hm=>?_,fun j k p q m n hj hk=>ok.inj j k p q m n (fG j p hj).1 (fG k q hk).1⟩,
  ⟨Ph.le_refl φ,fun _ _=>rfl,Nat.le_refl _,rfl,rfl,rfl,by simp,fun b _ hn=>World.putObj_heap_other (fun e=>hn i o l hg C8 hl e.symm),fun j p m hj hr hm=> .inr ⟨j,p,m,(fG j p hj).1,hr,hm,rfl⟩⟩⟩
 obtain ⟨oQ,ea⟩:=fG j p hj
 rw[World.putObj_heap_other (fun e=>ea (ok.inj j i p o m l oQ hg hm hl (.inr C8) e))]
 exact ok.live j p m oQ hm
theorem Hf {s:St} {dn:Nat} {h1:ax} {Wo:List ny} (ho:Oi s=some (dn,h1,Wo)) {φ:Ph} {a:Act} {w:World} {b:Frame} {K:Bool→List Frame} (hs:SR φ s.ts s.ds a) (ok:OK E φ s.h w) (gu:mP φ b K s.rc)
 (ps:Array Tmp) (as_ bd:Code):∃φ1 w1 ld mark,φ.le φ1∧OK E φ1 h1 w1∧Fr φ s.h w φ1 h1 w1∧φ1 dn=some ld∧SR φ1 s.ts Wo {a with defers:=mark++a.defers}∧
  (Instr.enterLoop b.fn a.tmps ps as_ bd b.roundOf).run E.P w= .ok (w1.heap.size,mark) (w1.alloc (.loop {state:= .ready,pending:=none,fn:=b.fn,tmps:=a.tmps,params:=ps,assign:=as_,body:=bd,defers:=ld.dY})):=by
 unfold Oi at ho
 split at ho
 · rename_i l hl
   split at ho
   · rename_i st pd ts rR v8 YO YP hg
     simp at ho;obtain ⟨rfl,rfl,rfl⟩:=ho
     rw[hl] at gu
     obtain ⟨ll,hφ,OG⟩:=gu
     obtain ⟨_,r,hr,yx⟩:=ok.live _ _ _ hg hφ
     obtain ⟨ld,hd1,WN⟩:=yx.defers
     refine ⟨φ,w,ld,[],Ph.le_refl φ,ok,Fr.refl _ _ _,hd1,⟨hs.ts,hs.ds⟩,?_⟩
     rw[OG,run_enterLoop_inner hr,WN]
   · simp at ho
 · rename_i C5
   split at ho
   · rename_i h1' hn
     simp at ho;obtain ⟨rfl,rfl,rfl⟩:=ho
     obtain ⟨Hc,Y1,hle⟩:=ok.made (O:= .deferred (some [])) hn ⟨rfl,rfl⟩
     have hI:(φ.add s.h.nx ⟨w.heap.size,0,0⟩) s.h.nx=some ⟨w.heap.size,0,0⟩:=by simp [Ph.add]
     refine ⟨_,_,⟨w.heap.size,0,0⟩,[{target:= .collected w.heap.size,args:= #[]}],hle,Hc,Y1,hI,⟨hs.ts.mono hle,⟨_,hI,rfl⟩,hs.ds.mono hle⟩,?_⟩
     rw[gu.plain (AW C5),run_enterLoop_outer]
     simp
   · simp at ho
theorem OU {c:Code} {e:jY} (h:Le (some c)=some e):(∃id,c= .exit id∧e= .exit id)∨(c= .ret∧e= .ret):=by
 cases c<;>simp [Le] at h
 · exact .inl ⟨_,rfl,h.symm⟩
 · exact .inr ⟨rfl,h.symm⟩
theorem EV {call:a_} (cN:hS E call) {f:Operand} {ps:Array Tmp} {as_ bd:Code} {s s':St} {e:jY} (h:mM E call f ps as_ bd s= .ok e s')
 {φ:Ph} {a:Act} {w:World} {b:Frame} {k:List Item} {K:Bool→List Frame} (hs:SR φ s.ts s.ds a) (ok:OK E φ s.h w) (gu:mP φ b K s.rc) (wa:(E.P.funcs[b.fn]?).isSome=true):
 qf E φ s.h w b K k (lone (b.atR a (.code (.rangeFunc f ps as_ bd)::k)) (cur K s.rc) w) e s':=by
 unfold mM at h
 split at h
 · rename_i g first captured hf
   split at h
   · rename_i dn h1 Wo ho
     split at h
     · rename_i h2 hn
       have hfv:=mN ok.gl hs.ts hf
       generalize kR:a.eval f=cv at hfv
       obtain ⟨S_,gN,rfl,hfs,hcs⟩:=hfv.AE
       obtain ⟨φ1,w1,ld,mark,ZM,Hc,Y1,hld,qQ,vn⟩:=Hf ho hs ok gu ps as_ bd
       obtain ⟨A2,WK,Tg⟩:=Hc.made (O:= .loop {state:= .ready,pending:=none,fn:=b.fn,tmps:=a.tmps,params:=ps,assign:=as_,body:=bd,defers:=ld.dY}) hn
        ⟨rfl,_,rfl,⟨rfl,rfl,hs.ts.mono (Ph.le_trans ZM (fun j m hm=>by
         unfold Ph.add;split
         · rename_i e;subst e;exact absurd (Hc.zf _ _ hm) (Nat.lt_irrefl _)
         · exact hm)),rfl,rfl,rfl,⟨ld,by
         unfold Ph.add;split
         · rename_i e;subst e;exact absurd (Hc.zf _ _ hld) (Nat.lt_irrefl _)
         · exact hld,rfl⟩,wa⟩⟩
       have hle:=Ph.le_trans ZM Tg
       have hI:(φ1.add h1.nx ⟨w1.heap.size,0,0⟩) h1.nx=some ⟨w1.heap.size,0,0⟩:=by simp [Ph.add]
       generalize hφ2:φ1.add h1.nx ⟨w1.heap.size,0,0⟩=φ2 at A2 WK Tg hle hI
       have hl:LR φ2 (first++[.sc h1.nx]++captured) (S_.toList++[.func (.yield w1.heap.size) #[] #[]]++gN.toList):=
        ((hfs.mono hle).append (.cons (.yield hI) (.nil φ2))).append (hcs.mono hle)
       have Dg:∀w',(resolve a.eval (rangeCall f w1.heap.size) 0).run E.P w'= .ok {target:= .fn (.func g) gN,args:=S_++ #[.func (.yield w1.heap.size) #[] #[]]} w':=fun w'=>by
        have aca:a.eval (.const (.func (.yield w1.heap.size) #[] #[]))= .func (.yield w1.heap.size) #[] #[]:=rfl
        simp [resolve,Deferred.ofValue,kR,aca]
       have start:∀n st,nI E φ2 (w1.alloc (.loop {state:= .ready,pending:=none,fn:=b.fn,tmps:=a.tmps,params:=ps,assign:=as_,body:=bd,defers:=ld.dY})) (.fn g) (S_.toList++[.func (.yield w1.heap.size) #[] #[]]++gN.toList) n st→
        step E.P (lone (b.atR a (.code (.rangeFunc f ps as_ bd)::k)) (cur K s.rc) w)= .next (lone st (b.atR {a with defers:=mark++a.defers} (.inRangeFunc w1.heap.size::k)::cur K s.rc)
         (w1.alloc (.loop {state:= .ready,pending:=none,fn:=b.fn,tmps:=a.tmps,params:=ps,assign:=as_,body:=bd,defers:=ld.dY}))):=fun n st hp=>by
        cases hp with
        | fn _ _ hr=>
          have hinv:(invoke (Target.fn (.func g) gN) (S_++ #[.func (.yield w1.heap.size) #[] #[]])).run E.P (w1.alloc (.loop {state:= .ready,pending:=none,fn:=b.fn,tmps:=a.tmps,params:=ps,assign:=as_,body:=bd,defers:=ld.dY}))=
           .ok (.enter g (S_.toList++[Value.func (.yield w1.heap.size) #[] #[]]++gN.toList).toArray) (w1.alloc (.loop {state:= .ready,pending:=none,fn:=b.fn,tmps:=a.tmps,params:=ps,assign:=as_,body:=bd,defers:=ld.dY})):=by
           have e:(S_.toList++[Value.func (.yield w1.heap.size) #[] #[]]++gN.toList).toArray=S_++ #[Value.func (.yield w1.heap.size) #[] #[]]++gN:=by
            apply Array.toList_inj.1;simp
           rw[e] at hr ⊢
           simpa [invoke] using hr
          exact stepR_rangeFunc vn (Dg _) hinv
       split at h
       ·
        rename_i v h3 hc
        obtain ⟨n,st,hp,gB⟩:=cN.ret _ _ _ _ _ hc φ2 _ _ A2 trivial hl
        obtain ⟨φ3,w3,v',_,ok3,SG,il⟩:=gB (b.atR {a with defers:=mark++a.defers} (.inRangeFunc w1.heap.size::k)) (cur K s.rc)
        rw[finish_atR_inRangeFunc] at il
        split at h
        · simp at h
        · rename_i st' iJ lZ rR v8 YO YP C5 hg
          split at h
          · rename_i e1 hj
            simp at h;obtain ⟨rfl,rfl⟩:=h
            have Th:=SG.ext _ _ hI
            obtain ⟨_,r,hr,yx⟩:=ok3.live _ _ _ hg Th
            have ZN:r.state≠ .busy:=by rw[yx.state];intro e;subst e;exact C5 rfl
            obtain ⟨ZO,fr4⟩:=ok3.WQ (o':= .loop .exhausted iJ lZ rR v8 YO YP) hg rfl Th (O:= .loop {r with state:= .exhausted}) ⟨rfl,_,rfl,⟨rfl,yx.pending,yx.tmps,yx.params,yx.assign,yx.body,yx.defers,yx.fn⟩⟩
            obtain ⟨W4,hW4⟩:∃W4,W4=w3.putObj w1.heap.size (.loop {r with state:= .exhausted}):=⟨_,rfl⟩
            have ZO:OK E φ3 (h3.put h1.nx (some (.loop .exhausted iJ lZ rR v8 YO YP))) W4:=by rw[hW4];exact ZO
            have fr4:Fr φ3 h3 w3 φ3 (h3.put h1.nx (some (.loop .exhausted iJ lZ rR v8 YO YP))) W4:=by rw[hW4];exact fr4
            have ZP:=stepR_endRangeFunc (P:=E.P) (b:=b) (a:={a with defers:=mark++a.defers}) (k:=k) (cs:=cur K s.rc) (run_endLoop hr ZN)
            rw[←hW4] at ZP
            have nf:=((Y1.trans WK).trans SG).trans fr4
            have iR:=Steps.trans (.head (start n st hp) il) (.one ZP)
            rw[yx.pending] at iR
            have WR:=Ph.le_trans Tg SG.ext
            have OV:=Ph.le_trans hle SG.ext
            cases iJ with
            | none=>
              simp [Le] at hj;subst hj
              exact ⟨φ3,_,_,_,.normal,qQ.mono WR,ZO,nf,gu.mono OV,iR⟩
            | some c=>
              rcases OU hj with ⟨id,rfl,rfl⟩ | ⟨rfl,rfl⟩
              · exact ⟨φ3,_,_,_,.exit id,qQ.mono WR,ZO,nf,gu.mono OV,k,rfl,iR⟩
              · exact ⟨φ3,_,_,_,.ret,qQ.mono WR,ZO,nf,gu.mono OV,k,iR⟩
          · simp at h
        · simp at h
       ·
        rename_i v h3 hc
        simp at h;obtain ⟨rfl,rfl⟩:=h
        obtain ⟨n,st,hp,gB⟩:=cN.panic _ _ _ _ _ hc φ2 _ _ A2 trivial hl
        obtain ⟨φ3,w3,v',hv,ok3,SG,il⟩:=gB (b.atR {a with defers:=mark++a.defers} (.inRangeFunc w1.heap.size::k)) (cur K s.rc)
        rw[Frame.raise_atR] at il
        exact ⟨φ3,w3,_,_,.panic v v' hv,qQ.mono (Ph.le_trans Tg SG.ext),ok3,(Y1.trans WK).trans SG,gu.mono (Ph.le_trans hle SG.ext),_,.head (start n st hp) il⟩
       · simp at h
     · simp at h
   · simp at h
 · simp at h
end Go.Ab
end
section
namespace Go.Ab
variable {E:Env}
theorem vu (hE:kn E) {call:a_} (cN:hS E call) {ops:Array Oper}:∀{l:List Oper} {is:List Nat} (_:is.length=l.length) (_:∀(j i:Nat),is[j]? =some i→l[j]? =ops[i]?) {s s':St} {e:jY} (_:j1 E call ops l s= .ok e s')
 {φ:Ph} {a:Act} {w:World} {b:Frame} {k:List Item} {K:Bool→List Frame} (_:SR φ s.ts s.ds a) (_:OK E φ s.h w) (_:mP φ b K s.rc),
 qf E φ s.h w b K k (lone (b.atR a (.inRegion ops is::k)) (cur K s.rc) w) e s'
 | [],is,hl,hi,s,s',e,h,φ,a,w,b,k,K,hs,ok,gu=>by
   cases is with
   | cons _ _=>simp at hl
   | nil=>
     simp [j1] at h;obtain ⟨rfl,rfl⟩:=h
     exact ⟨φ,w,a,_,.normal,hs,ok,Fr.refl _ _ _,gu,.one stepR_region_end⟩
 | o::l,is,hl,hi,s,s',e,h,φ,a,w,b,k,K,hs,ok,gu=>by
   cases is with
   | nil=>simp at hl
   | cons i is=>
     have ho:ops[i]? =some o:=by have:=hi 0 i (by simp);simpa using this.symm
     have SE:is.length=l.length:=by simpa using hl
     have Et:∀(j i':Nat),is[j]? =some i'→l[j]? =ops[i']? :=fun j i' hj=>by have:=hi (j+1) i' (by simpa using hj);simpa using this
     simp only[j1] at h
     have SF:=vo (ops:=ops) hs.ts o
     split at h
     · rename_i hw
       rw[←SF] at hw
       split at h
       · rename_i s1 p6
         obtain ⟨φ1,w1,a1,e1,x1,x2,x3,x4,x5,x6⟩:=(DF hE cN ho p6 hs ok gu hw (rest:=is) (k:=k)).is
         cases x1
         exact ((vu hE cN SE Et h x2 x3 x5).of_steps x6).later x4
       · rename_i ea
         obtain ⟨φ1,w1,a1,e1,x1,x2,x3,x4,x5,x6⟩:=(DF hE cN ho h hs ok gu hw (rest:=is) (k:=k)).is
         cases x1 with
         | normal=>exact (ea _ h).elim
         | exit=>exact x6.elim
         | ret=>exact x6.elim
         | panic v v' hv=>exact ⟨φ1,w1,a1,_,.panic v v' hv,x2,x3,x4,x5,x6⟩
     · rename_i hw
       have qO:SR φ (dB s.ts o.dst AV.undef) s.ds (a.put o.dst undef):=hs.put o.dst (VR.undef φ)
       refine (vu hE cN SE Et h qO ok gu).of_steps (.one ?_)
       have:=stepR_op_skip (P:=E.P) (b:=b) (a:=a) (k:=k) (cs:=cur K s.rc) (w:=w) (ops:=ops) (i:=i) (rest:=is) (by rw[ho];simp;rw[SF];simpa using hw)
       rw[this,ho];rfl
set_option maxHeartbeats 1000000 in
theorem vv (hE:kn E) {call:a_} (cN:hS E call):∀(n:Nat) (c:Code) {s s':St} {e:jY} (_:exec E call n c s= .ok e s')
 {φ:Ph} {a:Act} {w:World} {b:Frame} {k:List Item} {K:Bool→List Frame} (_:SR φ s.ts s.ds a) (_:OK E φ s.h w) (_:mP φ b K s.rc) (_:(E.P.funcs[b.fn]?).isSome=true),
 qf E φ s.h w b K k (lone (b.atR a (.code c::k)) (cur K s.rc) w) e s'∧∀c',c= .loop c'→qf E φ s.h w b K k (lone (b.atR a (.code c':: .inLoop c'::k)) (cur K s.rc) w) e s':=by
 intro n
 induction n with
 | zero=>intro c s s' e h;simp [exec] at h
 | succ n ih2=>
   have ih:∀(c:Code) {s s':St} {e:jY} (_:exec E call n c s= .ok e s')
    {φ:Ph} {a:Act} {w:World} {b:Frame} {k:List Item} {K:Bool→List Frame} (_:SR φ s.ts s.ds a) (_:OK E φ s.h w) (_:mP φ b K s.rc) (_:(E.P.funcs[b.fn]?).isSome=true),
    qf E φ s.h w b K k (lone (b.atR a (.code c::k)) (cur K s.rc) w) e s':=fun c _ _ _ h _ _ _ _ _ _ hs ok gu wa=>(ih2 c h hs ok gu wa).1
   intro c s s' e h φ a w b k K hs ok gu wa
   have Vt:∀c',c= .loop c'→qf E φ s.h w b K k (lone (b.atR a (.code c':: .inLoop c'::k)) (cur K s.rc) w) e s':=by
    rintro c rfl
    simp only[exec] at h
    split at h
    · rename_i s1 h1
      obtain ⟨φ1,w1,a1,e1,x1,x2,x3,x4,x5,x6⟩:=(ih c h1 hs ok gu wa (k:= .inLoop c::k)).is
      cases x1
      exact (((ih2 (.loop c) h x2 x3 x5 wa).2 c rfl).of_steps (Steps.trans x6 (.one stepR_inLoop))).later x4
    · rename_i ea
      obtain ⟨φ1,w1,a1,e1,x1,x2,x3,x4,x5,x6⟩:=(ih c h hs ok gu wa (k:= .inLoop c::k)).is
      refine ⟨φ1,w1,a1,e1,x1,x2,x3,x4,x5,.pass (x:= .inLoop c) (fun _=>rfl) ?_ x6⟩
      cases x1 with
      | normal=>exact (ea _ h).elim
      | exit=>simp
      | ret=>simp
      | panic=>simp
   refine ⟨?_,Vt⟩
   cases c with
   | skip=>simp [exec] at h;obtain ⟨rfl,rfl⟩:=h;exact ⟨φ,w,a,_,.normal,hs,ok,Fr.refl _ _ _,gu,.one stepR_skip⟩
   | label l=>simp [exec] at h;obtain ⟨rfl,rfl⟩:=h;exact ⟨φ,w,a,_,.normal,hs,ok,Fr.refl _ _ _,gu,.one stepR_label⟩
   | ret=>simp [exec] at h;obtain ⟨rfl,rfl⟩:=h;exact ⟨φ,w,a,_,.ret,hs,ok,Fr.refl _ _ _,gu,k,Steps.refl _ _⟩
   | exit id=>simp [exec] at h;obtain ⟨rfl,rfl⟩:=h;exact ⟨φ,w,a,_,.exit id,hs,ok,Fr.refl _ _ _,gu,k,rfl,Steps.refl _ _⟩
   | seq x y=>
     simp only[exec] at h
     split at h
     · rename_i s1 h1
       obtain ⟨φ1,w1,a1,e1,x1,x2,x3,x4,x5,x6⟩:=(ih x h1 hs ok gu wa (k:= .code y::k)).is
       cases x1
       exact ((ih y h x2 x3 x5 wa).of_steps (.head stepR_seq x6)).later x4
     · rename_i ea
       obtain ⟨φ1,w1,a1,e1,x1,x2,x3,x4,x5,x6⟩:=(ih x h hs ok gu wa (k:= .code y::k)).is
       refine ⟨φ1,w1,a1,e1,x1,x2,x3,x4,x5,.of_steps (.one stepR_seq) (.pass (x:= .code y) (fun _=>rfl) ?_ x6)⟩
       cases x1 with
       | normal=>exact (ea _ h).elim
       | exit=>simp
       | ret=>simp
       | panic=>simp
   | cond x y z=>
     simp only[exec] at h
     split at h
     · rename_i hx
       have h1:=mN ok.gl hs.ts hx
       generalize kR:a.eval x=cv at h1
       cases h1
       exact (ih y h hs ok gu wa).of_steps (.one (stepR_cond kR))
     · rename_i hx
       have h1:=mN ok.gl hs.ts hx
       generalize kR:a.eval x=cv at h1
       cases h1
       exact (ih z h hs ok gu wa).of_steps (.one (stepR_cond kR))
     · simp at h
   | block id c=>
     simp only[exec] at h
     split at h
     · rename_i N3 s1 h1
       obtain ⟨φ1,w1,a1,e1,x1,x2,x3,x4,x5,x6⟩:=(ih c h1 hs ok gu wa (k:= .inBlock id::k)).is
       cases x1
       split at h
       · rename_i hid
         simp at h;obtain ⟨rfl,rfl⟩:=h
         obtain ⟨todo,ht,il⟩:=x6
         exact ⟨φ1,w1,a1,_,.normal,x2,x3,x4,x5,.head stepR_block (Steps.trans il (.one (stepR_exit (by rw[ht];simp [exitTo,hid]))))⟩
       · rename_i hid
         simp at h;obtain ⟨rfl,rfl⟩:=h
         obtain ⟨todo,ht,il⟩:=x6
         refine ⟨φ1,w1,a1,_,.exit N3,x2,x3,x4,x5,todo,?_,.head stepR_block il⟩
         have:(id==N3)=false:=by simp;exact fun h=>hid h.symm
         rw[ht];simp [exitTo,this]
     · rename_i ea
       obtain ⟨φ1,w1,a1,e1,x1,x2,x3,x4,x5,x6⟩:=(ih c h hs ok gu wa (k:= .inBlock id::k)).is
       cases x1 with
       | normal=>exact ⟨φ1,w1,a1,_,.normal,x2,x3,x4,x5,.head stepR_block (Steps.trans x6 (.one stepR_inBlock))⟩
       | exit N3=>exact (ea _ _ h).elim
       | ret=>exact ⟨φ1,w1,a1,_,.ret,x2,x3,x4,x5,.of_steps (e:= .ret) (k:=k) (.one stepR_block) x6⟩
       | panic v v' hv=>exact ⟨φ1,w1,a1,_,.panic v v' hv,x2,x3,x4,x5,.of_steps (e:= .panic _) (k:=k) (.one stepR_block) x6⟩
   | loop c=>exact (Vt c rfl).of_steps (.one stepR_loop)
   | region id ops draw=>
     simp only[exec] at h
     cases draw with
     | false=>
       have p6:=vu hE cN (ops:=ops) (l:=ops.toList) (is:=List.range ops.size) (by simp) (fun j i hj=>by
        have:=List.getElem?_eq_some_iff.1 hj
        obtain ⟨h1,h2⟩:=this
        simp at h1 h2;subst h2;simp) h hs ok gu (b:=b) (k:=k)
       exact p6.of_steps (.one stepR_region)
     | true=>
       obtain ⟨h1,h2,⟨rfl,φ',a',w',x1,x2,x3,x4,x5⟩ | ⟨v,rfl,hp⟩⟩:=Hd hE hE.mixed cN h hs ok gu (b:=b) (k:=k) id
       · refine ⟨φ',w',a',_,.normal,⟨x1,by rw[h2,x2];exact hs.ds.mono x4.ext⟩,x3,x4,by rw[h1];exact gu.mono x4.ext,?_⟩
         rw[h1];exact x5
       · obtain ⟨φ',a',w',v',todo,x0,x1,x2,x3,x4,x5⟩:=hp.is
         refine ⟨φ',w',a',_,.panic v v' x0,⟨x1,by rw[h2,x2];exact hs.ds.mono x4.ext⟩,x3,x4,by rw[h1];exact gu.mono x4.ext,todo,?_⟩
         rw[h1];exact x5
   | rangeFunc f ps a1 b1=>
     simp only[exec] at h
     exact EV cN h hs ok gu wa
   | scope c=>
     simp only[exec] at h
     have s1:∀{m},Steps E.P (lone (b.atR a (.code c:: .inScope c::k)) (cur K s.rc) w) m→Steps E.P (lone (b.atR a (.code (.scope c)::k)) (cur K s.rc) w) m:=fun q=> .head (step_lone_go (by simp [stepG,stepG.exec,Frame.atR])) q
     obtain ⟨φ1,w1,a1,e1,x1,x2,x3,x4,x5,x6⟩:=(ih c h hs ok gu wa (k:= .inScope c::k)).is
     cases x1 with
     | normal=>exact ⟨φ1,w1,a1,_,.normal,x2,x3,x4,x5,s1 (Steps.trans x6 (.one (step_lone_go (by simp [stepG,stepG.exec,Frame.atR]))))⟩
     | exit N3=>exact ⟨φ1,w1,a1,_,.exit N3,x2,x3,x4,x5,.of_steps (e:= .exit N3) (k:=k) (s1 (Steps.refl _ _)) (.pass (x:= .inScope c) (fun _=>rfl) (by simp) x6)⟩
     | ret=>exact ⟨φ1,w1,a1,_,.ret,x2,x3,x4,x5,.of_steps (e:= .ret) (k:=k) (s1 (Steps.refl _ _)) (.pass (x:= .inScope c) (fun _=>rfl) (by simp) x6)⟩
     | panic v v' hv=>exact ⟨φ1,w1,a1,_,.panic v v' hv,x2,x3,x4,x5,.of_steps (e:= .panic _) (k:=k) (s1 (Steps.refl _ _)) (.pass (x:= .inScope c) (fun _=>rfl) (by simp) x6)⟩
   | goto l=>simp [exec] at h
   | refuse why=>simp [exec] at h
end Go.Ab
end
section
namespace Go.Ab
variable {E:Env}
theorem Hg {φ:Ph} {h:ax} {w:World} (ok:OK E φ h w) {ts:List AV} {tmps:Array Value} (ht:LR φ ts tmps.toList):∀{l:List ResultVar} {vs:List AV} (_:ky E h ts l=some vs),
 ∃qG,LR φ vs qG∧(l.mapM (fun | .tmp t=>pure (tmps.getD t undef) | .cell a t=>do loadVar t (←asAddr (tmps.getD a undef)):ResultVar→Sem Value)).run E.P w= .ok qG w
 | [],vs,h=>by simp [ky] at h;subst h;exact ⟨[],LR.nil φ,rfl⟩
 | r::rest,vs,h=>by
   have fG:∀t,VR φ (ts.getD t AV.undef) (tmps.getD t undef):=fun t=>by
    have:=ht.getD (VR.undef φ) t
    rw[show tmps.getD t undef=tmps.toList.getD t undef by simp [Array.getD_eq_getD_getElem?,List.getD]]
    exact this
   simp only[ky] at h
   split at h
   · simp at h
   · rename_i v hv
     split at h
     · simp at h
     · rename_i vs0 Jz
       simp at h;subst h
       obtain ⟨qG,hl,hr⟩:=Hg ok ht Jz
       cases r with
       | tmp t=>
         simp at hv;subst hv
         refine ⟨tmps.getD t undef::qG,.cons (by simpa using fG t) hl,?_⟩
         simp only[List.mapM_cons,Sem.run_bind,Sem.run_pure,Result.andThen_ok,hr]
       | cell ad t=>
         simp only at hv
         obtain ⟨x',hx,gB⟩:=DC ok (fG ad) hv
         refine ⟨x'::qG,.cons hx hl,?_⟩
         have hr0:=gB w rfl
         have:(do loadVar t (←asAddr (tmps.getD ad undef)):Sem Value).run E.P w= .ok x' w:=by
          have MV:=fG ad
          unfold bS at hv
          split at hv
          · rename_i i o heq
            rw[heq] at MV
            generalize hq:tmps.getD ad undef=q at MV hr0
            cases MV
            simpa [Instr.loadAt,Instr.sureAddr,asAddr] using hr0
          · simp at hv
         simp only[List.mapM_cons]
         rw[Sem.run_bind,this]
         simp only[Sem.run_bind,Sem.run_pure,Result.andThen_ok,hr]
theorem sv {φ:Ph} {h:ax} {w:World} (ok:OK E φ h w) {ts:List AV} {tmps:Array Value} (ht:LR φ ts tmps.toList) {fn:Func} {vs:List AV} (hv:ky E h ts fn.results.toList=some vs):
 ∃v',VR φ (gP vs) v'∧(results fn tmps).run E.P w= .ok v' w:=by
 obtain ⟨qG,hl,hr⟩:=Hg ok ht hv
 have hm:(fn.results.mapM (fun | .tmp t=>pure (tmps.getD t undef) | .cell a t=>do loadVar t (←asAddr (tmps.getD a undef)):ResultVar→Sem Value)).run E.P w= .ok qG.toArray w:=by
  rw[Array.mapM_eq_mapM_toList]
  show Sem.run E.P (Functor.map List.toArray (_:Sem (List Value))) w=_
  rw[Sem.run_map]
  refine (congrArg (fun r=>Result.andThen r _) hr).trans ?_
  rfl
 refine ⟨if h:qG.toArray.size=1 then qG.toArray[0] else .tuple qG.toArray,?_,?_⟩
 · cases vs with
   | nil=>rw[hl.gH];exact VR.tuple' (LR.nil φ)
   | cons v vs=>
     obtain ⟨y,ys,rfl,hy,uH⟩:=hl.b4
     cases vs with
     | nil=>rw[uH.gH];simpa [gP] using hy
     | cons v2 vs2=>
       obtain ⟨y2,ys2,rfl,hy2,acb⟩:=uH.b4
       have:¬(y::y2::ys2).toArray.size=1:=by simp
       rw[dif_neg this]
       exact VR.tuple' (.cons hy (.cons hy2 acb))
 · unfold results
   rw[Sem.run_bind]
   refine (congrArg (fun r=>Result.andThen r _) hm).trans ?_
   rfl
def bare (f:FuncId) (kind:CallKind):Frame:={fn:=f,tmps:= #[],todo:=[],defers:=[],mode:= .run,kind:=kind,roundOf:=none}
theorem OW {P:Program} {f:FuncId} {fn:Func} {c:Code} (hf:P.funcs[f]? =some fn) (hb:fn.body=some c) (vs:List Value) (kind:CallKind):
 Frame.enter P f vs.toArray kind=(bare f kind).atR {tmps:=vs.toArray++Array.replicate (fn.ntmps - vs.length) undef,defers:=[]} [.code c]:=by
 simp [Frame.enter,Frame.atR,hf,hb,bare]
theorem sw (hE:kn E) {call:a_} (cN:hS E call) {fuel:Nat} {f:FuncId} {fn:Func} {c:Code} (hf:E.P.funcs[f]? =some fn) (hb:fn.body=some c) {args:List AV} {h:ax} {rc:RC} {e:jY} {s':St}
 (fX:mW E call fuel fn c args h rc= .ok e s') {φ:Ph} {w:World} {vs:List Value} (ok:OK E φ h w) (hl:LR φ args vs) {kind:CallKind} {K:Bool→List Frame} (gu:mP φ (bare f kind) K rc):
 qf E φ h w (bare f kind) K [] (lone (Frame.enter E.P f vs.toArray kind) (cur K rc) w) e s':=by
 rw[OW hf hb]
 refine (vv hE cN fuel c (s:={ts:=args++List.replicate (fn.ntmps - args.length) AV.undef,h,ds:=[],rc}) fX (a:={tmps:=vs.toArray++Array.replicate (fn.ntmps - vs.length) undef,defers:=[]}) (b:=bare f kind) (k:=[]) ⟨?_,trivial⟩ ok gu (by show (E.P.funcs[f]?).isSome=true;rw[hf];rfl)).1
 have:=hl.append (LR.replicate (VR.undef φ) (fn.ntmps - args.length))
 rw[hl.1] at this
 simpa [hl.1] using this
theorem enters {E:Env} (hE:kn E) {f:FuncId} {fn:Func} {c:Code} (hf:E.P.funcs[f]? =some fn) (hb:fn.body=some c) (vs:Array Value) (w:World):(callFunc f vs).run E.P w= .ok (.enter f vs) w:=by
 have hn:=hE.names f fn hf
 have:(fn.name== "runtime.NumGoroutine")=false:=by rw[beq_eq_false_iff_ne];exact hn
 simp only[callFunc,Sem.run_bind,run_program,Result.andThen_ok,hf,this,Bool.false_eq_true,if_false,hb,Option.isNone_some,Sem.run_pure]
noncomputable def hB (E:Env) (call:a_) (fuel:Nat) (g:FuncId) (as_:List AV) (h:ax) (rc:RC):Option (ax×RC):=match E.P.funcs[g]? with
 | none=>none
 | some fg=>match fg.body with
   | none=>none
   | some bg=>match mW E call fuel fg bg as_ h rc with
     | .ok .normal s'=>if s'.ds.isEmpty&&(ky E s'.h s'.ts fg.results.toList).isSome then some (s'.h,s'.rc) else none
     | .ok .ret s'=>if s'.ds.isEmpty&&(ky E s'.h s'.ts fg.results.toList).isSome then some (s'.h,s'.rc) else none
     | _=>none
theorem sx {φ:Ph} {ds:List Deferred} (h:Vh φ [] ds):ds=[]:=by cases ds with | nil=>rfl | cons _ _=>exact h.elim
def qV (c:Bool→Frame):RC→Frame
 | .done=>{c true with mode:=settle (c true).mode}
 | _=>{c false with mode:=settle (c false).mode}
theorem sy (hE:kn E) {call:a_} (cN:hS E call) {fuel:Nat} {g:FuncId} {as_:List AV} {h h':ax} {rc Ti:RC} (hd:hB E call fuel g as_ h rc=some (h',Ti)) {φ:Ph} {w:World} {vs:List Value}
 (ok:OK E φ h w) (hl:LR φ as_ vs) {c:Bool→Frame} {cs:List Frame} (gu:mP φ (bare g .deferred) (fun x=>c x::cs) rc):
 ∃φ' w',OK E φ' h' w'∧Fr φ h w φ' h' w'∧mP φ' (bare g .deferred) (fun x=>c x::cs) Ti∧(callFunc g vs.toArray).run E.P w= .ok (.enter g vs.toArray) w∧
  Steps E.P (lone (Frame.enter E.P g vs.toArray .deferred) (cur (fun x=>c x::cs) rc) w)
   (lone (qV c Ti) cs w'):=by
 unfold hB at hd
 split at hd
 · simp at hd
 rename_i fg hf
 split at hd
 · simp at hd
 rename_i bg hb
 have key:∀(s':St) (e:jY),(e= .normal∨e= .ret)→mW E call fuel fg bg as_ h rc= .ok e s'→s'.ds.isEmpty=true→(ky E s'.h s'.ts fg.results.toList).isSome=true→s'.h=h'→s'.rc=Ti→
  ∃φ' w',OK E φ' h' w'∧Fr φ h w φ' h' w'∧mP φ' (bare g .deferred) (fun x=>c x::cs) Ti∧(callFunc g vs.toArray).run E.P w= .ok (.enter g vs.toArray) w∧
  Steps E.P (lone (Frame.enter E.P g vs.toArray .deferred) (cur (fun x=>c x::cs) rc) w)
   (lone (qV c Ti) cs w'):=by
  intro s' e he fX JM Dg hh hr
  subst hh;subst hr
  obtain ⟨φ',w',a',e',x1,x2,x3,x4,x5,x6⟩:=(sw hE cN hf hb fX ok hl (kind:= .deferred) gu).is
  refine ⟨φ',w',x3,x4,x5,enters hE hf hb _ w,?_⟩
  obtain ⟨qG,acd⟩:=Option.isSome_iff_exists.1 Dg
  obtain ⟨v',_,gB⟩:=sv x3 x2.ts acd
  have hdn:a'.defers=[]:=sx (by have:=x2.ds;rw[List.isEmpty_iff.1 JM] at this;exact this)
  have fin:∀todo,step E.P (lone {(bare g .deferred).atR a' todo with mode:= .returning} (cur (fun x=>c x::cs) s'.rc) w')=
   .next (lone (qV c s'.rc) cs w'):=fun todo=>by
   have zk:({(bare g .deferred).atR a' todo with mode:= .returning}:Frame).going E.P w' (.returned v'):=⟨rfl,hdn,fg,hf,gB⟩
   have hk:({(bare g .deferred).atR a' todo with mode:= .returning}:Frame).kind= .deferred:=rfl
   cases aeb:s'.rc with
   | no=>exact step_going_returned (c:=c false) (cs:=cs) hk zk
   | iJ v=>exact step_going_returned (c:=c false) (cs:=cs) hk zk
   | done=>exact step_going_returned (c:=c true) (cs:=cs) hk zk
   | Gp l=>exact step_going_returned (c:=c false) (cs:=cs) hk zk
  rcases he with rfl | rfl
  · cases x1
    exact Steps.trans x6 (.head (stepR_end rfl) (.one (fin [])))
  · cases x1
    obtain ⟨todo,hs⟩:=x6
    exact Steps.trans hs (.head (stepR_ret rfl) (.one (fin _)))
 split at hd
 · rename_i s' fX
   split at hd
   · rename_i hc
     simp at hd;obtain ⟨rfl,rfl⟩:=hd
     simp only[Bool.and_eq_true] at hc
     exact key s' .normal (.inl rfl) fX hc.1 hc.2 rfl rfl
   · simp at hd
 · rename_i s' fX
   split at hd
   · rename_i hc
     simp at hd;obtain ⟨rfl,rfl⟩:=hd
     simp only[Bool.and_eq_true] at hc
     exact key s' .ret (.inr rfl) fX hc.1 hc.2 rfl rfl
   · simp at hd
 · simp at hd
theorem jL (hE:kn E) {call:a_} (cN:hS E call) {fuel:Nat}:∀(ds:List ny) {p p':Option AV} {h h':ax} (_:cS (hB E call fuel) ds p h=some (p',h')) {φ:Ph} {w:World} {fr:Frame} {cs:List Frame}
 (_:OK E φ h w) (_:Vh φ ds fr.defers) (_:(p=none∧fr.mode= .returning)∨∃v v',p=some v∧VR φ v v'∧fr.mode= .panicking [{v:=v',recovered:=false}]),
 ∃φ' w' m',OK E φ' h' w'∧Fr φ h w φ' h' w'∧((p'=none∧m'= .returning)∨∃v v',p'=some v∧VR φ' v v'∧m'= .panicking [{v:=v',recovered:=false}])∧
  Steps E.P (lone fr cs w) (lone {fr with defers:=[],mode:=m'} cs w')
 | [],p,p',h,h',hu,φ,w,fr,cs,ok,JM,hp=>by
   simp [cS] at hu;obtain ⟨rfl,rfl⟩:=hu
   have:=sx JM
   refine ⟨φ,w,fr.mode,ok,Fr.refl _ _ _,?_,?_⟩
   · exact hp
   · rw[←this];exact Steps.refl _ _
 | .YN r::ds,p,p',h,h',hu,φ,w,fr,cs,ok,JM,hp=>by
   cases WS:fr.defers with
   | nil=>rw[WS] at JM;exact JM.elim
   | cons d' yq=>
   rw[WS] at JM
   obtain ⟨⟨l,hl,Tj⟩,OX⟩:=JM
   have OY:fr.mode≠ .run:=by
    rcases hp with ⟨_,hm⟩ | ⟨v,v',_,_,hm⟩<;>rw[hm]<;>simp
   simp only[cS] at hu
   split at hu
   · rename_i hg
     obtain ⟨_,hb⟩:=ok.live _ _ _ hg hl
     obtain ⟨Hc,f1⟩:=ok.shut hg rfl hl (.deferred none)
     have N8:=step_collected (P:=E.P) (cs:=cs) OY WS Tj (run_takeDeferred hb)
     obtain ⟨φ2,w2,m2,A2,f2,OZ,JN⟩:=jL hE cN ds hu (fr:={fr with defers:=[]++yq}) (cs:=cs) Hc (by simpa using OX) hp
     exact ⟨φ2,w2,m2,A2,f1.trans f2,OZ,.head N8 JN⟩
   · simp at hu
 | .call df adH::ds,p,p',h,h',hu,φ,w,fr,cs,ok,JM,hp=>by
   cases WS:fr.defers with
   | nil=>rw[WS] at JM;exact JM.elim
   | cons d' yq=>
   rw[WS] at JM
   obtain ⟨⟨cap,Tj,AO⟩,OX⟩:=JM
   have OY:fr.mode≠ .run:=by
    rcases hp with ⟨_,hm⟩ | ⟨v,v',_,_,hm⟩<;>rw[hm]<;>simp
   have hinv:∀(N9:(callFunc df (d'.args++cap).toList.toArray).run E.P w= .ok (.enter df (d'.args++cap).toList.toArray) w),(invoke d'.target d'.args).run E.P w= .ok (.enter df (d'.args++cap).toList.toArray) w:=fun N9=>by
    have e:(d'.args++cap).toList.toArray=d'.args++cap:=Array.toArray_toList ..
    rw[e] at N9 ⊢
    rw[Tj];exact N9
   have N8:∀(N9:(callFunc df (d'.args++cap).toList.toArray).run E.P w= .ok (.enter df (d'.args++cap).toList.toArray) w),step E.P (lone fr cs w)= .next (lone (Frame.enter E.P df (d'.args++cap).toList.toArray .deferred) ({fr with defers:=yq}::cs) w):=fun N9=>step_defer OY WS Tj (hinv N9)
   cases p with
   | none=>
     simp only[cS] at hu
     split at hu
     · rename_i h1 rc1 ZQ
       have hm:fr.mode= .returning:=by
        rcases hp with ⟨_,hm⟩ | ⟨v,v',e,_,_⟩
        · exact hm
        · simp at e
       obtain ⟨φ1,w1,Hc,f1,_,N9,il⟩:=sy hE cN ZQ ok AO (c:=fun _=>{fr with defers:=yq}) (cs:=cs) ⟨rfl,fun Jd hk=>by simp [tryRecover,show Jd.kind= .deferred from hk,hm]⟩
       have rU:qV (fun _=>{fr with defers:=yq}) rc1={fr with defers:=yq}:=by
        cases rc1<;>simp [qV,hm,settle]
       rw[rU] at il
       obtain ⟨φ2,w2,m2,A2,f2,OZ,JN⟩:=jL hE cN ds hu (fr:={fr with defers:=yq}) (cs:=cs) Hc (OX.mono f1.ext) (.inl ⟨rfl,hm⟩)
       exact ⟨φ2,w2,m2,A2,f1.trans f2,OZ,.head (N8 N9) (Steps.trans il JN)⟩
     · simp at hu
   | some v=>
     obtain ⟨v',hv,hm⟩:∃v',VR φ v v'∧fr.mode= .panicking [{v:=v',recovered:=false}]:=by
      rcases hp with ⟨e,_⟩ | ⟨v1,v',e,hv,hm⟩
      · simp at e
      · simp at e;subst e;exact ⟨v',hv,hm⟩
     have gu:mP φ (bare df .deferred) (fun x=>(if x then {fr with defers:=yq,mode:= .panicking [{v:=v',recovered:=true}]} else {fr with defers:=yq})::cs) (.iJ v):=
      ⟨rfl,⟨v',hv,fun Jd hk=>by simp [tryRecover,show Jd.kind= .deferred from hk,hm]⟩,fun Jd hk=>by simp [tryRecover,show Jd.kind= .deferred from hk]⟩
     simp only[cS] at hu
     split at hu
     · rename_i h1 v1 ZQ
       obtain ⟨φ1,w1,Hc,f1,_,N9,il⟩:=sy hE cN ZQ ok AO (c:=fun x=>if x then {fr with defers:=yq,mode:= .panicking [{v:=v',recovered:=true}]} else {fr with defers:=yq}) (cs:=cs) gu
       have rU:qV (fun x=>if x then {fr with defers:=yq,mode:= .panicking [{v:=v',recovered:=true}]} else {fr with defers:=yq}) (.iJ v1)={fr with defers:=yq}:=by simp [qV,hm,settle]
       rw[rU] at il
       simp only[Bool.false_eq_true,if_false,cur] at il
       obtain ⟨φ2,w2,m2,A2,f2,OZ,JN⟩:=jL hE cN ds hu (fr:={fr with defers:=yq}) (cs:=cs) Hc (OX.mono f1.ext) (.inr ⟨v,v',rfl,hv.mono f1.ext,hm⟩)
       exact ⟨φ2,w2,m2,A2,f1.trans f2,OZ,.head (N8 N9) (Steps.trans il JN)⟩
     · rename_i h1 ZQ
       obtain ⟨φ1,w1,Hc,f1,_,N9,il⟩:=sy hE cN ZQ ok AO (c:=fun x=>if x then {fr with defers:=yq,mode:= .panicking [{v:=v',recovered:=true}]} else {fr with defers:=yq}) (cs:=cs) gu
       have rU:qV (fun x=>if x then {fr with defers:=yq,mode:= .panicking [{v:=v',recovered:=true}]} else {fr with defers:=yq}) .done={fr with defers:=yq,mode:= .returning}:=by simp [qV,settle]
       rw[rU] at il
       simp only[Bool.false_eq_true,if_false,cur] at il
       obtain ⟨φ2,w2,m2,A2,f2,OZ,JN⟩:=jL hE cN ds hu (fr:={fr with defers:=yq,mode:= .returning}) (cs:=cs) Hc (OX.mono f1.ext) (.inl ⟨rfl,rfl⟩)
       exact ⟨φ2,w2,m2,A2,f1.trans f2,OZ,.head (N8 N9) (Steps.trans il JN)⟩
     · simp at hu
theorem Hh (hE:kn E) (fuel d:Nat) (ih:hS E (gA E d fuel)):(∀f args h v h',gA E (d+1) fuel (.fn f) args h= .ret v h'→jZ E f args h v h')∧(∀f args h v h',gA E (d+1) fuel (.fn f) args h= .panic v h'→Lj E f args h v h'):=by
 have key:∀(f:FuncId) (args:List AV) (h:ax) (out:iQ),gA E (d+1) fuel (.fn f) args h=out→(∀why q,out≠ .fail why q)→
  ∃fn c e s p,E.P.funcs[f]? =some fn∧fn.body=some c∧mW E (gA E d fuel) fuel fn c args h .no= .ok e s∧
   ((p=none∧(e= .normal∨e= .ret))∨∃v,p=some v∧e= .panic v)∧
   ((∃v h',out= .panic v h'∧cS (hB E (gA E d fuel) fuel) s.ds p s.h=some (some v,h'))∨
    ∃vs h',out= .ret (gP vs) h'∧cS (hB E (gA E d fuel) fuel) s.ds p s.h=some (none,h')∧ky E h' s.ts fn.results.toList=some vs):=by
  intro f args h out e ea
  simp only[gA] at e
  split at e
  · exact absurd e.symm (ea _ _)
  rename_i fn hf
  split at e
  · exact absurd e.symm (ea _ _)
  rename_i c hb
  have fin:∀(p:Option AV) (s:St),(match cS (hB E (gA E d fuel) fuel) s.ds p s.h with
   | none=>iQ.fail "unwind" none
   | some (some v,h')=> .panic v h'
   | some (none,h')=>match ky E h' s.ts fn.results.toList with
     | some vs=> .ret (gP vs) h'
     | none=> .fail "results" none)=out→
   ((∃v h',out= .panic v h'∧cS (hB E (gA E d fuel) fuel) s.ds p s.h=some (some v,h'))∨
    ∃vs h',out= .ret (gP vs) h'∧cS (hB E (gA E d fuel) fuel) s.ds p s.h=some (none,h')∧ky E h' s.ts fn.results.toList=some vs):=by
   intro p s hm
   split at hm
   · exact absurd hm.symm (ea _ _)
   · rename_i v h' hu;exact .inl ⟨v,h',hm.symm,hu⟩
   · rename_i h' hu
     split at hm
     · rename_i vs hv;exact .inr ⟨vs,h',hm.symm,hu,hv⟩
     · exact absurd hm.symm (ea _ _)
  split at e
  · rename_i s fX;exact ⟨fn,c,_,s,none,hf,hb,fX,.inl ⟨rfl,.inl rfl⟩,fin none s e⟩
  · rename_i s fX;exact ⟨fn,c,_,s,none,hf,hb,fX,.inl ⟨rfl,.inr rfl⟩,fin none s e⟩
  · rename_i v s fX;exact ⟨fn,c,_,s,some v,hf,hb,fX,.inr ⟨v,rfl,rfl⟩,fin (some v) s e⟩
  · exact absurd e.symm (ea _ _)
  · exact absurd e.symm (ea _ _)
 have run:∀(f:FuncId) (fn:Func) (c:Code) (args:List AV) (h:ax) (e:jY) (s:St) (p p':Option AV) (h':ax),E.P.funcs[f]? =some fn→fn.body=some c→mW E (gA E d fuel) fuel fn c args h .no= .ok e s→
  ((p=none∧(e= .normal∨e= .ret))∨∃v,p=some v∧e= .panic v)→cS (hB E (gA E d fuel) fuel) s.ds p s.h=some (p',h')→
  ∀(φ:Ph) (w:World) (vs:List Value),OK E φ h w→LR φ args vs→∀cs,∃φ' w' m' tmps todo,OK E φ' h' w'∧Fr φ h w φ' h' w'∧LR φ' s.ts tmps.toList∧
   ((p'=none∧m'= .returning)∨∃v v',p'=some v∧VR φ' v v'∧m'= .panicking [{v:=v',recovered:=false}])∧
   Steps E.P (lone (Frame.enter E.P f vs.toArray .normal) cs w) (lone {(bare f .normal).atR {tmps,defers:=[]} todo with mode:=m'} cs w'):=by
  intro f fn c args h e s p p' h' hf hb fX hp hu φ w vs ok hl cs
  obtain ⟨φ1,w1,a1,e1,x1,x2,x3,x4,x5,x6⟩:=(sw hE ih hf hb fX ok hl (kind:= .normal) (K:=fun _=>cs) ⟨rfl,fun fr hk=>by simp [tryRecover,show fr.kind= .normal from hk]⟩).is
  have Hj:cur (fun _=>cs) s.rc=cs:=by cases s.rc<;>rfl
  have O0:cur (fun _=>cs) RC.no=cs:=rfl
  rw[Hj] at x6
  rw[O0] at x6
  have hm:∃todo m,((p=none∧m= .returning)∨∃v v',p=some v∧VR φ1 v v'∧m= .panicking [{v:=v',recovered:=false}])∧
   Steps E.P (lone (Frame.enter E.P f vs.toArray .normal) cs w) (lone {(bare f .normal).atR a1 todo with mode:=m} cs w1):=by
   rcases hp with ⟨rfl,rfl | rfl⟩ | ⟨v,rfl,rfl⟩
   · cases x1;exact ⟨[],.returning,.inl ⟨rfl,rfl⟩,Steps.trans x6 (.one (stepR_end rfl))⟩
   · cases x1;obtain ⟨todo,hs⟩:=x6;exact ⟨_,.returning,.inl ⟨rfl,rfl⟩,Steps.trans hs (.one (stepR_ret rfl))⟩
   · cases x1 with
     | panic _ v' hv=>obtain ⟨todo,hs⟩:=x6;exact ⟨todo,_,.inr ⟨v,v',rfl,hv,rfl⟩,hs⟩
  obtain ⟨todo,m,hmp,qQ⟩:=hm
  obtain ⟨φ2,w2,m2,A2,f2,OZ,hs2⟩:=jL hE ih s.ds hu (fr:={(bare f .normal).atR a1 todo with mode:=m}) (cs:=cs) x3 x2.ds (by
   rcases hmp with ⟨e,em⟩ | ⟨v,v',e,hv,em⟩
   · exact .inl ⟨e,em⟩
   · exact .inr ⟨v,v',e,hv,em⟩)
  exact ⟨φ2,w2,m2,a1.tmps,todo,A2,x4.trans f2,x2.ts.mono f2.ext,OZ,Steps.trans qQ hs2⟩
 refine ⟨fun f args h v h' e=>?_,fun f args h v h' e=>?_⟩
 · obtain ⟨fn,c,e1,s,p,hf,hb,fX,hp,oR⟩:=key f args h _ e (by simp)
   rcases oR with ⟨v1,h1,he,_⟩ | ⟨vs1,h1,he,hu,Dg⟩
   · simp at he
   · simp at he;obtain ⟨rfl,rfl⟩:=he
     intro φ w vs ok hl
     refine ⟨enters hE hf hb _ w,fun cs=>?_⟩
     obtain ⟨φ',w',m',tmps,todo,r6,fr,ht,hm,hs⟩:=run f fn c args h e1 s p none h' hf hb fX hp hu φ w vs ok hl cs
     obtain ⟨v',hv,gB⟩:=sv r6 ht Dg
     rcases hm with ⟨_,rfl⟩ | ⟨v,v'',e,_⟩
     · exact ⟨φ',w',v',_,hv,r6,fr,hs,rfl,rfl,rfl,rfl,fn,hf,gB⟩
     · simp at e
 · obtain ⟨fn,c,e1,s,p,hf,hb,fX,hp,oR⟩:=key f args h _ e (by simp)
   rcases oR with ⟨v1,h1,he,hu⟩ | ⟨vs1,h1,he,_⟩
   · simp at he;obtain ⟨rfl,rfl⟩:=he
     intro φ w vs ok hl
     refine ⟨enters hE hf hb _ w,fun cs=>?_⟩
     obtain ⟨φ',w',m',tmps,todo,r6,fr,ht,hm,hs⟩:=run f fn c args h e1 s p (some v) h' hf hb fX hp hu φ w vs ok hl cs
     rcases hm with ⟨e,_⟩ | ⟨v2,v',e,hv,rfl⟩
     · simp at e
     · simp at e;subst e
       exact ⟨φ',w',v',_,hv,r6,fr,hs,rfl,rfl,rfl,fn,hf⟩
   · simp at he
theorem vw {l:Nat} {jump:Option Code} {s:St} {v:AV} {h':ax} (he:AD l jump s= .ret v h') {φ:Ph} {w:World} (ok:OK E φ s.h w) {ll:Loc} (hl:φ l=some ll):
 ∃w',v= .bool jump.isNone∧OK E φ h' w'∧Fr φ s.h w φ h' w'∧(Instr.endRound ll.dY jump).run E.P w= .ok (.bool jump.isNone) w':=by
 unfold AD at he
 split at he
 · rename_i st pd ts ps as_ bd dn hg
   simp only[iQ.ret.injEq] at he;obtain ⟨rfl,rfl⟩:=he
   obtain ⟨_,r,hr,yx⟩:=ok.live _ _ _ hg hl
   obtain ⟨Hc,f1⟩:=ok.WQ (o':= .loop (if jump.isNone then .ready else .done) jump ts ps as_ bd dn) hg rfl hl (O:= .loop {r with state:=if jump.isNone then .ready else .done,pending:=jump})
    ⟨by have:=ok.live _ _ _ hg hl;exact this.1,_,rfl,⟨rfl,rfl,yx.tmps,yx.params,yx.assign,yx.body,yx.defers,yx.fn⟩⟩
   exact ⟨_,rfl,Hc,f1,run_endRound jump hr⟩
 · simp at he
theorem Hk {φ:Ph}:∀{ps:List Tmp} {args:List AV} {vs:List Value} (_:LR φ args vs) {ts:List AV} {tmps:Array Value} (_:LR φ ts tmps.toList),
 LR φ ((ps.zip args).foldl (fun ts x=>ts.set x.1 x.2) ts) (((ps.zip vs).foldl (fun (tmps:Array Value) (x:Tmp×Value)=>tmps.setIfInBounds x.1 x.2) tmps).toList)
 | [],_,_,_,_,_,ht=>by simpa using ht
 | p::ps,[],vs,hl,ts,tmps,ht=>by rw[hl.gH];simpa using ht
 | p::ps,x::xs,vs,hl,ts,tmps,ht=>by
   obtain ⟨y,ys,rfl,hy,uH⟩:=hl.b4
   simp only[List.zip_cons_cons,List.foldl_cons]
   exact Hk uH (by simpa using ht.set hy p)
theorem A6 (hE:kn E) {call:a_} (cN:hS E call) {fuel l:Nat} {args:List AV} {h:ax} {out:iQ} (ho:vj E call fuel l args h=out) (ea:∀why q,out≠ .fail why q)
 {φ:Ph} {w:World} {vs:List Value} (ok:OK E φ h w) {ll:Loc} (hφ:φ l=some ll) (hl:LR φ args vs):
 ∃f tmps assign body,(Instr.yield ll.dY vs.toArray).run E.P w= .ok (.round ll.dY f tmps assign body) w∧∀c cs,
  (∀v h',out= .ret v h'→∃φ' w' v',VR φ' v v'∧OK E φ' h' w'∧Fr φ h w φ' h' w'∧Steps E.P (lone (Frame.round ll.dY f tmps assign body .normal) (c::cs) w) (lone (c.finish v') cs w'))∧
  (∀v h',out= .panic v h'→∃φ' w' v',VR φ' v v'∧OK E φ' h' w'∧Fr φ h w φ' h' w'∧Steps E.P (lone (Frame.round ll.dY f tmps assign body .normal) (c::cs) w) (lone (c.raise [{v:=v',recovered:=false}]) cs w')):=by
 unfold vj at ho
 split at ho
 · rename_i st pd ts ps as_ bd dn hg
   split at ho
   · rename_i hlen
     split at ho
     · rename_i s1 hx1
       split at ho
       · rename_i pd2 Wq Vb SU Wr Ws hg1
         obtain ⟨A7,r,hr,yx⟩:=ok.live _ _ _ hg hφ
         have Jb:vs.toArray.size=r.params.size:=by
          have h1:=congrArg List.length yx.params
          have h2:=hl.1
          simp at h1 ⊢;omega
         refine ⟨r.fn,_,r.assign,r.body,run_yield hr Jb,fun c cs=>?_⟩
         have ZR:LR φ ((ps.zip args).foldl (fun ts x=>ts.set x.1 x.2) ts) ((r.params.zip vs.toArray).foldl (fun tmps (t,a)=>tmps.setIfInBounds t a) r.tmps).toList:=by
          have:=Hk (ps:=ps) hl yx.tmps
          rw[←Array.foldl_toList,Array.toList_zip,yx.params]
          exact this
         generalize htm:(r.params.zip vs.toArray).foldl (fun tmps (t,a)=>tmps.setIfInBounds t a) r.tmps=Lq at ZR
         let b:Frame:={fn:=r.fn,tmps:= #[],todo:=[],defers:=[],mode:= .run,kind:= .normal,roundOf:=some ll.dY}
         have hb:b.roundOf=some ll.dY:=rfl
         have hk:b.kind= .normal:=rfl
         have yr:Frame.round ll.dY r.fn Lq r.assign r.body .normal=b.atR {tmps:=Lq,defers:=[]} [.code r.assign,.beginRound,.code r.body]:=rfl
         rw[yx.assign,yx.body] at yr ⊢
         rw[yr]
         have Hj:∀rc,cur (fun _=>c::cs) rc=c::cs:=fun rc=>by cases rc<;>rfl
         obtain ⟨φ1,w1,a1,e1,x1,x2,x3,x4,x5,x6⟩:=(vv hE cN fuel as_ hx1 (a:={tmps:=Lq,defers:=[]}) (b:=b) (k:=[.beginRound,.code bd]) (K:=fun _=>c::cs) ⟨ZR,trivial⟩ ok ⟨ll,hφ,rfl⟩ yx.fn).1.is
         cases x1
         rw[Hj,Hj] at x6
         have hφ1:=x4.ext _ _ hφ
         obtain ⟨ZS,r1,ZB,Hl⟩:=x3.live _ _ _ hg1 hφ1
         obtain ⟨A2,f2⟩:=x3.WQ (o':= .loop .busy pd2 Wq Vb SU Wr Ws) hg1 rfl hφ1 (O:= .loop {r1 with state:= .busy})
          ⟨ZS,_,rfl,⟨rfl,Hl.pending,Hl.tmps,Hl.params,Hl.assign,Hl.body,Hl.defers,Hl.fn⟩⟩
         have ace:=stepR_beginRound (P:=E.P) (b:=b) (a:=a1) (k:=[.code bd]) (cs:=c::cs) hb (run_beginRound ZB Hl.state)
         have oU:=Steps.trans x6 (.one ace)
         have body:∀(e:jY) (s2:St),exec E call fuel bd {s1 with h:=s1.h.put l (some (.loop .busy pd2 Wq Vb SU Wr Ws))}= .ok e s2→
          ∃φ' w' a' e',WE φ' e e'∧SR φ' s2.ts s2.ds a'∧OK E φ' s2.h w'∧Fr φ h w φ' s2.h w'∧φ' l=some ll∧He E.P (lone (b.atR {tmps:=Lq,defers:=[]} [.code as_,.beginRound,.code bd]) (c::cs) w) b [] (c::cs) e' a' w':=by
          intro e s2 Tk
          obtain ⟨φ3,w3,a3,e3,y1,y2,y3,y4,y5,y6⟩:=(vv hE cN fuel bd Tk (a:=a1) (b:=b) (k:=[]) (K:=fun _=>c::cs) x2 A2 x5 yx.fn).1.is
          rw[Hj,Hj] at y6
          exact ⟨φ3,w3,a3,e3,y1,y2,y3,(x4.trans f2).trans y4,y4.ext _ _ hφ1,.of_steps oU y6⟩
         split at ho
         · rename_i s2 Tk
           obtain ⟨φ3,w3,a3,e3,y1,y2,y3,y4,Th,y6⟩:=body _ _ Tk
           cases y1
           refine ⟨fun v h' e=>?_,fun v h' e=>?_⟩
           · obtain ⟨w4,rfl,z1,z2,z3⟩:=vw (ho.trans e) y3 Th
             exact ⟨φ3,w4,_,.bool _,z1,y4.trans z2,Steps.trans y6 (.one (stepR_round_end hb hk z3))⟩
           · rw[e] at ho;unfold AD at ho;split at ho<;>simp at ho
         · rename_i s2 Tk
           obtain ⟨φ3,w3,a3,e3,y1,y2,y3,y4,Th,y6⟩:=body _ _ Tk
           cases y1
           refine ⟨fun v h' e=>?_,fun v h' e=>?_⟩
           · obtain ⟨w4,rfl,z1,z2,z3⟩:=vw (ho.trans e) y3 Th
             obtain ⟨todo,hs⟩:=y6
             exact ⟨φ3,w4,_,.bool _,z1,y4.trans z2,Steps.trans hs (.one (stepR_round_ret hb hk z3))⟩
           · rw[e] at ho;unfold AD at ho;split at ho<;>simp at ho
         · rename_i id s2 Tk
           obtain ⟨φ3,w3,a3,e3,y1,y2,y3,y4,Th,y6⟩:=body _ _ Tk
           cases y1
           refine ⟨fun v h' e=>?_,fun v h' e=>?_⟩
           · obtain ⟨w4,rfl,z1,z2,z3⟩:=vw (ho.trans e) y3 Th
             obtain ⟨todo,ht,hs⟩:=y6
             exact ⟨φ3,w4,_,.bool _,z1,y4.trans z2,Steps.trans hs (.one (stepR_round_exit hb hk ht z3))⟩
           · rw[e] at ho;unfold AD at ho;split at ho<;>simp at ho
         · rename_i v2 s2 Tk
           obtain ⟨φ3,w3,a3,e3,y1,y2,y3,y4,Th,y6⟩:=body _ _ Tk
           split at ho
           · rename_i JM
             refine ⟨fun v h' e=>by rw[e] at ho;simp at ho,fun v h' e=>?_⟩
             rw[e] at ho;simp at ho;obtain ⟨rfl,rfl⟩:=ho
             cases y1 with
             | panic _ v' hv=>
               obtain ⟨todo,hs⟩:=y6
               have hdn:a3.defers=[]:=sx (by have:=y2.ds;rw[List.isEmpty_iff.1 JM] at this;exact this)
               obtain ⟨fn,wa⟩:=Option.isSome_iff_exists.1 yx.fn
               exact ⟨φ3,w3,v',hv,y3,y4,Steps.trans hs (.one (step_leave_panicked ⟨rfl,hdn,fn,wa⟩))⟩
           · exact absurd ho.symm (ea _ _)
         · exact absurd ho.symm (ea _ _)
       · exact absurd ho.symm (ea _ _)
     · exact absurd ho.symm (ea _ _)
     · exact absurd ho.symm (ea _ _)
   · exact absurd ho.symm (ea _ _)
 · exact absurd ho.symm (ea _ _)
theorem zp (hE:kn E) (fuel:Nat):∀d,hS E (gA E d fuel)
 | 0=>⟨fun f args h v h' e=>by simp [gA] at e,fun f args h v h' e=>by simp [gA] at e⟩
 | d+1=>by
   have ih:=zp hE fuel d
   obtain ⟨k1,k2⟩:=Hh hE fuel d ih
   refine ⟨fun F args h v h' e=>?_,fun F args h v h' e=>?_⟩
   · cases F with
     | fn f=>exact (k1 f args h v h' e).any
     | ze l=>
       simp only[gA] at e
       intro φ w vs ok hf hl
       obtain ⟨ll,hφ⟩:=hf
       obtain ⟨f,tmps,assign,body,hy,gB⟩:=A6 hE ih e (by simp) ok hφ hl
       exact ⟨_,_,.ze l ll hφ vs f tmps assign body hy,fun c cs=>(gB c cs).1 v h' rfl⟩
   · cases F with
     | fn f=>exact (k2 f args h v h' e).any
     | ze l=>
       simp only[gA] at e
       intro φ w vs ok hf hl
       obtain ⟨ll,hφ⟩:=hf
       obtain ⟨f,tmps,assign,body,hy,gB⟩:=A6 hE ih e (by simp) ok hφ hl
       exact ⟨_,_,.ze l ll hφ vs f tmps assign body hy,fun c cs=>(gB c cs).2 v h' rfl⟩
end Go.Ab
end
section
namespace Go.Ab.Fa
structure Acc (T:Type) where
 f:T→AV
structure ZT (T:Type) where
 f:AV→T→T
structure RF where
 T:Type
 N:Nat
 get:Nat→Acc T
 set:Nat→ZT T
 z:T
 O1:∀i,i<N→(get i).f z=AV.undef
 wF:∀i,i<N→∀v r,(get i).f ((set i).f v r)=v
 uf:∀i j,i<N→j<N→i≠j→∀v r,(get j).f ((set i).f v r)=(get j).f r
def Tl (i:Nat):Acc (P8 (P8 AV)):=s8 (i/8) fun p=>s8 (i%8) fun q=>⟨fun r=>q (p r)⟩
noncomputable def qg (i:Nat):ZT (P8 (P8 AV)):=e8 (i/8) fun p=>e8 (i%8) fun q=>⟨fun v r=>p (q fun _=>v) r⟩
noncomputable def rf2:RF where
 T:=P8 (P8 AV)
 N:=64
 get:=Tl
 set:=qg
 z:=P8.all (P8.all AV.undef)
 O1 i h:=by simp only[Tl,uY,Al]
 wF i h v r:=by simp only[Tl,qg,uY,zd,cX]
 uf i j hi hj h v r:=by
  simp only[Tl,qg,uY,zd]
  by_cases h1:i/8=j/8
  · rw[h1,cX,dM (by omega) (by omega) (by omega)]
  · rw[dM (by omega) (by omega) h1]
def Tm (i:Nat):Acc (P8 (P8 (P8 AV))):=s8 (i/64) fun o=>s8 (i/8%8) fun p=>s8 (i%8) fun q=>⟨fun r=>q (p (o r))⟩
noncomputable def WT (i:Nat):ZT (P8 (P8 (P8 AV))):=e8 (i/64) fun o=>e8 (i/8%8) fun p=>e8 (i%8) fun q=>⟨fun v r=>o (p (q fun _=>v)) r⟩
noncomputable def rf3:RF where
 T:=P8 (P8 (P8 AV))
 N:=512
 get:=Tm
 set:=WT
 z:=P8.all (P8.all (P8.all AV.undef))
 O1 i h:=by simp only[Tm,uY,Al]
 wF i h v r:=by simp only[Tm,WT,uY,zd,cX]
 uf i j hi hj h v r:=by
  simp only[Tm,WT,uY,zd]
  by_cases h1:i/64=j/64
  · rw[h1,cX]
    by_cases h2:i/8%8=j/8%8
    · rw[h2,cX,dM (by omega) (by omega) (by omega)]
    · rw[dM (by omega) (by omega) h2]
  · rw[dM (by omega) (by omega) h1]
section
variable (F:RF) (n:Nat)
def eV (r:F.T):List AV:=(List.range n).map fun i=>(F.get i).f r
theorem iw (r:F.T):(eV F n r).length=n:=by simp [eV]
theorem ug (r:F.T) {i:Nat} (h:i<n):(eV F n r)[i]? =some ((F.get i).f r):=by simp [eV,h]
theorem Hm (r:F.T) (i:Nat):(eV F n r).getD i AV.undef=if i<n then (F.get i).f r else AV.undef:=by
 rw[List.getD_eq_getElem?_getD]
 split
 · rename_i h;rw[ug F n r h];rfl
 · rw[List.getElem?_eq_none (by rw[iw];omega)];rfl
theorem Tn (hn:n≤F.N) (r:F.T) {i:Nat} (h:i<n) (v:AV):(eV F n r).set i v=eV F n ((F.set i).f v r):=by
 apply List.ext_getElem?
 intro j
 rw[List.getElem?_set]
 by_cases hj:j<n
 · rw[ug F n _ hj,ug F n _ hj,iw]
   by_cases e:i=j
   · subst e;simp [F.wF i (by omega),h]
   · rw[if_neg e,F.uf i j (by omega) (by omega) e]
 · rw[List.getElem?_eq_none (l:=eV F n r) (by rw[iw];omega),List.getElem?_eq_none (l:=eV F n _) (by rw[iw];omega),iw]
   rw[if_neg (by omega)]
noncomputable def N_:List AV→F.T→Nat→F.T:=fun l=>List.rec (motive:=fun _=>F.T→Nat→F.T) (fun r _=>r) (fun v _ ih r i=>ih ((F.set i).f v r) (Nat.add i 1)) l
theorem To (r:F.T) (i:Nat):N_ F [] r i=r:=rfl
theorem O2 (v:AV) (l:List AV) (r:F.T) (i:Nat):N_ F (v::l) r i=N_ F l ((F.set i).f v r) (i+1):=rfl
theorem Lr (hn:n≤F.N):∀(l:List AV) (r:F.T) (i:Nat),i+l.length≤n→∀j,j<n→(F.get j).f (N_ F l r i)=if i≤j∧j<i+l.length then l.getD (j - i) AV.undef else (F.get j).f r
 | [],r,i,_,j,hj=>by rw[To,if_neg (by rw[List.length_nil];omega)]
 | v::l,r,i,h,j,hj=>by
   simp only[List.length_cons] at h
   rw[O2,Lr hn l _ (i+1) (by omega) j hj]
   simp only[List.length_cons]
   by_cases h1:i+1≤j∧j<i+1+l.length
   · rw[if_pos h1,if_pos (by omega)]
     obtain ⟨m,hm⟩:∃m,j - i=m+1:=⟨j - i - 1,by omega⟩
     rw[hm,show j -(i+1)=m by omega,List.getD_cons_succ]
   · rw[if_neg h1]
     by_cases h2:i=j
     · subst h2;rw[F.wF i (by omega),if_pos (by omega)];simp
     · rw[F.uf i j (by omega) (by omega) h2,if_neg (by omega)]
theorem Ls (hn:n≤F.N) (l:List AV) (h:l.length≤n):eV F n (N_ F l F.z 0)=l++List.replicate (n - l.length) AV.undef:=by
 apply List.ext_getElem?
 intro j
 by_cases hj:j<n
 · rw[ug F n _ hj,Lr F n hn l F.z 0 (by omega) j hj]
   by_cases h1:j<l.length
   · rw[if_pos (by omega),List.getElem?_append_left h1,Nat.sub_zero,List.getD_eq_getElem?_getD,List.getElem?_eq_getElem h1];rfl
   · rw[if_neg (by omega),List.getElem?_append_right (by omega),F.O1 j (by omega),List.getElem?_replicate,if_pos (by omega)]
 · rw[List.getElem?_eq_none (by rw[iw];omega),List.getElem?_eq_none (by simp;omega)]
end
end Go.Ab.Fa
end
section
namespace Go.Ab.Fa
section
variable {R:Type}
noncomputable def jo (f:Bool→R) (d:R) (v:AV):R:=
 AV.rec (motive_1:=fun _=>R) (motive_2:=fun _=>Unit) (fun b=>f b) (fun _ _=>d) (fun _=>d) d (fun _ _=>d) d (fun _ _ _ _ _=>d) d (fun _=>d) (fun _ _ _ _ _=>d) (fun _=>d) d (fun _ _ _=>d) d (fun _ _=>d) (fun _ _=>d) d d () (fun _ _ _ _=>()) v
noncomputable def nL (f:IntKind→Int→R) (d:R) (v:AV):R:=
 AV.rec (motive_1:=fun _=>R) (motive_2:=fun _=>Unit) (fun _=>d) (fun k n=>f k n) (fun _=>d) d (fun _ _=>d) d (fun _ _ _ _ _=>d) d (fun _=>d) (fun _ _ _ _ _=>d) (fun _=>d) d (fun _ _ _=>d) d (fun _ _=>d) (fun _ _=>d) d d () (fun _ _ _ _=>()) v
noncomputable def qW (f:List UInt8→R) (d:R) (v:AV):R:=
 AV.rec (motive_1:=fun _=>R) (motive_2:=fun _=>Unit) (fun _=>d) (fun _ _=>d) (fun s=>f s) d (fun _ _=>d) d (fun _ _ _ _ _=>d) d (fun _=>d) (fun _ _ _ _ _=>d) (fun _=>d) d (fun _ _ _=>d) d (fun _ _=>d) (fun _ _=>d) d d () (fun _ _ _ _=>()) v
noncomputable def yz (f:Nat→Nat→R) (d:R) (v:AV):R:=
 AV.rec (motive_1:=fun _=>R) (motive_2:=fun _=>Unit) (fun _=>d) (fun _ _=>d) (fun _=>d) d (fun i o=>f i o) d (fun _ _ _ _ _=>d) d (fun _=>d) (fun _ _ _ _ _=>d) (fun _=>d) d (fun _ _ _=>d) d (fun _ _=>d) (fun _ _=>d) d d () (fun _ _ _ _=>()) v
noncomputable def jq (e:R) (f:Nat→Nat→Nat→Nat→Bool→R) (d:R) (v:AV):R:=
 AV.rec (motive_1:=fun _=>R) (motive_2:=fun _=>Unit) (fun _=>d) (fun _ _=>d) (fun _=>d) d (fun _ _=>d) e (fun i o l c b=>f i o l c b) d (fun _=>d) (fun _ _ _ _ _=>d) (fun _=>d) d (fun _ _ _=>d) d (fun _ _=>d) (fun _ _=>d) d d () (fun _ _ _ _=>()) v
noncomputable def vZ (z d:R) (v:AV):R:=
 AV.rec (motive_1:=fun _=>R) (motive_2:=fun _=>Unit) (fun _=>d) (fun _ _=>d) (fun _=>d) d (fun _ _=>d) d (fun _ _ _ _ _=>d) d (fun _=>d) (fun _ _ _ _ _=>d) (fun _=>d) d (fun _ _ _=>d) d (fun _ _=>d) (fun _ _=>d) z d () (fun _ _ _ _=>()) v
noncomputable def Lt (f:FuncId→List AV→List AV→R) (y:Nat→R) (d:R) (v:AV):R:=
 AV.rec (motive_1:=fun _=>R) (motive_2:=fun _=>Unit) (fun _=>d) (fun _ _=>d) (fun _=>d) d (fun _ _=>d) d (fun _ _ _ _ _=>d) d (fun _=>d) (fun g a b _ _=>f g a b) (fun l=>y l) d (fun _ _ _=>d) d (fun _ _=>d) (fun _ _=>d) d d () (fun _ _ _ _=>()) v
noncomputable def yA (f:List AV→R) (t:List AV→R) (d:R) (v:AV):R:=
 AV.rec (motive_1:=fun _=>R) (motive_2:=fun _=>Unit) (fun _=>d) (fun _ _=>d) (fun _=>d) d (fun _ _=>d) d (fun _ _ _ _ _=>d) d (fun _=>d) (fun _ _ _ _ _=>d) (fun _=>d) d (fun _ _ _=>d) d (fun cs _=>f cs) (fun cs _=>t cs) d d () (fun _ _ _ _=>()) v
noncomputable def qX (f:TypeId→AV→R) (d:R) (v:AV):R:=
 AV.rec (motive_1:=fun _=>R) (motive_2:=fun _=>Unit) (fun _=>d) (fun _ _=>d) (fun _=>d) d (fun _ _=>d) d (fun _ _ _ _ _=>d) d (fun _=>d) (fun _ _ _ _ _=>d) (fun _=>d) d (fun t v _=>f t v) d (fun _ _=>d) (fun _ _=>d) d d () (fun _ _ _ _=>()) v
noncomputable def EW (v:AV):Bool:=
 AV.rec (motive_1:=fun _=>Bool) (motive_2:=fun _=>Unit) (fun _=>false) (fun _ _=>false) (fun _=>false) false (fun _ _=>true) false (fun _ _ _ _ _=>true) false (fun _=>true) (fun _ _ _ _ _=>true) (fun _=>false) false (fun _ _ _=>false) false (fun _ _=>false) (fun _ _=>false) false false () (fun _ _ _ _=>()) v
noncomputable def ob {α:Type} (d:R) (f:α→R) (o:Option α):R:=Option.rec (motive:=fun _=>R) d f o
noncomputable def bc (b:Bool) (x y:R):R:=Bool.rec (motive:=fun _=>R) y x b
noncomputable def yB (f:List AV→TypeId→Bool→R) (d:R) (o:aK):R:=
 aK.rec (motive:=fun _=>R) (fun cs e ro=>f cs e ro) (fun _ _=>d) (fun _ _=>d) (fun _ _ _ _=>d) (fun _ _ _ _ _ _ _=>d) d o
noncomputable def kA (f:Nat→R) (d:R) (n:Int):R:=Int.rec (motive:=fun _=>R) f (fun _=>d) n
noncomputable def WU (a b c d e f g h:R) (k:IntKind):R:=IntKind.rec (motive:=fun _=>R) a b c d e f g h k
end
noncomputable def kc (k:IntKind):Nat:=WU 0 1 2 3 4 5 6 7 k
noncomputable def O3 (k j:IntKind):Bool:=Nat.beq (kc k) (kc j)
noncomputable def uI (k:IntKind):Nat:=WU 128 32768 2147483648 9223372036854775808 256 65536 4294967296 18446744073709551616 k
noncomputable def O4 (k:IntKind):Nat:=WU 8 16 32 64 8 16 32 64 k
noncomputable def Vu (k:IntKind):Bool:=WU true true true true false false false false k
noncomputable def vc (k:IntKind) (n:Int):Int:=
 Int.rec (motive:=fun _=>Int) (fun m=>bc (Nat.ble (uI k) m) (bc (Vu k) (k.wrap (Int.ofNat m)) (Int.ofNat (Nat.mod m (uI k)))) (Int.ofNat m))
  (fun m=>bc (Vu k) (bc (Nat.ble (uI k) m) (k.wrap (Int.negSucc m)) (Int.negSucc m)) (k.wrap (Int.negSucc m))) n
noncomputable def qY (a b:Int):Int:=kA (fun x=>kA (fun y=>Int.ofNat (Nat.add x y)) (Int.add a b) b) (Int.add a b) a
noncomputable def gD (a b:Int):Int:=kA (fun x=>kA (fun y=>bc (Nat.ble y x) (Int.ofNat (Nat.sub x y)) (Int.negSucc (Nat.sub (Nat.sub y x) 1))) (Int.sub a b) b) (Int.sub a b) a
noncomputable def Hn (a b:Int):Int:=kA (fun x=>kA (fun y=>Int.ofNat (Nat.mul x y)) (Int.mul a b) b) (Int.mul a b) a
noncomputable def Vv (a b:Int):Bool:=
 Int.rec (motive:=fun _=>Bool) (fun x=>Int.rec (motive:=fun _=>Bool) (fun y=>Nat.beq x y) (fun _=>false) b) (fun x=>Int.rec (motive:=fun _=>Bool) (fun _=>false) (fun y=>Nat.beq x y) b) a
noncomputable def Tp (a b:Int):Bool:=
 Int.rec (motive:=fun _=>Bool) (fun x=>Int.rec (motive:=fun _=>Bool) (fun y=>Nat.ble (Nat.add x 1) y) (fun _=>false) b) (fun x=>Int.rec (motive:=fun _=>Bool) (fun _=>true) (fun y=>Nat.ble (Nat.add y 1) x) b) a
noncomputable def vx (b:Bool):Bool:=bc b false true
noncomputable def Tq (op:BinOp):IntKind→Int→Int→Option AV:=match op with
 | .add=>fun k a b=>some (.int k (vc k (qY a b)))
 | .sub=>fun k a b=>some (.int k (vc k (gD a b)))
 | .mul=>fun k a b=>some (.int k (vc k (Hn a b)))
 | .eql=>fun _ a b=>some (.bool (Vv a b))
 | .neq=>fun _ a b=>some (.bool (vx (Vv a b)))
 | .lss=>fun _ a b=>some (.bool (Tp a b))
 | .leq=>fun _ a b=>some (.bool (vx (Tp b a)))
 | .gtr=>fun _ a b=>some (.bool (Tp b a))
 | .geq=>fun _ a b=>some (.bool (vx (Tp a b)))
 | .quo=>fun k a b=>kA (fun x=>kA (fun y=>bc (Nat.beq y 0) none (some (.int k (vc k (Int.ofNat (Nat.div x y)))))) (cY .quo k a b) b) (cY .quo k a b) a
 | .rem=>fun k a b=>kA (fun x=>kA (fun y=>bc (Nat.beq y 0) none (some (.int k (Int.ofNat (Nat.mod x y))))) (cY .rem k a b) b) (cY .rem k a b) a
 | .and=>fun k a b=>kA (fun x=>kA (fun y=>bc (Nat.ble (uI k) x) (cY .and k a b) (bc (Nat.ble (uI k) y) (cY .and k a b) (some (.int k (Int.ofNat (Nat.land x y)))))) (cY .and k a b) b) (cY .and k a b) a
 | .or=>fun k a b=>kA (fun x=>kA (fun y=>bc (Nat.ble (uI k) x) (cY .or k a b) (bc (Nat.ble (uI k) y) (cY .or k a b) (some (.int k (Int.ofNat (Nat.lor x y)))))) (cY .or k a b) b) (cY .or k a b) a
 | op=>fun k a b=>cY op k a b
noncomputable def O5 (k:IntKind) (y:Nat):Nat:=bc (Nat.ble (O4 k) y) (O4 k) y
noncomputable def ZU (k:IntKind) (a b:Int):Option AV:=kA (fun y=>some (.int k (vc k (Hn a (Int.ofNat (Nat.pow 2 (O5 k y))))))) none b
noncomputable def ZV (k:IntKind) (a b:Int):Option AV:=kA (fun y=>some (.int k (kA (fun x=>Int.ofNat (Nat.div x (Nat.pow 2 (O5 k y)))) (a.fdiv (2^(min y k.bits))) a))) none b
section
variable {α:Type}
noncomputable def iK (l:List α):Nat:=List.rec (motive:=fun _=>Nat) 0 (fun _ _ ih=>Nat.add ih 1) l
noncomputable def iL (l:List α):Nat→Option α:=List.rec (motive:=fun _=>Nat→Option α) (fun _=>none) (fun v _ ih o=>bc (Nat.beq o 0) (some v) (ih (Nat.sub o 1))) l
noncomputable def sA (l:List α):Nat→List α:=List.rec (motive:=fun _=>Nat→List α) (fun _=> []) (fun v tl ih o=>bc (Nat.beq o 0) (v::tl) (ih (Nat.sub o 1))) l
noncomputable def sB (l:List α):Nat→List α:=List.rec (motive:=fun _=>Nat→List α) (fun _=> []) (fun v _ ih o=>bc (Nat.beq o 0) [] (v::ih (Nat.sub o 1))) l
noncomputable def lf (l m:List α):List α:=List.rec (motive:=fun _=>List α) m (fun v _ ih=>v::ih) l
noncomputable def yC (f:α→Bool) (l:List α):Bool:=List.rec (motive:=fun _=>Bool) true (fun v _ ih=>bc (f v) ih false) l
noncomputable def Ho (vs:List α):List α→List α:=
 List.rec (motive:=fun _=>List α→List α) (fun cs=>cs) (fun v _ ih cs=>List.rec (motive:=fun _=>List α) [] (fun _ tl _=>v::ih tl) cs) vs
noncomputable def Hp (vs cs:List α):Nat→List α:=
 List.rec (motive:=fun _=>Nat→List α) (fun _=> []) (fun c tl ih o=>bc (Nat.beq o 0) (Ho vs (c::tl)) (c::ih (Nat.sub o 1))) cs
noncomputable def leq (f:α→α→Bool) (l:List α):List α→Bool:=
 List.rec (motive:=fun _=>List α→Bool) (fun m=>List.rec (motive:=fun _=>Bool) true (fun _ _ _=>false) m)
  (fun x _ ih m=>List.rec (motive:=fun _=>Bool) false (fun y tl _=>bc (f x y) (ih tl) false) m) l
end
noncomputable def A8 (a b:UInt8):Bool:=Nat.beq a.toBitVec.toFin.val b.toBitVec.toFin.val
noncomputable def Tr (v:AV):Bool:=yA (fun _=>false) (fun _=>false) true v
noncomputable def lu (v:AV):List AV:=yA (fun cs=>cs) (fun _=> [v]) [v] v
end Go.Ab.Fa
end
section
namespace Go.Ab.Fa
section
variable {α β:Type}
noncomputable def z8 (l:List Nat) (x:Nat):Bool:=List.rec (motive:=fun _=>Bool) false (fun y _ ih=>bc (Nat.beq x y) true ih) l
noncomputable def WV (f:α→Bool) (l:List α):Bool:=List.rec (motive:=fun _=>Bool) false (fun v _ ih=>bc (f v) true ih) l
noncomputable def allI (f:α→Nat→Bool) (l:List α) (i:Nat):Bool:=List.rec (motive:=fun _=>Nat→Bool) (fun _=>true) (fun v _ ih i=>bc (f v i) (canon (Nat.add i 1) ih) false) l i
noncomputable def Hq (f:α→Nat→Bool) (l:List α) (i:Nat):List Nat:=List.rec (motive:=fun _=>Nat→List Nat) (fun _=> []) (fun v _ ih i=>bc (f v i) (i::canon (Nat.add i 1) ih) (canon (Nat.add i 1) ih)) l i
noncomputable def EX (f:α→Bool) (l:List α):Nat:=List.rec (motive:=fun _=>Nat) 0 (fun v _ ih=>bc (f v) (Nat.add ih 1) ih) l
noncomputable def JO (f:α→Bool) (l:List α):Nat:=List.rec (motive:=fun _=>Nat) 0 (fun v _ ih=>bc (f v) (Nat.add ih 1) 0) l
noncomputable def A9 (l:List α) (i:Nat) (d:α):α:=ob d (fun x=>x) (iL l i)
noncomputable def pR (l:List α):(List α→β)→β:=List.rec (motive:=fun _=>(List α→β)→β) (fun k=>k []) (fun x _ ih k=>ih fun tl=>k (x::tl)) l
theorem yD (l:List α) (k:List α→β):pR l k=k l:=by
 induction l generalizing k with
 | nil=>rfl
 | cons y tl ih=>show pR tl (fun tl=>k (y::tl))=_;rw[ih]
noncomputable def JP (l:List α) (k:List α→β):β:=List.rec (motive:=fun _=>β) (k []) (fun x tl _=>k (x::tl)) l
theorem MW (l:List α) (k:List α→β):JP l k=k l:=by cases l<;>rfl
noncomputable def EY (f:List β→α→List β) (l:List α) (b:List β):List β:=List.rec (motive:=fun _=>List β→List β) (fun b=>b) (fun v _ ih b=>JP (f b v) ih) l b
theorem DM (f:List β→α→List β) (l:List α) (b:List β):EY f l b=l.foldl f b:=by
 induction l generalizing b with
 | nil=>rfl
 | cons y tl ih=>show JP (f b y) (EY f tl)=_;rw[MW,ih];rfl
theorem sC (b:Bool) (x y:α):bc b x y=bif b then x else y:=by cases b<;>rfl
theorem z_ (x y:Nat):(x==y)=Nat.beq x y:=by
 cases h:Nat.beq x y
 · rw[beq_eq_false_iff_ne];intro e;subst e;rw[Nat.beq_refl] at h;exact absurd h (by simp)
 · rw[Nat.eq_of_beq_eq_true h];simp
theorem uh (l:List Nat) (x:Nat):z8 l x=l.contains x:=by
 induction l with
 | nil=>rfl
 | cons y tl ih=>
   show bc (Nat.beq x y) true (z8 tl x)=_
   rw[ih,sC,List.contains_cons,z_]
   cases Nat.beq x y<;>rfl
theorem Ts (f:α→Bool) (l:List α):WV f l=l.any f:=by
 induction l with
 | nil=>rfl
 | cons y tl ih=>show bc (f y) true (WV f tl)=_;rw[ih,sC,List.any_cons];cases f y<;>rfl
theorem qZ (f:α→Bool) (l:List α):yC f l=l.all f:=by
 induction l with
 | nil=>rfl
 | cons y tl ih=>show bc (f y) (yC f tl) false=_;rw[ih,sC,List.all_cons];cases f y<;>rfl
theorem EZ (f:α→Nat→Bool) (l:List α) (i:Nat):allI f l i=(l.zipIdx i).all fun p=>f p.1 p.2:=by
 induction l generalizing i with
 | nil=>rfl
 | cons y tl ih=>show bc (f y i) (canon (i+1) (allI f tl)) false=_;rw[lp,ih,sC,List.zipIdx_cons,List.all_cons];cases f y i<;>rfl
theorem Hr (f:α→Nat→Bool) (l:List α) (i:Nat):Hq f l i=((l.zipIdx i).filter fun p=>f p.1 p.2).map (·.2):=by
 induction l generalizing i with
 | nil=>rfl
 | cons y tl ih=>
   show bc (f y i) (i::canon (i+1) (Hq f tl)) (canon (i+1) (Hq f tl))=_
   rw[lp,ih,sC,List.zipIdx_cons,List.filter_cons];cases f y i<;>simp
theorem MX (f:α→Bool) (l:List α):EX f l=(l.filter f).length:=by
 induction l with
 | nil=>rfl
 | cons y tl ih=>show bc (f y) (EX f tl+1) (EX f tl)=_;rw[ih,sC,List.filter_cons];cases f y<;>simp
theorem MY (f:α→Bool) (l:List α):JO f l=(l.takeWhile f).length:=by
 induction l with
 | nil=>rfl
 | cons y tl ih=>show bc (f y) (JO f tl+1) 0=_;rw[ih,sC,List.takeWhile_cons];cases f y<;>simp
theorem gJ (l:List α) (i:Nat):iL l i=l[i]? :=by
 induction l generalizing i with
 | nil=>rfl
 | cons y tl ih=>
   show bc (Nat.beq i 0) (some y) (iL tl (i - 1))=_
   rw[ih,sC]
   cases i with
   | zero=>rfl
   | succ i=>rw[show Nat.beq (i+1) 0=false from rfl];simp
theorem wG (l:List α) (i:Nat) (d:α):A9 l i d=l.getD i d:=by
 unfold A9;rw[gJ,List.getD_eq_getElem?_getD];cases l[i]? <;>rfl
theorem fI (l:List α):iK l=l.length:=by
 induction l with
 | nil=>rfl
 | cons y tl ih=>show iK tl+1=_;rw[ih];rfl
theorem ng (l m:List α):lf l m=l++m:=by
 induction l with
 | nil=>rfl
 | cons y tl ih=>show y::lf tl m=_;rw[ih];rfl
end
noncomputable def zq (p:Program) (t:TypeId):Option TypeInfo:=ob (p.info? t) (fun i=>some i) (iL p.types.toList t)
noncomputable def Vw (i:TypeInfo) (p:Program):Option TypeDesc:=TypeDesc.rec (motive:=fun _=>Option TypeDesc) (some i.desc) (some i.desc) (fun _=>some i.desc) (fun _=>some i.desc) (fun _=>some i.desc) (some i.desc) (some i.desc)
 (fun _=>some i.desc) (fun _=>some i.desc) (fun _ _=>some i.desc) (fun _ _=>some i.desc) (fun _ _=>some i.desc) (fun _=>some i.desc) (fun _ _ _=>some i.desc) (fun _=>some i.desc) (fun _=>some i.desc)
 (fun _ u=>ob none (fun j=>some j.desc) (zq p u)) i.desc
noncomputable def jM (p:Program) (t:TypeId):Option TypeDesc:=ob none (fun i=>Vw i p) (zq p t)
theorem sD (p:Program) (t:TypeId):zq p t=p.info? t:=by
 unfold zq;rw[gJ,Array.getElem?_toList]
 cases h:p.types[t]? with
 | none=>rfl
 | some i=>
   show some i=p.info? t
   unfold Tables.info?
   obtain ⟨lr,_⟩:=Array.getElem?_eq_some_iff.mp h
   rw[if_pos lr,h]
theorem iy (p:Program) (t:TypeId):jM p t=p.underlying t:=by
 unfold jM Program.underlying
 rw[sD]
 cases p.info? t with
 | none=>rfl
 | some i=>
   show Vw i p=_
   obtain ⟨d,_⟩:=i
   cases d with
   | named a u=>show ob none (fun j=>some j.desc) (zq p u)=Option.map (fun x=>x.desc) (p.info? u);rw[sD];cases p.info? u<;>rfl
   | _=>rfl
noncomputable def WW (p:Program) (f:FuncId):Option Func:=iL p.funcs.toList f
theorem Tt (p:Program) (f:FuncId):WW p f=p.funcs[f]? :=by
 unfold WW;rw[gJ];exact Array.getElem?_toList
variable (E:Env)
noncomputable def qh (op:Op):Bool:=match op with
 | .store .. | .mapUpdate .. | .insert .. | .mapEntry .. | .entryStore .. | .next .. | .panic _ | .defer _=>true
 | .convert _ dst _=>match jM E.P dst with
   | some (.slice _)=>true
   | _=>false
 | .call c=>match c.callee with
   | .builtin .len | .builtin .cap | .builtin .max | .builtin .min=>false
   | .builtin _=>true
   | .value (.func f)=>match E.mi f with
     | none=>true
     | some _=>false
   | _=>true
 | _=>false
theorem sE (op:Op):qh E op=fw E op:=by
 unfold qh fw
 cases op<;>try rfl
 · simp only[iy]
   rename_i dst _
   generalize E.P.underlying dst=u
   cases u with
   | none=>rfl
   | some d=>cases d<;>rfl
 · rename_i c
   rcases c with ⟨cT,a,t⟩
   cases cT with
   | value x=>
     cases x with
     | func f=>simp only;cases E.mi f<;>rfl
     | _=>rfl
   | builtin b=>cases b<;>rfl
   | _=>rfl
noncomputable def Vx (g:Ground):Bool:=Ground.rec (motive:=fun _=>Bool) true true true true (fun _=>false) (fun _=>false) g
noncomputable def vy (o:Oper):List Nat:=List.rec (motive:=fun _=>List Nat) [] (fun e _ ih=>bc (Vx e.ground) (e.on::ih) ih) o.after.toList
theorem DN (o:Oper):vy o=ks o:=by
 unfold vy ks
 induction o.after.toList with
 | nil=>rfl
 | cons e tl ih=>
   show bc (Vx e.ground) (e.on::_) _=_
   rw[ih,List.filter_cons]
   obtain ⟨on,g⟩:=e
   cases g<;>rfl
noncomputable def Tu (l:List Nat) (x:Nat):List Nat:=bc (z8 l x) l (x::l)
noncomputable def Lu (acc:List (List Nat)) (es:List Nat):List Nat:=EY (fun l e=>EY Tu (A9 acc e []) (Tu l e)) es []
noncomputable def O6 (l:List Oper):List (List Nat)→List (List Nat):=List.rec (motive:=fun _=>List (List Nat)→List (List Nat)) (fun acc=>acc) (fun o _ ih acc=>pR (Lu acc (vy o)) fun a=>pR (lf acc [a]) ih) l
theorem Lv (l:List Nat) (x:Nat):Tu l x=if l.contains x then l else x::l:=by
 unfold Tu;rw[uh,sC];cases l.contains x<;>rfl
theorem O7 (acc:List (List Nat)) (o:Oper):Lu acc (vy o)=(ks o).foldl (fun l e=>(acc.getD e []).foldl (fun l x=>if l.contains x then l else x::l) (if l.contains e then l else e::l)) []:=by
 unfold Lu
 rw[DM,DN]
 congr 1
 funext l e
 rw[DM,wG,Lv]
 congr 1
 funext l x
 exact Lv l x
theorem Hs:∀(l:List Oper) (acc:List (List Nat)),O6 l acc=GF l acc
 | [],_=>rfl
 | o::rest,acc=>by
   show pR (Lu acc (vy o)) (fun a=>pR (lf acc [a]) (O6 rest))=_
   rw[yD,yD,Hs rest,ng,O7];rfl
noncomputable def nM (an:List (List Nat)) (i j:Nat):Bool:=z8 (A9 an i []) j
theorem qi (an:List (List Nat)) (i j:Nat):nM an i j=dv an i j:=by
 unfold nM dv GG;rw[uh,wG]
noncomputable def A_ (ops:List Oper) (an:List (List Nat)):Bool:=
 allI (fun o i=>bc (yC (fun e=>bc (Nat.ble (Nat.add e 1) i) (nM an i e) false) (vy o)) (yC (fun j=>bc (Nat.ble (Nat.add j 1) i) (WV (fun e=>bc (Nat.beq e j) true (nM an e j)) (vy o)) false) (A9 an i [])) false) ops 0
theorem ui (a b:Nat):decide (a<b)=Nat.ble (a+1) b:=by
 by_cases h:a<b
 · rw[decide_eq_true h,Nat.ble_eq_true_of_le h]
 · rw[decide_eq_false h];symm;rw[Bool.eq_false_iff];intro e;exact h (Nat.le_of_ble_eq_true e)
theorem nN (a b:Bool):bc a b false=(a&&b):=by cases a<;>rfl
theorem Vy (a b:Bool):bc a true b=(a||b):=by cases a<;>rfl
theorem Ht (ops:List Oper) (an:List (List Nat)):A_ ops an=Am ops an:=by
 unfold A_ Am
 rw[EZ]
 congr 1
 funext ⟨o,i⟩
 simp only[nN,Vy,qZ,Ts,wG,DN,qi,ui,z_]
 rfl
noncomputable def WX (l:List Operand):List Nat:=List.rec (motive:=fun _=>List Nat) [] (fun x _ ih=>Operand.rec (motive:=fun _=>List Nat) (fun t=>t::ih) (fun _=>ih) (fun _=>ih) (fun _=>ih) x) l
theorem Tv (l:List Operand):WX l=l.filterMap fun | .tmp t=>some t | _=>none:=by
 induction l with
 | nil=>rfl
 | cons x tl ih=>
   cases x<;>simp only[List.filterMap_cons,←ih]<;>rfl
noncomputable def opL (op:Op):List Operand:=match op with
 | .move x | .assign x | .box _ x | .load _ x | .nilCheck x | .unOp _ _ x | .convert _ _ x | .fieldAddr _ x _ | .field _ x _ | .extract x _=> [x]
 | .pick c a b=> [c,a,b]
 | .store _ a v | .binOp _ _ a v _ | .indexAddr _ a v | .index _ a v=> [a,v]
 | .alloc _=> []
 | .call c=>lf (match c.callee with | .value f=> [f] | .invoke r _=> [r] | .builtin _=> []) c.args.toList
 | op=>op.operands.toList
theorem WY (op:Op):opL op=op.operands.toList:=by
 cases op<;>try rfl
 rename_i c
 obtain ⟨cT,a,t⟩:=c
 cases cT<;>simp [opL,Op.operands,Call.operands,ng]
noncomputable def A' (ops:List Oper) (an:List (List Nat)):Bool:=
 allI (fun o i=>bc (ob true (fun g=>bc (nM an i g.1) (ob false (fun p=>ob false (fun _=>true) p.dst) (iL ops g.1)) false) o.guard)
  (allI (fun p j=>bc (Nat.beq i j) true (ob true (fun d=>bc (ob true (fun a=>vx (Nat.beq a d)) o.dst) (bc (z8 (WX (opL o.op)) d) (bc (nM an i j) true (nM an j i)) true) false) p.dst)) ops 0) false) ops 0
theorem Hu (ops:List Oper) (an:List (List Nat)):A' ops an=An ops an:=by
 unfold A' An
 rw[EZ]
 congr 1
 funext ⟨o,i⟩
 simp only[nN,Vy,qi]
 congr 1
 · obtain ⟨dst,op,ty,pos,after,guard⟩:=o
   cases guard with
   | none=>rfl
   | some g=>
     show (dv an i g.1&&ob false (fun p=>ob false (fun _=>true) p.dst) (iL ops g.1))=_
     rw[gJ]
     congr 1
     cases ops[g.1]? with
     | none=>rfl
     | some p=>
       show ob false (fun _=>true) p.dst=(p.dst).isSome
       cases p.dst<;>rfl
 · rw[EZ]
   congr 1
   funext ⟨p,j⟩
   show (Nat.beq i j||_)=(i==j||_)
   rw[z_]
   congr 1
   obtain ⟨dst,op,ty,pos,after,guard⟩:=p
   cases dst with
   | none=>rfl
   | some d=>
     show (ob true (fun a=>vx (Nat.beq a d)) o.dst&&bc (z8 (WX (opL o.op)) d) (dv an i j||dv an j i) true)=(o.dst !=some d&&(!(tmpsOf o).contains d||dv an i j||dv an j i))
     congr 1
     · cases o.dst with
       | none=>rfl
       | some a=>
         show vx (Nat.beq a d)= !(some a==some d)
         rw[Option.some_beq_some,z_]
         cases Nat.beq a d<;>rfl
     · rw[uh,Tv,WY,Bool.or_assoc]
       show bc ((tmpsOf o).contains d) _ _=_
       cases (tmpsOf o).contains d<;>rfl
noncomputable def JQ (an:List (List Nat)) (l:List Nat):Bool:=List.rec (motive:=fun _=>Bool) true (fun e rest ih=>List.rec (motive:=fun _=>Bool) true (fun f _ _=>bc (nM an f e) ih false) rest) l
theorem DP (an:List (List Nat)):∀l,JQ an l=tX an l
 | []=>rfl
 | [e]=>rfl
 | e::f::rest=>by
   show bc (nM an f e) (JQ an (f::rest)) false=_
   rw[DP an (f::rest),qi,nN];rfl
noncomputable def O8 (ops:List Oper):List Nat:=Hq (fun o _=>qh E o.op) ops 0
theorem O9 (ops:List Oper):O8 E ops=mL E ops:=by
 unfold O8 mL;rw[Hr];simp only[sE]
noncomputable def DQ (bK:List Nat) (an:List (List Nat)) (i:Nat):Nat:=EX (fun e=>nM an i e) bK
theorem Hv (bK:List Nat) (an:List (List Nat)) (i:Nat):DQ bK an i=bx bK an i:=by
 unfold DQ bx;rw[MX];simp only[qi]
noncomputable def E0 (ops:List Oper) (bK:List Nat) (an:List (List Nat)) (k:Nat):List Nat:=
 lf (Hq (fun o i=>bc (qh E o.op) false (Nat.beq (DQ bK an i) k)) ops 0) (ob [] (fun x=> [x]) (iL bK k))
theorem MZ (ops:List Oper) (bK:List Nat) (an:List (List Nat)) (k:Nat):E0 E ops bK an k=group E ops bK an k:=by
 unfold E0 group
 rw[ng,Hr,gJ]
 congr 1
 · congr 1
   congr 1
   funext ⟨o,i⟩
   show bc (qh E o.op) false (Nat.beq (DQ bK an i) k)=(!fw E o.op&&(bx bK an i==k))
   rw[sE,Hv,z_];cases fw E o.op<;>rfl
 · cases bK[k]? <;>rfl
noncomputable def E1 (ops:List Oper) (bK:List Nat) (an:List (List Nat)) (n:Nat):Nat→List Nat:=
 Nat.rec (motive:=fun _=>Nat→List Nat) (fun _=> []) (fun _ ih k=>lf (E0 E ops bK an k) (canon (Nat.add k 1) ih)) n
theorem Ba (ops:List Oper) (bK:List Nat) (an:List (List Nat)):∀n k,E1 E ops bK an n k=nz E ops bK an n k
 | 0,_=>rfl
 | n+1,k=>by
   show lf (E0 E ops bK an k) (canon (k+1) (E1 E ops bK an n))=_
   rw[lp,Ba ops bK an n,ng,MZ];rfl
noncomputable def Aq (bK:List Nat) (an:List (List Nat)) (i:Nat):Nat:=JO (fun e=>vx (nM an e i)) bK
theorem JR (bK:List Nat) (an:List (List Nat)) (i:Nat):Aq bK an i=j2 bK an i:=by
 unfold Aq j2;rw[MY];congr 2;funext e;rw[qi];cases dv an e i<;>rfl
noncomputable def JS (n:Nat):List Nat→List Nat:=Nat.rec (motive:=fun _=>List Nat→List Nat) (fun l=>l) (fun m ih l=>ih (m::l)) n
theorem DS:∀n l,JS n l=List.range.loop n l
 | 0,_=>rfl
 | n+1,l=>DS n (n::l)
noncomputable def E2 (ops:List Oper) (an:List (List Nat)) (bK:List Nat) (l:List Nat):List Nat→Nat→Bool:=
 List.rec (motive:=fun _=>List Nat→Nat→Bool) (fun seen k=>bc (yC (fun i=>z8 seen i) (JS (iK ops) [])) (Nat.beq k (iK bK)) false)
  (fun i _ ih seen k=>bc (Nat.ble (Nat.add i 1) (iK ops)) (bc (z8 seen i) false (bc (yC (fun j=>z8 seen j) (A9 an i []))
   (bc (ob (qh E (default:Oper).op) (fun o=>qh E o.op) (iL ops i)) (bc (ob false (fun e=>Nat.beq e i) (iL bK k)) (canon (Nat.add k 1) (ih (i::seen))) false)
    (bc (Nat.beq (DQ bK an i) k) (ih (i::seen) k) false)) false)) false) l
theorem yE (ops:Array Oper) (an:List (List Nat)) (bK:List Nat):∀l seen k,E2 E ops.toList an bK l seen k=kt E ops an bK l seen k
 | [],seen,k=>by
   show bc (yC (fun i=>z8 seen i) (JS (iK ops.toList) [])) (Nat.beq k (iK bK)) false=_
   rw[nN,qZ,DS,fI,fI]
   simp only[uh]
   unfold kt
   rw[z_,Array.length_toList]
   rfl
 | i::rest,seen,k=>by
   show bc (Nat.ble (i+1) (iK ops.toList)) (bc (z8 seen i) false (bc (yC (fun j=>z8 seen j) (A9 an i []))
    (bc (ob (qh E (default:Oper).op) (fun o=>qh E o.op) (iL ops.toList i)) (bc (ob false (fun e=>Nat.beq e i) (iL bK k)) (canon (k+1) (E2 E ops.toList an bK rest (i::seen))) false)
     (bc (Nat.beq (DQ bK an i) k) (E2 E ops.toList an bK rest (i::seen) k) false)) false)) false=_
   rw[lp,yE ops an bK rest,yE ops an bK rest,qZ,wG,uh,Hv,fI]
   simp only[uh]
   rw[show ob (qh E (default:Oper).op) (fun o=>qh E o.op) (iL ops.toList i)=fw E ((ops.getD i default).op) by
    rw[gJ,sE]
    rw[show ops.getD i default=(ops.toList[i]?).getD default by rw[Array.getElem?_toList,Array.getD_eq_getD_getElem?]]
    cases ops.toList[i]? with
    | none=>rfl
    | some o=>exact sE E o.op]
   rw[show ob false (fun e=>Nat.beq e i) (iL bK k)=(bK[k]? ==some i) by rw[gJ];cases bK[k]? with
    | none=>rfl
    | some e=>rw[Option.some_beq_some,z_];rfl]
   rw[kt,ui]
   simp only[nN]
   rw[←z_ (bx bK an i) k,show ops.toList.length=ops.size from Array.length_toList]
   rw[sC,sC]
   show (Nat.ble (i+1) ops.size&&(bif List.contains seen i then false else _))=_
   unfold GG
   cases Nat.ble (i+1) ops.size<;>cases List.contains seen i<;>cases (an.getD i []).all (fun j=>List.contains seen j)<;>cases fw E ((ops.getD i default).op)<;>rfl
noncomputable def nin (x:Nat) (l:List Nat):Bool:=List.rec (motive:=fun _=>Bool) true (fun y _ ih=>bc (Nat.beq x y) false ih) l
noncomputable def E3 (l:List Nat):Bool:=List.rec (motive:=fun _=>Bool) true (fun x tl ih=>bc (nin x tl) ih false) l
theorem WZ (x:Nat) (l:List Nat):nin x l= !l.contains x:=by
 induction l with
 | nil=>rfl
 | cons y tl ih=>
   show bc (Nat.beq x y) false (nin x tl)=_
   rw[ih,List.contains_cons,z_]
   cases Nat.beq x y<;>rfl
theorem yF:∀l,E3 l=nodup l
 | []=>rfl
 | x::tl=>by
   show bc (nin x tl) (E3 tl) false=_
   rw[yF tl,WZ,nN];rfl
noncomputable def O_ {R:Type} (ops:Array Oper) (k:bO→R) (d:R):R:=
 pR ops.toList fun l=>pR (O6 l []) fun an=>pR (O8 E l) fun bK=>pR (E1 E l bK an (Nat.add (iK bK) 1) 0) fun order=>
 bc (A_ l an) (bc (A' l an) (bc (JQ an bK) (bc (E3 bK) (bc (E2 E l an bK order [] 0) (k ⟨an,bK,order⟩) d) d) d) d) d
theorem O' {R:Type} (ops:Array Oper) (k:bO→R) (d:R):O_ E ops k d=match sf E ops with | some pl=>k pl | none=>d:=by
 unfold O_ sf
 simp only[yD,Hs,O9,Ba,Ht,Hu,DP,yF,yE,fI]
 generalize Am ops.toList (GF ops.toList [])=a
 generalize An ops.toList (GF ops.toList [])=b
 generalize tX (GF ops.toList []) (mL E ops.toList)=c
 generalize nodup (mL E ops.toList)=e
 show bc a (bc b (bc c (bc e (bc (kt E ops _ _ (nz E ops.toList _ _ ((mL E ops.toList).length+1) 0) [] 0) _ d) d) d) d) d=_
 generalize kt E ops (GF ops.toList []) (mL E ops.toList) (nz E ops.toList (mL E ops.toList) (GF ops.toList []) ((mL E ops.toList).length+1) 0) [] 0=f
 cases a<;>cases b<;>cases c<;>cases e<;>cases f<;>rfl
end Go.Ab.Fa
end
