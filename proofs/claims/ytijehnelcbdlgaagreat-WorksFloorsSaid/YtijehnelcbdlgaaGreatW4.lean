import Derived.Test.YtijehnelcbdlgaaGreatW0
import Derived.Test.YtijehnelcbdlgaaGreatW3
namespace Go.Proofs.aE
open Go.Proofs Ab
noncomputable section
set_option maxRecDepth 100000
set_option maxHeartbeats 4000000
set_option linter.unusedVariables false
set_option linter.unusedSimpArgs false
def zZ:Code:=(Tryz.f28.body).getD .skip
theorem R8:Tryz.f28.body=some zZ:=by kernel_rfl
def K2:Code:=(bz zZ).getD 0 .skip
def mG (j:cF) (ai:Int):Nat→Nat→Int→Int
 | 0,_,aN=>aN
 | c7+1,i0,aN=>mG j ai c7 (i0+1) (IntKind.i64.wrap (aN+(IntKind.i64.wrap (((j.ab.g i0).aL)*(l5 (j.ab.g i0) ai)))))
theorem z4 {d:Nat} {h:ak} (ai:Int) (j:cF) (bh:Nat) (aO:aH h j.ah j.ab) (bL:aH h j.ag j.ae) (gS:aB.ok h j):∀(k_ i_:Nat) (aN:Int) (_:i_+k_=j.ab.length) (x:Nat→AV) (hh:ak) (az:Tidy hh) (aw:Has h hh) (aM:hh.get bh=some (aK.cells [j.ah,j.ag] 25 false)),bu (cA (d+1)) K2 ⟨((x 0)::(Zi ai)::(Pt bh)::(x 3)::(x 4)::(Zi aN)::(Zn i_)::rx x 7 24 []),hh,[],.no⟩ (.exit 0) hh (fun r y=>((y 0)::(Zi ai)::(Pt bh)::(y 3)::(y 4)::(Zi r)::rx y 6 25 [])) (fun r=>True) (mG j ai k_ i_ aN)
 | 0,i0,aN,fK,x,hh,az,aw,aM=>by
   have bY:=aO.small
   have eD:=bL.small
   have jh:=az _ _ aM
   have dx:bJ (some (.slice 48)) (some j.ah)=some (Zn j.ab.length):=(aO.has aw).len
   have q2:(decide (((i0:Nat):Int)<((j.ab.length:Nat):Int)))=false:=d!
   exact bu.out aN rfl (pk (d+1) _ _ hh _ hh (CN 2<|MM (ao 22 0 j.ah aM k!)<|VV dx<|VV (aQ 3 false false .i64 ((i0:Nat):Int) ((j.ab.length:Nat):Int))<|BB q2<|ZZ) k!) (bC.refl az) trivial k!
 | c7+1,i0,aN,fK,x,hh,az,aw,aM=>by
   have bY:=aO.small
   have eD:=bL.small
   have jh:=az _ _ aM
   have dx:bJ (some (.slice 48)) (some j.ah)=some (Zn j.ab.length):=(aO.has aw).len
   have q2:(decide (((i0:Nat):Int)<((j.ab.length:Nat):Int)))=true:=d!
   obtain ⟨p4,q5,jW⟩:=(aO.has aw).elem (i:=i0) o!
   have kV:b_ env (some (.slice 48)) (some j.ah) (some (Zn i0))=some (AV.ptr p4 q5):=jW
   have lX:bm env hh 3 (AV.ptr p4 (q5+1))=some (Zi (j.ab.g i0).aL):=(aO.has aw).part (t:=3) (j:=1) o! jW k! rfl
   obtain ⟨p8,q9,tu⟩:=(aO.has aw).elem (i:=i0) o!
   have JP:b_ env (some (.slice 48)) (some j.ah) (some (Zn i0))=some (AV.ptr p8 q9):=tu
   have sq:bm env hh 48 (AV.ptr p8 q9)=some (AV.agg [(AV.str (j.ab.g i0).name),(Zi (j.ab.g i0).aL),(j.ab.g i0).aG,(j.ab.g i0).bq]):=(aO.has aw).load o! tu
   have Ix:=R7 (d:=d) (j.ab.g i0) ai ((aO.has aw).ok (i:=i0) o!) az
   have R9:AV.same 20 j.ah j.ah=true:=(aO.has aw).same 19
   have IE:AV.same 20 (AV.agg [(AV.str (j.ab.g i0).name),(Zi (j.ab.g i0).aL),(j.ab.g i0).aG,(j.ab.g i0).bq]) (AV.agg [(AV.str (j.ab.g i0).name),(Zi (j.ab.g i0).aL),(j.ab.g i0).aG,(j.ab.g i0).bq])=true:=iC 18 (th (fun n=>fT n _) (th (fun n=>aJ n _ _) (th ((aO.has aw).ok (i:=i0) o!).2.1.same (th ((aO.has aw).ok (i:=i0) o!).2.2.same OA))))
   have Ub:=ew 3 false true i0 1 o!
   exact bu.round (by simp only[mG,aj,af]) (pk (d+1) _ _ hh _ hh (CN 2<|MM (ao 22 0 j.ah aM k!)<|VV dx<|VV (aQ 3 false false .i64 ((i0:Nat):Int) ((j.ab.length:Nat):Int))<|BB q2<|CN 2<|MM (ao 22 0 j.ah aM k!)<|CC<|VV kV<|CC<|MM lX<|CC<|MM (ao 22 0 j.ah aM k!)<|CC<|VV JP<|MM sq<|CC<|EE Ix<|CN 3<|HH (ao 22 0 j.ah aM k!)<|HH R9<|HH (ao 22 0 j.ah aM k!)<|HH R9<|HH lX<|HH (show AV.same 20 (Zi (j.ab.g i0).aL) (Zi (j.ab.g i0).aL)=true from aJ 19 _ _)<|HH lX<|HH (show AV.same 20 (Zi (j.ab.g i0).aL) (Zi (j.ab.g i0).aL)=true from aJ 19 _ _)<|HH (ao 22 0 j.ah aM k!)<|HH R9<|HH sq<|HH IE<|CC<|VV Ub<|CC<|ZZ) k!) (bC.refl az) _ k! (fun x=>z4 ai j bh aO bL gS c7 (i0+1) (IntKind.i64.wrap (aN+(IntKind.i64.wrap (((j.ab.g i0).aL)*(l5 (j.ab.g i0) ai))))) o! x hh az aw aM)
def cO (j:cF) (ai:Int):Int:=(mG j ai j.ab.length 0 0)
theorem xA {d:Nat} {h:ak} (j:cF) (ai:Int) (bF:aB.ok h j) (bM:Tidy h):cA (d+2) (.fn 28) [(AV.agg [j.ah,j.ag]),(Zi ai)] h= .ret (Zi (cO j ai)) h:=by
 have eS:=bF.1.small
 have eT:=bF.2.small
 obtain ⟨h1,bD,cb,ib,aI,cf⟩:=ik bM (aK.cells [j.ah,j.ag] 25 false)
 have bx:Has h h1:=cf
 obtain ⟨Eo,h3,cW,dE,Gc⟩:=z4 (d:=d) (h:=h) ai j h.nx bF.1 bF.2 bF j.ab.length 0 0 o! (fun k_=>(((AV.agg [j.ah,j.ag])::(Zi ai)::(Pt h.nx)::AV.undef::(Zi 0)::(Zi 0)::(Zi 0)::gB 24):List AV).getD k_ AV.undef) h1 cb bx aI
 have j0:=dE.y
 have oU:h1.nx≤h3.nx:=dE.n
 have fB:Has h h3:=bx.trans dE.a
 have e:cO j ai=(mG j ai j.ab.length 0 0):=by simp only[cO,aj,af]
 rw[e]
 exact ax rfl (aR Tryz.func28 R8 rfl (.inr rfl) (pk (d+1) _ _ h _ h3 (NN bD (fun i=>(Pt i))<|CN 3<|LL cW<|CN 2<|ZZ) k!) k!) fB rfl
structure Tl where
 l:List Int
instance:Inhabited Tl:=⟨⟨[]⟩⟩
theorem Ge {h:ak} {e s xt:TypeId} {tys:Array TypeId} {bytes b p n:Nat} {f ro:Bool} {z0:AV} {M:List AV} (y:Tidy h) (hp:h.get p=some (.cells [] e false)) (hg:h.get b=some (.cells M e ro)) (ln:M.length=n) (zB:M.all AV.scalar=true) (hl:n≤1000000000)
 (t0:tys[0]? =some s) (t1:tys[1]? =some xt) (hs:env.P.underlying s=some (.slice e)) (hx:env.P.underlying xt=some (.slice e)) (JL:bQ env e=some 1) (hb:gD env e=some bytes) (Au:fl env e=some z0) (hz:z0.cells.length=1) (h8:bytes≤63):
 ∃q o h',cP env h tys (.slice p 0 0 0 false) (.slice b 0 n n f)=some (.slice q 0 n n o,h')∧Tidy h'∧h.nx≤h'.nx∧Has h h'∧h'.get q=some (.cells M e false)∧p≤q:=by
 have hi:nA (.slice e)=false:=rfl
 have hlen:pa (.slice b 0 n n f)=some n:=rfl
 have pn:=y _ _ hp
 by_cases hn:n=0
 · subst hn
   have hM:M=[]:=List.length_eq_zero_iff.1 ln
   subst hM
   have hf:eO h 1 0 (.slice b 0 0 0 f)=some []:=by simp [eO,hg]
   have hgp:∀i,(h.put p (some (.cells [] e false))).get i=h.get i:=fun i=>by
    by_cases q:i=p
    · subst q;rw[ak.di,hp]
    · rw[ak.bR (Ne.symm q)]
   refine ⟨p,false,h.put p (some (.cells [] e false)),?_,fun i w q=>y i w (by rw[←hgp];exact q),Nat.le_refl _,fun i w q=>by rw[hgp];exact q,by rw[hgp];exact hp,Nat.le_refl _⟩
   simp only[cP,t0,t1,hs,hx,hi,JL,hb,hlen,hf,Au,hz,zB,hp,if_true,if_false,and_self,List.length_nil,Bool.false_eq_true,Nat.zero_mul,Nat.add_zero,Nat.le_refl,setFrom]
 · have hf:eO h 1 n (.slice b 0 n n f)=some M:=by
    simp only[eO,hg,Nat.le_refl,if_true,if_neg hn,Nat.mul_one,Nat.zero_add,List.drop_zero]
    rw[if_pos o!,List.take_of_length_le o!]
   obtain ⟨h',nw⟩:=vJ (h:=h) (.cells M e false)
   refine ⟨h.nx,true,h',?_,lT y nw,by rw[vI nw];omega,uj y nw,rk nw,by omega⟩
   have T0:¬n≤0:=by omega
   have big:(4*n+4096)*(bytes+1)≤1099511627776:=Nat.le_trans (Nat.mul_le_mul (show 4*n+4096≤17179869184 by omega) (show bytes+1≤64 by omega)) (by decide)
   simp only[cP,t0,t1,hs,hx,hi,JL,hb,hlen,hf,Au,hz,zB,hp,T0,if_true,if_false,and_self,Bool.false_eq_true,Nat.zero_mul,Nat.add_zero,Nat.zero_add,List.length_nil,Nat.le_refl,ln,Nat.mul_one]
   rw[if_pos ⟨big,trivial,fun e=>e.elim⟩]
   simp only[List.drop_nil,List.take_nil,List.nil_append,nw]
theorem OV (l:List Bool):(bs l).all AV.scalar=true:=List.all_eq_true.2 fun x hx=>by
 obtain ⟨y,_,rfl⟩:=List.mem_map.1 hx
 rfl
theorem bW.pre {k:IntKind} {h:ak} {e:TypeId} {v:AV} {l:List Int} (x:bW h k e v l) {t:TypeId} (ht:env.P.underlying t=some (.slice e)) {i:Nat} (hi:i<l.length):∃r,fm env t v none (some (.int .i64 ((i:Nat):Int))) none=some r∧bW h k e r (l.take i):=by
 rcases x.at_.block with h0 | ⟨p,o,m,c,b,C,f,ro,h1,hc,h2,h3⟩
 · omega
 · subst h1
   have hm:m=l.length:=by
    have:=x.at_.lens
    rw[gG] at this
    simp only[Option.some.injEq,AV.int.injEq,true_and] at this
    omega
   subst hm
   refine ⟨.slice p o i c b,?_,⟨⟨x.at_.size,by rw[kJ,Nat.mul_one],by have:=x.small;simp;omega,?_,.inr ⟨p,o,i,c,b,C,f,ro,rfl,by omega,h2,fun j hj=>?_⟩⟩,x.agg,.inr (.inr ⟨_,_,_,_,_,rfl⟩)⟩⟩
   · simp only[fm,ht,x.at_.size,hc,if_true,qu (len:=l.length) (cap:=c) none (some (.int .i64 ((i:Nat):Int))) (.inr ⟨rfl,rfl⟩) (.inl rfl) (Nat.zero_le i) o!]
     rw[if_neg o!]
     simp
   · rw[gG,List.length_take,Nat.min_eq_left (Nat.le_of_lt hi)]
   · rw[kJ,List.length_take] at hj
     rw[h3 j (by rw[kJ];omega),KH k l o!,KH k (l.take i) (by rw[List.length_take];omega)]
     rw[List.g,List.g,List.getD_eq_getElem?_getD,List.getD_eq_getElem?_getD,List.getElem?_take_of_lt o!]
theorem M3 {L:List Int} {n v:Int} {i:Nat} (h:∀q,q<L.length→0≤L.g q∧L.g q<n) (h0:0≤v) (h1:v<n):∀q,q<(L.set i v).length→0≤(L.set i v).g q∧(L.set i v).g q<n:=fun q hq=>by
 rw[List.length_set] at hq
 by_cases e:i=q
 · subst e;rw[Eh hq];exact ⟨h0,h1⟩
 · rw[Ei e];exact h q hq
theorem VZ {m:Nat}:∀q,q<(List.replicate m (0:Int)).length→0≤(List.replicate m (0:Int)).g q∧(List.replicate m (0:Int)).g q<(m:Int):=fun q hq=>by
 rw[List.length_replicate] at hq
 rw[List.g,List.getD_eq_getElem?_getD,List.getElem?_replicate,if_pos hq]
 exact ⟨Int.le_refl _,by show (0:Int)<_;omega⟩
def nU:Code:=(Tryz.f124.body).getD .skip
theorem mH:Tryz.f124.body=some nU:=by kernel_rfl
def vR:Code:=(bz nU).getD 0 .skip
def dW (P:Nat→Int) (bn:List Int):Nat→Nat→Option (Int)
 | 0,_=>none
 | c7+1,i0=>(bif (!decide ((P i0)=0)) then some (P i0) else dW P bn c7 (i0+1))
theorem kM {d:Nat} {h:ak} (bk:AV) (g:FuncId) (cap:List AV) (bn:List Int) (P:Nat→Int) (aO:bW h .i64 3 bk bn) (hP:∀j,j<bn.length→∀aV hh,Tidy hh→Has h hh→bW hh .i64 3 aV (bn.take j)→cA d (.fn g) (aV:: .int .i64 (bn.g j)::cap) hh= .ret (.int .i64 (P j)) hh):∀(k_ i_:Nat) (_:i_+k_=bn.length) (x:Nat→AV) (hh:ak) (az:Tidy hh) (aw:Has h hh),aA (cA (d)) vR ⟨(bk::(x 1)::(AV.func g [] cap)::rx x 3 11 (bk::(Zn bn.length)::(Zn i_)::rx x 17 14 [])),hh,[],.no⟩ (.exit 0) hh (fun y=>(bk::(y 1)::(AV.func g [] cap)::rx y 3 11 (bk::(Zn bn.length)::rx y 16 15 []))) (fun r y=>(bk::(y 1)::(AV.func g [] cap)::rx y 3 3 ((Zi r)::rx y 7 7 (bk::(Zn bn.length)::rx y 16 15 [])))) (dW P bn k_ i_)
 | 0,i0,fK,x,hh,az,aw=>by
   have bY:=aO.small
   have q1:(decide (((i0:Nat):Int)<((bn.length:Nat):Int)))=false:=d!
   exact aA.out rfl (pk (d) _ _ hh _ hh (VV (aQ 3 false false .i64 ((i0:Nat):Int) ((bn.length:Nat):Int))<|BB q1<|ZZ) k!) (bC.refl az) k!
 | c7+1,i0,fK,x,hh,az,aw=>by
   have bY:=aO.small
   have q1:(decide (((i0:Nat):Int)<((bn.length:Nat):Int)))=true:=d!
   obtain ⟨p3,q4,eb,_⟩:=(aO.has aw).elem (i:=i0) o!
   have jE:b_ env (some (.slice 3)) (some bk) (some (Zn i0))=some (AV.ptr p3 q4):=eb
   have jK:bm env hh 3 (AV.ptr p3 q4)=some (Zi (bn.g i0)):=(aO.has aw).load o! eb
   obtain ⟨r6,aee,fr8⟩:=(aO.has aw).pre (t:=26) k! (i:=i0) o!
   have sl7:fm env 26 bk (none) (some (Zn i0)) (none)=some r6:=aee
   have k9:=hP i0 o! r6 hh az aw fr8
   rcases Bool.eq_false_or_eq_true (!decide ((P i0)=0)) with f1 | f1
   · have ea:=C2 f1
     exact aA.ret (P i0) (by simp only[dW,f1,aj,af]) (pk (d) _ _ hh _ hh (VV (aQ 3 false false .i64 ((i0:Nat):Int) ((bn.length:Nat):Int))<|BC q1<|VV jE<|MM jK<|CN 5<|QQ sl7<|CC<|EE k9<|CN 2<|VV (eC 31 false true .i64 (P i0) 0)<|BB f1<|CN 2<|ZZ) k!) (bC.refl az) k!
   · have ea:=C3 f1
     have u11:=ew 3 false true i0 1 o!
     exact aA.round (by simp only[dW,f1,aj,af]) (pk (d) _ _ hh _ hh (VV (aQ 3 false false .i64 ((i0:Nat):Int) ((bn.length:Nat):Int))<|BC q1<|VV jE<|MM jK<|CN 5<|QQ sl7<|CC<|EE k9<|CN 2<|VV (eC 31 false true .i64 (P i0) 0)<|BV f1 u11<|CC<|ZZ) k!) (bC.refl az) _ k! (fun x=>kM bk g cap bn P aO hP c7 (i0+1) o! x hh az aw)
def b8 (bn:List Int) (cc:Int) (P:Nat→Int):Int:=(bif (decide (cc<((bn.length:Nat):Int))) then 3 else (match (dW P bn bn.length 0) with | none=>0 | some vL=>vL))
theorem yY {d:Nat} {h:ak} {bk:AV} {g:FuncId} {cap:List AV} (bn:List Int) (cc:Int) (P:Nat→Int) (eH:bW h .i64 3 bk bn) (hP:∀j,j<bn.length→∀aV hh,Tidy hh→Has h hh→bW hh .i64 3 aV (bn.take j)→cA d (.fn g) (aV:: .int .i64 (bn.g j)::cap) hh= .ret (.int .i64 (P j)) hh) (bM:Tidy h):cA (d+1) (.fn 124) [bk,(Zi cc),(AV.func g [] cap)] h= .ret (Zi (b8 bn cc P)) h:=by
 have xB:=eH.small
 have dx:bJ (some (.slice 3)) (some bk)=some (Zn bn.length):=eH.len
 rcases Bool.eq_false_or_eq_true (decide (cc<((bn.length:Nat):Int))) with f0 | f0
 · have fw:=of_decide_eq_true f0
   have e:b8 bn cc P=3:=by simp only[b8,f0,aj,af]
   rw[e]
   exact ax rfl (aR Tryz.func124 mH rfl (.inr rfl) (pk (d) _ _ h _ h (CN 2<|VV dx<|CC<|VV (bK 3 false false .i64 ((bn.length:Nat):Int) cc)<|BC f0<|ZZ) k!) k!) (Has.refl _) rfl
 · have fw:=of_decide_eq_false f0
   have yh:bJ (some (.slice 3)) (some bk)=some (Zn bn.length):=eH.len
   cases cQ:dW P bn bn.length 0 with
   | none=>
     obtain ⟨tp,h5,cC,b4⟩:=aA.n cQ (kM (d:=d) (h:=h) bk g cap bn P eH hP bn.length 0 o! (fun k_=>((bk::(Zi cc)::(AV.func g [] cap)::AV.undef::AV.undef::AV.undef::(Zi 0)::AV.undef::AV.undef::AV.undef::bk::(Zn bn.length)::(Zi cc)::(AV.bool (decide (cc<((bn.length:Nat):Int))))::bk::(Zn bn.length)::(Zi 0)::gB 14):List AV).getD k_ AV.undef) h bM (Has.refl _))
     have js:=b4.y
     have ph:h.nx≤h5.nx:=b4.n
     have eV:Has h h5:=b4.a
     have e:b8 bn cc P=0:=by simp only[b8,f0,cQ,aj,af]
     rw[e]
     exact ax rfl (aR Tryz.func124 mH rfl (.inr rfl) (pk (d) _ _ h _ h5 (CN 2<|VV dx<|CC<|VV (bK 3 false false .i64 ((bn.length:Nat):Int) cc)<|BC f0<|VV yh<|CC<|LL cC<|CC<|ZZ) k!) k!) eV rfl
   | some vL=>
     obtain ⟨tp,h5,cC,b4⟩:=aA.r cQ (kM (d:=d) (h:=h) bk g cap bn P eH hP bn.length 0 o! (fun k_=>((bk::(Zi cc)::(AV.func g [] cap)::AV.undef::AV.undef::AV.undef::(Zi 0)::AV.undef::AV.undef::AV.undef::bk::(Zn bn.length)::(Zi cc)::(AV.bool (decide (cc<((bn.length:Nat):Int))))::bk::(Zn bn.length)::(Zi 0)::gB 14):List AV).getD k_ AV.undef) h bM (Has.refl _))
     have js:=b4.y
     have ph:h.nx≤h5.nx:=b4.n
     have eV:Has h h5:=b4.a
     have e:b8 bn cc P=vL:=by simp only[b8,f0,cQ,aj,af]
     rw[e]
     exact ax rfl (aR Tryz.func124 mH rfl (.inr rfl) (pk (d) _ _ h _ h5 (CN 2<|VV dx<|CC<|VV (bK 3 false false .i64 ((bn.length:Nat):Int) cc)<|BC f0<|VV yh<|CC<|LL cC<|ZZ) k!) k!) eV rfl
def nV:Code:=(Tryz.f127.body).getD .skip
theorem mI:Tryz.f127.body=some nV:=by kernel_rfl
def vS:Code:=(bz nV).getD 0 .skip
def dX (P:Nat→Int) (bn:List jD):Nat→Nat→Option (Int)
 | 0,_=>none
 | c7+1,i0=>(bif (!decide ((P i0)=0)) then some (P i0) else dX P bn c7 (i0+1))
theorem kN {d:Nat} {h:ak} (bk:AV) (g:FuncId) (cap:List AV) (bn:List jD) (P:Nat→Int) (aO:aH h bk bn) (hP:∀j,j<bn.length→∀aV hh,Tidy hh→Has h hh→aH hh aV (bn.take j)→cA d (.fn g) (aV:: .agg (aB.c (bn.g j))::cap) hh= .ret (.int .i64 (P j)) hh):∀(k_ i_:Nat) (_:i_+k_=bn.length) (x:Nat→AV) (hh:ak) (az:Tidy hh) (aw:Has h hh),aA (cA (d)) vS ⟨(bk::(x 1)::(AV.func g [] cap)::rx x 3 11 (bk::(Zn bn.length)::(Zn i_)::rx x 17 14 [])),hh,[],.no⟩ (.exit 0) hh (fun y=>(bk::(y 1)::(AV.func g [] cap)::rx y 3 11 (bk::(Zn bn.length)::rx y 16 15 []))) (fun r y=>(bk::(y 1)::(AV.func g [] cap)::rx y 3 3 ((Zi r)::rx y 7 7 (bk::(Zn bn.length)::rx y 16 15 [])))) (dX P bn k_ i_)
 | 0,i0,fK,x,hh,az,aw=>by
   have bY:=aO.small
   have q1:(decide (((i0:Nat):Int)<((bn.length:Nat):Int)))=false:=d!
   exact aA.out rfl (pk (d) _ _ hh _ hh (VV (aQ 3 false false .i64 ((i0:Nat):Int) ((bn.length:Nat):Int))<|BB q1<|ZZ) k!) (bC.refl az) k!
 | c7+1,i0,fK,x,hh,az,aw=>by
   have bY:=aO.small
   have q1:(decide (((i0:Nat):Int)<((bn.length:Nat):Int)))=true:=d!
   obtain ⟨p3,q4,eb⟩:=(aO.has aw).elem (i:=i0) o!
   have jE:b_ env (some (.slice 50)) (some bk) (some (Zn i0))=some (AV.ptr p3 q4):=eb
   have jK:bm env hh 50 (AV.ptr p3 q4)=some (AV.agg [(Zi (bn.g i0).ai),(Zi (bn.g i0).aC)]):=(aO.has aw).load o! eb
   obtain ⟨h6,oX,mD,IY,tC,kX⟩:=ik az (aK.cells [(Zi 0),(Zi 0)] 50 false)
   have kW:Has hh h6:=kX
   obtain ⟨h7,mF,eP,xq,gT,hG⟩:=nJ (t:=50) (n:=2) (i:=hh.nx) (L:=[(Zi (bn.g i0).ai),(Zi (bn.g i0).aC)]) mD tC k! rfl rfl (by simp only[AV.cells,List.all_cons,List.all_nil,Bool.and_true,Bool.and_self,fp,dV,fq,ft,db,iF,iG,iH,iI,iJ,fu])
   have er:Has hh h7:=Has.cI kW hG az o!
   obtain ⟨r8,ZI,ZJ⟩:=(aO.has aw).pre (t:=46) k! (i:=i0) o!
   have sl9:fm env 46 bk (none) (some (Zn i0)) (none)=some r8:=ZI
   have Ix:=hP i0 o! r8 h7 eP (aw.trans er) (ZJ.has er)
   have R9:AV.same 20 (AV.agg [(Zi (bn.g i0).ai),(Zi (bn.g i0).aC)]) (AV.agg [(Zi (bn.g i0).ai),(Zi (bn.g i0).aC)])=true:=iC 18 (th (fun n=>aJ n _ _) (th (fun n=>aJ n _ _) OA))
   rcases Bool.eq_false_or_eq_true (!decide ((P i0)=0)) with f1 | f1
   · have ea:=C2 f1
     exact aA.ret (P i0) (by simp only[dX,f1,aj,af]) (pk (d) _ _ hh _ h7 (VV (aQ 3 false false .i64 ((i0:Nat):Int) ((bn.length:Nat):Int))<|BC q1<|VV jE<|MM jK<|NN oX (fun i=>(Pt i))<|CC<|SS mF<|CN 3<|QQ sl9<|MM (ao 50 0 (AV.agg [(Zi (bn.g i0).ai),(Zi (bn.g i0).aC)]) gT k!)<|EE Ix<|CC<|HH (ao 50 0 (AV.agg [(Zi (bn.g i0).ai),(Zi (bn.g i0).aC)]) gT k!)<|HH R9<|CC<|VV (eC 31 false true .i64 (P i0) 0)<|BB f1<|CN 2<|ZZ) k!) (⟨eP,er,by omega⟩) k!
   · have ea:=C3 f1
     have Ub:=ew 3 false true i0 1 o!
     exact aA.round (by simp only[dX,f1,aj,af]) (pk (d) _ _ hh _ h7 (VV (aQ 3 false false .i64 ((i0:Nat):Int) ((bn.length:Nat):Int))<|BC q1<|VV jE<|MM jK<|NN oX (fun i=>(Pt i))<|CC<|SS mF<|CN 3<|QQ sl9<|MM (ao 50 0 (AV.agg [(Zi (bn.g i0).ai),(Zi (bn.g i0).aC)]) gT k!)<|EE Ix<|CC<|HH (ao 50 0 (AV.agg [(Zi (bn.g i0).ai),(Zi (bn.g i0).aC)]) gT k!)<|HH R9<|CC<|VV (eC 31 false true .i64 (P i0) 0)<|BV f1 Ub<|CC<|ZZ) k!) (⟨eP,er,by omega⟩) _ k! (fun x=>kN bk g cap bn P aO hP c7 (i0+1) o! x h7 eP (aw.trans er))
def dv (bn:List jD) (cc:Int) (P:Nat→Int):Int:=(bif (decide (cc<((bn.length:Nat):Int))) then 3 else (match (dX P bn bn.length 0) with | none=>0 | some vL=>vL))
theorem yZ {d:Nat} {h:ak} {bk:AV} {g:FuncId} {cap:List AV} (bn:List jD) (cc:Int) (P:Nat→Int) (eH:aH h bk bn) (hP:∀j,j<bn.length→∀aV hh,Tidy hh→Has h hh→aH hh aV (bn.take j)→cA d (.fn g) (aV:: .agg (aB.c (bn.g j))::cap) hh= .ret (.int .i64 (P j)) hh) (bM:Tidy h):cA (d+1) (.fn 127) [bk,(Zi cc),(AV.func g [] cap)] h= .ret (Zi (dv bn cc P)) h:=by
 have xB:=eH.small
 have dx:bJ (some (.slice 50)) (some bk)=some (Zn bn.length):=eH.len
 rcases Bool.eq_false_or_eq_true (decide (cc<((bn.length:Nat):Int))) with f0 | f0
 · have fw:=of_decide_eq_true f0
   have e:dv bn cc P=3:=by simp only[dv,f0,aj,af]
   rw[e]
   exact ax rfl (aR Tryz.func127 mI rfl (.inr rfl) (pk (d) _ _ h _ h (CN 2<|VV dx<|CC<|VV (bK 3 false false .i64 ((bn.length:Nat):Int) cc)<|BC f0<|ZZ) k!) k!) (Has.refl _) rfl
 · have fw:=of_decide_eq_false f0
   have yh:bJ (some (.slice 50)) (some bk)=some (Zn bn.length):=eH.len
   cases cQ:dX P bn bn.length 0 with
   | none=>
     obtain ⟨tp,h5,cC,b4⟩:=aA.n cQ (kN (d:=d) (h:=h) bk g cap bn P eH hP bn.length 0 o! (fun k_=>((bk::(Zi cc)::(AV.func g [] cap)::AV.undef::AV.undef::AV.undef::(Zi 0)::AV.undef::AV.undef::AV.undef::bk::(Zn bn.length)::(Zi cc)::(AV.bool (decide (cc<((bn.length:Nat):Int))))::bk::(Zn bn.length)::(Zi 0)::gB 14):List AV).getD k_ AV.undef) h bM (Has.refl _))
     have js:=b4.y
     have ph:h.nx≤h5.nx:=b4.n
     have eV:Has h h5:=b4.a
     have e:dv bn cc P=0:=by simp only[dv,f0,cQ,aj,af]
     rw[e]
     exact ax rfl (aR Tryz.func127 mI rfl (.inr rfl) (pk (d) _ _ h _ h5 (CN 2<|VV dx<|CC<|VV (bK 3 false false .i64 ((bn.length:Nat):Int) cc)<|BC f0<|VV yh<|CC<|LL cC<|CC<|ZZ) k!) k!) eV rfl
   | some vL=>
     obtain ⟨tp,h5,cC,b4⟩:=aA.r cQ (kN (d:=d) (h:=h) bk g cap bn P eH hP bn.length 0 o! (fun k_=>((bk::(Zi cc)::(AV.func g [] cap)::AV.undef::AV.undef::AV.undef::(Zi 0)::AV.undef::AV.undef::AV.undef::bk::(Zn bn.length)::(Zi cc)::(AV.bool (decide (cc<((bn.length:Nat):Int))))::bk::(Zn bn.length)::(Zi 0)::gB 14):List AV).getD k_ AV.undef) h bM (Has.refl _))
     have js:=b4.y
     have ph:h.nx≤h5.nx:=b4.n
     have eV:Has h h5:=b4.a
     have e:dv bn cc P=vL:=by simp only[dv,f0,cQ,aj,af]
     rw[e]
     exact ax rfl (aR Tryz.func127 mI rfl (.inr rfl) (pk (d) _ _ h _ h5 (CN 2<|VV dx<|CC<|VV (bK 3 false false .i64 ((bn.length:Nat):Int) cc)<|BC f0<|VV yh<|CC<|LL cC<|ZZ) k!) k!) eV rfl
def xC:Code:=(Tryz.f123.body).getD .skip
theorem Cj:Tryz.f123.body=some xC:=by kernel_rfl
def hH (other:Task) (t:Task):Bool:=(decide (other.name=t.name))
theorem Ck {d:Nat} {h:ak} (other:Task) (t:Task) (tB:Nat) (AZ:aB.ok h other) (OW:aB.ok h t) (g_t:h.get tB=some (.cells (aB.c t) 48 false)) (bM:Tidy h):cA (d+1) (.fn 123) [(AV.agg [(AV.str other.name),(Zi other.aL),other.aG,other.bq]),(Pt tB)] h= .ret (AV.bool (hH other t)) h:=by
 have Uc:=AZ.2.2.small
 have Es:=OW.2.2.small
 obtain ⟨h1,bD,cb,ib,aI,cf⟩:=ik bM (aK.cells [(AV.str other.name),(Zi other.aL),other.aG,other.bq] 48 false)
 have bx:Has h h1:=cf
 have e:hH other t=(decide (other.name=t.name)):=by simp only[hH,aj,af]
 rw[e]
 exact ax rfl (aR Tryz.func123 Cj rfl (.inr rfl) (pk (d) _ _ h _ h1 (NN bD (fun i=>(Pt i))<|CN 2<|MM (ao 9 0 (AV.str other.name) aI k!)<|CC<|MM (ao 9 0 (AV.str t.name) (cf _ _ g_t) k!)<|VV (Iy 9 false false other.name t.name)<|CC<|ZZ) k!) k!) bx rfl
def vf:Code:=(Tryz.f132.body).getD .skip
theorem Cl:Tryz.f132.body=some vf:=by kernel_rfl
def Gg:Code:=(bz vf).getD 0 .skip
def hI (s:List Int) (v:Int):Nat→Nat→Option (Int)
 | 0,_=>none
 | c7+1,i0=>(bif (decide (v=(s.g i0))) then some ((i0:Nat):Int) else hI s v c7 (i0+1))
theorem pU {d:Nat} {h:ak} (sV:AV) (v:Int) (s:List Int) (aO:bW h .i64 3 sV s):∀(k_ i_:Nat) (_:i_+k_=s.length) (x:Nat→AV) (hh:ak) (az:Tidy hh) (aw:Has h hh),aA (cA (d)) Gg ⟨(sV::(Zi v)::rx x 2 5 ((Zn s.length)::(Zn i_)::rx x 9 10 [])),hh,[],.no⟩ (.exit 0) hh (fun y=>(sV::(Zi v)::rx y 2 5 ((Zn s.length)::rx y 8 11 []))) (fun r y=>(sV::(Zi v)::(y 2)::(y 3)::(Zi r)::(y 5)::(y 6)::(Zn s.length)::rx y 8 11 [])) (hI s v k_ i_)
 | 0,i0,fK,x,hh,az,aw=>by
   have bY:=aO.small
   have q1:(decide (((i0:Nat):Int)<((s.length:Nat):Int)))=false:=d!
   exact aA.out rfl (pk (d) _ _ hh _ hh (VV (aQ 3 false false .i64 ((i0:Nat):Int) ((s.length:Nat):Int))<|BB q1<|ZZ) k!) (bC.refl az) k!
 | c7+1,i0,fK,x,hh,az,aw=>by
   have bY:=aO.small
   have q1:(decide (((i0:Nat):Int)<((s.length:Nat):Int)))=true:=d!
   obtain ⟨p3,q4,eb,_⟩:=(aO.has aw).elem (i:=i0) o!
   have jE:b_ env (some (.slice 3)) (some sV) (some (Zn i0))=some (AV.ptr p3 q4):=eb
   have jK:bm env hh 3 (AV.ptr p3 q4)=some (Zi (s.g i0)):=(aO.has aw).load o! eb
   rcases Bool.eq_false_or_eq_true (decide (v=(s.g i0))) with f1 | f1
   · have ea:=of_decide_eq_true f1
     exact aA.ret ((i0:Nat):Int) (by simp only[hI,f1,aj,af]) (pk (d) _ _ hh _ hh (VV (aQ 3 false false .i64 ((i0:Nat):Int) ((s.length:Nat):Int))<|BB q1<|CN 5<|VV jE<|MM jK<|VV (f_ 3 false false .i64 v (s.g i0))<|BB f1<|CN 2<|ZZ) k!) (bC.refl az) k!
   · have ea:=of_decide_eq_false f1
     have u7:=ew 3 false true i0 1 o!
     exact aA.round (by simp only[hI,f1,aj,af]) (pk (d) _ _ hh _ hh (VV (aQ 3 false false .i64 ((i0:Nat):Int) ((s.length:Nat):Int))<|BB q1<|CN 5<|VV jE<|MM jK<|VV (f_ 3 false false .i64 v (s.g i0))<|BV f1 u7<|CC<|ZZ) k!) (bC.refl az) _ k! (fun x=>pU sV v s aO c7 (i0+1) o! x hh az aw)
def l6 (s:List Int) (v:Int):Int:=(match (hI s v s.length 0) with | none=>(-1) | some uK=>uK)
theorem K3 {d:Nat} {h:ak} {sV:AV} (s:List Int) (v:Int) (pD:bW h .i64 3 sV s) (bM:Tidy h):cA (d+1) (.fn 132) [sV,(Zi v)] h= .ret (Zi (l6 s v)) h:=by
 have xD:=pD.small
 have dx:bJ (some (.slice 3)) (some sV)=some (Zn s.length):=pD.len
 cases dk:hI s v s.length 0 with
 | none=>
   obtain ⟨Eo,h3,cW,dE⟩:=aA.n dk (pU (d:=d) (h:=h) sV v s pD s.length 0 o! (fun k_=>((sV::(Zi v)::AV.undef::AV.undef::(Zi 0)::AV.undef::sV::(Zn s.length)::(Zi 0)::gB 10):List AV).getD k_ AV.undef) h bM (Has.refl _))
   have j0:=dE.y
   have oU:h.nx≤h3.nx:=dE.n
   have fB:Has h h3:=dE.a
   have e:l6 s v=(-1):=by simp only[l6,dk,aj,af]
   rw[e]
   exact ax rfl (aR Tryz.func132 Cl rfl (.inr rfl) (pk (d) _ _ h _ h3 (CN 2<|VV dx<|CC<|LL cW<|CC<|ZZ) k!) k!) fB rfl
 | some uK=>
   obtain ⟨Eo,h3,cW,dE⟩:=aA.r dk (pU (d:=d) (h:=h) sV v s pD s.length 0 o! (fun k_=>((sV::(Zi v)::AV.undef::AV.undef::(Zi 0)::AV.undef::sV::(Zn s.length)::(Zi 0)::gB 10):List AV).getD k_ AV.undef) h bM (Has.refl _))
   have j0:=dE.y
   have oU:h.nx≤h3.nx:=dE.n
   have fB:Has h h3:=dE.a
   have e:l6 s v=uK:=by simp only[l6,dk,aj,af]
   rw[e]
   exact ax rfl (aR Tryz.func132 Cl rfl (.inr rfl) (pk (d) _ _ h _ h3 (CN 2<|VV dx<|CC<|LL cW<|ZZ) k!) k!) fB rfl
def y7:Code:=(Tryz.f74.body).getD .skip
theorem Dl:Tryz.f74.body=some y7:=by kernel_rfl
def aY (s:List Int) (v:Int):Bool:=(decide (0≤(l6 s v)))
theorem mV {d:Nat} {h:ak} {sV:AV} (s:List Int) (v:Int) (pD:bW h .i64 3 sV s) (bM:Tidy h):cA (d+2) (.fn 74) [sV,(Zi v)] h= .ret (AV.bool (aY s v)) h:=by
 have xD:=pD.small
 have k1:=K3 (d:=d) s v pD bM
 have e:aY s v=(decide (0≤(l6 s v))):=by simp only[aY,aj,af]
 rw[e]
 exact ax rfl (aR Tryz.func74 Dl rfl (.inr rfl) (pk (d+1) _ _ h _ h (CN 3<|EE k1<|VV (jf 3 false true .i64 (l6 s v) 0)<|CC<|ZZ) k!) k!) (Has.refl _) rfl
def IZ:Code:=(Tryz.f73.body).getD .skip
theorem I0:Tryz.f73.body=some IZ:=by kernel_rfl
def fQ (OX:Int) (aC:Int):Bool:=(bif (decide (0≤OX)) then (decide (OX<aC)) else false)
theorem xE {d:Nat} {h:ak} (OX:Int) (aC:Int) (bM:Tidy h):cA (d+1) (.fn 73) [(Zi OX),(Zi aC)] h= .ret (AV.bool (fQ OX aC)) h:=by
 rcases Bool.eq_false_or_eq_true (decide (0≤OX)) with f0 | f0
 · have fw:=of_decide_eq_true f0
   have e:fQ OX aC=(decide (OX<aC)):=by simp only[fQ,f0,aj,af]
   rw[e]
   exact ax rfl (aR Tryz.func73 I0 rfl (.inr rfl) (pk (d) _ _ h _ h (CN 2<|VV (jf 3 false true .i64 OX 0)<|CC<|BC f0<|BC f0<|BV f0 (aQ 3 false false .i64 OX aC)<|VV (nK (decide (OX<aC)) false f0)<|CC<|ZZ) k!) k!) (Has.refl _) rfl
 · have fw:=of_decide_eq_false f0
   have e:fQ OX aC=false:=by simp only[fQ,f0,aj,af]
   rw[e]
   exact ax rfl (aR Tryz.func73 I0 rfl (.inr rfl) (pk (d) _ _ h _ h (CN 2<|VV (jf 3 false true .i64 OX 0)<|CC<|BB f0<|BB f0<|BV f0 (vK false f0)<|CC<|ZZ) k!) k!) (Has.refl _) rfl
def y8:Code:=(Tryz.f126.body).getD .skip
theorem pV:Tryz.f126.body=some y8:=by kernel_rfl
def fD (j:cF) (rZ:List Int) (km:Int):Int:=(bif (!(fQ km ((j.ab.length:Nat):Int))) then 7 else (bif (aY rZ km) then 6 else 0))
theorem Dm {d:Nat} {h:ak} {l7:AV} (j:cF) (rZ:List Int) (km:Int) (bF:aB.ok h j) (ji:bW h .i64 3 l7 rZ) (bM:Tidy h):cA (d+3) (.fn 126) [(AV.agg [j.ah,j.ag]),l7,(Zi km)] h= .ret (Zi (fD j rZ km)) h:=by
 have vT:=ji.small
 have eS:=bF.1.small
 have eT:=bF.2.small
 obtain ⟨h1,bD,cb,ib,aI,cf⟩:=ik bM (aK.cells [j.ah,j.ag] 25 false)
 have bx:Has h h1:=cf
 have pB:bJ (some (.slice 48)) (some j.ah)=some (Zn j.ab.length):=bF.1.len
 have k3:=xE (d:=d+1) km ((j.ab.length:Nat):Int) cb
 rcases Bool.eq_false_or_eq_true (!(fQ km ((j.ab.length:Nat):Int))) with f0 | f0
 · have e:fD j rZ km=7:=by simp only[fD,f0,aj,af]
   rw[e]
   exact ax rfl (aR Tryz.func126 pV rfl (.inr rfl) (pk (d+2) _ _ h _ h1 (NN bD (fun i=>(Pt i))<|CN 3<|MM (ao 22 0 j.ah aI k!)<|VV pB<|EE k3<|CN 2<|BC f0<|ZZ) k!) k!) bx rfl
 · have k5:=mV (d:=d) rZ km (ji.has bx) cb
   rcases Bool.eq_false_or_eq_true (aY rZ km) with f1 | f1
   · have e:fD j rZ km=6:=by simp only[fD,f0,f1,aj,af]
     rw[e]
     exact ax rfl (aR Tryz.func126 pV rfl (.inr rfl) (pk (d+2) _ _ h _ h1 (NN bD (fun i=>(Pt i))<|CN 3<|MM (ao 22 0 j.ah aI k!)<|VV pB<|EE k3<|CN 2<|BB f0<|CN 2<|EE k5<|CC<|BC f1<|ZZ) k!) k!) bx rfl
   · have e:fD j rZ km=0:=by simp only[fD,f0,f1,aj,af]
     rw[e]
     exact ax rfl (aR Tryz.func126 pV rfl (.inr rfl) (pk (d+2) _ _ h _ h1 (NN bD (fun i=>(Pt i))<|CN 3<|MM (ao 22 0 j.ah aI k!)<|VV pB<|EE k3<|CN 2<|BB f0<|CN 2<|EE k5<|CC<|BC f1<|ZZ) k!) k!) bx rfl
def xF:Code:=(Tryz.f125.body).getD .skip
theorem Cm:Tryz.f125.body=some xF:=by kernel_rfl
def cK (rZ:List Int) (km:Int) (j:cF):Int:=(fD j rZ km)
theorem Cn {d:Nat} {h:ak} {l7:AV} (rZ:List Int) (km:Int) (j:cF) (jB:Nat) (ji:bW h .i64 3 l7 rZ) (bF:aB.ok h j) (ZK:h.get jB=some (.cells (aB.c j) 25 false)) (bM:Tidy h):cA (d+4) (.fn 125) [l7,(Zi km),(Pt jB)] h= .ret (Zi (cK rZ km j)) h:=by
 have vT:=ji.small
 have eS:=bF.1.small
 have eT:=bF.2.small
 have k1:=Dm (d:=d) j rZ km bF ji bM
 have e:cK rZ km j=(fD j rZ km):=by simp only[cK,aj,af]
 rw[e]
 exact ax rfl (aR Tryz.func125 Cm rfl (.inr rfl) (pk (d+3) _ _ h _ h (CC<|MM (ao 25 0 (AV.agg [j.ah,j.ag]) ZK k!)<|CN 2<|EE k1<|CC<|ZZ) k!) k!) (Has.refl _) rfl
def y9:Code:=(Tryz.f159.body).getD .skip
theorem Dn:Tryz.f159.body=some y9:=by kernel_rfl
def iK (other:jD) (u:jD):Bool:=(decide (other.ai=u.ai))
theorem Dp {d:Nat} {h:ak} (other:jD) (u:jD) (uB:Nat) (AZ:aB.ok h other) (h_u:aB.ok h u) (g_u:h.get uB=some (.cells (aB.c u) 50 false)) (bM:Tidy h):cA (d+1) (.fn 159) [(AV.agg [(Zi other.ai),(Zi other.aC)]),(Pt uB)] h= .ret (AV.bool (iK other u)) h:=by
 obtain ⟨h1,bD,cb,ib,aI,cf⟩:=ik bM (aK.cells [(Zi other.ai),(Zi other.aC)] 50 false)
 have bx:Has h h1:=cf
 have e:iK other u=(decide (other.ai=u.ai)):=by simp only[iK,aj,af]
 rw[e]
 exact ax rfl (aR Tryz.func159 Dn rfl (.inr rfl) (pk (d) _ _ h _ h1 (NN bD (fun i=>(Pt i))<|CN 2<|MM (ao 3 0 (Zi other.ai) aI k!)<|CC<|MM (ao 3 0 (Zi u.ai) (cf _ _ g_u) k!)<|VV (f_ 3 false false .i64 other.ai u.ai)<|CC<|ZZ) k!) k!) bx rfl
def r5:Code:=(Tryz.f135.body).getD .skip
theorem xG:Tryz.f135.body=some r5:=by kernel_rfl
def Co:Code:=(bz r5).getD 0 .skip
def ff (s:List jD) (P:jD→Bool):Nat→Nat→Option (Int)
 | 0,_=>none
 | c7+1,i0=>(bif (P (s.g i0)) then some ((i0:Nat):Int) else ff s P c7 (i0+1))
theorem nM {d:Nat} {h:ak} (sV:AV) (g:FuncId) (cap:List AV) (s:List jD) (P:jD→Bool) (aO:aH h sV s) (hP:∀y∈s,∀hh,Tidy hh→Has h hh→cA d (.fn g) (.agg (aB.c y)::cap) hh= .ret (.bool (P y)) hh):∀(k_ i_:Nat) (_:i_+k_=s.length) (x:Nat→AV) (hh:ak) (az:Tidy hh) (aw:Has h hh),aA (cA (d)) Co ⟨(sV::(AV.func g [] cap)::rx x 2 5 ((Zn s.length)::(Zn i_)::rx x 9 10 [])),hh,[],.no⟩ (.exit 0) hh (fun y=>(sV::(AV.func g [] cap)::rx y 2 5 ((Zn s.length)::rx y 8 11 []))) (fun r y=>(sV::(AV.func g [] cap)::(y 2)::(y 3)::(Zi r)::(y 5)::(y 6)::(Zn s.length)::rx y 8 11 [])) (ff s P k_ i_)
 | 0,i0,fK,x,hh,az,aw=>by
   have bY:=aO.small
   have q1:(decide (((i0:Nat):Int)<((s.length:Nat):Int)))=false:=d!
   exact aA.out rfl (pk (d) _ _ hh _ hh (VV (aQ 3 false false .i64 ((i0:Nat):Int) ((s.length:Nat):Int))<|BB q1<|ZZ) k!) (bC.refl az) k!
 | c7+1,i0,fK,x,hh,az,aw=>by
   have bY:=aO.small
   have q1:(decide (((i0:Nat):Int)<((s.length:Nat):Int)))=true:=d!
   obtain ⟨p3,q4,eb⟩:=(aO.has aw).elem (i:=i0) o!
   have jE:b_ env (some (.slice 50)) (some sV) (some (Zn i0))=some (AV.ptr p3 q4):=eb
   have jK:bm env hh 50 (AV.ptr p3 q4)=some (AV.agg [(Zi (s.g i0).ai),(Zi (s.g i0).aC)]):=(aO.has aw).load o! eb
   have k6:=hP (s.g i0) (MQ o!) hh az aw
   rcases Bool.eq_false_or_eq_true (P (s.g i0)) with f1 | f1
   · exact aA.ret ((i0:Nat):Int) (by simp only[ff,f1,aj,af]) (pk (d) _ _ hh _ hh (VV (aQ 3 false false .i64 ((i0:Nat):Int) ((s.length:Nat):Int))<|BB q1<|CN 5<|VV jE<|MM jK<|EE k6<|BB f1<|CN 2<|ZZ) k!) (bC.refl az) k!
   · have u8:=ew 3 false true i0 1 o!
     exact aA.round (by simp only[ff,f1,aj,af]) (pk (d) _ _ hh _ hh (VV (aQ 3 false false .i64 ((i0:Nat):Int) ((s.length:Nat):Int))<|BB q1<|CN 5<|VV jE<|MM jK<|EE k6<|BV f1 u8<|CC<|ZZ) k!) (bC.refl az) _ k! (fun x=>nM sV g cap s P aO hP c7 (i0+1) o! x hh az aw)
def iT (s:List jD) (P:jD→Bool):Int:=(match (ff s P s.length 0) with | none=>(-1) | some uK=>uK)
theorem Gh {d:Nat} {h:ak} {sV:AV} {g:FuncId} {cap:List AV} (s:List jD) (P:jD→Bool) (pD:aH h sV s) (hP:∀y∈s,∀hh,Tidy hh→Has h hh→cA d (.fn g) (.agg (aB.c y)::cap) hh= .ret (.bool (P y)) hh) (bM:Tidy h):cA (d+1) (.fn 135) [sV,(AV.func g [] cap)] h= .ret (Zi (iT s P)) h:=by
 have xD:=pD.small
 have dx:bJ (some (.slice 50)) (some sV)=some (Zn s.length):=pD.len
 cases dk:ff s P s.length 0 with
 | none=>
   obtain ⟨Eo,h3,cW,dE⟩:=aA.n dk (nM (d:=d) (h:=h) sV g cap s P pD hP s.length 0 o! (fun k_=>((sV::(AV.func g [] cap)::AV.undef::AV.undef::(Zi 0)::AV.undef::sV::(Zn s.length)::(Zi 0)::gB 10):List AV).getD k_ AV.undef) h bM (Has.refl _))
   have j0:=dE.y
   have oU:h.nx≤h3.nx:=dE.n
   have fB:Has h h3:=dE.a
   have e:iT s P=(-1):=by simp only[iT,dk,aj,af]
   rw[e]
   exact ax rfl (aR Tryz.func135 xG rfl (.inr rfl) (pk (d) _ _ h _ h3 (CN 2<|VV dx<|CC<|LL cW<|CC<|ZZ) k!) k!) fB rfl
 | some uK=>
   obtain ⟨Eo,h3,cW,dE⟩:=aA.r dk (nM (d:=d) (h:=h) sV g cap s P pD hP s.length 0 o! (fun k_=>((sV::(AV.func g [] cap)::AV.undef::AV.undef::(Zi 0)::AV.undef::sV::(Zn s.length)::(Zi 0)::gB 10):List AV).getD k_ AV.undef) h bM (Has.refl _))
   have j0:=dE.y
   have oU:h.nx≤h3.nx:=dE.n
   have fB:Has h h3:=dE.a
   have e:iT s P=uK:=by simp only[iT,dk,aj,af]
   rw[e]
   exact ax rfl (aR Tryz.func135 xG rfl (.inr rfl) (pk (d) _ _ h _ h3 (CN 2<|VV dx<|CC<|LL cW<|ZZ) k!) k!) fB rfl
def vU:Code:=(Tryz.f81.body).getD .skip
theorem AD:Tryz.f81.body=some vU:=by kernel_rfl
def gn (s:List jD) (P:jD→Bool):Bool:=(decide (0≤(iT s P)))
theorem AE {d:Nat} {h:ak} {sV:AV} {g:FuncId} {cap:List AV} (s:List jD) (P:jD→Bool) (pD:aH h sV s) (hP:∀y∈s,∀hh,Tidy hh→Has h hh→cA d (.fn g) (.agg (aB.c y)::cap) hh= .ret (.bool (P y)) hh) (bM:Tidy h):cA (d+2) (.fn 81) [sV,(AV.func g [] cap)] h= .ret (AV.bool (gn s P)) h:=by
 have xD:=pD.small
 have k1:=Gh (d:=d) s P pD hP bM
 have e:gn s P=(decide (0≤(iT s P))):=by simp only[gn,aj,af]
 rw[e]
 exact ax rfl (aR Tryz.func81 AD rfl (.inr rfl) (pk (d+1) _ _ h _ h (CN 3<|EE k1<|VV (jf 3 false true .i64 (iT s P) 0)<|CC<|ZZ) k!) k!) (Has.refl _) rfl
theorem qy {n m:Int} (h:fQ n m=true):0≤n∧n<m:=by
 unfold fQ at h
 by_cases a:0≤n
 · rw[decide_eq_true a] at h;exact ⟨a,of_decide_eq_true h⟩
 · rw[decide_eq_false a] at h;cases h
def AF:Code:=(Tryz.f129.body).getD .skip
theorem kn:Tryz.f129.body=some AF:=by kernel_rfl
def dm (j:cF) (rZ:List jD) (u:jD):Int:=(bif (!(fQ u.ai ((j.ae.length:Nat):Int))) then 7 else (bif (gn rZ (fun y=>iK y u)) then 6 else (bif (decide (u.aC<1)) then 1 else (bif (decide (1000<u.aC)) then 1 else (bif (decide ((j.ae.g u.ai.toNat).aC<u.aC)) then 9 else 0)))))
theorem Gi {d:Nat} {h:ak} {l7:AV} (j:cF) (rZ:List jD) (u:jD) (bF:aB.ok h j) (ji:aH h l7 rZ) (h_u:aB.ok h u) (bM:Tidy h):cA (d+4) (.fn 129) [(AV.agg [j.ah,j.ag]),l7,(AV.agg [(Zi u.ai),(Zi u.aC)])] h= .ret (Zi (dm j rZ u)) h:=by
 have vT:=ji.small
 have eS:=bF.1.small
 have eT:=bF.2.small
 obtain ⟨h1,bD,cb,ib,aI,cf⟩:=ik bM (aK.cells [j.ah,j.ag] 25 false)
 have bx:Has h h1:=cf
 obtain ⟨h2,fA,eW,xw,bS,cx⟩:=ik cb (aK.cells [(Zi u.ai),(Zi u.aC)] 50 false)
 have cD:Has h h2:=bx.trans cx
 have yh:bJ (some (.slice 45)) (some j.ag)=some (Zn j.ae.length):=bF.2.len
 have k4:=xE (d:=d+2) u.ai ((j.ae.length:Nat):Int) eW
 rcases Bool.eq_false_or_eq_true (!(fQ u.ai ((j.ae.length:Nat):Int))) with f0 | f0
 · have e:dm j rZ u=7:=by simp only[dm,f0,aj,af]
   rw[e]
   exact ax rfl (aR Tryz.func129 kn rfl (.inr rfl) (pk (d+3) _ _ h _ h2 (NN bD (fun i=>(Pt i))<|NN fA (fun i=>(Pt i))<|CN 2<|MM (ao 3 0 (Zi u.ai) bS k!)<|CC<|MM (ao 23 1 j.ag (cx _ _ aI) k!)<|VV yh<|EE k4<|CN 2<|BC f0<|ZZ) k!) k!) cD rfl
 · have aef:(fQ u.ai ((j.ae.length:Nat):Int))=true:=d!
   have ac8:=qy aef
   have k6:=AE (d:=d+1) rZ (fun y=>iK y u) (ji.has cD) (fun y hy hh yy aa=>Dp (d:=d) y u h1.nx (aB.mono aa ((ji.has cD).oks y hy)) (aB.mono aa trivial) (aa _ _ bS) yy) eW
   rcases Bool.eq_false_or_eq_true (gn rZ (fun y=>iK y u)) with f1 | f1
   · have e:dm j rZ u=6:=by simp only[dm,f0,f1,aj,af]
     rw[e]
     exact ax rfl (aR Tryz.func129 kn rfl (.inr rfl) (pk (d+3) _ _ h _ h2 (NN bD (fun i=>(Pt i))<|NN fA (fun i=>(Pt i))<|CN 2<|MM (ao 3 0 (Zi u.ai) bS k!)<|CC<|MM (ao 23 1 j.ag (cx _ _ aI) k!)<|VV yh<|EE k4<|CN 2<|BB f0<|CN 2<|EE k6<|CC<|BC f1<|ZZ) k!) k!) cD rfl
   · rcases Bool.eq_false_or_eq_true (decide (u.aC<1)) with f2 | f2
     · have jX:=of_decide_eq_true f2
       have e:dm j rZ u=1:=by simp only[dm,f0,f1,f2,aj,af]
       rw[e]
       exact ax rfl (aR Tryz.func129 kn rfl (.inr rfl) (pk (d+3) _ _ h _ h2 (NN bD (fun i=>(Pt i))<|NN fA (fun i=>(Pt i))<|CN 2<|MM (ao 3 0 (Zi u.ai) bS k!)<|CC<|MM (ao 23 1 j.ag (cx _ _ aI) k!)<|VV yh<|EE k4<|CN 2<|BB f0<|CN 2<|EE k6<|CC<|BC f1<|MM (ao 3 1 (Zi u.aC) bS k!)<|VV (aQ 3 false true .i64 u.aC 1)<|CC<|BB f2<|BB f2<|BV f2 (qI true f2)<|CC<|TT<|CC<|ZZ) k!) k!) cD rfl
     · have jX:=of_decide_eq_false f2
       rcases Bool.eq_false_or_eq_true (decide (1000<u.aC)) with f3 | f3
       · have mu:=of_decide_eq_true f3
         have e:dm j rZ u=1:=by simp only[dm,f0,f1,f2,f3,aj,af]
         rw[e]
         exact ax rfl (aR Tryz.func129 kn rfl (.inr rfl) (pk (d+3) _ _ h _ h2 (NN bD (fun i=>(Pt i))<|NN fA (fun i=>(Pt i))<|CN 2<|MM (ao 3 0 (Zi u.ai) bS k!)<|CC<|MM (ao 23 1 j.ag (cx _ _ aI) k!)<|VV yh<|EE k4<|CN 2<|BB f0<|CN 2<|EE k6<|CC<|BC f1<|MM (ao 3 1 (Zi u.aC) bS k!)<|VV (aQ 3 false true .i64 u.aC 1)<|CC<|BC f2<|BM f2 (ao 3 1 (Zi u.aC) bS k!)<|BV f2 (bK 3 false true .i64 u.aC 1000)<|VV (bf (a:=some (AV.bool true)) (b:=some (AV.bool (decide (1000<u.aC)))) f2)<|CC<|BC f3<|ZZ) k!) k!) cD rfl
       · have mu:=of_decide_eq_false f3
         obtain ⟨Sa,K4,tD⟩:=bF.2.elem (i:=u.ai.toNat) o!
         have Dq:b_ env (some (.slice 45)) (some j.ag) (some (Zi u.ai))=some (AV.ptr Sa K4):=by rw[show (u.ai:Int)=((u.ai.toNat:Nat):Int) by omega];exact tD
         have uL:bm env h2 3 (AV.ptr Sa (K4+1))=some (Zi (j.ae.g u.ai.toNat).aC):=(bF.2.has cD).part (t:=3) (j:=1) o! tD k! rfl
         have RL:AV.same 20 j.ag j.ag=true:=bF.2.same 19
         rcases Bool.eq_false_or_eq_true (decide ((j.ae.g u.ai.toNat).aC<u.aC)) with f4 | f4
         · have tj:=of_decide_eq_true f4
           have e:dm j rZ u=9:=by simp only[dm,f0,f1,f2,f3,f4,aj,af]
           rw[e]
           exact ax rfl (aR Tryz.func129 kn rfl (.inr rfl) (pk (d+3) _ _ h _ h2 (NN bD (fun i=>(Pt i))<|NN fA (fun i=>(Pt i))<|CN 2<|MM (ao 3 0 (Zi u.ai) bS k!)<|CC<|MM (ao 23 1 j.ag (cx _ _ aI) k!)<|VV yh<|EE k4<|CN 2<|BB f0<|CN 2<|EE k6<|CC<|BC f1<|MM (ao 3 1 (Zi u.aC) bS k!)<|VV (aQ 3 false true .i64 u.aC 1)<|CC<|BC f2<|BM f2 (ao 3 1 (Zi u.aC) bS k!)<|BV f2 (bK 3 false true .i64 u.aC 1000)<|VV (bf (a:=some (AV.bool true)) (b:=some (AV.bool (decide (1000<u.aC)))) f2)<|CC<|BC f3<|MM (ao 3 1 (Zi u.aC) bS k!)<|CC<|MM (ao 23 1 j.ag (cx _ _ aI) k!)<|CC<|MM (ao 3 0 (Zi u.ai) bS k!)<|VV Dq<|CC<|MM uL<|VV (bK 3 false false .i64 u.aC (j.ae.g u.ai.toNat).aC)<|CC<|HH (ao 3 1 (Zi u.aC) bS k!)<|HH (show AV.same 20 (Zi u.aC) (Zi u.aC)=true from aJ 19 _ _)<|HH (ao 23 1 j.ag (cx _ _ aI) k!)<|HH RL<|HH (ao 3 0 (Zi u.ai) bS k!)<|HH (show AV.same 20 (Zi u.ai) (Zi u.ai)=true from aJ 19 _ _)<|HH uL<|HH (show AV.same 20 (Zi (j.ae.g u.ai.toNat).aC) (Zi (j.ae.g u.ai.toNat).aC)=true from aJ 19 _ _)<|BC f4<|ZZ) k!) k!) cD rfl
         · have tj:=of_decide_eq_false f4
           have e:dm j rZ u=0:=by simp only[dm,f0,f1,f2,f3,f4,aj,af]
           rw[e]
           exact ax rfl (aR Tryz.func129 kn rfl (.inr rfl) (pk (d+3) _ _ h _ h2 (NN bD (fun i=>(Pt i))<|NN fA (fun i=>(Pt i))<|CN 2<|MM (ao 3 0 (Zi u.ai) bS k!)<|CC<|MM (ao 23 1 j.ag (cx _ _ aI) k!)<|VV yh<|EE k4<|CN 2<|BB f0<|CN 2<|EE k6<|CC<|BC f1<|MM (ao 3 1 (Zi u.aC) bS k!)<|VV (aQ 3 false true .i64 u.aC 1)<|CC<|BC f2<|BM f2 (ao 3 1 (Zi u.aC) bS k!)<|BV f2 (bK 3 false true .i64 u.aC 1000)<|VV (bf (a:=some (AV.bool true)) (b:=some (AV.bool (decide (1000<u.aC)))) f2)<|CC<|BC f3<|MM (ao 3 1 (Zi u.aC) bS k!)<|CC<|MM (ao 23 1 j.ag (cx _ _ aI) k!)<|CC<|MM (ao 3 0 (Zi u.ai) bS k!)<|VV Dq<|CC<|MM uL<|VV (bK 3 false false .i64 u.aC (j.ae.g u.ai.toNat).aC)<|CC<|HH (ao 3 1 (Zi u.aC) bS k!)<|HH (show AV.same 20 (Zi u.aC) (Zi u.aC)=true from aJ 19 _ _)<|HH (ao 23 1 j.ag (cx _ _ aI) k!)<|HH RL<|HH (ao 3 0 (Zi u.ai) bS k!)<|HH (show AV.same 20 (Zi u.ai) (Zi u.ai)=true from aJ 19 _ _)<|HH uL<|HH (show AV.same 20 (Zi (j.ae.g u.ai.toNat).aC) (Zi (j.ae.g u.ai.toNat).aC)=true from aJ 19 _ _)<|BC f4<|ZZ) k!) k!) cD rfl
def xH:Code:=(Tryz.f128.body).getD .skip
theorem Cp:Tryz.f128.body=some xH:=by kernel_rfl
def fh (rZ:List jD) (u:jD) (j:cF):Int:=(dm j rZ u)
theorem Cq {d:Nat} {h:ak} {l7:AV} (rZ:List jD) (u:jD) (j:cF) (jB:Nat) (ji:aH h l7 rZ) (h_u:aB.ok h u) (bF:aB.ok h j) (ZK:h.get jB=some (.cells (aB.c j) 25 false)) (bM:Tidy h):cA (d+5) (.fn 128) [l7,(AV.agg [(Zi u.ai),(Zi u.aC)]),(Pt jB)] h= .ret (Zi (fh rZ u j)) h:=by
 have vT:=ji.small
 have eS:=bF.1.small
 have eT:=bF.2.small
 obtain ⟨h1,bD,cb,ib,aI,cf⟩:=ik bM (aK.cells [(Zi u.ai),(Zi u.aC)] 50 false)
 have bx:Has h h1:=cf
 have k2:=Gi (d:=d) j rZ u (aB.mono bx bF) (ji.has bx) trivial cb
 have e:fh rZ u j=(dm j rZ u):=by simp only[fh,aj,af]
 rw[e]
 exact ax rfl (aR Tryz.func128 Cp rfl (.inr rfl) (pk (d+4) _ _ h _ h1 (NN bD (fun i=>(Pt i))<|CC<|MM (ao 25 0 (AV.agg [j.ah,j.ag]) (cf _ _ ZK) k!)<|CC<|MM (ao 50 0 (AV.agg [(Zi u.ai),(Zi u.aC)]) aI k!)<|EE k2<|CC<|ZZ) k!) k!) bx rfl
def qz:Code:=(Tryz.f158.body).getD .skip
theorem vg:Tryz.f158.body=some qz:=by kernel_rfl
def AG:Code:=(bz qz).getD 0 .skip
def eI (s:List Task) (P:Task→Bool):Nat→Nat→Option (Int)
 | 0,_=>none
 | c7+1,i0=>(bif (P (s.g i0)) then some ((i0:Nat):Int) else eI s P c7 (i0+1))
theorem mJ {d:Nat} {h:ak} (sV:AV) (g:FuncId) (cap:List AV) (s:List Task) (P:Task→Bool) (aO:aH h sV s) (hP:∀y∈s,∀hh,Tidy hh→Has h hh→cA d (.fn g) (.agg (aB.c y)::cap) hh= .ret (.bool (P y)) hh):∀(k_ i_:Nat) (_:i_+k_=s.length) (x:Nat→AV) (hh:ak) (az:Tidy hh) (aw:Has h hh),aA (cA (d)) AG ⟨(sV::(AV.func g [] cap)::rx x 2 5 ((Zn s.length)::(Zn i_)::rx x 9 10 [])),hh,[],.no⟩ (.exit 0) hh (fun y=>(sV::(AV.func g [] cap)::rx y 2 5 ((Zn s.length)::rx y 8 11 []))) (fun r y=>(sV::(AV.func g [] cap)::(y 2)::(y 3)::(Zi r)::(y 5)::(y 6)::(Zn s.length)::rx y 8 11 [])) (eI s P k_ i_)
 | 0,i0,fK,x,hh,az,aw=>by
   have bY:=aO.small
   have q1:(decide (((i0:Nat):Int)<((s.length:Nat):Int)))=false:=d!
   exact aA.out rfl (pk (d) _ _ hh _ hh (VV (aQ 3 false false .i64 ((i0:Nat):Int) ((s.length:Nat):Int))<|BB q1<|ZZ) k!) (bC.refl az) k!
 | c7+1,i0,fK,x,hh,az,aw=>by
   have bY:=aO.small
   have q1:(decide (((i0:Nat):Int)<((s.length:Nat):Int)))=true:=d!
   obtain ⟨p3,q4,eb⟩:=(aO.has aw).elem (i:=i0) o!
   have jE:b_ env (some (.slice 48)) (some sV) (some (Zn i0))=some (AV.ptr p3 q4):=eb
   have jK:bm env hh 48 (AV.ptr p3 q4)=some (AV.agg [(AV.str (s.g i0).name),(Zi (s.g i0).aL),(s.g i0).aG,(s.g i0).bq]):=(aO.has aw).load o! eb
   have k6:=hP (s.g i0) (MQ o!) hh az aw
   rcases Bool.eq_false_or_eq_true (P (s.g i0)) with f1 | f1
   · exact aA.ret ((i0:Nat):Int) (by simp only[eI,f1,aj,af]) (pk (d) _ _ hh _ hh (VV (aQ 3 false false .i64 ((i0:Nat):Int) ((s.length:Nat):Int))<|BB q1<|CN 5<|VV jE<|MM jK<|EE k6<|BB f1<|CN 2<|ZZ) k!) (bC.refl az) k!
   · have u8:=ew 3 false true i0 1 o!
     exact aA.round (by simp only[eI,f1,aj,af]) (pk (d) _ _ hh _ hh (VV (aQ 3 false false .i64 ((i0:Nat):Int) ((s.length:Nat):Int))<|BB q1<|CN 5<|VV jE<|MM jK<|EE k6<|BV f1 u8<|CC<|ZZ) k!) (bC.refl az) _ k! (fun x=>mJ sV g cap s P aO hP c7 (i0+1) o! x hh az aw)
def hJ (s:List Task) (P:Task→Bool):Int:=(match (eI s P s.length 0) with | none=>(-1) | some uK=>uK)
theorem Dr {d:Nat} {h:ak} {sV:AV} {g:FuncId} {cap:List AV} (s:List Task) (P:Task→Bool) (pD:aH h sV s) (hP:∀y∈s,∀hh,Tidy hh→Has h hh→cA d (.fn g) (.agg (aB.c y)::cap) hh= .ret (.bool (P y)) hh) (bM:Tidy h):cA (d+1) (.fn 158) [sV,(AV.func g [] cap)] h= .ret (Zi (hJ s P)) h:=by
 have xD:=pD.small
 have dx:bJ (some (.slice 48)) (some sV)=some (Zn s.length):=pD.len
 cases dk:eI s P s.length 0 with
 | none=>
   obtain ⟨Eo,h3,cW,dE⟩:=aA.n dk (mJ (d:=d) (h:=h) sV g cap s P pD hP s.length 0 o! (fun k_=>((sV::(AV.func g [] cap)::AV.undef::AV.undef::(Zi 0)::AV.undef::sV::(Zn s.length)::(Zi 0)::gB 10):List AV).getD k_ AV.undef) h bM (Has.refl _))
   have j0:=dE.y
   have oU:h.nx≤h3.nx:=dE.n
   have fB:Has h h3:=dE.a
   have e:hJ s P=(-1):=by simp only[hJ,dk,aj,af]
   rw[e]
   exact ax rfl (aR Tryz.func158 vg rfl (.inr rfl) (pk (d) _ _ h _ h3 (CN 2<|VV dx<|CC<|LL cW<|CC<|ZZ) k!) k!) fB rfl
 | some uK=>
   obtain ⟨Eo,h3,cW,dE⟩:=aA.r dk (mJ (d:=d) (h:=h) sV g cap s P pD hP s.length 0 o! (fun k_=>((sV::(AV.func g [] cap)::AV.undef::AV.undef::(Zi 0)::AV.undef::sV::(Zn s.length)::(Zi 0)::gB 10):List AV).getD k_ AV.undef) h bM (Has.refl _))
   have j0:=dE.y
   have oU:h.nx≤h3.nx:=dE.n
   have fB:Has h h3:=dE.a
   have e:hJ s P=uK:=by simp only[hJ,dk,aj,af]
   rw[e]
   exact ax rfl (aR Tryz.func158 vg rfl (.inr rfl) (pk (d) _ _ h _ h3 (CN 2<|VV dx<|CC<|LL cW<|ZZ) k!) k!) fB rfl
def uM:Code:=(Tryz.f122.body).getD .skip
theorem y_:Tryz.f122.body=some uM:=by kernel_rfl
def eJ (s:List Task) (P:Task→Bool):Bool:=(decide (0≤(hJ s P)))
theorem zd {d:Nat} {h:ak} {sV:AV} {g:FuncId} {cap:List AV} (s:List Task) (P:Task→Bool) (pD:aH h sV s) (hP:∀y∈s,∀hh,Tidy hh→Has h hh→cA d (.fn g) (.agg (aB.c y)::cap) hh= .ret (.bool (P y)) hh) (bM:Tidy h):cA (d+2) (.fn 122) [sV,(AV.func g [] cap)] h= .ret (AV.bool (eJ s P)) h:=by
 have xD:=pD.small
 have k1:=Dr (d:=d) s P pD hP bM
 have e:eJ s P=(decide (0≤(hJ s P))):=by simp only[eJ,aj,af]
 rw[e]
 exact ax rfl (aR Tryz.func122 y_ rfl (.inr rfl) (pk (d+1) _ _ h _ h (CN 3<|EE k1<|VV (jf 3 false true .i64 (hJ s P) 0)<|CC<|ZZ) k!) k!) (Has.refl _) rfl
end
end Go.Proofs.aE
