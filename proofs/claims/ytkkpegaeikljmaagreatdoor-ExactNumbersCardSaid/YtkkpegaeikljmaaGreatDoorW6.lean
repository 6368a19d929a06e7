import Derived.Test.YtkkpegaeikljmaaGreatDoorA6
import Derived.Test.YtkkpegaeikljmaaGreatDoorW0
import Derived.Test.YtkkpegaeikljmaaGreatDoorEnv
import Derived.Test.YtkkpegaeikljmaaGreatDoorW5
namespace Go.Proofs.aF
open Go.Proofs Ab
set_option maxRecDepth 100000
set_option maxHeartbeats 4000000
set_option linter.unusedVariables false
set_option linter.unusedSimpArgs false
noncomputable def og:Code:=(Tryz.f125.body).getD .skip
theorem G5:Tryz.f125.body=some og:=by kernel_rfl
noncomputable def uU:Code:=(aY og).getD 0 .skip
theorem Uj {l:List Nat} {N s:Nat} (wl:Words l) (hl:l.length=N) (hN:2≤N) (hs:s<64) (ht:l.getD (N - 1) 0<2^(64 - s)):
 (l.getD (N - 1) 0*2^s%18446744073709551616||| l.getD (N - 2) 0/2^(64 - s))=ay l/(18446744073709551616^(N - 2)*2^(64 - s))∧l.getD (N - 1) 0*2^s<18446744073709551616:=by
 have hB:(18446744073709551616:Nat)=2^(64 - s)*2^s:=by rw[←Nat.pow_add,Nat.sub_add_cancel o!]
 have hp:0<2^s:=Nat.pow_pos (by decide)
 have hq:0<2^(64 - s):=Nat.pow_pos (by decide)
 have h1:l.getD (N - 1) 0*2^s<18446744073709551616:=by
  have:=Nat.mul_lt_mul_of_pos_right ht hp
  rwa [←hB] at this
 have h2:l.getD (N - 2) 0/2^(64 - s)<2^s:=by
  rw[Nat.div_lt_iff_lt_mul hq,Nat.mul_comm,←hB];exact wl.getD _
 refine ⟨?_,h1⟩
 rw[TD o! h2,Nat.mod_eq_of_lt h1,aid hl hN,←Nat.div_div_eq_div_mul]
 have DM:=fu wl (N - 2) o!
 rw[Nat.add_mul_div_left _ _ (Nat.pow_pos (by decide)),Nat.div_eq_of_lt DM,Nat.zero_add]
 have e:18446744073709551616*l.getD (N - 1) 0=2^(64 - s)*(2^s*l.getD (N - 1) 0):=by rw[←Nat.mul_assoc,←hB]
 rw[e,Nat.add_mul_div_left _ _ hq,Nat.mul_comm,Nat.add_comm]
theorem ZM {l:List Nat} {N s:Nat} (wl:Words l) (hl:l.length+1=N) (hN:2≤N):l.getD (N - 2) 0/2^(64 - s)=ay l/(18446744073709551616^(N - 2)*2^(64 - s)):=by
 have e:=cM (l:=l) (k:=N - 2) o!
 rw[List.take_of_length_le o!] at e
 have DM:=fu wl (N - 2) o!
 rw[e,←Nat.div_div_eq_div_mul,Nat.add_mul_div_left _ _ (Nat.pow_pos (by decide)),Nat.div_eq_of_lt DM,Nat.zero_add]
theorem Ds {d:Nat} {hs:ah} {ds:List cC} {rc:RC} {pt:Nat} {w4:AV} {X Y A B S xl yl:Nat} (ex:X=A*S+xl) (ey:Y=B*S+yl) (Tn:xl<S) (hyl:yl<S) (hA:A<18446744073709551616) (hB:B<18446744073709551616):
 ∀(k:Nat) (h:ah) (f:Bool) (a b oP kG gJ fG thX thY R2:Nat),b<k→AM f X Y A B a b oP kG gJ fG thX thY R2→a<18446744073709551616→Tidy h→Kept pt hs h→h.nx=hs.nx→h.get pt=some (.cells [.int .u64 (oP:Nat),.int .u64 (kG:Nat),.int .u64 (gJ:Nat),.int .u64 (fG:Nat),.bool f,.int .u64 (thX:Nat),.int .u64 (thY:Nat)] 197 false)→oP<18446744073709551616→kG<18446744073709551616→gJ<18446744073709551616→fG<18446744073709551616→thX<18446744073709551616→thY<18446744073709551616→∀x:Nat→AV,
  ∃h',(∃y:Nat→AV,Ev env (aQ d) (.loop uU) ⟨(rx x 0 4 (w4::(x 5)::(x 6)::(ae a)::(ae b)::(AV.ptr pt 0)::rx x 10 115 [])),h,ds,rc⟩ (.exit 1) ⟨(rx y 0 4 (w4::rx y 5 4 ((AV.ptr pt 0)::rx y 10 115 []))),h',ds,rc⟩)∧∃f a b oP kG gJ fG thX thY R2,AM f X Y A B a b oP kG gJ fG thX thY R2∧Tidy h'∧Kept pt hs h'∧h'.nx=hs.nx∧h'.get pt=some (.cells [.int .u64 (oP:Nat),.int .u64 (kG:Nat),.int .u64 (gJ:Nat),.int .u64 (fG:Nat),.bool f,.int .u64 (thX:Nat),.int .u64 (thY:Nat)] 197 false)∧oP<18446744073709551616∧kG<18446744073709551616∧gJ<18446744073709551616∧fG<18446744073709551616:=by
 intro k
 induction k with
 | zero=>intro h f a b oP kG gJ fG thX thY R2 hk;exact absurd hk (Nat.not_lt_zero _)
 | succ k ih=>
  intro h f a b oP kG gJ fG thX thY R2 hk ti ha aw kp hx hg l1 l2 l3 l4 l5 l6 x
  have hba:=ti.ba
  by_cases c1:thY≤b
  · obtain ⟨s1,s2,s3⟩:=ti.small c1
    by_cases c2:fG+thY≤a - b
    · obtain ⟨R3,ti'⟩:=ti.step ex ey Tn hyl c1 c2
      have hty:=ti.ty
      have hb0:b≠0:=by omega
      have hm:=Nat.mod_lt a (Nat.pos_of_ne_zero hb0)
      have p1:a/b*thX≤B:=Nat.le_trans (Nat.le_add_left _ _) s3
      have p2:a/b*thY≤A:=Nat.le_trans (Nat.le_add_left _ _) s2
      have q1:=dg ((thY:Int)≤(b:Int))
      have u2:=M3 54 false false a b
      have u3:=acG 54 false false fG thY
      have q4:=dg (((fG+thY:Nat):Int)≤((a - b:Nat):Int))
      have u5:=afU 54 false false a b
      have u6:=afV 54 false false a b
      have u7:=acH 54 false false (a/b) thX
      have u8:=acG 54 false false gJ ((a/b)*thX)
      obtain ⟨h9,Sg,gR,GY,pH,B1⟩:=yW (t:=54) (n:=1) (i:=pt) (o:=0) (v:=(ae gJ)) (N:=[(ae gJ),(ae kG),(ae gJ),(ae fG),(aj f),(ae thX),(ae thY)]) aw hg k! rfl k! k! z!
      have nm:Kept pt h h9:=B1
      obtain ⟨lx,qD,dE,wU,qH,oQ⟩:=yW (t:=54) (n:=1) (i:=pt) (o:=2) (v:=(ae thX)) (N:=[(ae gJ),(ae kG),(ae thX),(ae fG),(aj f),(ae thX),(ae thY)]) gR pH k! rfl k! k! z!
      have dm:Kept pt h lx:=nm.trans oQ
      obtain ⟨ki,tL,cS,xa,iD,g8⟩:=yW (t:=54) (n:=1) (i:=pt) (o:=5) (v:=(ae (gJ+((a/b)*thX)))) (N:=[(ae gJ),(ae kG),(ae thX),(ae fG),(aj f),(ae (gJ+((a/b)*thX))),(ae thY)]) dE qH k! rfl k! k! z!
      have cP:Kept pt h ki:=dm.trans g8
      have Oj:=acH 54 false false (a/b) thY
      have YD:=acG 54 false false fG ((a/b)*thY)
      obtain ⟨pP,jc,dS,oZ,fE,ff⟩:=yW (t:=54) (n:=1) (i:=pt) (o:=1) (v:=(ae fG)) (N:=[(ae gJ),(ae fG),(ae thX),(ae fG),(aj f),(ae (gJ+((a/b)*thX))),(ae thY)]) cS iD k! rfl k! k! z!
      have fm:Kept pt h pP:=cP.trans ff
      obtain ⟨vJ,qI,iP,Em,jJ,mK⟩:=yW (t:=54) (n:=1) (i:=pt) (o:=3) (v:=(ae thY)) (N:=[(ae gJ),(ae fG),(ae thX),(ae thY),(aj f),(ae (gJ+((a/b)*thX))),(ae thY)]) dS fE k! rfl k! k! z!
      have jv:Kept pt h vJ:=fm.trans mK
      obtain ⟨Uk,B3,mL,O4,mM,fT⟩:=yW (t:=54) (n:=1) (i:=pt) (o:=6) (v:=(ae (fG+((a/b)*thY)))) (N:=[(ae gJ),(ae fG),(ae thX),(ae thY),(aj f),(ae (gJ+((a/b)*thX))),(ae (fG+((a/b)*thY)))]) iP jJ k! rfl k! k! z!
      have nv:Kept pt h Uk:=jv.trans fT
      obtain ⟨E0,tM,ij,G4,mN,lB⟩:=yW (t:=4) (n:=1) (i:=pt) (o:=4) (v:=(aj (!f))) (N:=[(ae gJ),(ae fG),(ae thX),(ae thY),(aj (!f)),(ae (gJ+((a/b)*thX))),(ae (fG+((a/b)*thY)))]) mL mM k! rfl k! k! z!
      have iE:Kept pt h E0:=nv.trans lB
      have ev:=vG (d) uU (rx x 0 4 (w4::(x 5)::(x 6)::(ae a)::(ae b)::(AV.ptr pt 0)::rx x 10 115 [])) h ds rc .normal E0 (CN 2<|MM (aJ 54 6 (ae thY) hg k!)<|VV (bV 54 false false .u64 (b:Int) (thY:Int))<|CC<|BB q1<|CC<|BB q1<|CC<|BB q1<|VV u2<|BB q1<|CC<|BB q1<|MM (aJ 54 3 (ae fG) hg k!)<|BB q1<|CC<|BB q1<|MM (aJ 54 6 (ae thY) hg k!)<|BB q1<|VV u3<|BB q1<|VV (bV 54 false false .u64 ((a - b:Nat):Int) ((fG+thY:Nat):Int))<|VV (aG (a:=some (aj (decide (((fG+thY:Nat):Int)≤((a - b:Nat):Int))))) (b:=some (aj false)) q1)<|BB q4<|CN 2<|VV u5<|CN 4<|VV u6<|CN 3<|MM (aJ 54 2 (ae gJ) hg k!)<|CC<|MM (aJ 54 5 (ae thX) hg k!)<|CC<|MM (aJ 54 2 (ae gJ) hg k!)<|CN 2<|MM (aJ 54 5 (ae thX) hg k!)<|VV u7<|VV u8<|CC<|SS Sg<|CC<|SS qD<|CC<|SS tL<|CC<|MM (aJ 54 3 (ae fG) iD k!)<|CC<|MM (aJ 54 6 (ae thY) iD k!)<|CC<|MM (aJ 54 3 (ae fG) iD k!)<|CN 2<|MM (aJ 54 6 (ae thY) iD k!)<|VV Oj<|VV YD<|CC<|SS jc<|CC<|SS qI<|CC<|SS B3<|CC<|MM (aJ 4 4 (aj f) mM k!)<|CN 2<|SS tM<|ZZ) k!
      exact dj ev k! fun x=>ih E0 (!f) b (a%b) gJ fG thX thY (gJ+(a/b*thX)) (fG+(a/b*thY)) R3 o! ti' o! ij (kp.trans iE) o! mN o! o! o! o! (Nat.lt_of_le_of_lt s3 hB) (Nat.lt_of_le_of_lt s2 hA) x
    · have q1:=dg ((thY:Int)≤(b:Int))
      have u2:=M3 54 false false a b
      have u3:=acG 54 false false fG thY
      have q4:=cI (((fG+thY:Nat):Int)≤((a - b:Nat):Int))
      have ev:=vG (d) uU (rx x 0 4 (w4::(x 5)::(x 6)::(ae a)::(ae b)::(AV.ptr pt 0)::rx x 10 115 [])) h ds rc (.exit 1) h (CN 2<|MM (aJ 54 6 (ae thY) hg k!)<|VV (bV 54 false false .u64 (b:Int) (thY:Int))<|CC<|BB q1<|CC<|BB q1<|CC<|BB q1<|VV u2<|BB q1<|CC<|BB q1<|MM (aJ 54 3 (ae fG) hg k!)<|BB q1<|CC<|BB q1<|MM (aJ 54 6 (ae thY) hg k!)<|BB q1<|VV u3<|BB q1<|VV (bV 54 false false .u64 ((a - b:Nat):Int) ((fG+thY:Nat):Int))<|VV (aG (a:=some (aj (decide (((fG+thY:Nat):Int)≤((a - b:Nat):Int))))) (b:=some (aj false)) q1)<|BB q4<|ZZ) k!
      exact ⟨h,cT (Ev.out ev) k!,f,a,b,oP,kG,gJ,fG,thX,thY,R2,ti,aw,kp,hx,hg,l1,l2,l3,l4⟩
  · have q1:=cI ((thY:Int)≤(b:Int))
    have ev:=vG (d) uU (rx x 0 4 (w4::(x 5)::(x 6)::(ae a)::(ae b)::(AV.ptr pt 0)::rx x 10 115 [])) h ds rc (.exit 1) h (CN 2<|MM (aJ 54 6 (ae thY) hg k!)<|VV (bV 54 false false .u64 (b:Int) (thY:Int))<|CC<|BB q1<|BB q1<|BB q1<|BB q1<|BB q1<|BB q1<|BB q1<|BB q1<|BB q1<|VV (aL (a:=some aB) (b:=some (aj false)) q1)<|FF<|ZZ) k!
    exact ⟨h,cT (Ev.out ev) k!,f,a,b,oP,kG,gJ,fG,thX,thY,R2,ti,aw,kp,hx,hg,l1,l2,l3,l4⟩
theorem ZN {d:Nat} {h:ah} {x y:AV} {X Y:Nat} (nx:ao env h .u64 54 x (aq X)) (ny:ao env h .u64 54 y (aq Y)) (Ri:Y≤X) (hYB:18446744073709551616≤Y) (gD:(aq X).length<268435456) (aw:Tidy h):
 ∃f oP kG gJ fG thX thY:_,aQ (d+3) (.fn 125) [x,y] h= .ret (.agg [.int .u64 ((oP:Nat):Int),.int .u64 ((kG:Nat):Int),.int .u64 ((gJ:Nat):Int),.int .u64 ((fG:Nat):Int),.bool f,.int .u64 ((thX:Nat):Int),.int .u64 ((thY:Nat):Int)]) h∧oP<18446744073709551616∧kG<18446744073709551616∧gJ<18446744073709551616∧fG<18446744073709551616∧
  (kG≠0→∃R1 R2,(bif f then kG*Y=oP*X+R1∧gJ*X=fG*Y+R2 else oP*X=kG*Y+R1∧fG*Y=gJ*X+R2)∧R2<R1∧R1≤Y∧Nat.gcd R1 R2=Nat.gcd X Y):=by
 obtain ⟨N,hN⟩:∃N,(aq X).length=N:=⟨_,rfl⟩
 obtain ⟨n,hn⟩:∃n,(aq Y).length=n:=⟨_,rfl⟩
 have Fm:Y≠0:=by omega
 have Ek:X≠0:=by omega
 have hn2:2≤n:=by
  apply Decidable.byContradiction
  intro hc
  have h1:=nJ Y
  rw[hn] at h1
  have h2:18446744073709551616^n≤18446744073709551616^1:=BV o!
  rw[Nat.pow_one] at h2
  omega
 have hnN:n≤N:=by rw[←hn,←hN];exact bG Ri
 have wX:=bH X
 have wY:=bH Y
 have hxt:=GW Ek
 rw[hN] at hxt
 obtain ⟨L,_,bL,lL⟩:=dU (d:=d) (h:=h) ((aq X).getD (N - 1) 0) (wX.getD _) aw (Nat.zero_le _)
 have klz:∀hh,Tidy hh→aQ (d+2) (.fn 86) [.int .u64 (((aq X).getD (N - 1) 0:Nat):Int)] hh= .ret (.int .i64 ((64 - L:Nat):Int)) hh:=fun hh t=>by
  obtain ⟨L2,k1,k2,_⟩:=dU (d:=d) (h:=hh) ((aq X).getD (N - 1) 0) (wX.getD _) t (Nat.zero_le _)
  rw[rL.unique k2 bL] at k1;exact k1
 obtain ⟨z1,z2,z3,z4⟩:=rL.lz hxt bL lL
 obtain ⟨s,hs⟩:∃s,s=64 - L:=⟨_,rfl⟩
 rw[←hs] at z1 z2 z3 z4 klz
 have ec:IntKind.u64.wrap (s:Int)=(s:Int):=qn _ o! o!
 obtain ⟨tA,tA2⟩:=Uj wX hN o! z1 z2
 obtain ⟨S,hS⟩:∃S,S=18446744073709551616^(N - 2)*2^(64 - s):=⟨_,rfl⟩
 have hS0:0<S:=by rw[hS];exact Nat.mul_pos (Nat.pow_pos (by decide)) (Nat.pow_pos (by decide))
 rw[cd,←hS] at tA
 have dX:=Nat.div_add_mod X S
 have dY:=Nat.div_add_mod Y S
 have mX:=Nat.mod_lt X hS0
 have mY:=Nat.mod_lt Y hS0
 have hAB:Y/S≤X/S:=Nat.div_le_div_right Ri
 have bA1:(aq X).getD (N - 1) 0*2^s%18446744073709551616<18446744073709551616:=Nat.mod_lt _ (by decide)
 have bA2:(aq X).getD (N - 2) 0/2^(64 - s)<18446744073709551616:=Nat.lt_of_le_of_lt (Nat.div_le_self _ _) (wX.getD _)
 have bA:X/S<18446744073709551616:=by rw[←tA];exact Nat.or_lt_two_pow (n:=64) bA1 bA2
 have fin:∀{f:Bool} {a b oP kG gJ fG thX thY R2:Nat},AM f X Y (X/S) (Y/S) a b oP kG gJ fG thX thY R2→(kG≠0→∃R1 R2,(bif f then kG*Y=oP*X+R1∧gJ*X=fG*Y+R2 else oP*X=kG*Y+R1∧fG*Y=gJ*X+R2)∧R2<R1∧R1≤Y∧Nat.gcd R1 R2=Nat.gcd X Y):=fun ti h0=>by
  obtain ⟨R1,g⟩:=ti.gcd h0
  exact ⟨R1,_,g⟩
 by_cases q1:n=N
 · have hyt:(aq Y).getD (N - 1) 0<2^(64 - s):=by
    have e1:Y=ay ((aq Y).take (N - 1))+18446744073709551616^(N - 1)*(aq Y).getD (N - 1) 0:=by
     have:=cM (l:=aq Y) (k:=N - 1) o!
     rw[show N - 1+1=N by omega,List.take_of_length_le o!,cd] at this
     exact this
    have e2:X=ay ((aq X).take (N - 1))+18446744073709551616^(N - 1)*(aq X).getD (N - 1) 0:=by
     have:=cM (l:=aq X) (k:=N - 1) o!
     rw[show N - 1+1=N by omega,List.take_of_length_le o!,cd] at this
     exact this
    have e3:=fu wX (N - 1) o!
    apply Decidable.byContradiction
    intro hc
    have:=Nat.mul_le_mul_left (18446744073709551616^(N - 1)) (show (aq X).getD (N - 1) 0+1≤(aq Y).getD (N - 1) 0 by omega)
    rw[Nat.mul_add,Nat.mul_one] at this
    omega
   obtain ⟨tB,tB2⟩:=Uj wY o! o! z1 hyt
   rw[cd,←hS] at tB
   have bB1:(aq Y).getD (N - 1) 0*2^s%18446744073709551616<18446744073709551616:=Nat.mod_lt _ (by decide)
   have bB2:(aq Y).getD (N - 2) 0/2^(64 - s)<18446744073709551616:=Nat.lt_of_le_of_lt (Nat.div_le_self _ _) (wY.getD _)
   obtain ⟨h1,aO,aK,bm,aC,ck⟩:=de aw (ar.cells [(aa 0),(aa 0),(aa 0),(aa 0),(aj false),(aa 0),(aa 0)] 197 false)
   have aD:Has h h1:=ck
   have w2:=fS ((N:Int) - 1)
   obtain ⟨p3,q4,Lg,Sh⟩:=((nx.has aD)).j8 ((N:Int) - 1) (show (N - 1)<(aq X).length by omega)
   obtain ⟨p7,q8,Sb,E1⟩:=((nx.has aD)).j8 ((N:Int) - 1) (show (N - 1)<(aq X).length by omega)
   have nk:aI env .shl 54 false false (some (ae ((aq X).getD (N - 1) 0))) (some (aa (IntKind.u64.wrap (s:Int))))=some (ae (((aq X).getD (N - 1) 0)*2^s%18446744073709551616)):=by rw[ec];exact gO _ _ _ _ _ _ o!
   have N_:=fS ((N:Int) - 2)
   obtain ⟨Om,Ua,Lc,BS⟩:=((nx.has aD)).j8 ((N:Int) - 2) (show (N - 2)<(aq X).length by omega)
   have u17:aI env .sub 194 true false (some (aa 64)) (some (aa (IntKind.u64.wrap (s:Int))))=some (ae (64 - s)):=by rw[ec];exact dR (a:=64) (b:=s) o! o!
   have IF:aI env .shr 54 false false (some (ae ((aq X).getD (N - 2) 0))) (some (ae (64 - s)))=some (ae (((aq X).getD (N - 2) 0) /2^(64 - s))):=cZ _ _ _ _ _ _ o!
   have u19:aI env .or 54 false false (some (ae (((aq X).getD (N - 1) 0)*2^s%18446744073709551616))) (some (ae (((aq X).getD (N - 2) 0) /2^(64 - s))))=some (ae ((((aq X).getD (N - 1) 0)*2^s%18446744073709551616)||| (((aq X).getD (N - 2) 0) /2^(64 - s)))):=lk _ _ _ _ _ o! o!
   have VY:=dg ((n:Int)=(N:Int))
   obtain ⟨p21,q22,agi,V4⟩:=((ny.has aD)).j8 ((N:Int) - 1) (show (N - 1)<(aq Y).length by omega)
   have u25:aI env .shl 54 false false (some (ae ((aq Y).getD (N - 1) 0))) (some (aa (IntKind.u64.wrap (s:Int))))=some (ae (((aq Y).getD (N - 1) 0)*2^s%18446744073709551616)):=by rw[ec];exact gO _ _ _ _ _ _ o!
   obtain ⟨p26,q27,agj,V5⟩:=((ny.has aD)).j8 ((N:Int) - 2) (show (N - 2)<(aq Y).length by omega)
   have u30:aI env .sub 194 true false (some (aa 64)) (some (aa (IntKind.u64.wrap (s:Int))))=some (ae (64 - s)):=by rw[ec];exact dR (a:=64) (b:=s) o! o!
   have u31:aI env .shr 54 false false (some (ae ((aq Y).getD (N - 2) 0))) (some (ae (64 - s)))=some (ae (((aq Y).getD (N - 2) 0) /2^(64 - s))):=cZ _ _ _ _ _ _ o!
   have u32:aI env .or 54 false false (some (ae (((aq Y).getD (N - 1) 0)*2^s%18446744073709551616))) (some (ae (((aq Y).getD (N - 2) 0) /2^(64 - s))))=some (ae ((((aq Y).getD (N - 1) 0)*2^s%18446744073709551616)||| (((aq Y).getD (N - 2) 0) /2^(64 - s)))):=lk _ _ _ _ _ o! o!
   obtain ⟨h33,ZO,ZP,aiu,ZQ,JB⟩:=de aK (ar.cells [(aa 0),(aa 0),(aa 0),(aa 0),(aj false),(aa 0),(aa 0)] 197 false)
   have Ul:=aD.trans JB
   obtain ⟨V6,O5,G6,aeP,En,ZR⟩:=b9 (t:=197) (n:=7) (i:=h1.nx) (L:=[(aa 0),(aa 0),(aa 1),(aa 0),(aj true),(aa 0),(aa 1)]) ZP ZQ k! rfl rfl z!
   have G7:=Has.ak Ul ZR aw o!
   obtain ⟨h36,⟨anh,acY⟩,f1,a1_,b1v,ZS,ZT,ZU,ZV,ZW,ZX,R21,ti1,aiv,kt_,amE,gt_,b1_,b2_,b3_,b4_⟩:=Ds (d:=d+2) (hs:=V6) (ds:=[]) (rc:= .no) (pt:=h1.nx) (w4:=(AV.ptr h.nx 0)) (X:=X) (Y:=Y) (A:=X/S) (B:=Y/S) (S:=S) (xl:=X%S) (yl:=Y%S) (by rw[Nat.mul_comm];exact dX.symm) (by rw[Nat.mul_comm];exact dY.symm) mX mY bA (Nat.lt_of_le_of_lt hAB bA) (X/S+Y/S+1) V6 true (((((aq X).getD (N - 1) 0)*2^s%18446744073709551616)||| (((aq X).getD (N - 2) 0) /2^(64 - s)))) (((((aq Y).getD (N - 1) 0)*2^s%18446744073709551616)||| (((aq Y).getD (N - 2) 0) /2^(64 - s)))) 0 0 1 0 0 1 X (by rw[tB];omega) (by rw[tA,tB];exact AM.begin hAB) (by rw[tA];exact bA) G6 (Kept.refl _ _) rfl En (by decide) (by decide) (by decide) (by decide) (by decide) (by decide) (fun k_=>((x::y::aB::aB::(AV.ptr h.nx 0)::(ag N)::(aa (IntKind.u64.wrap (s:Int)))::(ae ((((aq X).getD (N - 1) 0)*2^s%18446744073709551616)||| (((aq X).getD (N - 2) 0) /2^(64 - s))))::(ae ((((aq Y).getD (N - 1) 0)*2^s%18446744073709551616)||| (((aq Y).getD (N - 2) 0) /2^(64 - s))))::(AV.ptr h1.nx 0)::aB::x::(ag N)::x::(ag N)::(af ((N:Int) - 1))::(AV.ptr p3 q4)::(ae ((aq X).getD (N - 1) 0))::(ag s)::(aa (IntKind.u64.wrap (s:Int)))::x::(ag N)::(af ((N:Int) - 1))::(AV.ptr p7 q8)::(ae ((aq X).getD (N - 1) 0))::(aa (IntKind.u64.wrap (s:Int)))::(ae (((aq X).getD (N - 1) 0)*2^s%18446744073709551616))::x::(ag N)::(af ((N:Int) - 2))::(AV.ptr Om Ua)::(ae ((aq X).getD (N - 2) 0))::(aa (IntKind.u64.wrap (s:Int)))::(ae (64 - s))::(ae (((aq X).getD (N - 2) 0) /2^(64 - s)))::(ae ((((aq X).getD (N - 1) 0)*2^s%18446744073709551616)||| (((aq X).getD (N - 2) 0) /2^(64 - s))))::y::(ag n)::(aj (decide ((n:Int)=(N:Int))))::(ag N)::(aj (decide ((n:Int)=(N:Int))))::y::(ag N)::(af ((N:Int) - 1))::(AV.ptr p21 q22)::(ae ((aq Y).getD (N - 1) 0))::(aa (IntKind.u64.wrap (s:Int)))::(ae (((aq Y).getD (N - 1) 0)*2^s%18446744073709551616))::y::(ag N)::(af ((N:Int) - 2))::(AV.ptr p26 q27)::(ae ((aq Y).getD (N - 2) 0))::(aa (IntKind.u64.wrap (s:Int)))::(ae (64 - s))::(ae (((aq Y).getD (N - 2) 0) /2^(64 - s)))::(ae ((((aq Y).getD (N - 1) 0)*2^s%18446744073709551616)||| (((aq Y).getD (N - 2) 0) /2^(64 - s))))::KR 12 ((AV.agg [(aa 0),(aa 0),(aa 1),(aa 0),(aj true),(aa 0),(aa 1)])::aV 55)):List AV).getD k_ aB)
   have aiw:=Has.ak G7 kt_ aw o!
   obtain ⟨h37,aix,amF,amG,aiy,agk⟩:=b9 (t:=197) (n:=7) (i:=h.nx) (L:=[(ae ZS),(ae ZT),(ae ZU),(ae ZV),(aj f1),(ae ZW),(ae ZX)]) aiv (kt_ _ _ o! (ZR _ _ o! (JB _ _ aC))) k! rfl rfl z!
   have aiz:=Has.ak aiw agk aw o!
   have ev:=pk (d+2) og (x::y::aV 123) h .ret h37 (NN aO (fun i=>(AV.ptr i 0))<|CC<|VV (show dO (some (.slice 54)) (some x)=some (ag N) from (by rw[←hN];exact ((nx.has aD)).len))<|CN 3<|VV (bT 3 false true w2)<|VV Lg<|MM Sh<|EE (show (aQ (d+2)) (.fn 86) [(ae ((aq X).getD (N - 1) 0))] h1= .ret (ag s) h1 from klz _ aK)<|CN 4<|VV (bT 3 false true w2)<|VV Sb<|MM E1<|CC<|VV nk<|CN 2<|VV (bT 3 false true N_)<|VV Lc<|MM BS<|CC<|VV u17<|VV IF<|VV u19<|CC<|HH E1<|HH (show AV.same 20 (ae ((aq X).getD (N - 1) 0)) (ae ((aq X).getD (N - 1) 0))=true from aP 19 _ _)<|HH BS<|HH (show AV.same 20 (ae ((aq X).getD (N - 2) 0)) (ae ((aq X).getD (N - 2) 0))=true from aP 19 _ _)<|CN 2<|VV (show dO (some (.slice 54)) (some y)=some (ag n) from (by rw[←hn];exact ((ny.has aD)).len))<|CC<|VV (bQ 3 false false .i64 (n:Int) (N:Int))<|CC<|BB VY<|CN 2<|VV (bT 3 false true w2)<|VV agi<|MM V4<|CC<|VV u25<|CN 2<|VV (bT 3 false true N_)<|VV agj<|MM V5<|CC<|VV u30<|VV u31<|VV u32<|CC<|HH V4<|HH (show AV.same 20 (ae ((aq Y).getD (N - 1) 0)) (ae ((aq Y).getD (N - 1) 0))=true from aP 19 _ _)<|HH V5<|HH (show AV.same 20 (ae ((aq Y).getD (N - 2) 0)) (ae ((aq Y).getD (N - 2) 0))=true from aP 19 _ _)<|CC<|NN ZO (fun i=>(AV.ptr i 0))<|SS O5<|LL acY<|MM (aJ 197 0 (AV.agg [(ae ZS),(ae ZT),(ae ZU),(ae ZV),(aj f1),(ae ZW),(ae ZX)]) gt_ k!)<|SS aix<|ZZ) k!
   exact ⟨f1,ZS,ZT,ZU,ZV,ZW,ZX,ai rfl (bn (a:=4) (t:=197) Tryz.func125 G5 k! (.inr rfl) ev k! (aN aiy k!)) aiz rfl,b1_,b2_,b3_,b4_,fin ti1⟩
 · by_cases q2:n=N - 1
   · have tB:=ZM (s:=s) wY (show (aq Y).length+1=N by omega) o!
     rw[cd,←hS] at tB
     obtain ⟨h1,aO,aK,bm,aC,ck⟩:=de aw (ar.cells [(aa 0),(aa 0),(aa 0),(aa 0),(aj false),(aa 0),(aa 0)] 197 false)
     have aD:Has h h1:=ck
     have w2:=fS ((N:Int) - 1)
     obtain ⟨p3,q4,Lg,Sh⟩:=((nx.has aD)).j8 ((N:Int) - 1) (show (N - 1)<(aq X).length by omega)
     obtain ⟨p7,q8,Sb,E1⟩:=((nx.has aD)).j8 ((N:Int) - 1) (show (N - 1)<(aq X).length by omega)
     have nk:aI env .shl 54 false false (some (ae ((aq X).getD (N - 1) 0))) (some (aa (IntKind.u64.wrap (s:Int))))=some (ae (((aq X).getD (N - 1) 0)*2^s%18446744073709551616)):=by rw[ec];exact gO _ _ _ _ _ _ o!
     have N_:=fS ((N:Int) - 2)
     obtain ⟨Om,Ua,Lc,BS⟩:=((nx.has aD)).j8 ((N:Int) - 2) (show (N - 2)<(aq X).length by omega)
     have u17:aI env .sub 194 true false (some (aa 64)) (some (aa (IntKind.u64.wrap (s:Int))))=some (ae (64 - s)):=by rw[ec];exact dR (a:=64) (b:=s) o! o!
     have IF:aI env .shr 54 false false (some (ae ((aq X).getD (N - 2) 0))) (some (ae (64 - s)))=some (ae (((aq X).getD (N - 2) 0) /2^(64 - s))):=cZ _ _ _ _ _ _ o!
     have u19:aI env .or 54 false false (some (ae (((aq X).getD (N - 1) 0)*2^s%18446744073709551616))) (some (ae (((aq X).getD (N - 2) 0) /2^(64 - s))))=some (ae ((((aq X).getD (N - 1) 0)*2^s%18446744073709551616)||| (((aq X).getD (N - 2) 0) /2^(64 - s)))):=lk _ _ _ _ _ o! o!
     have VY:=cI ((n:Int)=(N:Int))
     have q21:=dg ((n:Int)=((N:Int) - 1))
     obtain ⟨p22,q23,GR,alx⟩:=((ny.has aD)).j8 ((N:Int) - 2) (show (N - 2)<(aq Y).length by omega)
     have u26:aI env .sub 194 true false (some (aa 64)) (some (aa (IntKind.u64.wrap (s:Int))))=some (ae (64 - s)):=by rw[ec];exact dR (a:=64) (b:=s) o! o!
     have u27:aI env .shr 54 false false (some (ae ((aq Y).getD (N - 2) 0))) (some (ae (64 - s)))=some (ae (((aq Y).getD (N - 2) 0) /2^(64 - s))):=cZ _ _ _ _ _ _ o!
     obtain ⟨Qq,aiA,xe,Um,qJ,aeQ⟩:=de aK (ar.cells [(aa 0),(aa 0),(aa 0),(aa 0),(aj false),(aa 0),(aa 0)] 197 false)
     have xf:=aD.trans aeQ
     obtain ⟨ZJ,aiB,O2,ais,aiC,ZY⟩:=b9 (t:=197) (n:=7) (i:=h1.nx) (L:=[(aa 0),(aa 0),(aa 1),(aa 0),(aj true),(aa 0),(aa 1)]) xe qJ k! rfl rfl z!
     have O3:=Has.ak xf ZY aw o!
     obtain ⟨h31,⟨ani,acZ⟩,f1,a1_,b1v,ZS,ZT,ZU,ZV,ZW,ZX,R21,ti1,Z0,kt_,aiD,gt_,b1_,b2_,b3_,b4_⟩:=Ds (d:=d+2) (hs:=ZJ) (ds:=[]) (rc:= .no) (pt:=h1.nx) (w4:=(AV.ptr h.nx 0)) (X:=X) (Y:=Y) (A:=X/S) (B:=Y/S) (S:=S) (xl:=X%S) (yl:=Y%S) (by rw[Nat.mul_comm];exact dX.symm) (by rw[Nat.mul_comm];exact dY.symm) mX mY bA (Nat.lt_of_le_of_lt hAB bA) (X/S+Y/S+1) ZJ true (((((aq X).getD (N - 1) 0)*2^s%18446744073709551616)||| (((aq X).getD (N - 2) 0) /2^(64 - s)))) ((((aq Y).getD (N - 2) 0) /2^(64 - s))) 0 0 1 0 0 1 X (by rw[tB];omega) (by rw[tA,tB];exact AM.begin hAB) (by rw[tA];exact bA) O2 (Kept.refl _ _) rfl aiC (by decide) (by decide) (by decide) (by decide) (by decide) (by decide) (fun k_=>((x::y::aB::aB::(AV.ptr h.nx 0)::(ag N)::(aa (IntKind.u64.wrap (s:Int)))::(ae ((((aq X).getD (N - 1) 0)*2^s%18446744073709551616)||| (((aq X).getD (N - 2) 0) /2^(64 - s))))::(ae (((aq Y).getD (N - 2) 0) /2^(64 - s)))::(AV.ptr h1.nx 0)::aB::x::(ag N)::x::(ag N)::(af ((N:Int) - 1))::(AV.ptr p3 q4)::(ae ((aq X).getD (N - 1) 0))::(ag s)::(aa (IntKind.u64.wrap (s:Int)))::x::(ag N)::(af ((N:Int) - 1))::(AV.ptr p7 q8)::(ae ((aq X).getD (N - 1) 0))::(aa (IntKind.u64.wrap (s:Int)))::(ae (((aq X).getD (N - 1) 0)*2^s%18446744073709551616))::x::(ag N)::(af ((N:Int) - 2))::(AV.ptr Om Ua)::(ae ((aq X).getD (N - 2) 0))::(aa (IntKind.u64.wrap (s:Int)))::(ae (64 - s))::(ae (((aq X).getD (N - 2) 0) /2^(64 - s)))::(ae ((((aq X).getD (N - 1) 0)*2^s%18446744073709551616)||| (((aq X).getD (N - 2) 0) /2^(64 - s))))::y::(ag n)::(aj (decide ((n:Int)=(N:Int))))::(ag N)::(aj (decide ((n:Int)=(N:Int))))::KR 16 ((aj (decide ((n:Int)=((N:Int) - 1))))::(ag N)::(af ((N:Int) - 1))::(aj (decide ((n:Int)=((N:Int) - 1))))::y::(ag N)::(af ((N:Int) - 2))::(AV.ptr p22 q23)::(ae ((aq Y).getD (N - 2) 0))::(aa (IntKind.u64.wrap (s:Int)))::(ae (64 - s))::(ae (((aq Y).getD (N - 2) 0) /2^(64 - s)))::(AV.agg [(aa 0),(aa 0),(aa 1),(aa 0),(aj true),(aa 0),(aa 1)])::aV 55)):List AV).getD k_ aB)
     have Z4:=Has.ak O3 kt_ aw o!
     obtain ⟨h32,Z5,aeR,aiE,aiF,agl⟩:=b9 (t:=197) (n:=7) (i:=h.nx) (L:=[(ae ZS),(ae ZT),(ae ZU),(ae ZV),(aj f1),(ae ZW),(ae ZX)]) Z0 (kt_ _ _ o! (ZY _ _ o! (aeQ _ _ aC))) k! rfl rfl z!
     have Z6:=Has.ak Z4 agl aw o!
     have ev:=pk (d+2) og (x::y::aV 123) h .ret h32 (NN aO (fun i=>(AV.ptr i 0))<|CC<|VV (show dO (some (.slice 54)) (some x)=some (ag N) from (by rw[←hN];exact ((nx.has aD)).len))<|CN 3<|VV (bT 3 false true w2)<|VV Lg<|MM Sh<|EE (show (aQ (d+2)) (.fn 86) [(ae ((aq X).getD (N - 1) 0))] h1= .ret (ag s) h1 from klz _ aK)<|CN 4<|VV (bT 3 false true w2)<|VV Sb<|MM E1<|CC<|VV nk<|CN 2<|VV (bT 3 false true N_)<|VV Lc<|MM BS<|CC<|VV u17<|VV IF<|VV u19<|CC<|HH E1<|HH (show AV.same 20 (ae ((aq X).getD (N - 1) 0)) (ae ((aq X).getD (N - 1) 0))=true from aP 19 _ _)<|HH BS<|HH (show AV.same 20 (ae ((aq X).getD (N - 2) 0)) (ae ((aq X).getD (N - 2) 0))=true from aP 19 _ _)<|CN 2<|VV (show dO (some (.slice 54)) (some y)=some (ag n) from (by rw[←hn];exact ((ny.has aD)).len))<|CC<|VV (bQ 3 false false .i64 (n:Int) (N:Int))<|CC<|BB VY<|CC<|VV (bT 3 false true w2)<|VV (bQ 3 false false .i64 (n:Int) ((N:Int) - 1))<|CC<|BB q21<|CN 2<|VV (bT 3 false true N_)<|VV GR<|MM alx<|CC<|VV u26<|VV u27<|CN 2<|NN aiA (fun i=>(AV.ptr i 0))<|SS aiB<|LL acZ<|MM (aJ 197 0 (AV.agg [(ae ZS),(ae ZT),(ae ZU),(ae ZV),(aj f1),(ae ZW),(ae ZX)]) gt_ k!)<|SS Z5<|ZZ) k!
     exact ⟨f1,ZS,ZT,ZU,ZV,ZW,ZX,ai rfl (bn (a:=4) (t:=197) Tryz.func125 G5 k! (.inr rfl) ev k! (aN aiF k!)) Z6 rfl,b1_,b2_,b3_,b4_,fin ti1⟩
   · have tB:0=Y/S:=by
      refine (Nat.div_eq_of_lt ?_).symm
      have h1:=nJ Y
      rw[hn] at h1
      have h2:18446744073709551616^n≤18446744073709551616^(N - 2):=BV o!
      have h3:18446744073709551616^(N - 2)*1≤18446744073709551616^(N - 2)*2^(64 - s):=Nat.mul_le_mul_left _ (Nat.pow_pos (by decide))
      omega
     obtain ⟨h1,aO,aK,bm,aC,ck⟩:=de aw (ar.cells [(aa 0),(aa 0),(aa 0),(aa 0),(aj false),(aa 0),(aa 0)] 197 false)
     have aD:Has h h1:=ck
     have w2:=fS ((N:Int) - 1)
     obtain ⟨p3,q4,Lg,Sh⟩:=((nx.has aD)).j8 ((N:Int) - 1) (show (N - 1)<(aq X).length by omega)
     obtain ⟨p7,q8,Sb,E1⟩:=((nx.has aD)).j8 ((N:Int) - 1) (show (N - 1)<(aq X).length by omega)
     have nk:aI env .shl 54 false false (some (ae ((aq X).getD (N - 1) 0))) (some (aa (IntKind.u64.wrap (s:Int))))=some (ae (((aq X).getD (N - 1) 0)*2^s%18446744073709551616)):=by rw[ec];exact gO _ _ _ _ _ _ o!
     have N_:=fS ((N:Int) - 2)
     obtain ⟨Om,Ua,Lc,BS⟩:=((nx.has aD)).j8 ((N:Int) - 2) (show (N - 2)<(aq X).length by omega)
     have u17:aI env .sub 194 true false (some (aa 64)) (some (aa (IntKind.u64.wrap (s:Int))))=some (ae (64 - s)):=by rw[ec];exact dR (a:=64) (b:=s) o! o!
     have IF:aI env .shr 54 false false (some (ae ((aq X).getD (N - 2) 0))) (some (ae (64 - s)))=some (ae (((aq X).getD (N - 2) 0) /2^(64 - s))):=cZ _ _ _ _ _ _ o!
     have u19:aI env .or 54 false false (some (ae (((aq X).getD (N - 1) 0)*2^s%18446744073709551616))) (some (ae (((aq X).getD (N - 2) 0) /2^(64 - s))))=some (ae ((((aq X).getD (N - 1) 0)*2^s%18446744073709551616)||| (((aq X).getD (N - 2) 0) /2^(64 - s)))):=lk _ _ _ _ _ o! o!
     have VY:=cI ((n:Int)=(N:Int))
     have q21:=cI ((n:Int)=((N:Int) - 1))
     obtain ⟨h22,aiG,BT,Zu,O6,aeS⟩:=de aK (ar.cells [(aa 0),(aa 0),(aa 0),(aa 0),(aj false),(aa 0),(aa 0)] 197 false)
     have zS:=aD.trans aeS
     obtain ⟨h23,Z7,GQ,Zs,zR,Z8⟩:=b9 (t:=197) (n:=7) (i:=h1.nx) (L:=[(aa 0),(aa 0),(aa 1),(aa 0),(aj true),(aa 0),(aa 1)]) BT O6 k! rfl rfl z!
     have Eh:=Has.ak zS Z8 aw o!
     obtain ⟨Ub,⟨anj,ac0⟩,f1,a1_,b1v,ZS,ZT,ZU,ZV,ZW,ZX,R21,ti1,qF,kt_,Jx,gt_,b1_,b2_,b3_,b4_⟩:=Ds (d:=d+2) (hs:=h23) (ds:=[]) (rc:= .no) (pt:=h1.nx) (w4:=(AV.ptr h.nx 0)) (X:=X) (Y:=Y) (A:=X/S) (B:=Y/S) (S:=S) (xl:=X%S) (yl:=Y%S) (by rw[Nat.mul_comm];exact dX.symm) (by rw[Nat.mul_comm];exact dY.symm) mX mY bA (Nat.lt_of_le_of_lt hAB bA) (X/S+Y/S+1) h23 true (((((aq X).getD (N - 1) 0)*2^s%18446744073709551616)||| (((aq X).getD (N - 2) 0) /2^(64 - s)))) (0) 0 0 1 0 0 1 X o! (by rw[tA];have tb:=AM.begin (x:=X) (y:=Y) hAB;rw[←tB] at tb;rw[←tB];exact tb) (by rw[tA];exact bA) GQ (Kept.refl _ _) rfl zR (by decide) (by decide) (by decide) (by decide) (by decide) (by decide) (fun k_=>((x::y::aB::aB::(AV.ptr h.nx 0)::(ag N)::(aa (IntKind.u64.wrap (s:Int)))::(ae ((((aq X).getD (N - 1) 0)*2^s%18446744073709551616)||| (((aq X).getD (N - 2) 0) /2^(64 - s))))::(aa 0)::(AV.ptr h1.nx 0)::aB::x::(ag N)::x::(ag N)::(af ((N:Int) - 1))::(AV.ptr p3 q4)::(ae ((aq X).getD (N - 1) 0))::(ag s)::(aa (IntKind.u64.wrap (s:Int)))::x::(ag N)::(af ((N:Int) - 1))::(AV.ptr p7 q8)::(ae ((aq X).getD (N - 1) 0))::(aa (IntKind.u64.wrap (s:Int)))::(ae (((aq X).getD (N - 1) 0)*2^s%18446744073709551616))::x::(ag N)::(af ((N:Int) - 2))::(AV.ptr Om Ua)::(ae ((aq X).getD (N - 2) 0))::(aa (IntKind.u64.wrap (s:Int)))::(ae (64 - s))::(ae (((aq X).getD (N - 2) 0) /2^(64 - s)))::(ae ((((aq X).getD (N - 1) 0)*2^s%18446744073709551616)||| (((aq X).getD (N - 2) 0) /2^(64 - s))))::y::(ag n)::(aj (decide ((n:Int)=(N:Int))))::(ag N)::(aj (decide ((n:Int)=(N:Int))))::KR 16 ((aj (decide ((n:Int)=((N:Int) - 1))))::(ag N)::(af ((N:Int) - 1))::(aj (decide ((n:Int)=((N:Int) - 1))))::KR 8 ((AV.agg [(aa 0),(aa 0),(aa 1),(aa 0),(aj true),(aa 0),(aa 1)])::aV 55))):List AV).getD k_ aB)
     have o7:=Has.ak Eh kt_ aw o!
     obtain ⟨h26,Z9,JA,aeO,aiH,agm⟩:=b9 (t:=197) (n:=7) (i:=h.nx) (L:=[(ae ZS),(ae ZT),(ae ZU),(ae ZV),(aj f1),(ae ZW),(ae ZX)]) qF (kt_ _ _ o! (Z8 _ _ o! (aeS _ _ aC))) k! rfl rfl z!
     have B0:=Has.ak o7 agm aw o!
     have ev:=pk (d+2) og (x::y::aV 123) h .ret h26 (NN aO (fun i=>(AV.ptr i 0))<|CC<|VV (show dO (some (.slice 54)) (some x)=some (ag N) from (by rw[←hN];exact ((nx.has aD)).len))<|CN 3<|VV (bT 3 false true w2)<|VV Lg<|MM Sh<|EE (show (aQ (d+2)) (.fn 86) [(ae ((aq X).getD (N - 1) 0))] h1= .ret (ag s) h1 from klz _ aK)<|CN 4<|VV (bT 3 false true w2)<|VV Sb<|MM E1<|CC<|VV nk<|CN 2<|VV (bT 3 false true N_)<|VV Lc<|MM BS<|CC<|VV u17<|VV IF<|VV u19<|CC<|HH E1<|HH (show AV.same 20 (ae ((aq X).getD (N - 1) 0)) (ae ((aq X).getD (N - 1) 0))=true from aP 19 _ _)<|HH BS<|HH (show AV.same 20 (ae ((aq X).getD (N - 2) 0)) (ae ((aq X).getD (N - 2) 0))=true from aP 19 _ _)<|CN 2<|VV (show dO (some (.slice 54)) (some y)=some (ag n) from (by rw[←hn];exact ((ny.has aD)).len))<|CC<|VV (bQ 3 false false .i64 (n:Int) (N:Int))<|CC<|BB VY<|CC<|VV (bT 3 false true w2)<|VV (bQ 3 false false .i64 (n:Int) ((N:Int) - 1))<|CC<|BB q21<|CC<|NN aiG (fun i=>(AV.ptr i 0))<|SS Z7<|LL ac0<|MM (aJ 197 0 (AV.agg [(ae ZS),(ae ZT),(ae ZU),(ae ZV),(aj f1),(ae ZW),(ae ZX)]) gt_ k!)<|SS Z9<|ZZ) k!
     exact ⟨f1,ZS,ZT,ZU,ZV,ZW,ZX,ai rfl (bn (a:=4) (t:=197) Tryz.func125 G5 k! (.inr rfl) ev k! (aN aiH k!)) B0 rfl,b1_,b2_,b3_,b4_,fin ti1⟩
noncomputable def qK:Code:=(Tryz.f164.body).getD .skip
theorem O7:Tryz.f164.body=some qK:=by kernel_rfl
noncomputable def g9:Code:=(aY qK).getD 0 .skip
theorem G8 (l:List Nat) (k:Nat):ay (l.take (k+1))=ay (l.take k)+18446744073709551616^k*l.getD k 0:=by
 by_cases hk:k<l.length
 · exact cM hk
 · rw[List.take_of_length_le o!,List.take_of_length_le o!,List.getD_eq_getElem?_getD,List.getElem?_eq_none o!]
   simp
theorem G9 {l:List Nat} {k:Nat} (h:¬k<l.length):l.getD k 0=0:=by
 rw[List.getD_eq_getElem?_getD,List.getElem?_eq_none o!];rfl
theorem Un {hi lo c:Nat} (hh:hi≤18446744073709551614) (hl:lo<18446744073709551616) (hc:c<18446744073709551616):(lo+c+0)%18446744073709551616+18446744073709551616*((hi+(lo+c+0) /18446744073709551616)%18446744073709551616)=lo+18446744073709551616*hi+c:=by omega
theorem Z_ {x a:Nat} (hx:x<18446744073709551616) (ha:a<18446744073709551616):x*a/18446744073709551616≤18446744073709551614:=by
 have:=wK hx ha
 omega
theorem ac1 {M dn Vx Vy a b xw yw cX cY bo hX lX hY lY:Nat} (inv:dn+Vy*b+M*cX=Vx*a+M*(bo+cY)) (eX:lX+18446744073709551616*hX=xw*a) (eY:lY+18446744073709551616*hY=yw*b) (bX:hX≤18446744073709551614) (bY:hY≤18446744073709551614) (b1:lX<18446744073709551616) (b2:lY<18446744073709551616) (b3:cX<18446744073709551616) (b4:cY<18446744073709551616) (b5:bo≤1):
 (dn+M*(((lX+cX+0)%18446744073709551616+18446744073709551616 -(lY+cY+0)%18446744073709551616 - bo)%18446744073709551616))+(Vy+M*yw)*b+M*18446744073709551616*((hX+(lX+cX+0) /18446744073709551616)%18446744073709551616)=
  (Vx+M*xw)*a+M*18446744073709551616*((if (lX+cX+0)%18446744073709551616<(lY+cY+0)%18446744073709551616+bo then 1 else 0)+(hY+(lY+cY+0) /18446744073709551616)%18446744073709551616):=by
 have p1:=Un bX b1 b3
 have p2:=Un bY b2 b4
 have m1:(lX+cX+0)%18446744073709551616<18446744073709551616:=Nat.mod_lt _ (by decide)
 have m2:(lY+cY+0)%18446744073709551616<18446744073709551616:=Nat.mod_lt _ (by decide)
 generalize (lX+cX+0)%18446744073709551616=u at *
 generalize (lY+cY+0)%18446744073709551616=v at *
 generalize (hX+(lX+cX+0) /18446744073709551616)%18446744073709551616=cX' at *
 generalize (hY+(lY+cY+0) /18446744073709551616)%18446744073709551616=cY' at *
 obtain ⟨w,hw⟩:∃w,w=(u+18446744073709551616 - v - bo)%18446744073709551616:=⟨_,rfl⟩
 obtain ⟨bo',hb⟩:∃bo',bo'=(if u<v+bo then 1 else 0):=⟨_,rfl⟩
 have e1:w+v+bo=u+18446744073709551616*bo':=by rw[hw,hb];split<;>omega
 rw[←hw,←hb]
 have e2:w+yw*b+18446744073709551616*cX'+(bo+cY)=xw*a+cX+18446744073709551616*(bo'+cY'):=by omega
 have EM:=congrArg (M* ·) e2
 simp only[Nat.mul_add] at EM inv ⊢
 rw[Nat.add_mul,Nat.add_mul,Nat.mul_assoc M yw,Nat.mul_assoc M xw,Nat.mul_assoc M,Nat.mul_assoc M,Nat.mul_assoc M]
 omega
theorem G_ {d:Nat} {hs:ah} {ds:List cC} {rc:RC} {E xs ys:List Nat} {a b n Uo Si p o c:Nat} {op:Bool} {C:List AV} {f:TypeId} {x y:AV} (wx:Words xs) (wy:Words ys) (ha:a<18446744073709551616) (hb:b<18446744073709551616) (hE:E.length=n) (gD:n<2^30) (hf:o+n≤C.length) (Tn:xs.length=Uo) (hyl:ys.length=Si) (nx:ao env hs .u64 54 x xs) (ny:ao env hs .u64 54 y ys) (ox:mj p x) (oy:mj p y):
 ∀(k j:Nat) (h:ah) (D dn:List Nat) (cX cY bo:Nat),j+k=n→D=dn++E.drop j→dn.length=j→Words dn→cX<18446744073709551616→cY<18446744073709551616→bo≤1→ay dn+ay (ys.take j)*b+18446744073709551616^j*cX=ay (xs.take j)*a+18446744073709551616^j*(bo+cY)→Tidy h→Kept p hs h→h.nx=hs.nx→h.get p=some (.cells (setFrom C o (aA .u64 D)) f false)→∀x_:Nat→AV,
  ∃h',(∃y_:Nat→AV,Ev env (aQ (d+1)) (.loop g9) ⟨((AV.slice p o n c op)::x::(ae a)::y::(ae b)::rx x_ 5 5 ((ae cX)::(ae cY)::(ae bo)::rx x_ 13 7 ((ag n)::(ag j)::rx x_ 22 57 []))),h,ds,rc⟩ (.exit 0) ⟨(rx y_ 0 79 []),h',ds,rc⟩)∧∃ws cX cY bo,ws.length=n∧Words ws∧ay ws+ay (ys.take n)*b+18446744073709551616^n*cX=ay (xs.take n)*a+18446744073709551616^n*(bo+cY)∧Tidy h'∧Kept p hs h'∧h'.nx=hs.nx∧h'.get p=some (.cells (setFrom C o (aA .u64 ws)) f false):=by
 intro k
 induction k with
 | zero=>
  intro j h D dn cX cY bo hk hD Mx wdn b1 b2 b3 inv aw kp hx hg x_
  have hj:j=n:=by omega
  have q1:=cI ((j:Int)<(n:Int))
  have ev:=vG (d+1) g9 ((AV.slice p o n c op)::x::(ae a)::y::(ae b)::rx x_ 5 5 ((ae cX)::(ae cY)::(ae bo)::rx x_ 13 7 ((ag n)::(ag j)::rx x_ 22 57 []))) h ds rc (.exit 0) h (VV (bh 3 false false .i64 (j:Int) (n:Int))<|BB q1<|ZZ) k!
  subst hj
  rw[List.drop_of_length_le o!,List.append_nil] at hD
  subst hD
  exact ⟨h,cT (Ev.out ev) k!,D,cX,cY,bo,Mx,wdn,inv,aw,kp,hx,hg⟩
 | succ k ih=>
  intro j h D dn cX cY bo hk hD Mx wdn b1 b2 b3 inv aw kp hx hg x_
  have GC:D.length=n:=by rw[hD];simp;omega
  have wxj:=wx.getD j
  have wyj:=wy.getD j
  have hmX:=Z_ wxj ha
  have hmY:=Z_ wyj hb
  have hsX:xs.getD j 0*a%18446744073709551616+18446744073709551616*(xs.getD j 0*a/18446744073709551616)=xs.getD j 0*a:=Nat.mod_add_div _ _
  have hsY:ys.getD j 0*b%18446744073709551616+18446744073709551616*(ys.getD j 0*b/18446744073709551616)=ys.getD j 0*b:=Nat.mod_add_div _ _
  have eD:∀V,D.set j V=(dn++[V])++E.drop (j+1):=fun V=>by rw[hD];exact K5 Mx o!
  have next:∀{hX lX hY lY:Nat},lX+18446744073709551616*hX=xs.getD j 0*a→lY+18446744073709551616*hY=ys.getD j 0*b→hX≤18446744073709551614→hY≤18446744073709551614→lX<18446744073709551616→lY<18446744073709551616→
   ∀h2,h2.get p=some (.cells (setFrom C o (aA .u64 (D.set j (((lX+cX+0)%18446744073709551616+18446744073709551616 -(lY+cY+0)%18446744073709551616 - bo)%18446744073709551616)))) f false)→Tidy h2→Kept p hs h2→h2.nx=hs.nx→∀x_:Nat→AV,∃h',(∃y_:Nat→AV,Ev env (aQ (d+1)) (.loop g9) ⟨((AV.slice p o n c op)::x::(ae a)::y::(ae b)::rx x_ 5 5 ((ae ((hX+(lX+cX+0) /18446744073709551616)%18446744073709551616))::(ae ((hY+(lY+cY+0) /18446744073709551616)%18446744073709551616))::(ae (if (lX+cX+0)%18446744073709551616<(lY+cY+0)%18446744073709551616+bo then 1 else 0))::rx x_ 13 7 ((ag n)::(ag (j+1))::rx x_ 22 57 []))),h2,ds,rc⟩ (.exit 0) ⟨(rx y_ 0 79 []),h',ds,rc⟩)∧∃ws cX cY bo,ws.length=n∧Words ws∧ay ws+ay (ys.take n)*b+18446744073709551616^n*cX=ay (xs.take n)*a+18446744073709551616^n*(bo+cY)∧Tidy h'∧Kept p hs h'∧h'.nx=hs.nx∧h'.get p=some (.cells (setFrom C o (aA .u64 ws)) f false):=by
   intro hX lX hY lY eX eY bX bY c1 c2 h2 g2 y2 k2 z2 x_
   rw[eD] at g2
   have st:=ac1 inv eX eY bX bY c1 c2 b1 b2 b3
   rw[←G8,←G8,←Nat.pow_succ] at st
   exact ih (j+1) h2 _ (dn++[_]) _ _ _ o! rfl (by simp;omega) (wdn.append (Words.one (Nat.mod_lt _ (by decide)))) (Nat.mod_lt _ (by decide)) (Nat.mod_lt _ (by decide)) (by split<;>decide) (by rw[jR,Mx];exact st) y2 k2 z2 g2 x_
  by_cases q1:j<Uo
  · by_cases q2:j<Si
    · have q1:=dg ((j:Int)<(n:Int))
      have q2:=dg ((j:Int)<(Uo:Int))
      obtain ⟨p3,q4,Lg,Sh⟩:=((nx.kept kp ox)).j8 (j:Int) (show j<xs.length by omega)
      have mu7:=r8 (d:=d) (h:=h) (xs.getD j 0) a o! o!
      have q8:=dg ((j:Int)<(Si:Int))
      obtain ⟨p9,Dj,GP,Lb⟩:=((ny.kept kp oy)).j8 (j:Int) (show j<ys.length by omega)
      have aly:=r8 (d:=d) (h:=h) (ys.getD j 0) b o! o!
      have e14:jk [(ae ((xs.getD j 0)*a%18446744073709551616)),(ae cX),(aa 0)]=some (AV.tuple [(ae ((((xs.getD j 0)*a%18446744073709551616)+cX+0)%18446744073709551616)),(ae ((((xs.getD j 0)*a%18446744073709551616)+cX+0) /18446744073709551616))]):=fL ((xs.getD j 0)*a%18446744073709551616) cX 0 o!
      have W1:=C5 54 false false ((xs.getD j 0)*a/18446744073709551616) ((((xs.getD j 0)*a%18446744073709551616)+cX+0) /18446744073709551616)
      have e16:jk [(ae ((ys.getD j 0)*b%18446744073709551616)),(ae cY),(aa 0)]=some (AV.tuple [(ae ((((ys.getD j 0)*b%18446744073709551616)+cY+0)%18446744073709551616)),(ae ((((ys.getD j 0)*b%18446744073709551616)+cY+0) /18446744073709551616))]):=fL ((ys.getD j 0)*b%18446744073709551616) cY 0 o!
      have u17:=C5 54 false false ((ys.getD j 0)*b/18446744073709551616) ((((ys.getD j 0)*b%18446744073709551616)+cY+0) /18446744073709551616)
      have e18:qk [(ae ((((xs.getD j 0)*a%18446744073709551616)+cX+0)%18446744073709551616)),(ae ((((ys.getD j 0)*b%18446744073709551616)+cY+0)%18446744073709551616)),(ae bo)]=some (AV.tuple [(ae ((((((xs.getD j 0)*a%18446744073709551616)+cX+0)%18446744073709551616)+18446744073709551616 -((((ys.getD j 0)*b%18446744073709551616)+cY+0)%18446744073709551616) - bo)%18446744073709551616)),(ae (if ((((xs.getD j 0)*a%18446744073709551616)+cX+0)%18446744073709551616)<((((ys.getD j 0)*b%18446744073709551616)+cY+0)%18446744073709551616)+bo then 1 else 0))]):=nG ((((xs.getD j 0)*a%18446744073709551616)+cX+0)%18446744073709551616) ((((ys.getD j 0)*b%18446744073709551616)+cY+0)%18446744073709551616) bo o! o! o!
      have Z':bq env (some (.slice 54)) (some (AV.slice p o n c op)) (some (ag j))=some (AV.ptr p (o+j)):=a8 k! (show j<n by omega) o!
      obtain ⟨Fq,tN,B4,mO,JC⟩:=iJ 54 j ((((((xs.getD j 0)*a%18446744073709551616)+cX+0)%18446744073709551616)+18446744073709551616 -((((ys.getD j 0)*b%18446744073709551616)+cY+0)%18446744073709551616) - bo)%18446744073709551616) aw o! hg (show j<D.length by omega)
      have mP:Kept p h Fq:=B4.2.2
      have w21:=fS ((j:Int)+1)
      have ev:=vG (d+1) g9 ((AV.slice p o n c op)::x::(ae a)::y::(ae b)::rx x_ 5 5 ((ae cX)::(ae cY)::(ae bo)::rx x_ 13 7 ((ag n)::(ag j)::rx x_ 22 57 []))) h ds rc .normal Fq (VV (bh 3 false false .i64 (j:Int) (n:Int))<|BB q1<|CN 9<|VV (show dO (some (.slice 54)) (some x)=some (ag Uo) from (by rw[←Tn];exact ((nx.kept kp ox)).len))<|VV (bh 3 false false .i64 (j:Int) (Uo:Int))<|BB q2<|CN 2<|VV Lg<|MM Sh<|CC<|EE mu7<|CN 7<|VV (show dO (some (.slice 54)) (some y)=some (ag Si) from (by rw[←hyl];exact ((ny.kept kp oy)).len))<|VV (bh 3 false false .i64 (j:Int) (Si:Int))<|BB q8<|CN 2<|VV GP<|MM Lb<|CC<|EE aly<|CN 7<|QQ e14<|CN 7<|VV W1<|CN 3<|QQ e16<|CN 7<|VV u17<|CN 6<|QQ e18<|CN 3<|VV Z'<|SS tN<|CC<|VV (iI 3 false true w21)<|CC<|ZZ) k!
      exact dj ev k! (next hsX hsY hmX hmY (Nat.mod_lt _ (by decide)) (Nat.mod_lt _ (by decide)) Fq B4.2.1 mO (kp.trans mP) o!)
    · have e0:=G9 (l:=ys) (k:=j) o!
      have q1:=dg ((j:Int)<(n:Int))
      have q2:=dg ((j:Int)<(Uo:Int))
      obtain ⟨p3,q4,Lg,Sh⟩:=((nx.kept kp ox)).j8 (j:Int) (show j<xs.length by omega)
      have mu7:=r8 (d:=d) (h:=h) (xs.getD j 0) a o! o!
      have q8:=cI ((j:Int)<(Si:Int))
      have e9:jk [(ae ((xs.getD j 0)*a%18446744073709551616)),(ae cX),(aa 0)]=some (AV.tuple [(ae ((((xs.getD j 0)*a%18446744073709551616)+cX+0)%18446744073709551616)),(ae ((((xs.getD j 0)*a%18446744073709551616)+cX+0) /18446744073709551616))]):=fL ((xs.getD j 0)*a%18446744073709551616) cX 0 o!
      have BM:=C5 54 false false ((xs.getD j 0)*a/18446744073709551616) ((((xs.getD j 0)*a%18446744073709551616)+cX+0) /18446744073709551616)
      have e11:jk [(aa 0),(ae cY),(aa 0)]=some (AV.tuple [(ae ((0+cY+0)%18446744073709551616)),(ae ((0+cY+0) /18446744073709551616))]):=fL 0 cY 0 o!
      have Oj:=C5 54 false false 0 ((0+cY+0) /18446744073709551616)
      have e13:qk [(ae ((((xs.getD j 0)*a%18446744073709551616)+cX+0)%18446744073709551616)),(ae ((0+cY+0)%18446744073709551616)),(ae bo)]=some (AV.tuple [(ae ((((((xs.getD j 0)*a%18446744073709551616)+cX+0)%18446744073709551616)+18446744073709551616 -((0+cY+0)%18446744073709551616) - bo)%18446744073709551616)),(ae (if ((((xs.getD j 0)*a%18446744073709551616)+cX+0)%18446744073709551616)<((0+cY+0)%18446744073709551616)+bo then 1 else 0))]):=nG ((((xs.getD j 0)*a%18446744073709551616)+cX+0)%18446744073709551616) ((0+cY+0)%18446744073709551616) bo o! o! o!
      have Ha:bq env (some (.slice 54)) (some (AV.slice p o n c op)) (some (ag j))=some (AV.ptr p (o+j)):=a8 k! (show j<n by omega) o!
      obtain ⟨vJ,qI,qL,iP,Em⟩:=iJ 54 j ((((((xs.getD j 0)*a%18446744073709551616)+cX+0)%18446744073709551616)+18446744073709551616 -((0+cY+0)%18446744073709551616) - bo)%18446744073709551616) aw o! hg (show j<D.length by omega)
      have jv:Kept p h vJ:=qL.2.2
      have w16:=fS ((j:Int)+1)
      have ev:=vG (d+1) g9 ((AV.slice p o n c op)::x::(ae a)::y::(ae b)::rx x_ 5 5 ((ae cX)::(ae cY)::(ae bo)::rx x_ 13 7 ((ag n)::(ag j)::rx x_ 22 57 []))) h ds rc .normal vJ (VV (bh 3 false false .i64 (j:Int) (n:Int))<|BB q1<|CN 9<|VV (show dO (some (.slice 54)) (some x)=some (ag Uo) from (by rw[←Tn];exact ((nx.kept kp ox)).len))<|VV (bh 3 false false .i64 (j:Int) (Uo:Int))<|BB q2<|CN 2<|VV Lg<|MM Sh<|CC<|EE mu7<|CN 7<|VV (show dO (some (.slice 54)) (some y)=some (ag Si) from (by rw[←hyl];exact ((ny.kept kp oy)).len))<|VV (bh 3 false false .i64 (j:Int) (Si:Int))<|BB q8<|CN 2<|QQ e9<|CN 7<|VV BM<|CN 3<|QQ e11<|CN 7<|VV Oj<|CN 6<|QQ e13<|CN 3<|VV Ha<|SS qI<|CC<|VV (iI 3 false true w16)<|CC<|ZZ) k!
      exact dj ev k! (next (hY:=0) (lY:=0) hsX (by rw[e0,Nat.zero_mul]) hmX (by decide) (Nat.mod_lt _ (by decide)) (by decide) vJ qL.2.1 iP (kp.trans jv) o!)
  · have e1:=G9 (l:=xs) (k:=j) o!
    by_cases q2:j<Si
    · have q1:=dg ((j:Int)<(n:Int))
      have q2:=cI ((j:Int)<(Uo:Int))
      have q3:=dg ((j:Int)<(Si:Int))
      obtain ⟨p4,q5,R5,T'⟩:=((ny.kept kp oy)).j8 (j:Int) (show j<ys.length by omega)
      have mu8:=r8 (d:=d) (h:=h) (ys.getD j 0) b o! o!
      have e9:jk [(aa 0),(ae cX),(aa 0)]=some (AV.tuple [(ae ((0+cX+0)%18446744073709551616)),(ae ((0+cX+0) /18446744073709551616))]):=fL 0 cX 0 o!
      have BM:=C5 54 false false 0 ((0+cX+0) /18446744073709551616)
      have e11:jk [(ae ((ys.getD j 0)*b%18446744073709551616)),(ae cY),(aa 0)]=some (AV.tuple [(ae ((((ys.getD j 0)*b%18446744073709551616)+cY+0)%18446744073709551616)),(ae ((((ys.getD j 0)*b%18446744073709551616)+cY+0) /18446744073709551616))]):=fL ((ys.getD j 0)*b%18446744073709551616) cY 0 o!
      have Oj:=C5 54 false false ((ys.getD j 0)*b/18446744073709551616) ((((ys.getD j 0)*b%18446744073709551616)+cY+0) /18446744073709551616)
      have e13:qk [(ae ((0+cX+0)%18446744073709551616)),(ae ((((ys.getD j 0)*b%18446744073709551616)+cY+0)%18446744073709551616)),(ae bo)]=some (AV.tuple [(ae ((((0+cX+0)%18446744073709551616)+18446744073709551616 -((((ys.getD j 0)*b%18446744073709551616)+cY+0)%18446744073709551616) - bo)%18446744073709551616)),(ae (if ((0+cX+0)%18446744073709551616)<((((ys.getD j 0)*b%18446744073709551616)+cY+0)%18446744073709551616)+bo then 1 else 0))]):=nG ((0+cX+0)%18446744073709551616) ((((ys.getD j 0)*b%18446744073709551616)+cY+0)%18446744073709551616) bo o! o! o!
      have Ha:bq env (some (.slice 54)) (some (AV.slice p o n c op)) (some (ag j))=some (AV.ptr p (o+j)):=a8 k! (show j<n by omega) o!
      obtain ⟨vJ,qI,qL,iP,Em⟩:=iJ 54 j ((((0+cX+0)%18446744073709551616)+18446744073709551616 -((((ys.getD j 0)*b%18446744073709551616)+cY+0)%18446744073709551616) - bo)%18446744073709551616) aw o! hg (show j<D.length by omega)
      have jv:Kept p h vJ:=qL.2.2
      have w16:=fS ((j:Int)+1)
      have ev:=vG (d+1) g9 ((AV.slice p o n c op)::x::(ae a)::y::(ae b)::rx x_ 5 5 ((ae cX)::(ae cY)::(ae bo)::rx x_ 13 7 ((ag n)::(ag j)::rx x_ 22 57 []))) h ds rc .normal vJ (VV (bh 3 false false .i64 (j:Int) (n:Int))<|BB q1<|CN 9<|VV (show dO (some (.slice 54)) (some x)=some (ag Uo) from (by rw[←Tn];exact ((nx.kept kp ox)).len))<|VV (bh 3 false false .i64 (j:Int) (Uo:Int))<|BB q2<|CN 2<|VV (show dO (some (.slice 54)) (some y)=some (ag Si) from (by rw[←hyl];exact ((ny.kept kp oy)).len))<|VV (bh 3 false false .i64 (j:Int) (Si:Int))<|BB q3<|CN 2<|VV R5<|MM T'<|CC<|EE mu8<|CN 7<|QQ e9<|CN 7<|VV BM<|CN 3<|QQ e11<|CN 7<|VV Oj<|CN 6<|QQ e13<|CN 3<|VV Ha<|SS qI<|CC<|VV (iI 3 false true w16)<|CC<|ZZ) k!
      exact dj ev k! (next (hX:=0) (lX:=0) (by rw[e1,Nat.zero_mul]) hsY (by decide) hmY (by decide) (Nat.mod_lt _ (by decide)) vJ qL.2.1 iP (kp.trans jv) o!)
    · have e0:=G9 (l:=ys) (k:=j) o!
      have q1:=dg ((j:Int)<(n:Int))
      have q2:=cI ((j:Int)<(Uo:Int))
      have q3:=cI ((j:Int)<(Si:Int))
      have e4:jk [(aa 0),(ae cX),(aa 0)]=some (AV.tuple [(ae ((0+cX+0)%18446744073709551616)),(ae ((0+cX+0) /18446744073709551616))]):=fL 0 cX 0 o!
      have u5:=C5 54 false false 0 ((0+cX+0) /18446744073709551616)
      have e6:jk [(aa 0),(ae cY),(aa 0)]=some (AV.tuple [(ae ((0+cY+0)%18446744073709551616)),(ae ((0+cY+0) /18446744073709551616))]):=fL 0 cY 0 o!
      have u7:=C5 54 false false 0 ((0+cY+0) /18446744073709551616)
      have e8:qk [(ae ((0+cX+0)%18446744073709551616)),(ae ((0+cY+0)%18446744073709551616)),(ae bo)]=some (AV.tuple [(ae ((((0+cX+0)%18446744073709551616)+18446744073709551616 -((0+cY+0)%18446744073709551616) - bo)%18446744073709551616)),(ae (if ((0+cX+0)%18446744073709551616)<((0+cY+0)%18446744073709551616)+bo then 1 else 0))]):=nG ((0+cX+0)%18446744073709551616) ((0+cY+0)%18446744073709551616) bo o! o! o!
      have Sb:bq env (some (.slice 54)) (some (AV.slice p o n c op)) (some (ag j))=some (AV.ptr p (o+j)):=a8 k! (show j<n by omega) o!
      obtain ⟨lx,qD,lJ,dE,wU⟩:=iJ 54 j ((((0+cX+0)%18446744073709551616)+18446744073709551616 -((0+cY+0)%18446744073709551616) - bo)%18446744073709551616) aw o! hg (show j<D.length by omega)
      have dm:Kept p h lx:=lJ.2.2
      have Zl:=fS ((j:Int)+1)
      have ev:=vG (d+1) g9 ((AV.slice p o n c op)::x::(ae a)::y::(ae b)::rx x_ 5 5 ((ae cX)::(ae cY)::(ae bo)::rx x_ 13 7 ((ag n)::(ag j)::rx x_ 22 57 []))) h ds rc .normal lx (VV (bh 3 false false .i64 (j:Int) (n:Int))<|BB q1<|CN 9<|VV (show dO (some (.slice 54)) (some x)=some (ag Uo) from (by rw[←Tn];exact ((nx.kept kp ox)).len))<|VV (bh 3 false false .i64 (j:Int) (Uo:Int))<|BB q2<|CN 2<|VV (show dO (some (.slice 54)) (some y)=some (ag Si) from (by rw[←hyl];exact ((ny.kept kp oy)).len))<|VV (bh 3 false false .i64 (j:Int) (Si:Int))<|BB q3<|CN 2<|QQ e4<|CN 7<|VV u5<|CN 3<|QQ e6<|CN 7<|VV u7<|CN 6<|QQ e8<|CN 3<|VV Sb<|SS qD<|CC<|VV (iI 3 false true Zl)<|CC<|ZZ) k!
      exact dj ev k! (next (hX:=0) (lX:=0) (hY:=0) (lY:=0) (by rw[e1,Nat.zero_mul]) (by rw[e0,Nat.zero_mul]) (by decide) (by decide) (by decide) (by decide) lx lJ.2.1 dE (kp.trans dm) o!)
theorem sl {d:Nat} {h:ah} {E xs ys:List Nat} {a b n p o c R:Nat} {op:Bool} {C:List AV} {f:TypeId} {x y:AV} (wx:Words xs) (wy:Words ys) (ha:a<18446744073709551616) (hb:b<18446744073709551616) (hE:E.length=n) (hC:Holds .u64 C o E) (hg:h.get p=some (.cells C f false)) (gD:n<2^30) (hf:o+n≤C.length) (Tn:xs.length≤n) (hyl:ys.length≤n) (nx:ao env h .u64 54 x xs) (ny:ao env h .u64 54 y ys) (ox:mj p x) (oy:mj p y) (hR:ay xs*a=ay ys*b+R) (hRn:R<18446744073709551616^n) (aw:Tidy h):
 ∃ws hk,aQ (d+2) (.fn 164) [.slice p o n c op,x,.int .u64 (a:Nat),y,.int .u64 (b:Nat)] h= .ret (.tuple []) hk∧nj h hk p (.cells (setFrom C o (aA .u64 ws)) f false)∧hk.nx=h.nx∧ws.length=n∧Words ws∧ay ws=R:=by
 have uR:h.get p=some (.cells (setFrom C o (aA .u64 E)) f false):=by rw[KP hC];exact hg
 obtain ⟨h2,⟨yl1,GF⟩,ws,cX1,cY1,bo1,lws,wws,vws,bP,b7,iA,bB⟩:=G_ (d:=d) (hs:=h) (ds:=[]) (rc:= .no) (a:=a) (b:=b) (c:=c) (op:=op) wx wy ha hb hE gD hf rfl rfl nx ny ox oy n 0 h E [] 0 0 0 o! rfl rfl Words.nil (by decide) (by decide) (by decide) (by simp [ay]) aw (Kept.refl _ _) rfl uR (fun k_=>(((AV.slice p o n c op)::x::(ae a)::y::(ae b)::aB::aB::aB::aB::aB::(aa 0)::(aa 0)::(aa 0)::KR 6 ((AV.slice p o n c op)::(ag n)::(af 0)::aV 57)):List AV).getD k_ aB)
 have ev:=pk (d+1) qK ((AV.slice p o n c op)::x::(ae a)::y::(ae b)::aV 74) h .normal h2 (CN 6<|LL GF<|ZZ) k!
 rw[List.take_of_length_le hyl,List.take_of_length_le Tn,hR] at vws
 have e:ay ws=R:=GN (M:=18446744073709551616^n) (b:=cX1) (e:=bo1+cY1) o! (by have:=kN wws;rwa [lws] at this) hRn
 exact ⟨ws,dQ rfl (az Tryz.func164 O7 k! (.inl rfl) ev k!) ⟨bP,bB,b7⟩ aw hg iA|>.elim fun hk e2=>⟨hk,e2.1,e2.2.1,e2.2.2,lws,wws,e⟩⟩
noncomputable def AN:Code:=(Tryz.f126.body).getD .skip
theorem Up:Tryz.f126.body=some AN:=by kernel_rfl
theorem O8 {w1 w2 E:List Nat} {n:Nat} (h:w1.length=n):(w1++E.drop n).take n++w2++(w1++E.drop n).drop (n+n)=w1++w2++E.drop (n+n):=by
 rw[List.take_append_of_le_length o!,List.take_of_length_le o!,List.drop_append,List.drop_of_length_le o!,List.nil_append,List.drop_drop,h]
 congr 2
 omega
theorem ac2 {d:Nat} {h:ah} {f:Bool} {oP kG gJ fG thX thY X Y R1 R2 n p c1 c2:Nat} {E:List Nat} {x y:AV} (l1:oP<18446744073709551616) (l2:kG<18446744073709551616) (l3:gJ<18446744073709551616) (l4:fG<18446744073709551616) (ac3:bif f then kG*Y=oP*X+R1∧gJ*X=fG*Y+R2 else oP*X=kG*Y+R1∧fG*Y=gJ*X+R2) (hR1:R1<18446744073709551616^n) (hR2:R2<18446744073709551616^n) (hX:(aq X).length≤n) (hY:(aq Y).length≤n) (gD:n<2^30) (hE:n+n≤E.length) (hg:h.get p=some (.cells (aA .u64 E) 54 false)) (nx:ao env h .u64 54 x (aq X)) (ny:ao env h .u64 54 y (aq Y)) (ox:mj p x) (oy:mj p y) (aw:Tidy h):
 ∃w1 w2 hk,aQ (d+3) (.fn 126) [.agg [.int .u64 (oP:Nat),.int .u64 (kG:Nat),.int .u64 (gJ:Nat),.int .u64 (fG:Nat),.bool f,.int .u64 (thX:Nat),.int .u64 (thY:Nat)],.slice p 0 n c1 false,.slice p n n c2 false,x,y] h= .ret (.tuple []) hk∧Tidy hk∧h.nx≤hk.nx∧Kept p h hk∧hk.get p=some (.cells (aA .u64 (w1++w2++E.drop (n+n))) 54 false)∧w1.length=n∧w2.length=n∧Words w1∧Words w2∧ay w1=R1∧ay w2=R2:=by
 have wX:=bH X
 have wY:=bH Y
 have hpp:=aw _ _ hg
 cases f with
 | true=>
  obtain ⟨e1,e2⟩:=ac3
  have r1:ay (aq Y)*kG=ay (aq X)*oP+R1:=by rw[cd,cd,Nat.mul_comm,e1,Nat.mul_comm]
  have r2:ay (aq X)*gJ=ay (aq Y)*fG+R2:=by rw[cd,cd,Nat.mul_comm,e2,Nat.mul_comm]
  obtain ⟨h1,aO,aK,bm,aC,ck⟩:=de aw (ar.cells [(ae oP),(ae kG),(ae gJ),(ae fG),(aj true),(ae thX),(ae thY)] 197 false)
  have aD:Kept p h h1:=ck.kept
  obtain ⟨w1,lt2⟩:=sl (d:=d) (h:=h1) (E:=List.take n (List.drop 0 E)) (a:=kG) (b:=oP) (n:=n) (p:=p) (o:=0) (c:=c1) (R:=R1) (op:=false) (C:=aA .u64 E) (f:=54) wY wX o! o! (by rw[List.length_take,List.length_drop];omega) pQ (ck _ _ hg) o! (by rw[aM];omega) hY hX (ny.kept aD oy) (nx.kept aD ox) oy ox r1 hR1 aK
  obtain ⟨h3,pA,Hb,ky,Lh,ww1,W8⟩:=lt2
  have bt:=Hb.1
  have O9:=Hb.2.1
  rw[mC o!,Lh,Nat.zero_add,List.take_zero,List.nil_append] at O9
  have aX:Kept p h h3:=aD.trans Hb.2.2
  obtain ⟨w2,lt4⟩:=sl (d:=d) (h:=h3) (E:=List.take n (List.drop n (w1++E.drop n))) (a:=gJ) (b:=fG) (n:=n) (p:=p) (o:=n) (c:=c2) (R:=R2) (op:=false) (C:=aA .u64 (w1++E.drop n)) (f:=54) wX wY o! o! (by rw[List.length_take,List.length_drop,List.length_append,Lh,List.length_drop];omega) pQ O9 o! (by rw[aM,List.length_append,Lh,List.length_drop];omega) hX hY (nx.kept aX ox) (ny.kept aX oy) ox oy r2 hR2 bt
  obtain ⟨h5,pD,Sj,wM,lw2,ww2,W9⟩:=lt4
  have fA:=Sj.1
  have O_:=Sj.2.1
  rw[mC (by rw[lw2,List.length_append,Lh,List.length_drop];omega),lw2,O8 Lh] at O_
  have ep:Kept p h h5:=aX.trans Sj.2.2
  have ev:=pk (d+2) AN ((AV.agg [(ae oP),(ae kG),(ae gJ),(ae fG),(aj true),(ae thX),(ae thY)])::(AV.slice p 0 n c1 false)::(AV.slice p n n c2 false)::x::y::aV 39) h .ret h5 (NN aO (fun i=>(AV.ptr i 0))<|CC<|MM (aJ 4 4 (aj true) aC k!)<|TT<|CN 3<|MM (aJ 54 1 (ae kG) aC k!)<|CN 2<|MM (aJ 54 0 (ae oP) aC k!)<|EE pA<|CN 3<|MM (aJ 54 2 (ae gJ) (Hb.2.2 _ _ o! aC) k!)<|CN 2<|MM (aJ 54 3 (ae fG) (Hb.2.2 _ _ o! aC) k!)<|EE pD<|ZZ) k!
  obtain ⟨hk,k1,k2,k3,k4,k5⟩:=nH rfl (az Tryz.func126 Up k! (.inr rfl) ev k!) aw fA o! ep hg O_
  exact ⟨w1,w2,hk,k1,k2,k3,k4,k5,Lh,lw2,ww1,ww2,W8,W9⟩
 | false=>
  obtain ⟨e1,e2⟩:=ac3
  have r1:ay (aq X)*oP=ay (aq Y)*kG+R1:=by rw[cd,cd,Nat.mul_comm,e1,Nat.mul_comm]
  have r2:ay (aq Y)*fG=ay (aq X)*gJ+R2:=by rw[cd,cd,Nat.mul_comm,e2,Nat.mul_comm]
  obtain ⟨h1,aO,aK,bm,aC,ck⟩:=de aw (ar.cells [(ae oP),(ae kG),(ae gJ),(ae fG),(aj false),(ae thX),(ae thY)] 197 false)
  have aD:Kept p h h1:=ck.kept
  obtain ⟨w1,lt2⟩:=sl (d:=d) (h:=h1) (E:=List.take n (List.drop 0 E)) (a:=oP) (b:=kG) (n:=n) (p:=p) (o:=0) (c:=c1) (R:=R1) (op:=false) (C:=aA .u64 E) (f:=54) wX wY o! o! (by rw[List.length_take,List.length_drop];omega) pQ (ck _ _ hg) o! (by rw[aM];omega) hX hY (nx.kept aD ox) (ny.kept aD oy) ox oy r1 hR1 aK
  obtain ⟨h3,pA,Hb,ky,Lh,ww1,W8⟩:=lt2
  have bt:=Hb.1
  have O9:=Hb.2.1
  rw[mC o!,Lh,Nat.zero_add,List.take_zero,List.nil_append] at O9
  have aX:Kept p h h3:=aD.trans Hb.2.2
  obtain ⟨w2,lt4⟩:=sl (d:=d) (h:=h3) (E:=List.take n (List.drop n (w1++E.drop n))) (a:=fG) (b:=gJ) (n:=n) (p:=p) (o:=n) (c:=c2) (R:=R2) (op:=false) (C:=aA .u64 (w1++E.drop n)) (f:=54) wY wX o! o! (by rw[List.length_take,List.length_drop,List.length_append,Lh,List.length_drop];omega) pQ O9 o! (by rw[aM,List.length_append,Lh,List.length_drop];omega) hY hX (ny.kept aX oy) (nx.kept aX ox) oy ox r2 hR2 bt
  obtain ⟨h5,pD,Sj,wM,lw2,ww2,W9⟩:=lt4
  have fA:=Sj.1
  have O_:=Sj.2.1
  rw[mC (by rw[lw2,List.length_append,Lh,List.length_drop];omega),lw2,O8 Lh] at O_
  have ep:Kept p h h5:=aX.trans Sj.2.2
  have ev:=pk (d+2) AN ((AV.agg [(ae oP),(ae kG),(ae gJ),(ae fG),(aj false),(ae thX),(ae thY)])::(AV.slice p 0 n c1 false)::(AV.slice p n n c2 false)::x::y::aV 39) h .normal h5 (NN aO (fun i=>(AV.ptr i 0))<|CC<|MM (aJ 4 4 (aj false) aC k!)<|FF<|CN 3<|MM (aJ 54 0 (ae oP) aC k!)<|CN 2<|MM (aJ 54 1 (ae kG) aC k!)<|EE pA<|CN 3<|MM (aJ 54 3 (ae fG) (Hb.2.2 _ _ o! aC) k!)<|CN 2<|MM (aJ 54 2 (ae gJ) (Hb.2.2 _ _ o! aC) k!)<|EE pD<|ZZ) k!
  obtain ⟨hk,k1,k2,k3,k4,k5⟩:=nH rfl (az Tryz.func126 Up k! (.inl rfl) ev k!) aw fA o! ep hg O_
  exact ⟨w1,w2,hk,k1,k2,k3,k4,k5,Lh,lw2,ww1,ww2,W8,W9⟩
noncomputable def oR:Code:=(Tryz.f81.body).getD .skip
theorem Li:Tryz.f81.body=some oR:=by kernel_rfl
noncomputable def mQ:Code:=(aY oR).getD 0 .skip
theorem Dt {call:aE} {h:ah} {ds:List cC} {rc:RC} {x2 x3 x4 x5 x6 x7 x8 x9 x10 x11:AV} {xx yy:Int} {u2:Int} (q1:(!decide (yy=0))=true) (c3:aI env .rem 54 false false (some (aa xx)) (some (aa yy))=some (aa u2)):
 Ev env call mQ ⟨[(aa xx),(aa yy),x2,x3,x4,x5,x6,x7,x8,x9,x10,x11],h,ds,rc⟩ .normal ⟨[(aa yy),(aa u2),x2,x3,x4,(aa yy),(aj (!decide (yy=0))),(aa yy),(aa xx),(aa yy),(aa u2),x11],h,ds,rc⟩:=
 aR (n:=200) (CC<|VV (jb 54 false true .u64 yy 0)<|BB q1<|CN 3<|VV c3<|CN 2<|ZZ) k!
theorem tO {call:aE} {h:ah} {ds:List cC} {rc:RC} {x2 x3 x4 x5 x6 x7 x8 x9 x10 x11:AV} {xx yy:Int} (q1:(!decide (yy=0))=false):
 Ev env call mQ ⟨[(aa xx),(aa yy),x2,x3,x4,x5,x6,x7,x8,x9,x10,x11],h,ds,rc⟩ (.exit 0) ⟨[(aa xx),(aa yy),x2,x3,x4,(aa yy),(aj (!decide (yy=0))),x7,x8,x9,x10,x11],h,ds,rc⟩:=
 aR (n:=200) (CC<|VV (jb 54 false true .u64 yy 0)<|BB q1<|ZZ) k!
theorem IJ {call:aE} {h:ah} {xx yy:Int} {aiI aiJ aiK alz aiL aiM aiN aiO aiP aeT aiQ:AV} {co:Int} (e2:Ev env call (.loop mQ) ⟨((aa xx)::(aa yy)::aB::aB::(aa 0)::aV 7),h,[],.no⟩ (.exit 0) ⟨[(aa co),aiI,aiJ,aiK,alz,aiL,aiM,aiN,aiO,aiP,aeT,aiQ],h,[],.no⟩):
 Ev env call oR ⟨((aa xx)::(aa yy)::aV 10),h,[],.no⟩ .ret ⟨[(aa co),aiI,aiJ,aiK,(aa co),aiL,aiM,aiN,aiO,aiP,aeT,(aa co)],h,[],.no⟩:=
 aR (n:=200) (CC<|LL e2<|CN 2<|ZZ) k!
theorem E2 {call:aE} {h:ah} {ds:List cC} {rc:RC}:∀(n y1 x1:Nat),y1≤n→x1<18446744073709551616→y1<18446744073709551616→∀(x:Nat→AV),
 ∃y:Nat→AV,Ev env call (.loop mQ) ⟨[(ae x1),(ae y1),(x 2),(x 3),(x 4),(x 5),(x 6),(x 7),(x 8),(x 9),(x 10),(x 11)],h,ds,rc⟩ (.exit 0) ⟨[(ae (Nat.gcd x1 y1)),(y 1),(y 2),(y 3),(y 4),(y 5),(y 6),(y 7),(y 8),(y 9),(y 10),(y 11)],h,ds,rc⟩:=by
 intro n
 induction n with
 | zero=>
  intro y1 x1 hn hx hy x
  obtain rfl:y1=0:=by omega
  rw[Nat.gcd_zero_right]
  exact cT (Ev.out (tO (nF o!))) k!
 | succ n ih=>
  intro y1 x1 hn hx hy x
  by_cases h0:y1=0
  · subst h0
    rw[Nat.gcd_zero_right]
    exact cT (Ev.out (tO (nF o!))) k!
  · have gL:x1%y1<y1:=Nat.mod_lt _ o!
    rw[show Nat.gcd x1 y1=Nat.gcd y1 (x1%y1) by rw[Nat.gcd_comm,Nat.gcd_rec,Nat.gcd_comm]]
    exact bO (Dt (nT o!) (wI h0)) k! (ih (x1%y1) y1 o! hy o!)
theorem uV {d:Nat} {h:ah} (x1 y1:Nat) (hx:x1<18446744073709551616) (hy:y1<18446744073709551616):aQ (d+1) (.fn 81) [.int .u64 (x1:Int),.int .u64 (y1:Int)] h= .ret (.int .u64 ((Nat.gcd x1 y1:Nat):Int)) h:=by
 obtain ⟨y,ev⟩:=E2 (call:=aQ d) (h:=h) (ds:=[]) (rc:= .no) y1 y1 x1 (Nat.le_refl _) hx hy fun k=>(((ae x1)::(ae y1)::aB::aB::(aa 0)::aV 7):List AV).getD k aB
 exact ai rfl (az Tryz.func81 Li k! (.inr rfl) (IJ ev) k!) (Has.refl h) rfl
end Go.Proofs.aF
