import Derived.Test.YtkkpegaeikljmaaGreatDoorA6
import Derived.Test.YtkkpegaeikljmaaGreatDoorW0
import Derived.Test.YtkkpegaeikljmaaGreatDoorEnv
import Derived.Test.YtkkpegaeikljmaaGreatDoorW4
import Derived.Test.YtkkpegaeikljmaaGreatDoorW2
namespace Go.Proofs.aF
open Go.Proofs Ab
set_option maxRecDepth 100000
set_option maxHeartbeats 4000000
set_option linter.unusedVariables false
set_option linter.unusedSimpArgs false
noncomputable def lK:Code:=(Tryz.f85.body).getD .skip
theorem BW:Tryz.f85.body=some lK:=by kernel_rfl
noncomputable def AL:Code:=(aY lK).getD 0 .skip
theorem w_ {E:Env} {h:ah} {k:IntKind} {e:TypeId} {av:AV} {l:List Nat} {p:Nat} (x:ao E h k e av l) (hl:l≠ []) (y:Tidy h) (hp:h.nx≤p):mj p av:=by
 intro o n c b e
 subst e
 obtain ⟨_,h2⟩:=x.inv
 obtain ⟨_,C,f,ro,hg,_⟩:=h2 hl
 have:=y _ _ hg
 omega
theorem Holds.self (k:IntKind) (l:List Nat):Holds k (aA k l) 0 l:=fun i z hz=>by rw[Nat.zero_add];exact dP hz
theorem Holds.pre (k:IntKind) (l m:List Nat):Holds k (aA k (l++m)) 0 l:=fun i z hz=>by
 rw[Nat.zero_add]
 refine dP ?_
 rw[List.getElem?_append_left (List.getElem?_eq_some_iff.1 hz).1];exact hz
def rM (h0 h:ah) (z:AV) (l:List Nat):Prop:=(z= .ax∧l=[])∨∃p c op C,z= .slice p 0 l.length c op∧h0.nx≤p∧h.get p=some (.cells C 54 false)∧Holds .u64 C 0 l∧l.length≤c∧c≤C.length∧0<c
theorem rM.aA {h0 h:ah} {z:AV} {l:List Nat} (o:rM h0 h z l) (hl:l.length<2^60):ao env h .u64 54 z l:=by
 rcases o with ⟨rfl,rfl⟩ | ⟨p,c,op,C,rfl,_,hg,hC,h1,h2,h3⟩
 · exact ao.nil k! k!
 · exact ao.of k! k! hl h1 (fun _=>h3) hg hC
theorem Dp {d:Nat} {h:ah} {p n c v:Nat} {op ro:Bool} {C:List AV} {f:TypeId} {l:List Nat} (hg:h.get p=some (.cells C f ro)) (hC:Holds .u64 C 0 l) (hn:l.length=n) (L':n≤c) (hc:0<c) (hs:n<2^60) (wl:Words l) (hv:ay l=v):
 aQ (d+1) (.fn 77) [.slice p 0 n c op] h= .ret (.slice p 0 (aq v).length c op) h:=by
 subst hv
 rw[←iC wl]
 subst hn
 have ha:ao env h .u64 54 (.slice p 0 l.length c op) l:=ao.of k! k! hs L' (fun _=>hc) hg hC
 obtain ⟨y0,y1,y2,y3,y4,y5,y6,y7,y8,y9,gP,vP,sR,By,pO,zM,uk,ET,sP,sQ,EU,ev,rfl,rfl⟩:=Db (call:=aQ d) (ds:=[]) (rc:= .no) ha l.length _ (Nat.le_refl _) rfl _ _ _ _ _ _ _ _ _ _ _ _ _ _ _ _ _ _ _
 have hle:=qu l l.length
 have e:(bR l).length=fk l l.length:=by simp [bR];omega
 rw[e]
 have e1:=gI (E:=env) (t:=56) (e:=54) (p:=p) (o:=0) (m:=l.length) (c:=c) (n:=fk l l.length) (op:=op) (z:=((fk l l.length:Nat):Int)) k! k! rfl o! L' hc
 exact fP rfl (az Tryz.func77 YV k! (.inr rfl) (TX ha.len ev e1) k!)
theorem rL.lz {x L:Nat} (hx:x≠0) (b:rL x L) (hL:L≤64):64 - L<64∧x<2^(64 -(64 - L))∧9223372036854775808≤x*2^(64 - L)∧x*2^(64 - L)<18446744073709551616:=by
 rcases b with ⟨h,_⟩ | ⟨h1,h2,h3⟩
 · exact absurd h hx
 · have e:64 -(64 - L)=L:=by omega
   rw[e]
   have e1:(9223372036854775808:Nat)=2^(L - 1)*2^(64 - L):=by rw[←Nat.pow_add,show L - 1+(64 - L)=63 by omega]
   have e2:(18446744073709551616:Nat)=2^L*2^(64 - L):=by rw[←Nat.pow_add,show L+(64 - L)=64 by omega]
   refine ⟨by omega,h3,?_,?_⟩
   · rw[e1];exact Nat.mul_le_mul_right _ h2
   · rw[e2];exact Nat.mul_lt_mul_of_pos_right h3 (Nat.pow_pos (by decide))
theorem Lf {d:Nat} {h:ah} {x y:AV} {X Y:Nat} (nx:ao env h .u64 54 x (aq X)) (ny:ao env h .u64 54 y (aq Y)) (gL:X<Y) (gD:(aq X).length<268435456) (aw:Tidy h):
 ∃q r hk,aQ (d+7) (.fn 85) [x,y] h= .ret (.tuple [q,r]) hk∧Grow h hk∧rM h hk q (aq (X/Y))∧rM h hk r (aq (X%Y)):=by
 obtain ⟨cm,Qi⟩:∃cm,cm=tH (aq X) (aq Y):=⟨_,rfl⟩
 have U8:cm<0:=by rw[Qi,tI,if_pos gL];decide
 obtain ⟨N,hN⟩:∃N,(aq X).length=N:=⟨_,rfl⟩
 rw[Nat.div_eq_of_lt gL,Nat.mod_eq_of_lt gL,cO]
 by_cases Ek:aq X=[]
 · have nx0:=nx
   rw[Ek] at nx0
   have kc:=fC (d:=d+5) (h:=h) nx ny
   rw[←Qi] at kc
   have q1:=dg (cm<0)
   have ap:=MX (h:=h) (tys:= #[56,56]) rfl rfl k! k! k! (bytes:=8) k! (z:=AV.int .u64 0) k! rfl nx0
   have ev:=pk (d+6) lK (x::y::aV 101) h .ret h (CN 4<|EE kc<|VV (bh 3 false true .i64 cm 0)<|BB q1<|CN 2<|PP ap<|CN 2<|ZZ) k!
   exact ⟨_,_,h,fP rfl (az Tryz.func85 BW k! (.inr rfl) ev k!),Grow.refl aw,.inl ⟨rfl,rfl⟩,.inl ⟨rfl,Ek⟩⟩
 · have hNp:0<N:=by rw[←hN];exact List.length_pos_iff.2 Ek
   have kc:=fC (d:=d+5) (h:=h) nx ny
   rw[←Qi] at kc
   have q1:=dg (cm<0)
   obtain ⟨h2,aeN,bD⟩:=append_nil (h:=h) (tys:= #[56,56]) rfl rfl k! k! k! (bytes:=8) k! (z:=AV.int .u64 0) k! rfl (by decide) nx Ek o!
   rw[hN] at aeN
   have bP:=bI aw bD
   have iA:=cW bD
   have bB:=bU bD
   have b7:=(bu aw bD)
   have ev:=pk (d+6) lK (x::y::aV 101) h .ret h2 (CN 4<|EE kc<|VV (bh 3 false true .i64 cm 0)<|BB q1<|CN 2<|PP aeN<|CN 2<|ZZ) k!
   have nw:¬AV.within h.nx 20 (.tuple [.ax,.slice h.nx 0 N N true])=true:=by simp [AV.within]
   refine ⟨_,_,_,fa rfl (az Tryz.func85 BW k! (.inr rfl) ev k!) (fun c=>nw c.2),⟨bP,b7,by omega⟩,.inl ⟨rfl,rfl⟩,.inr ⟨h.nx,N,true,_,by rw[hN],Nat.le_refl _,bB,Holds.self _ _,by omega,by rw[aM];omega,hNp⟩⟩
theorem Sd {d:Nat} {h:ah} {x y:AV} {X Y:Nat} (nx:ao env h .u64 54 x (aq X)) (ny:ao env h .u64 54 y (aq Y)) (Ri:Y≤X) (Fm:0<Y) (hYB:Y<18446744073709551616) (gD:(aq X).length<268435456) (aw:Tidy h):
 ∃q r hk,aQ (d+7) (.fn 85) [x,y] h= .ret (.tuple [q,r]) hk∧Grow h hk∧rM h hk q (aq (X/Y))∧rM h hk r (aq (X%Y)):=by
 obtain ⟨cm,Qi⟩:∃cm,cm=tH (aq X) (aq Y):=⟨_,rfl⟩
 have U8:¬cm<0:=by rw[Qi,tI,if_neg o!];split<;>decide
 obtain ⟨N,hN⟩:∃N,(aq X).length=N:=⟨_,rfl⟩
 obtain ⟨n,hn⟩:∃n,(aq Y).length=n:=⟨_,rfl⟩
 have eY:=eK o! hYB
 have hn1:n=1:=by rw[←hn,eY];rfl
 have eYd:(aq Y).getD 0 0=Y:=by rw[eY];rfl
 have Ek:aq X≠ []:=fun e=>by have:=dZ.1 e;omega
 have hNp:0<N:=by rw[←hN];exact List.length_pos_iff.2 Ek
 have wX:=bH X
 have oX:=fun p=>w_ (p:=p) nx Ek aw
 have dl:=Le (l:=aq X) (e:=Y) N
 obtain ⟨da,db⟩:=Fl (l:=aq X) (e:=Y) Fm
 rw[hN,cd] at da db
 have dw:=Dn wX Fm hYB N
 have hr:=Nat.mod_lt X Fm
 obtain ⟨D,hD⟩:∃D,D=(yZ (aq X) Y N).1:=⟨_,rfl⟩
 have lq:(aq (X/Y)).length≤N:=by rw[←da,←hD];have:=nU dw;rw[dl] at this;rw[hD];exact this
 have lr:(aq (X%Y)).length≤1:=gZ o!
 have kc:=fC (d:=d+5) (h:=h) nx ny
 rw[←Qi] at kc
 have q1:=cI (cm<0)
 have q2:=dg ((n:Int)=1)
 have YU:qm env (some (.slice 54)) (some (ag N)) (some (ag N))=some (ar.cells (aS [(aa 0)] N) 54 false,fun i=>AV.slice i 0 N N false):=gH (bytes:=8) (z:=(aa 0)) k! k! k! rfl (by decide) o!
 obtain ⟨h4,sS,gk,wL,jH,sU⟩:=de aw (ar.cells (aS [(aa 0)] N) 54 false)
 have iy:Has h h4:=sU
 have ZF:=jH
 rw[c_] at jH
 obtain ⟨p5,q6,N5,Jw⟩:=((ny.has iy)).j8 0 (show 0<(aq Y).length by omega)
 rw[eYd] at Jw
 have dvw:=pG (d:=d+2) (z:=(AV.slice h.nx 0 N N false)) (a:=x) (l:=aq X) (e:=Y) (p:=h.nx) (o:=0) (n:=N) ⟨⟨N,false,rfl,Nat.le_refl _⟩,jH,by rw[aM,List.length_replicate];omega⟩ o! (nx.has iy) (oX _ o!) wX Fm hYB gk (Nat.zero_le _)
 rw[hN,db,sj (by rw[dl,List.length_replicate];exact Nat.le_refl _),dl,List.drop_of_length_le (by rw[List.length_replicate];exact Nat.le_refl _),List.append_nil] at dvw
 obtain ⟨h9,Dq,uT,GY⟩:=dvw
 have gR:=uT.1
 have nm:Has h h9:=uT.has iy aw o!
 have alh:=Dp (d:=d+5) (h:=h9) (p:=h.nx) (n:=N) (c:=N) (v:=X/Y) (op:=false) uT.2.1 (Holds.self _ _) dl o! o! o! dw da
 obtain ⟨ki,GZ,cS,xa,iD,qG⟩:=de gR (ar.cells [(ae (X%Y))] 54 false)
 have cP:=nm.trans qG
 have age:=Dp (d:=d+5) (h:=ki) (p:=h9.nx) (n:=1) (c:=1) (v:=X%Y) (op:=false) iD (Holds.self .u64 [X%Y]) rfl o! o! o! (Words.one o!) (by simp [ay])
 have ev:=pk (d+6) lK (x::y::aV 101) h .ret ki (CN 4<|EE kc<|VV (bh 3 false true .i64 cm 0)<|BB q1<|CC<|VV (show dO (some (.slice 54)) (some y)=some (ag n) from (by rw[←hn];exact (ny).len))<|VV (bQ 3 false true .i64 (n:Int) 1)<|BB q2<|CC<|VV (show dO (some (.slice 54)) (some x)=some (ag N) from (by rw[←hN];exact (nx).len))<|KK YU sS<|CN 4<|VV N5<|MM Jw<|EE Dq<|CN 2<|EE alh<|CC<|NN GZ (fun i=>(AV.slice i 0 1 1 false))<|EE age<|CN 2<|ZZ) k!
 have nw:¬AV.within h.nx 20 (.tuple [.slice h.nx 0 (aq (X/Y)).length N false,.slice h9.nx 0 (aq (X%Y)).length 1 false])=true:=by simp [AV.within]
 have pre:∀(l:List Nat),Words l→∃t,l=aq (ay l)++t:=fun l w=>by
  rw[←iC w];exact ⟨l.drop (fk l l.length),(List.take_append_drop _ _).symm⟩
 obtain ⟨t1,ht1⟩:=pre _ dw
 obtain ⟨t2,ht2⟩:=pre [X%Y] (Words.one o!)
 rw[da] at ht1
 have e2:ay [X%Y]=X%Y:=by simp [ay]
 rw[e2] at ht2
 refine ⟨_,_,_,fa rfl (az Tryz.func85 BW k! (.inr rfl) ev k!) (fun c=>nw c.2),⟨cS,cP,by omega⟩,.inr ⟨h.nx,N,false,_,rfl,Nat.le_refl _,(qG _ _ uT.2.1),by rw[ht1];exact Holds.pre _ _ _,lq,by rw[aM,dl];omega,hNp⟩,.inr ⟨h9.nx,1,false,aA .u64 [X%Y],rfl,by omega,iD,by rw[ht2];exact Holds.pre _ _ _,lr,Nat.le_refl _,by decide⟩⟩
theorem V0 {R Q ws:List Nat} {n m k D:Nat} (hR:R.length=m+n) (hk:k<m) (wR:Words R) (hQ:Q.length=m) (hD:D<18446744073709551616^n) (gL:ay R<D*18446744073709551616^(k+1)) (hws:ws.length=n+1) (hwv:ay ws=ay ((R.drop k).take (n+1))%D) (o8:0<D):
 ay ((R.drop k).take (n+1))<D*18446744073709551616∧ay (R.take k++ws++R.drop (k+(n+1)))<D*18446744073709551616^k∧
 ay (R.take k++ws++R.drop (k+(n+1)))+D*18446744073709551616^k*ay ((Q.set k (ay ((R.drop k).take (n+1)) /D)).drop k)=ay R+D*18446744073709551616^(k+1)*ay (Q.drop (k+1)):=by
 have e0:R.take k++((R.drop k).take (n+1)++R.drop (k+(n+1)))=R:=by
  rw[←List.drop_drop,List.take_append_drop,List.take_append_drop]
 have e1:=congrArg ay e0
 rw[cF,cF,List.length_take,List.length_take,List.length_drop,Nat.min_eq_left o!,Nat.min_eq_left o!] at e1
 have Q3:=fu wR k o!
 obtain ⟨M,hM⟩:∃M,M=18446744073709551616^k:=⟨_,rfl⟩
 obtain ⟨A,hA⟩:∃A,A=ay ((R.drop k).take (n+1)):=⟨_,rfl⟩
 have hU:ay (R.drop (k+(n+1)))=0:=by
  rcases Nat.eq_zero_or_pos (ay (R.drop (k+(n+1)))) with h | h
  · exact h
  · exfalso
    have h1:18446744073709551616^k*(18446744073709551616^(n+1)*1)≤18446744073709551616^k*(18446744073709551616^(n+1)*ay (R.drop (k+(n+1)))):=Nat.mul_le_mul_left _ (Nat.mul_le_mul_left _ h)
    have h2:D*18446744073709551616^(k+1)≤18446744073709551616^n*18446744073709551616^(k+1):=Nat.mul_le_mul_right _ (Nat.le_of_lt hD)
    have h3:18446744073709551616^n*18446744073709551616^(k+1)=18446744073709551616^k*(18446744073709551616^(n+1)*1):=by
     rw[Nat.mul_one,←Nat.pow_add,←Nat.pow_add];congr 1;omega
    rw[Nat.mul_add] at e1
    omega
 have e2:ay (R.take k++ws++R.drop (k+(n+1)))=ay (R.take k)+M*(A%D):=by
  rw[List.append_assoc,cF,cF,hU,hwv,Nat.mul_zero,Nat.add_zero,List.length_take,Nat.min_eq_left o!,hM,hA]
 rw[e2]
 rw[hU,Nat.mul_zero,Nat.add_zero,←hM,←hA] at e1
 have e3:(Q.set k (A/D)).drop k=A/D::Q.drop (k+1):=by
  rw[drop_cons (by rw[List.length_set];omega)]
  congr 1
  · rw[List.getD_eq_getElem?_getD,List.getElem?_set_self o!];rfl
  · rw[List.drop_set_of_lt o!]
 rw[←hM] at Q3
 rw[Nat.pow_succ,←hM] at gL
 rw[←hA,e3,ay,Nat.pow_succ,←hM]
 have hdm:=Nat.div_add_mod A D
 have hml:=Nat.mod_lt A o8
 refine ⟨?_,?_,?_⟩
 · have h1:M*A<M*(D*18446744073709551616):=by
    have:D*(M*18446744073709551616)=M*(D*18446744073709551616):=by rw[Nat.mul_left_comm]
    omega
   exact Nat.lt_of_mul_lt_mul_left h1
 · have h1:=Nat.mul_le_mul_left M (show A%D+1≤D from hml)
   rw[Nat.mul_add,Nat.mul_one,Nat.mul_comm M D] at h1
   omega
 · have h1:M*A=M*(D*(A/D))+M*(A%D):=by rw[←Nat.mul_add,hdm]
   have h2:D*M*(A/D+18446744073709551616*ay (Q.drop (k+1)))=M*(D*(A/D))+D*(M*18446744073709551616)*ay (Q.drop (k+1)):=by
    rw[Nat.mul_add]
    congr 1
    · rw[Nat.mul_comm D M,Nat.mul_assoc]
    · rw[←Nat.mul_assoc,Nat.mul_assoc D M]
   rw[h2,←e1,h1]
   omega
theorem acV {R:List Nat} {n m k D:Nat} (hR:R.length=m+n) (hk:k<m) (wR:Words R) (hD:D<18446744073709551616^n) (gL:ay R<D*18446744073709551616^(k+1)):ay ((R.drop k).take (n+1))<D*18446744073709551616:=by
 have o8:0<D:=by
  rcases Nat.eq_zero_or_pos D with h0 | h0
  · rw[h0,Nat.zero_mul] at gL;omega
  · exact h0
 have e0:R.take k++((R.drop k).take (n+1)++R.drop (k+(n+1)))=R:=by
  rw[←List.drop_drop,List.take_append_drop,List.take_append_drop]
 have e1:=congrArg ay e0
 rw[cF,cF,List.length_take,Nat.min_eq_left o!,Nat.mul_add] at e1
 rw[Nat.pow_succ] at gL
 have h1:18446744073709551616^k*ay ((R.drop k).take (n+1))<18446744073709551616^k*(D*18446744073709551616):=by
  have:D*(18446744073709551616^k*18446744073709551616)=18446744073709551616^k*(D*18446744073709551616):=by rw[Nat.mul_left_comm]
  omega
 exact Nat.lt_of_mul_lt_mul_left h1
theorem Words.set {l:List Nat} {i v:Nat} (w:Words l) (hv:v<18446744073709551616):Words (l.set i v):=fun x hx=>(List.mem_or_eq_of_mem_set hx).elim (w x) fun e=>e▸hv
theorem pQ {k:IntKind} {R:List Nat} {o w:Nat}:Holds k (aA k R) o ((R.drop o).take w):=fun i z hz=>by
 refine dP ?_
 have hi:=(List.getElem?_eq_some_iff.1 hz).1
 rw[List.getElem?_take_of_lt (by simp at hi;omega),List.getElem?_drop] at hz
 exact hz
theorem El {d:Nat} {hs:ah} {ds:List cC} {rc:RC} {dl:List Nat} {n m rl pq pr pd XX:Nat} {x y wz7:AV} {ly:List Nat} (W6:ly.length=n) (hrl:rl=m+n) (hn:2≤n) (gD:m+n<2^29) (wd:Words dl) (hdl:dl.length=n) (GO:9223372036854775808≤dl.getD (n - 1) 0) (cR:pq≠pr) (ZG:pd≠pr) (V1:pd≠pq) (gd:hs.get pd=some (.cells (aA .u64 dl) 54 false)) (ny:∀hh,wJ pr pq hs hh→ao env hh .u64 54 y ly):
 ∀(k:Nat) (h:ah) (v:Int) (R Q:List Nat),k≤m→v=(k:Nat) - 1→R.length=m+n→Q.length=m→Words R→Words Q→ay R<ay dl*18446744073709551616^k→ay R+ay dl*18446744073709551616^k*ay (Q.drop k)=XX→Tidy h→wJ pr pq hs h→h.nx=hs.nx→h.get pr=some (.cells (aA .u64 R) 54 false)→h.get pq=some (.cells (aA .u64 Q) 54 false)→∀x_:Nat→AV,
  ∃h',(∃y_:Nat→AV,Ev env (aQ (d+6)) (.loop AL) ⟨(x::y::(x_ 2)::(x_ 3)::(AV.slice pq 0 m m false)::(AV.slice pr 0 rl rl false)::(x_ 6)::wz7::(AV.slice pd 0 n n false)::(af v)::rx x_ 10 93 []),h,ds,rc⟩ (.exit 0) ⟨(x::y::(y_ 2)::(y_ 3)::(AV.slice pq 0 m m false)::(AV.slice pr 0 rl rl false)::(y_ 6)::wz7::(AV.slice pd 0 n n false)::rx y_ 9 94 []),h',ds,rc⟩)∧∃R Q,R.length=m+n∧Q.length=m∧Words R∧Words Q∧ay R<ay dl∧ay R+ay dl*ay Q=XX∧Tidy h'∧wJ pr pq hs h'∧h'.nx=hs.nx∧h'.get pr=some (.cells (aA .u64 R) 54 false)∧h'.get pq=some (.cells (aA .u64 Q) 54 false)
 | 0,h,v,R,Q,hk,hv,hR,hQ,wR,wQ,gL,V2,aw,kp,hx,gr,gq,x_=>by
  rw[Nat.pow_zero,Nat.mul_one] at gL V2
  rw[List.drop_zero] at V2
  have q1:=cI (0≤v)
  have ev:=vG (d+6) AL (x::y::(x_ 2)::(x_ 3)::(AV.slice pq 0 m m false)::(AV.slice pr 0 rl rl false)::(x_ 6)::wz7::(AV.slice pd 0 n n false)::(af v)::rx x_ 10 93 []) h ds rc (.exit 0) h (CC<|VV (bV 3 false true .i64 v 0)<|BB q1<|ZZ) k!
  exact ⟨h,cT (Ev.out ev) k!,R,Q,hR,hQ,wR,wQ,gL,V2,aw,kp,hx,gr,gq⟩
 | k+1,h,v,R,Q,hk,hv,hR,hQ,wR,wQ,gL,V2,aw,kp,hx,gr,gq,x_=>by
  have oO:=kN wd
  rw[hdl] at oO
  have o8:0<ay dl:=by
   rcases Nat.eq_zero_or_pos (ay dl) with h0 | h0
   · rw[h0,Nat.zero_mul] at gL;omega
   · exact h0
  have nd:ao env h .u64 54 (.slice pd 0 n n false) dl:=by
   have:=ao.of (E:=env) (k:= .u64) (e:=54) (l:=dl) (p:=pd) (o:=0) (c:=n) (b:=false) k! k! o! o! (by simp) (kp _ _ ZG V1 gd) (Holds.self _ _)
   rwa [hdl] at this
  have od:mj pr (.slice pd 0 n n false):=fun o n c b e=>by cases e;exact ZG rfl
  have Tn:((R.drop k).take (n+1)).length=n+1:=by simp;omega
  obtain ⟨ws,h1,vI,sV,bm,lw,ww,vw⟩:=La (d:=d+1) (h:=h) (n:=n) (p:=pr) (o:=k) (c:=rl - k) (op:=false) (C:=aA .u64 R) (f:=54) (xs:=(R.drop k).take (n+1)) (l:=dl) (dv:= .slice pd 0 n n false) Tn hdl hn o! ((wR.drop k).take _) wd pQ gr (by rw[aM];omega) o! nd od GO (acV hR o! wR oO gL) aw
  obtain ⟨l1,l2,l3⟩:=V0 hR (show k<m by omega) wR hQ oO gL lw vw o8
  rw[mC o!,lw] at sV
  have aK:=sV.1
  have gr1:=sV.2.1
  have gq1:=sV.2.2 _ _ cR gq
  have hqd:ay ((R.drop k).take (n+1)) /ay dl<18446744073709551616:=by rw[Nat.div_lt_iff_lt_mul o8,Nat.mul_comm];exact l1
  have q1:=dg (0≤v)
  have w2:=fS (v+(n:Int))
  have w3:=fS ((v+(n:Int))+1)
  have sl4:aZ env 56 (AV.slice pr 0 rl rl false) (some (af v)) (some (af ((v+(n:Int))+1))) (none)=some (AV.slice pr k (n+1) (rl - k) false):=Gp (e:=54) k! k! o! o! o! o! o!
  have Lg:bq env (some (.slice 54)) (some (AV.slice pq 0 m m false)) (some (af v))=some (AV.ptr pq k):=cN k! (show k<m by omega) o!
  obtain ⟨h6,AD,G0,dh,wP⟩:=Iz 54 k (ay (List.take (n+1) (List.drop k R)) /ay dl) aK gq1 (show k<Q.length by omega)
  have w7:=fS (v - 1)
  have ev:=vG (d+6) AL (x::y::(x_ 2)::(x_ 3)::(AV.slice pq 0 m m false)::(AV.slice pr 0 rl rl false)::(x_ 6)::wz7::(AV.slice pd 0 n n false)::(af v)::rx x_ 10 93 []) h ds rc .normal h6 (CC<|VV (bV 3 false true .i64 v 0)<|BB q1<|CN 6<|VV (show dO (some (.slice 54)) (some y)=some (ag n) from (by rw[←W6];exact ((ny _ kp)).len))<|VV (iI 3 false false w2)<|VV (iI 3 false true w3)<|QQ sl4<|CC<|EE vI<|VV Lg<|SS AD<|CC<|VV (bT 3 false true w7)<|CC<|ZZ) k!
  rw[←l3] at V2
  refine dj ev k! fun x_=>El W6 hrl hn gD wd hdl GO cR ZG V1 gd ny k h6 (v - 1) _ _ o! o! (by simp;omega) (by rw[List.length_set];exact hQ) (((wR.take k).append ww).append (wR.drop _)) (Words.set wQ hqd) l2 V2 dh (kp.trans fun i z hi hj g=>G0.2.2 i z hj (sV.2.2 i z hi g)) o! (G0.2.2 _ _ (Ne.symm cR) gr1) G0.2.1 x_
theorem ZH {X Y n N s out:Nat} {D:List Nat} (hn:(aq Y).length=n) (hN:(aq X).length=N) (hn2:2≤n) (hnN:n≤N) (hY:Y≠0) (hs:s<64) (hlz:(aq Y).getD (n - 1) 0<2^(64 - s)) (GO:9223372036854775808≤(aq Y).getD (n - 1) 0*2^s) (wD:Words D) (hD:D.length=n) (hv:ay D+18446744073709551616^n*out=Y*2^s):
 ay D=Y*2^s∧9223372036854775808≤D.getD (n - 1) 0∧X*2^s<Y*2^s*18446744073709551616^(N - n+1):=by
 have hB:(18446744073709551616:Nat)=2^(64 - s)*2^s:=by rw[←Nat.pow_add,Nat.sub_add_cancel o!]
 have hp:0<2^s:=Nat.pow_pos (by decide)
 have e1:Y=ay ((aq Y).take (n - 1))+18446744073709551616^(n - 1)*(aq Y).getD (n - 1) 0:=by
  have:=cM (l:=aq Y) (k:=n - 1) o!
  rw[show n - 1+1=n by omega,List.take_of_length_le o!,cd] at this
  exact this
 have e2:=fu (bH Y) (n - 1) o!
 have e3:18446744073709551616^n=18446744073709551616^(n - 1)*18446744073709551616:=by rw[←Nat.pow_succ];congr 1;omega
 have eD:ay D=ay (D.take (n - 1))+18446744073709551616^(n - 1)*D.getD (n - 1) 0:=by
  have:=cM (l:=D) (k:=n - 1) o!
  rw[show n - 1+1=n by omega,List.take_of_length_le o!] at this
  exact this
 have eDl:=fu wD (n - 1) o!
 obtain ⟨M,hM⟩:∃M,M=18446744073709551616^(n - 1):=⟨_,rfl⟩
 rw[←hM] at e1 e2 e3 eD eDl
 generalize ay ((aq Y).take (n - 1))=YL at *
 generalize hyt:(aq Y).getD (n - 1) 0=yt at *
 have hM0:0<M:=by rw[hM];exact Nat.pow_pos (by decide)
 have f1:Y<M*2^(64 - s):=by
  have:=Nat.mul_le_mul_left M (show yt+1≤2^(64 - s) from hlz)
  rw[Nat.mul_add,Nat.mul_one] at this
  omega
 have f2:Y*2^s<18446744073709551616^n:=by
  rw[e3,hB,←Nat.mul_assoc]
  exact Nat.mul_lt_mul_of_pos_right f1 hp
 have g1:out=0:=by
  rcases Nat.eq_zero_or_pos out with h | h
  · exact h
  · have:=Nat.mul_le_mul_left (18446744073709551616^n) h
    omega
 rw[g1,Nat.mul_zero,Nat.add_zero] at hv
 refine ⟨hv,?_,?_⟩
 · apply Decidable.byContradiction
   intro hc
   have h1:M*(yt*2^s)≤Y*2^s:=by
    rw[←Nat.mul_assoc]
    exact Nat.mul_le_mul_right _ (by rw[e1];exact Nat.le_add_left _ _)
   have h2:=Nat.mul_le_mul_left M GO
   have h3:=Nat.mul_le_mul_left M (show D.getD (n - 1) 0+1≤9223372036854775808 by omega)
   rw[Nat.mul_add,Nat.mul_one] at h3
   omega
 · have h1:=nJ X
   rw[hN] at h1
   have h2:=GX hY
   rw[hn] at h2
   have h3:18446744073709551616^N=18446744073709551616^(n - 1)*18446744073709551616^(N - n+1):=by rw[←Nat.pow_add];congr 1;omega
   have h4:18446744073709551616^N≤Y*18446744073709551616^(N - n+1):=by rw[h3];exact Nat.mul_le_mul_right _ h2
   have h5:X*2^s<Y*18446744073709551616^(N - n+1)*2^s:=Nat.mul_lt_mul_of_pos_right o! hp
   rw[Nat.mul_right_comm]
   exact h5
theorem acW {X Y A r P:Nat} (hP:0<P) (h:r+Y*P*A=X*P) (hr:r<Y*P):A=X/Y∧r/P=X%Y:=by
 have hY:0<Y:=by
  rcases Nat.eq_zero_or_pos Y with h0 | h0
  · rw[h0,Nat.zero_mul] at hr;omega
  · exact h0
 have e1:Y*P*A=Y*A*P:=Nat.mul_right_comm _ _ _
 rw[e1] at h
 have h1:Y*A≤X:=by
  apply Decidable.byContradiction
  intro hc
  have:=Nat.mul_le_mul_right P (show X+1≤Y*A by omega)
  rw[Nat.succ_mul] at this
  omega
 obtain ⟨Z,rfl⟩:∃Z,X=Y*A+Z:=⟨X - Y*A,by omega⟩
 rw[Nat.add_mul] at h
 have h2:r=Z*P:=by omega
 subst h2
 have h3:Z<Y:=Nat.lt_of_mul_lt_mul_right hr
 refine ⟨?_,?_⟩
 · rw[Nat.mul_add_div hY,Nat.div_eq_of_lt h3,Nat.add_zero]
 · rw[Nat.mul_div_cancel _ hP,Nat.mul_add_mod,Nat.mod_eq_of_lt h3]
theorem OZ {R:List Nat} {n:Nat} (wR:Words R) (hn:n≤R.length) (h:ay R<18446744073709551616^n):ay (R.take n)=ay R:=by
 have e:=congrArg ay (List.take_append_drop n R)
 rw[cF,List.length_take,Nat.min_eq_left hn] at e
 have:ay (R.drop n)=0:=by
  rcases Nat.eq_zero_or_pos (ay (R.drop n)) with h0 | h0
  · exact h0
  · have:=Nat.mul_le_mul_left (18446744073709551616^n) h0
    omega
 rw[this,Nat.mul_zero,Nat.add_zero] at e
 exact e
theorem Se {d:Nat} {h:ah} {x y:AV} {X Y:Nat} (nx:ao env h .u64 54 x (aq X)) (ny:ao env h .u64 54 y (aq Y)) (Ri:Y≤X) (hYB:18446744073709551616≤Y) (gD:(aq X).length<268435456) (aw:Tidy h):
 ∃q r hk,aQ (d+7) (.fn 85) [x,y] h= .ret (.tuple [q,r]) hk∧Grow h hk∧rM h hk q (aq (X/Y))∧rM h hk r (aq (X%Y)):=by
 obtain ⟨cm,Qi⟩:∃cm,cm=tH (aq X) (aq Y):=⟨_,rfl⟩
 have U8:¬cm<0:=by rw[Qi,tI,if_neg o!];split<;>decide
 obtain ⟨N,hN⟩:∃N,(aq X).length=N:=⟨_,rfl⟩
 obtain ⟨n,hn⟩:∃n,(aq Y).length=n:=⟨_,rfl⟩
 have Fm:Y≠0:=by omega
 have Ek:aq X≠ []:=fun e=>by have:=dZ.1 e;omega
 have ali:aq Y≠ []:=fun e=>Fm (dZ.1 e)
 have hn2:2≤n:=by
  apply Decidable.byContradiction
  intro hc
  have h1:=nJ Y
  rw[hn] at h1
  have h2:18446744073709551616^n≤18446744073709551616^1:=BV o!
  rw[Nat.pow_one] at h2
  omega
 have hnN:n≤N:=by rw[←hn,←hN];exact bG Ri
 have wX:=bH X
 have wY:=bH Y
 have oX:=fun p=>w_ (p:=p) nx Ek aw
 have oY:=fun p=>w_ (p:=p) ny ali aw
 have hyt:=GW Fm
 rw[hn] at hyt
 obtain ⟨L,_,bL,lL⟩:=dU (d:=d+4) (h:=h) ((aq Y).getD (n - 1) 0) (wY.getD _) aw (Nat.zero_le _)
 have klz:∀hh,Tidy hh→aQ (d+6) (.fn 86) [.int .u64 (((aq Y).getD (n - 1) 0:Nat):Int)] hh= .ret (.int .i64 ((64 - L:Nat):Int)) hh:=fun hh t=>by
  obtain ⟨L2,k1,k2,_⟩:=dU (d:=d+4) (h:=hh) ((aq Y).getD (n - 1) 0) (wY.getD _) t (Nat.zero_le _)
  rw[rL.unique k2 bL] at k1;exact k1
 obtain ⟨z1,z2,z3,z4⟩:=rL.lz hyt bL lL
 obtain ⟨s,hs⟩:∃s,s=64 - L:=⟨_,rfl⟩
 rw[←hs] at z1 z2 z3 z4 klz
 have ec:IntKind.u64.wrap (s:Int)=(s:Int):=qn _ o! o!
 obtain ⟨D,hD⟩:∃D,D=(BI (aq Y) s n).1:=⟨_,rfl⟩
 have lD:D.length=n:=by rw[hD,pE]
 have wD:Words D:=by rw[hD];exact Dm wY z1 n
 have vD0:=Ej (x:=aq Y) z1
 rw[hn,cd,←hD] at vD0
 obtain ⟨vD,tD,gL⟩:=ZH hn hN hn2 hnN Fm z1 z2 z3 wD lD vD0
 obtain ⟨W,hW⟩:∃W,W=(BI (aq X) s N).1:=⟨_,rfl⟩
 obtain ⟨out,vZ⟩:∃out,out=(BI (aq X) s N).2:=⟨_,rfl⟩
 have lW:W.length=N:=by rw[hW,pE]
 have wW:Words W:=by rw[hW];exact Dm wX z1 N
 have alj:out<18446744073709551616:=by
  have h1:=K9 wX z1 N
  have h2:2^s≤2^63:=Nat.pow_le_pow_right (by decide) o!
  rw[←vZ] at h1
  omega
 have vR0:=Ej (x:=aq X) z1
 rw[hN,cd,←hW,←vZ] at vR0
 obtain ⟨R0,hR0⟩:∃R0,R0=W++[out]:=⟨_,rfl⟩
 have lR0:R0.length=N+1:=by rw[hR0];simp [lW]
 have wR0:Words R0:=by rw[hR0];exact wW.append (Words.one alj)
 have vR:ay R0=X*2^s:=by rw[hR0,jR,lW];exact vR0
 have alk:(W++[0]).set N out=R0:=by rw[hR0,List.set_append_right _ _ o!,lW,Nat.sub_self];rfl
 obtain ⟨m,hm⟩:∃m,m=N - n+1:=⟨_,rfl⟩
 have hmn:m+n=N+1:=by omega
 rw[←hm] at gL
 have anf:0<N:=by omega
 have kc:=fC (d:=d+5) (h:=h) nx ny
 rw[←Qi] at kc
 have q1:=cI (cm<0)
 have q2:=cI ((n:Int)=1)
 have w3:=fS ((n:Int) - 1)
 obtain ⟨p4,q5,R5,T'⟩:=ny.j8 ((n:Int) - 1) (show (n - 1)<(aq Y).length by first | omega | (simp [lW];omega) | simp [lW])
 have mk8:qm env (some (.slice 54)) (some (ag n)) (some (ag n))=some (ar.cells (aS [(aa 0)] n) 54 false,fun i=>AV.slice i 0 n n false):=gH (bytes:=8) (z:=(aa 0)) k! k! k! rfl (by decide) o!
 obtain ⟨h9,zc,gR,GY,pH,BX⟩:=de aw (ar.cells (aS [(aa 0)] n) 54 false)
 have nm:Has h h9:=BX
 have Uf:=pH
 rw[c_] at pH
 have agf:=Jt (d:=d+5) (z:=(AV.slice h.nx 0 n n false)) (a:=y) (l:=aq Y) (s:=s) (p:=h.nx) (o:=0) (n:=n) ⟨⟨n,false,rfl,by omega⟩,pH,by rw[aM,List.length_replicate];omega⟩ o! (ny.has nm) (oY _ o!) wY z1 gR (Nat.zero_le _)
 rw[hn,sj (by rw[pE,List.length_replicate];omega),pE,←hD,List.drop_of_length_le (by rw[List.length_replicate];exact Nat.le_refl _),List.append_nil] at agf
 rw[←ec] at agf
 obtain ⟨ki,j0,G3,xa⟩:=agf
 have cS:=G3.1
 have cP:Has h ki:=G3.has nm aw o!
 have N_:=fS ((N:Int)+1)
 have alm:qm env (some (.slice 54)) (some (af ((N:Int)+1))) (some (af ((N:Int)+1)))=some (ar.cells (aS [(aa 0)] (N+1)) 54 false,fun i=>AV.slice i 0 (N+1) (N+1) false):=by rw[show ((N:Int)+1:Int)=(((N+1):Nat):Int) by omega];exact gH (bytes:=8) (z:=(aa 0)) k! k! k! rfl (by decide) o!
 obtain ⟨pP,O0,dS,oZ,fE,o9⟩:=de cS (ar.cells (aS [(aa 0)] (N+1)) 54 false)
 have fm:=cP.trans o9
 have aln:=fE
 rw[c_] at fE
 have alo:aZ env 56 (AV.slice ki.nx 0 (N+1) (N+1) false) (none) (some (ag N)) (none)=some (AV.slice ki.nx 0 N (N+1) false):=gI (e:=54) k! k! o! o! o! o!
 have agh:=Jt (d:=d+5) (z:=(AV.slice ki.nx 0 N (N+1) false)) (a:=x) (l:=aq X) (s:=s) (p:=ki.nx) (o:=0) (n:=N) ⟨⟨(N+1),false,rfl,by omega⟩,fE,by rw[aM,List.length_replicate];omega⟩ o! (nx.has fm) (oX _ o!) wX z1 dS (Nat.zero_le _)
 rw[hN,sj (by rw[pE,List.length_replicate];omega),pE,←hW,←vZ,List.drop_replicate,Nat.add_sub_cancel_left,List.replicate_one] at agh
 rw[←ec] at agh
 obtain ⟨E0,BY,o_,G4⟩:=agh
 have ij:=o_.1
 have iE:Has h E0:=o_.has fm aw o!
 have Sc:bq env (some (.slice 54)) (some (AV.slice ki.nx 0 (N+1) (N+1) false)) (some (ag N))=some (AV.ptr ki.nx N):=cN k! (show N<(N+1) by first | omega | (simp [lW];omega) | simp [lW]) o!
 obtain ⟨Fo,BZ,Jy,tJ,Jz⟩:=Iz 54 N out ij o_.2.1 (show N<(W++[0]).length by first | omega | (simp [lW];omega) | simp [lW])
 have tK:Has h Fo:=Jy.has iE aw o!
 have V3:=fS ((N:Int) -(n:Int))
 have w21:=fS (((N:Int) -(n:Int))+1)
 have alp:qm env (some (.slice 54)) (some (af (((N:Int) -(n:Int))+1))) (some (af (((N:Int) -(n:Int))+1)))=some (ar.cells (aS [(aa 0)] m) 54 false,fun i=>AV.slice i 0 m m false):=by rw[show (((N:Int) -(n:Int))+1:Int)=(m:Int) by omega];exact gH (bytes:=8) (z:=(aa 0)) k! k! k! rfl (by decide) o!
 obtain ⟨h23,aiq,GQ,Zs,zR,ZI⟩:=de tJ (ar.cells (aS [(aa 0)] m) 54 false)
 have Eh:=tK.trans ZI
 have alq:=zR
 rw[c_] at zR
 have w24:=fS ((m:Int) - 1)
 have gr0:=(ZI _ _ Jy.2.1)
 rw[alk] at gr0
 obtain ⟨pq,hpq⟩:∃b,b=Fo.nx:=⟨_,rfl⟩
 obtain ⟨pr,hpr⟩:∃b,b=ki.nx:=⟨_,rfl⟩
 obtain ⟨h26,⟨ang,acX⟩,R,Q,lR,lQ,wR,wQ,vlt,alr,JA,kp2,aeO,gr_,gq_⟩:=El (d:=d) (hs:=h23) (ds:=[]) (rc:= .no) (dl:=D) (n:=n) (m:=m) (pq:=Fo.nx) (pr:=ki.nx) (pd:=h.nx) (XX:=X*2^s) (x:=x) (y:=y) (wz7:=(aa (IntKind.u64.wrap (s:Int)))) (ly:=aq Y) (rl:=N+1) hn o! hn2 o! wD lD tD o! o! o! (ZI _ _ (Jy.2.2 _ _ o! (o_.2.2 _ _ o! (o9 _ _ G3.2.1)))) (fun hh k2=>ny.has (Has.MY Eh k2 aw o! o!)) m h23 _ R0 (List.replicate m 0) (Nat.le_refl _) rfl o! (by simp) wR0 (fun w hw=>by rw[(List.mem_replicate.1 hw).2];decide) (by rw[vR,vD];exact gL) (by rw[List.drop_of_length_le (by simp)];simp [ay,vR]) GQ (wJ.refl _ _ _) rfl gr0 zR (fun k_=>((x::y::aB::aB::(AV.slice Fo.nx 0 m m false)::(AV.slice ki.nx 0 (N+1) (N+1) false)::aB::(aa (IntKind.u64.wrap (s:Int)))::(AV.slice h.nx 0 n n false)::(af ((m:Int) - 1))::x::y::(af cm)::(aj (decide (cm<0)))::aB::aB::aB::y::(ag n)::(aj (decide ((n:Int)=1)))::KR 14 (y::y::(ag n)::(af ((n:Int) - 1))::(AV.ptr p4 q5)::(ae ((aq Y).getD (n - 1) 0))::(ag s)::(aa (IntKind.u64.wrap (s:Int)))::y::(ag n)::(AV.slice h.nx 0 n n false)::(AV.slice h.nx 0 n n false)::y::(aa (IntKind.u64.wrap (s:Int)))::(ae ((BI (aq Y) s n).2))::x::(ag N)::(af ((N:Int)+1))::(AV.slice ki.nx 0 (N+1) (N+1) false)::(AV.slice ki.nx 0 (N+1) (N+1) false)::x::(ag N)::(AV.slice ki.nx 0 (N+1) (N+1) false)::x::(ag N)::(AV.slice ki.nx 0 N (N+1) false)::x::(aa (IntKind.u64.wrap (s:Int)))::(ae out)::(AV.ptr ki.nx N)::x::(ag N)::y::(ag n)::(af ((N:Int) -(n:Int)))::(af (((N:Int) -(n:Int))+1))::(AV.slice Fo.nx 0 m m false)::(AV.slice Fo.nx 0 m m false)::(ag m)::(af ((m:Int) - 1))::aV 29)):List AV).getD k_ aB)
 rw[hmn] at lR
 have B0:=Has.MY Eh kp2 aw o! o!
 have als:aZ env 56 (AV.slice ki.nx 0 (N+1) (N+1) false) (none) (some (ag n)) (none)=some (AV.slice ki.nx 0 n (N+1) false):=gI (e:=54) k! k! o! o! o! o!
 have wRn:Words (List.take n R):=wR.take n
 have vRn:ay (List.take n R)=ay R:=OZ wR (by rw[lR];omega) (Nat.lt_of_lt_of_le vlt (by have:=kN wD;rw[lD] at this;omega))
 obtain ⟨eq1,er1⟩:=acW (X:=X) (Y:=Y) (A:=ay Q) (r:=ay R) (P:=2^s) (Nat.pow_pos (by decide)) (by rw[←vD];exact alr) (by rw[←vD];exact vlt)
 obtain ⟨ws,air⟩:=N9 (d:=d+5) (h:=h26) (l:=List.take n R) (s:=s) (p:=ki.nx) (o:=0) (n:=n) (c:=(N+1)) (op:=false) (C:=aA .u64 R) (f:=54) wRn z1 (by rw[List.length_take,lR];omega) o! (by rw[aM,lR];omega) (by have:=pQ (k:= .u64) (R:=R) (o:=0) (w:=n);rwa [List.drop_zero] at this) gr_ JA
 rw[←ec] at air
 obtain ⟨ZJ,ZK,O1,ais,lws,ww,alu⟩:=air
 have O2:=O1.1
 have Sf:=O1.2.1
 rw[sj (by rw[lws,lR];omega),lws] at Sf
 have vws:ay ws=X%Y:=by rw[alu,vRn];exact er1
 have O3:Has h ZJ:=O1.has B0 aw o!
 have alv:=Dp (d:=d+5) (h:=ZJ) (p:=Fo.nx) (n:=m) (c:=m) (v:=X/Y) (op:=false) (O1.2.2 _ _ o! gq_) (Holds.self _ _) lQ o! o! o! wQ eq1
 have alw:=Dp (d:=d+5) (h:=ZJ) (p:=ki.nx) (n:=n) (c:=(N+1)) (v:=X%Y) (op:=false) Sf (Holds.pre _ _ _) lws o! o! o! ww vws
 have ev:=pk (d+6) lK (x::y::aV 101) h .ret ZJ (CN 4<|EE kc<|VV (bh 3 false true .i64 cm 0)<|BB q1<|CC<|VV (show dO (some (.slice 54)) (some y)=some (ag n) from (by rw[←hn];exact (ny).len))<|VV (bQ 3 false true .i64 (n:Int) 1)<|BB q2<|CN 2<|VV (show dO (some (.slice 54)) (some y)=some (ag n) from (by rw[←hn];exact (ny).len))<|VV (bT 3 false true w3)<|VV R5<|MM T'<|EE (show (aQ (d+6)) (.fn 86) [(ae ((aq Y).getD (n - 1) 0))] h= .ret (ag s) h from klz _ aw)<|CN 3<|VV (show dO (some (.slice 54)) (some y)=some (ag n) from (by rw[←hn];exact (ny).len))<|KK mk8 zc<|CN 4<|EE j0<|CC<|VV (show dO (some (.slice 54)) (some x)=some (ag N) from (by rw[←hN];exact ((nx.has cP)).len))<|VV (iI 3 false true N_)<|KK alm O0<|CN 3<|VV (show dO (some (.slice 54)) (some x)=some (ag N) from (by rw[←hN];exact ((nx.has fm)).len))<|CN 2<|VV (show dO (some (.slice 54)) (some x)=some (ag N) from (by rw[←hN];exact ((nx.has fm)).len))<|QQ alo<|CN 2<|EE BY<|VV Sc<|SS BZ<|CC<|VV (show dO (some (.slice 54)) (some x)=some (ag N) from (by rw[←hN];exact ((nx.has tK)).len))<|CC<|VV (show dO (some (.slice 54)) (some y)=some (ag n) from (by rw[←hn];exact ((ny.has tK)).len))<|VV (bT 3 false false V3)<|VV (iI 3 false true w21)<|KK alp aiq<|CN 3<|VV (bT 3 false true w24)<|CC<|LL acX<|CN 2<|VV (show dO (some (.slice 54)) (some y)=some (ag n) from (by rw[←hn];exact ((ny.has B0)).len))<|QQ als<|CN 4<|EE ZK<|CC<|EE alv<|CC<|EE alw<|CN 2<|ZZ) k!
 obtain ⟨t1,ht1⟩:∃t,Q=aq (ay Q)++t:=by rw[←iC wQ];exact ⟨Q.drop (fk Q Q.length),(List.take_append_drop _ _).symm⟩
 obtain ⟨t2,ht2⟩:∃t,ws=aq (ay ws)++t:=by rw[←iC ww];exact ⟨ws.drop (fk ws ws.length),(List.take_append_drop _ _).symm⟩
 rw[eq1] at ht1
 rw[vws] at ht2
 have lq:(aq (X/Y)).length≤m:=by rw[←eq1,←lQ];exact nU wQ
 have lr:(aq (X%Y)).length≤N+1:=by rw[←vws];have:=nU ww;omega
 have nw:¬AV.within h.nx 20 (.tuple [.slice Fo.nx 0 (aq (X/Y)).length m false,.slice ki.nx 0 (aq (X%Y)).length (N+1) false])=true:=by
  simp [AV.within];omega
 refine ⟨_,_,_,fa rfl (az Tryz.func85 BW k! (.inr rfl) ev k!) (fun c=>nw c.2),⟨O2,O3,by omega⟩,.inr ⟨Fo.nx,m,false,_,rfl,by omega,(O1.2.2 _ _ o! gq_),by rw[ht1];exact Holds.pre _ _ _,lq,by rw[aM];omega,by omega⟩,.inr ⟨ki.nx,N+1,false,_,rfl,by omega,Sf,by rw[ht2,List.append_assoc];exact Holds.pre _ _ _,lr,by rw[aM,List.length_append,List.length_drop];omega,by omega⟩⟩
theorem xb {d:Nat} {h:ah} {x y:AV} {X Y:Nat} (nx:ao env h .u64 54 x (aq X)) (ny:ao env h .u64 54 y (aq Y)) (hY:Y≠0) (gD:(aq X).length<268435456) (aw:Tidy h):
 ∃q r hk,aQ (d+7) (.fn 85) [x,y] h= .ret (.tuple [q,r]) hk∧Grow h hk∧rM h hk q (aq (X/Y))∧rM h hk r (aq (X%Y)):=by
 by_cases q:X<Y
 · exact Lf nx ny q gD aw
 · by_cases q2:Y<18446744073709551616
   · exact Sd nx ny o! o! q2 gD aw
   · exact Se nx ny o! o! gD aw
theorem Ug {P Q U T A B a b S xl yl R2:Nat} (hx:xl<S) (hy:yl<S) (h1:P*A=Q*B+a) (h2:T*B=U*A+b) (hR:P*(A*S+xl)=Q*(B*S+yl)+R2) (hU:U≤b) (hQ:Q+T≤a - b) (h0:1≤a - b):
 ∃R3,T*(B*S+yl)=U*(A*S+xl)+R3∧R3<R2:=by
 have e1:P*A*S=Q*B*S+a*S:=by rw[h1,Nat.add_mul]
 have e2:T*B*S=U*A*S+b*S:=by rw[h2,Nat.add_mul]
 have m1:U*xl≤b*S:=Nat.mul_le_mul hU (Nat.le_of_lt hx)
 have m2:(Q+T)*yl≤(a - b)*yl:=Nat.mul_le_mul_right _ hQ
 have m3:(a - b)*yl<(a - b)*S:=Nat.mul_lt_mul_of_pos_left hy h0
 have m4:(a - b)*S+b*S=a*S:=by rw[←Nat.add_mul];congr 1;omega
 rw[Nat.mul_add,Nat.mul_add,←Nat.mul_assoc,←Nat.mul_assoc] at hR
 rw[Nat.add_mul] at m2
 refine ⟨b*S+T*yl - U*xl,?_,?_⟩
 · rw[Nat.mul_add,Nat.mul_add,←Nat.mul_assoc,←Nat.mul_assoc]
   omega
 · omega
theorem Uh {P Q U T A B a b:Nat} (hb:0<b) (h1:P*A=Q*B+a) (h2:T*B=U*A+b):(P+a/b*U)*A=(Q+a/b*T)*B+a%b:=by
 have hq:=Nat.div_add_mod a b
 have e:a/b*(T*B)=a/b*(U*A)+a/b*b:=by rw[h2,Nat.mul_add]
 rw[Nat.add_mul,Nat.add_mul,Nat.mul_assoc,Nat.mul_assoc,Nat.mul_comm b] at *
 generalize a/b*(T*B)=Z1 at *
 generalize a/b*(U*A)=Z2 at *
 generalize a/b*b=Z3 at *
 omega
theorem Dr {Q T a b A:Nat} (h:T*a+Q*b=A):(Q+a/b*T)*b+T*(a%b)=A:=by
 have hq:=Nat.div_add_mod a b
 have e:T*a=T*(b*(a/b))+T*(a%b):=by rw[←Nat.mul_add,hq]
 have e2:a/b*T*b=T*(b*(a/b)):=by rw[Nat.mul_comm (a/b) T,Nat.mul_assoc,Nat.mul_comm b]
 rw[Nat.add_mul,e2]
 omega
theorem ZL {P Q U T q:Nat} (h:P*T=Q*U+1):T*(P+q*U)=U*(Q+q*T)+1:=by
 have e:T*(q*U)=U*(q*T):=by rw[Nat.mul_left_comm,Nat.mul_comm T U,Nat.mul_left_comm U]
 rw[Nat.mul_add,Nat.mul_add,e,Nat.mul_comm T P,Nat.mul_comm U Q,h]
 omega
theorem Ui {P Q U T x y R2 R3:Nat} (hd:P*T=Q*U+1) (h2:P*x=Q*y+R2) (h3:T*y=U*x+R3):x=T*R2+Q*R3∧y=U*R2+P*R3:=by
 have a1:T*(P*x)=T*(Q*y)+T*R2:=by rw[h2,Nat.mul_add]
 have a2:Q*(T*y)=Q*(U*x)+Q*R3:=by rw[h3,Nat.mul_add]
 have a3:U*(P*x)=U*(Q*y)+U*R2:=by rw[h2,Nat.mul_add]
 have a4:P*(T*y)=P*(U*x)+P*R3:=by rw[h3,Nat.mul_add]
 have b1:T*(P*x)=Q*(U*x)+x:=by rw[←Nat.mul_assoc,Nat.mul_comm T P,hd,Nat.add_mul,Nat.one_mul,Nat.mul_assoc]
 have b2:P*(T*y)=Q*(U*y)+y:=by rw[←Nat.mul_assoc,hd,Nat.add_mul,Nat.one_mul,Nat.mul_assoc]
 have c1:T*(Q*y)=Q*(T*y):=Nat.mul_left_comm _ _ _
 have c2:U*(P*x)=P*(U*x):=Nat.mul_left_comm _ _ _
 have c3:U*(Q*y)=Q*(U*y):=Nat.mul_left_comm _ _ _
 constructor<;>omega
structure AM (f:Bool) (x y A B a b oP kG gJ fG thX thY R2:Nat):Prop where
 rA:bif f then gJ*A=fG*B+a∧thY*B=thX*A+b else fG*B=gJ*A+a∧thX*A=thY*B+b
 rX:bif f then gJ*x=fG*y+R2 else fG*y=gJ*x+R2
 dA:thY*a+fG*b=A
 dB:thX*a+gJ*b=B
 dt:bif f then gJ*thY=fG*thX+1 else fG*thX=gJ*thY+1
 i1:thX≤thY
 i2:gJ+thX≤fG+thY
 ba:b≤a
 ty:1≤thY
 p:(fG=0∧gJ=1∧thX=0∧thY=1)∨R2≤y
 o:kG=0∨∃R1,(bif f then kG*y=oP*x+R1 else oP*x=kG*y+R1)∧R2<R1∧R1≤y∧x=fG*R1+kG*R2∧y=gJ*R1+oP*R2
theorem AM.step {f:Bool} {x y A B a b oP kG gJ fG thX thY R2 S xl yl:Nat} (t:AM f x y A B a b oP kG gJ fG thX thY R2) (ex:x=A*S+xl) (ey:y=B*S+yl) (hx:xl<S) (hy:yl<S) (c1:thY≤b) (c2:fG+thY≤a - b):
 ∃R3,AM (!f) x y A B b (a%b) gJ fG thX thY (gJ+a/b*thX) (fG+a/b*thY) R3:=by
 obtain ⟨rA,rX,dA,dB,dt,i1,i2,ba,ty,p,o⟩:=t
 have hb:0<b:=by omega
 have hq:1≤a/b:=(Nat.le_div_iff_mul_le hb).2 o!
 have hm:=Nat.mod_lt a hb
 have j1:gJ+a/b*thX≤fG+a/b*thY:=by
  obtain ⟨q,Ii⟩:∃q,a/b=q+1:=⟨a/b - 1,by omega⟩
  have:=Nat.mul_le_mul_left q i1
  rw[Ii,Nat.succ_mul,Nat.succ_mul]
  omega
 have j3:1≤fG+a/b*thY:=by
  have:1*1≤a/b*thY:=Nat.mul_le_mul hq ty
  omega
 cases f with
 | true=>
  obtain ⟨r1,r2⟩:=rA
  have rX:gJ*x=fG*y+R2:=rX
  have dt:gJ*thY=fG*thX+1:=dt
  obtain ⟨R3,e3,l3⟩:=Ug (P:=gJ) (Q:=fG) (U:=thX) (T:=thY) hx hy r1 r2 (by rw[←ex,←ey];exact rX) o! c2 o!
  rw[←ex,←ey] at e3
  obtain ⟨b1,b2⟩:=Ui dt rX e3
  refine ⟨R3,⟨⟨r2,Uh hb r1 r2⟩,e3,Dr dA,Dr dB,ZL dt,j1,by omega,by omega,j3,?_,?_⟩⟩
  · rcases p with ⟨_,_,p3,p4⟩ | p
    · subst p3 p4;exact .inr o!
    · exact .inr o!
  · by_cases h0:fG=0
    · exact .inl h0
    · rcases p with ⟨p1,_⟩ | p
      · exact absurd p1 h0
      · exact .inr ⟨R2,rX,l3,p,b1,b2⟩
 | false=>
  obtain ⟨r1,r2⟩:=rA
  have rX:fG*y=gJ*x+R2:=rX
  have dt:fG*thX=gJ*thY+1:=dt
  obtain ⟨R3,e3,l3⟩:=Ug (P:=fG) (Q:=gJ) (U:=thY) (T:=thX) hy hx r1 r2 (by rw[←ex,←ey];exact rX) c1 o! o!
  rw[←ex,←ey] at e3
  obtain ⟨b1,b2⟩:=Ui dt rX e3
  refine ⟨R3,⟨⟨r2,Uh hb r1 r2⟩,e3,Dr dA,Dr dB,ZL dt,j1,by omega,by omega,j3,?_,?_⟩⟩
  · rcases p with ⟨p1,p2,_,_⟩ | p
    · subst p1 p2;rw[Nat.zero_mul] at rX;omega
    · exact .inr o!
  · by_cases h0:fG=0
    · exact .inl h0
    · rcases p with ⟨p1,_⟩ | p
      · exact absurd p1 h0
      · exact .inr ⟨R2,rX,l3,p,b2,b1⟩
theorem AM.begin {x y A B:Nat} (h:B≤A):AM true x y A B A B 0 0 1 0 0 1 x:=
 ⟨⟨by omega,by omega⟩,show 1*x=0*y+x by omega,by omega,by omega,show 1*1=0*0+1 by decide,by omega,by omega,h,by omega,.inl ⟨rfl,rfl,rfl,rfl⟩,.inl rfl⟩
theorem AM.small {f:Bool} {x y A B a b oP kG gJ fG thX thY R2:Nat} (t:AM f x y A B a b oP kG gJ fG thX thY R2) (c1:thY≤b):thY+fG≤A∧fG+a/b*thY≤A∧gJ+a/b*thX≤B:=by
 obtain ⟨rA,rX,dA,dB,dt,i1,i2,ba,ty,p,o⟩:=t
 have hb:0<b:=by omega
 have m1:thY*1≤thY*a:=Nat.mul_le_mul_left _ o!
 have m2:fG*1≤fG*b:=Nat.mul_le_mul_left _ o!
 have m3:=Dr dA
 have m4:=Dr dB
 have m5:(fG+a/b*thY)*1≤(fG+a/b*thY)*b:=Nat.mul_le_mul_left _ o!
 have m6:(gJ+a/b*thX)*1≤(gJ+a/b*thX)*b:=Nat.mul_le_mul_left _ o!
 refine ⟨by omega,by omega,by omega⟩
theorem AM.gcd {f:Bool} {x y A B a b oP kG gJ fG thX thY R2:Nat} (t:AM f x y A B a b oP kG gJ fG thX thY R2) (h:kG≠0):
 ∃R1,(bif f then kG*y=oP*x+R1∧gJ*x=fG*y+R2 else oP*x=kG*y+R1∧fG*y=gJ*x+R2)∧R2<R1∧R1≤y∧Nat.gcd R1 R2=Nat.gcd x y:=by
 obtain ⟨rA,rX,dA,dB,dt,i1,i2,ba,ty,p,o⟩:=t
 rcases o with o | ⟨R1,o1,o2,o3,o4,o5⟩
 · exact absurd o h
 refine ⟨R1,?_,o2,o3,?_⟩
 · cases f with
   | true=>exact ⟨o1,rX⟩
   | false=>exact ⟨o1,rX⟩
 · apply Nat.dvd_antisymm
   · have g1:=Nat.gcd_dvd_left R1 R2
     have g2:=Nat.gcd_dvd_right R1 R2
     apply Nat.dvd_gcd
     · rw[o4];exact Nat.dvd_add (Nat.dvd_mul_left_of_dvd g1 _) (Nat.dvd_mul_left_of_dvd g2 _)
     · rw[o5];exact Nat.dvd_add (Nat.dvd_mul_left_of_dvd g1 _) (Nat.dvd_mul_left_of_dvd g2 _)
   · have g1:=Nat.gcd_dvd_left x y
     have g2:=Nat.gcd_dvd_right x y
     have key:∀{p q u v r:Nat},Nat.gcd x y ∣ u→Nat.gcd x y ∣ v→p*u=q*v+r→Nat.gcd x y ∣ r:=fun hu hv e=>by
      have h1:=Nat.dvd_mul_left_of_dvd hu
      have h2:=Nat.dvd_mul_left_of_dvd hv
      exact (Nat.dvd_add_right (h2 _)).1 (e▸h1 _)
     apply Nat.dvd_gcd
     · cases f with
       | true=>exact key g2 g1 o1
       | false=>exact key g1 g2 o1
     · cases f with
       | true=>exact key g1 g2 rX
       | false=>exact key g2 g1 rX
end Go.Proofs.aF
