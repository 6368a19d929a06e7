import Derived.Test.YtogcojohajankaaGreatW0
namespace Go.Proofs.aJ
open Go.Proofs Ab
set_option maxRecDepth 100000
set_option maxHeartbeats 4000000
set_option linter.unusedVariables false
set_option linter.unusedSimpArgs false
section
variable {h:aw} {b:Nat} {pre post:List AV} {L:List Int} {e:TypeId} {ro:Bool} {o t j x:Nat}
theorem KG (L:List Int) (pre post:List AV) {j:Nat} (hj:j<L.length):(pre++zs .i64 L++post)[pre.length+j]? =some (.int .i64 (L.g j)):=by
 rw[List.getElem?_append_left (by rw[List.length_append,fZ];omega),List.getElem?_append_right o!,show pre.length+j - pre.length=j by omega]
 exact KB .i64 L hj
theorem gQ (ht:fY env t=some false) (hg:h.get b=some (.cells (pre++zs .i64 L++post) e ro)) (ho:pre.length=o) (hj:j<L.length) (hx:x=o+j):aY env h t (.ptr b x)=some (.int .i64 (L.g j)):=by
 subst hx;subst ho
 simp only[aY,hg,jq,ht]
 exact KG L pre post hj
theorem aez {cs:List AV} {k:Nat} {a c:AV} (h1:cs[k]? =some a) (h2:cs[k+1]? =some c):(cs.drop k).take 2=[a,c]:=by
 have l2:=(List.getElem?_eq_some_iff.1 h2).1
 apply List.ext_getElem?
 intro i
 match i with
 | 0=>rw[List.getElem?_take_of_lt o!,List.getElem?_drop];exact h1
 | 1=>rw[List.getElem?_take_of_lt o!,List.getElem?_drop];exact h2
 | i+2=>rw[List.getElem?_eq_none (by rw[List.length_take];omega),List.getElem?_eq_none (by simp)]
theorem TZ (ht:fY env t=some true) (hs:b7 env t=some 2) (hg:h.get b=some (.cells (pre++zs .i64 L++post) e ro)) (ho:pre.length=o) (hj:j+1<L.length) (hx:x=o+j):aY env h t (.ptr b x)=some (.agg [.int .i64 (L.g j),.int .i64 (L.g (j+1))]):=by
 subst hx;subst ho
 have h1:=KG L pre post (j:=j) o!
 have h2:=KG L pre post (j:=j+1) hj
 have l2:=(List.getElem?_eq_some_iff.1 h2).1
 simp only[aY,hg,jq,ht,hs]
 rw[if_pos o!,aez h1 h2]
theorem m7 {n el z:Nat} {i:Int} {k:Nat} (hs:b7 env el=some z) (hi:k<n) (hk:i=(k:Int)):bR env (some (.array n el)) (some (.ptr b o)) (some (.int .i64 i))=some (.ptr b (o+k*z)):=by
 subst hk
 simp only[bR,hs]
 rw[if_pos ⟨by omega,by omega⟩,Int.toNat_natCast]
theorem Ea (L:List Int) (pre post:List AV) {j:Nat} (hj:j<L.length) (v:Int):setFrom (pre++zs .i64 L++post) (pre.length+j) [.int .i64 v]=pre++zs .i64 (L.set j v)++post:=by
 show (pre++zs .i64 L++post).set (pre.length+j) (.int .i64 v)=_
 rw[List.set_append_left _ _ (by rw[List.length_append,fZ];omega),List.set_append_right _ _ o!,show pre.length+j - pre.length=j by omega,W_]
theorem yQ {v:Int} (y:Tidy h) (hs:b7 env t=some 1) (hg:h.get b=some (.cells (pre++zs .i64 L++post) e false)) (ho:pre.length=o) (hj:j<L.length) (hx:x=o+j):∃h',dW env h t (.ptr b x) (.int .i64 v)=some h'∧KA h h' b (.cells (pre++zs .i64 (L.set j v)++post) e false)∧h'.nx=h.nx:=by
 subst hx;subst ho
 obtain ⟨h',s⟩:=r5 (E:=env) (t:=t) (o:=pre.length+j) (n:=1) (v:= .int .i64 v) hg hs rfl (by rw[List.length_append,List.length_append,fZ];omega) rfl
 have q:=oE s hg
 have c:=kE (o:= .cells (pre++zs .i64 (L.set j v)++post) e false) y hg
 rw[show (AV.int IntKind.i64 v).cells=[.int .i64 v] from rfl,Ea L pre post hj] at q
 subst q
 exact ⟨_,s,c,rfl⟩
theorem KH {n c el z:Nat} {op:Bool} {i:Int} {k:Nat} (hs:b7 env el=some z) (hi:k<n) (hk:i=(k:Int)):bR env (some (.slice el)) (some (.slice b o n c op)) (some (.int .i64 i))=some (.ptr b (o+k*z)):=by
 subst hk;exact nP hs hi
theorem Np {e N hi:Nat} {hh:Int} {size:Nat} (ht:env.P.underlying t=some (.array N e)) (hs:b7 env e=some size) (h1:hh=(hi:Nat)) (h2:hi≤N):dV env t (.ptr b o) none (some (.int .i64 hh)) none=some (.slice b o hi N false):=by
 subst h1
 simp only[dV,ht,hs,mE (len:=N) (cap:=N) (lo:=0) none (some (.int .i64 (hi:Nat))) (.inr ⟨rfl,rfl⟩) (.inl rfl) (Nat.zero_le _) h2]
 simp
theorem yR {e N lo hi z:Nat} {ll hh:Int} (ht:env.P.underlying t=some (.array N e)) (hs:b7 env e=some z) (h0:ll=(lo:Nat)) (h1:hh=(hi:Nat)) (h2:lo≤hi∧hi≤N) (h3:lo<N):dV env t (.ptr b o) (some (.int .i64 ll)) (some (.int .i64 hh)) none=some (.slice b (o+lo*z) (hi - lo) (N - lo) false):=by
 subst h0;subst h1
 simp only[dV,ht,hs,mE (len:=N) (cap:=N) (some (.int .i64 (lo:Nat))) (some (.int .i64 (hi:Nat))) (.inl rfl) (.inl rfl) h2.1 h2.2]
 rw[if_neg o!]
theorem Nq {e N z:Nat} {ll hh:Int} (ht:env.P.underlying t=some (.array N e)) (hs:b7 env e=some z) (h0:ll=(N:Nat)) (h1:hh=(N:Nat)):dV env t (.ptr b o) (some (.int .i64 ll)) (some (.int .i64 hh)) none=some (.slice b o 0 0 false):=by
 subst h0;subst h1
 simp only[dV,ht,hs,mE (len:=N) (cap:=N) (some (.int .i64 (N:Nat))) (some (.int .i64 (N:Nat))) (.inl rfl) (.inl rfl) (Nat.le_refl _) (Nat.le_refl _)]
 simp only[if_true,Nat.sub_self]
theorem FG {v w:Int} (y:Tidy h) (hs:b7 env t=some 2) (hg:h.get b=some (.cells (pre++zs .i64 L++post) e false)) (ho:pre.length=o) (hj:j+1<L.length) (hx:x=o+j):∃h',dW env h t (.ptr b x) (.agg [.int .i64 v,.int .i64 w])=some h'∧KA h h' b (.cells (pre++zs .i64 ((L.set j v).set (j+1) w)++post) e false)∧h'.nx=h.nx:=by
 subst hx;subst ho
 obtain ⟨h',s⟩:=r5 (E:=env) (t:=t) (o:=pre.length+j) (n:=2) (v:= .agg [.int .i64 v,.int .i64 w]) hg hs rfl (by rw[List.length_append,List.length_append,fZ];omega) rfl
 have q:=oE s hg
 have c:=kE (o:= .cells (pre++zs .i64 ((L.set j v).set (j+1) w)++post) e false) y hg
 have e2:setFrom (pre++zs .i64 L++post) (pre.length+j) (AV.agg [.int .i64 v,.int .i64 w]).cells=pre++zs .i64 ((L.set j v).set (j+1) w)++post:=by
  show setFrom ((pre++zs .i64 L++post).set (pre.length+j) (.int .i64 v)) (pre.length+j+1) [.int .i64 w]=_
  have h1:=Ea L pre post (j:=j) o! v
  rw[show setFrom (pre++zs .i64 L++post) (pre.length+j) [.int .i64 v]=(pre++zs .i64 L++post).set (pre.length+j) (.int .i64 v) from rfl] at h1
  rw[h1,Nat.add_assoc,Ea (L.set j v) pre post (j:=j+1) (by rw[List.length_set];exact hj) w]
 rw[e2] at q
 subst q
 exact ⟨_,s,c,rfl⟩
def br (L:List Int) (d s n:Nat):List Int:=if d+n≤L.length∧s+n≤L.length then L.take d++(L.drop s).take n++L.drop (d+n) else L
theorem xj (L:List Int) (d s n:Nat):(br L d s n).length=L.length:=by
 unfold br
 split
 · simp only[List.length_append,List.length_take,List.length_drop];omega
 · rfl
theorem abm {L:List Int} {j:Nat} (hj:j<L.length) (v:Int):(L.set j v).take (j+1)=L.take j++[v]∧∀k,j<k→(L.set j v).drop k=L.drop k:=by
 constructor
 · apply List.ext_getElem?
   intro i
   by_cases h1:i<j
   · rw[List.getElem?_take_of_lt o!,List.getElem?_set_ne o!,List.getElem?_append_left (by rw[List.length_take];omega),List.getElem?_take_of_lt h1]
   · by_cases h2:i=j
     · subst h2
       rw[List.getElem?_take_of_lt o!,List.getElem?_set_self hj,List.getElem?_append_right (by rw[List.length_take];omega)]
       rw[List.length_take,show i - min i L.length=0 by omega];rfl
     · rw[List.getElem?_eq_none (by rw[List.length_take];omega),List.getElem?_eq_none (by simp;omega)]
 · intro k hk
   apply List.ext_getElem?
   intro i
   rw[List.getElem?_drop,List.getElem?_drop,List.getElem?_set_ne o!]
theorem qR (pre post:List AV):∀(M L:List Int) (j:Nat),j+M.length≤L.length→setFrom (pre++zs .i64 L++post) (pre.length+j) (zs .i64 M)=pre++zs .i64 (L.take j++M++L.drop (j+M.length))++post
 | [],L,j,h=>by
   rw[List.append_nil,List.length_nil,Nat.add_zero,List.take_append_drop];rfl
 | v::M,L,j,h=>by
   rw[List.length_cons] at h
   have h1:=Ea L pre post (j:=j) o! v
   show setFrom ((pre++zs .i64 L++post).set (pre.length+j) (.int .i64 v)) (pre.length+j+1) (zs .i64 M)=_
   rw[show (pre++zs .i64 L++post).set (pre.length+j) (.int .i64 v)=pre++zs .i64 (L.set j v)++post from h1,Nat.add_assoc,qR pre post M (L.set j v) (j+1) (by rw[List.length_set];omega)]
   obtain ⟨c1,c2⟩:=abm (show j<L.length by omega) v
   rw[c1,c2 _ o!,List.length_cons,show j+1+M.length=j+(M.length+1) by omega]
   have:L.take j++[v]++M++L.drop (j+(M.length+1))=L.take j++v::M++L.drop (j+(M.length+1)):=by simp
   rw[this]
theorem Xe (L:List Int) (pre post:List AV) {j n:Nat} (h:j+n≤L.length):((pre++zs .i64 L++post).drop (pre.length+j)).take n=zs .i64 ((L.drop j).take n):=by
 rw[List.append_assoc,List.drop_append,show pre.length+j - pre.length=j by omega,List.drop_of_length_le (show pre.length≤pre.length+j by omega),List.nil_append,List.drop_append,List.take_append]
 rw[show n -((zs .i64 L).drop j).length=0 by rw[List.length_drop,fZ];omega,List.take_zero,List.append_nil]
 rw[zs,zs,←List.map_drop,←List.map_take]
theorem iL {l:List Int} {i:Nat} {x:Int} (h:i<l.length):(l.set i x).g i=x:=by
 rw[List.g,List.getD_eq_getElem?_getD,List.getElem?_set_self h];rfl
theorem bj {l:List Int} {i j:Nat} (h:i≠j) (x:Int):(l.set i x).g j=l.g j:=by
 rw[List.g,List.g,List.getD_eq_getElem?_getD,List.getD_eq_getElem?_getD,List.getElem?_set_ne h]
theorem gD {L:List Int} {d s n k:Nat} (h:k<d∨d+n≤k):(br L d s n).g k=L.g k:=by
 unfold br
 split
 · rename_i q
   rw[List.g,List.g,List.getD_eq_getElem?_getD,List.getD_eq_getElem?_getD]
   rcases h with h | h
   · rw[List.append_assoc,List.getElem?_append_left (by rw[List.length_take];omega),List.getElem?_take_of_lt h]
   · have e:(L.take d++(L.drop s).take n).length=d+n:=by rw[List.length_append,List.length_take,List.length_take,List.length_drop];omega
     rw[List.getElem?_append_right o!,e,List.getElem?_drop,show d+n+(k -(d+n))=k by omega]
 · rfl
theorem vN {t:List Int} {v minute c:Int} (hv:0<v) (i1:v≤c) (hm:minute≤t.g ((Int.toNat (v - 1))*2)):0≤v - 1∧v - 1≤c∧(v - 1=0→minute≤t.g 0):=
 ⟨by omega,by omega,fun h=>by rw[h] at hm;exact hm⟩
theorem xm (l:List Int):(zs .i64 l).all AV.scalar=true:=List.all_eq_true.2 fun x hx=>by
 obtain ⟨y,_,rfl⟩:=List.mem_map.1 hx
 rfl
theorem Nr {et z nd ns cd cq xd xs jd js:Nat} {op oq:Bool} {dT:TypeId} {tys:Array TypeId} (y:Tidy h) (t0:tys[0]? =some dT) (ht:env.P.underlying dT=some (.slice et)) (hz:b7 env et=some z) (hg:h.get b=some (.cells (pre++zs .i64 L++post) e false)) (ho:pre.length=o)
 (hd:jd+min ns nd*z≤L.length) (hs:js+min ns nd*z≤L.length) (ex:xd=o+jd) (ey:xs=o+js):∃h',uv env h tys (.slice b xd nd cd op) (.slice b xs ns cq oq)=some (.int .i64 ((min ns nd:Nat):Int),h')∧KA h h' b (.cells (pre++zs .i64 (br L jd js (min ns nd*z))++post) e false)∧h'.nx=h.nx:=by
 subst ex;subst ey;subst ho
 have hl:(pre++zs .i64 L++post).length=pre.length+L.length+post.length:=by rw[List.length_append,List.length_append,fZ]
 have new:=Xe L pre post hs
 have lz:(zs .i64 ((L.drop js).take (min ns nd*z))).length=min ns nd*z:=by rw[fZ,List.length_take,List.length_drop];omega
 have sf:=qR pre post ((L.drop js).take (min ns nd*z)) L jd (by rw[List.length_take,List.length_drop];omega)
 have hc:br L jd js (min ns nd*z)=L.take jd++(L.drop js).take (min ns nd*z)++L.drop (jd+((L.drop js).take (min ns nd*z)).length):=by
  rw[br,if_pos ⟨hd,hs⟩]
  congr 2
  rw[List.length_take,List.length_drop];omega
 have c:=kE (o:= .cells (pre++zs .i64 (br L jd js (min ns nd*z))++post) e false) y hg
 refine ⟨_,?_,c,rfl⟩
 have hf:fF h z (min ns nd) (.slice b (pre.length+js) ns cq oq)=some (zs .i64 ((L.drop js).take (min ns nd*z))):=by
  simp only[fF,hg]
  rw[new,if_pos (Nat.min_le_left _ _)]
  split
  · rename_i h0;rw[h0,Nat.zero_mul];rfl
  · rw[if_pos o!]
 simp only[uv,t0,ht,qF,hz,hf,hg]
 rw[if_pos ⟨by rw[lz,hl];omega,xm _⟩,sf,hc]
theorem hG {h:aw} {b:Nat} (y:Tidy h) (n:h.nx≤b):h.get b=none:=by
 cases e:h.get b with
 | none=>rfl
 | some o=>have:=y _ _ e;omega
theorem jz {h0 h h':aw} {b:Nat} {o:aH} (c:KA h h' b o) (a:Has h0 h) (n:h0.get b=none):Has h0 h':=fun i x g=>c.2.2 i x (fun e=>by subst e;rw[n] at g;cases g) (a i x g)
theorem dO {h:aw} {b:Nat} {o:aH} (y:Tidy h) (g:h.get b=some o):∃hw,Tidy hw∧hw.nx=h.nx∧hw.get b=none∧Has hw h∧∀i,i≠b→hw.get i=h.get i:=
 ⟨h.put b none,fun i x q=>by
  by_cases e:i=b
  · subst e;rw[aw.dG] at q;cases q
  · rw[aw.cj (Ne.symm e)] at q;exact y i x q,rfl,aw.dG _,fun i x q=>by
  by_cases e:i=b
  · subst e;rw[aw.dG] at q;cases q
  · rw[aw.cj (Ne.symm e)] at q;exact q,fun i e=>aw.cj (Ne.symm e) _⟩
theorem bM {h0 h hw:aw} {b:Nat} (a:Has h0 h) (n:h0.get b=none) (k:∀i,i≠b→hw.get i=h.get i):Has h0 hw:=fun i x g=>(k i (fun e=>by subst e;rw[n] at g;cases g)).trans (a i x g)
end
theorem l! {p:Prop} (h:p:=by first | omega | (simp only[List.length_set,List.length_replicate,xj]<;>omega)):p:=h
noncomputable def DI:Code:=(Tryz.f49.body).getD .skip
theorem KI:Tryz.f49.body=some DI:=by kernel_rfl
def cH (aB:Int):List Int:=(List.replicate 322 0++[1,aB])
theorem KJ {d:Nat} {h:aw} (aB:Int) (ct:Tidy h):cU (d+1) (.fn 49) [(Zi aB)] h= .ret (AV.agg (zs .i64 (cH aB))) h:=by
 obtain ⟨h1,dH,cP,kr,bk,bW⟩:=kh ct (aH.cells (List.replicate 323 (Zi 0)++[(Zi 0)]) 127 false)
 have bB:Has h h1:=bW
 obtain ⟨h2,akg,vO,abn,pE,ahE⟩:=qi (t:=127) (n:=324) (i:=h.nx) (L:=(List.replicate 322 (Zi 0)++[(Zi 1),(Zi aB)])) cP bk k! rfl rfl k!
 have kJ:Has h h2:=Has.ei bB ahE ct o!
 have e:cH aB=(List.replicate 322 0++[1,aB]):=by simp only[cH,cond_true,cond_false]
 rw[e]
 exact aE rfl (Dd (a:=2) (t:=127) (i:=h.nx) Tryz.func49 KI rfl (.inr rfl) (pk (d) _ _ h _ h2 (NN dH (fun i=>(Pt i))<|CN 2<|SS akg<|ZZ) k!) k! (Fy pE k!)) kJ rfl
theorem aeA {t:List Int} {q minute:Int} (f:(bif decide (q<t.g 322) then decide (t.g (Int.toNat q*2)=minute) else false)=false) (hz:q=0) (hm:minute≤t.g 0) (h0:t.g 0=0) (h1:0≤minute) (h2:1≤t.g 322):False:=by
 rw[hz,decide_eq_true (by omega:(0:Int)<t.g 322),cond_true] at f
 exact of_decide_eq_false f (show t.g 0=minute by omega)
theorem sa {p:Prop} (h:p:=by first | assumption | exact hG ct o!):p:=h
noncomputable def nR:Code:=(Tryz.f108.body).getD .skip
theorem KL:Tryz.f108.body=some nR:=by kernel_rfl
noncomputable def T0:Code:=(bw nR).getD 0 .skip
noncomputable def Ca:Code:=(kT nR).getD 4 .skip
def aQ (minute:Int) (t:List Int):Nat→Int→Int
 | 0,fK=>fK
 | cS+1,fK=>(bif (decide (0<fK)) then (bif (decide (minute≤(t.g ((fK - 1).toNat*2)))) then aQ minute t cS (fK - 1) else fK) else fK)
theorem FH {d:Nat} {h:aw} (tO:Nat) (minute:Int) (tP:List AV) (t:List Int) (tQ:List AV) (tE:TypeId) (a_:Nat) (fq:1≤t.g 322) (hH:t.g 322≤160) (ly:t.g 0=0) (mw:0≤minute) (l8:tP.length=tO) (mO:t.length=324):∀(k_:Nat) (fK:Int) (_:(fK≤(k_:Int))) (_:(0≤fK∧fK≤t.g 322∧(fK=0→minute≤t.g 0))) (x:Nat→AV) (hh:aw) (aA:Tidy hh) (ay:Has h hh) (bh:hh.get a_=some (aH.cells (tP++zs .i64 t++tQ) tE false)),bt (cU (d)) T0 ⟨((AV.ptr a_ tO)::(Zi minute)::rx x 2 3 ((Zi fK)::rx x 6 82 [])),hh,[],.no⟩ (.exit 0) hh (fun r y=>((AV.ptr a_ tO)::(Zi minute)::rx y 2 3 ((Zi r)::rx y 6 82 []))) (fun r=>(0≤r∧r≤t.g 322∧(r=0→minute≤t.g 0))) (aQ minute t k_ fK)
 | 0,fK,gq,fV,x,hh,aA,ay,bh=>by
   have ji:=aA _ _ bh
   have q1:(decide (0<fK))=false:=d!
   exact bt.out fK rfl (pk (d) _ _ hh _ hh (CC<|VV (dw 3 false true .i64 fK 0)<|CC<|BB q1<|BB q1<|BB q1<|BB q1<|BB q1<|BB q1<|BB q1<|BB q1<|BB q1<|BV q1 (sS false q1)<|FF<|ZZ) k!) (bp.refl aA) (show (0≤fK∧fK≤t.g 322∧(fK=0→minute≤t.g 0)) from by first | exact fV | exact vN dx fV.2.1 dQ | omega) k!
 | cS+1,fK,gq,fV,x,hh,aA,ay,bh=>by
   have ji:=aA _ _ bh
   have dR:=fun {al ps} (k:Pk al _ ps)=>(CC<|VV (dw 3 false true .i64 fK 0)<|CC<|k:Pk _ [] ps)
   rcases Bool.eq_false_or_eq_true (decide (0<fK)) with f0 | f0
   · have dx:=of_decide_eq_true f0
     have w2:IntKind.i64.wrap (fK - 1)=fK - 1:=wrap_i64 o! o!
     have vP:bR env (some (.array 161 124)) (some (AV.ptr a_ (tO+0))) (some (Zi (fK - 1)))=some (AV.ptr a_ ((tO+0)+(fK - 1).toNat*2)):=m7 (z:=2) (k:=(fK - 1).toNat) k! o! o!
     have ZW:aY env hh 3 (AV.ptr a_ (((tO+0)+(fK - 1).toNat*2)+0))=some (Zi (t.g ((fK - 1).toNat*2))):=(gQ (j:=(fK - 1).toNat*2) (o:=tO) k! bh o! l! o!)
     have hI:=fun {al ps} (k:Pk al _ ps)=>(dR<|BC f0<|BC f0<|BV f0 (vz 3 false true w2)<|BC f0<|BC f0<|BV f0 vP<|BC f0<|BM f0 ZW<|BC f0<|BV f0 (pc 3 false false .i64 (t.g ((fK - 1).toNat*2)) minute)<|VV (pe (decide (minute≤(t.g ((fK - 1).toNat*2)))) false f0)<|k:Pk _ [] ps)
     rcases Bool.eq_false_or_eq_true (decide (minute≤(t.g ((fK - 1).toNat*2)))) with f1 | f1
     · have dQ:=of_decide_eq_true f1
       have w6:IntKind.i64.wrap (fK - 1)=fK - 1:=wrap_i64 o! o!
       exact bt.round (by simp only[aQ,f0,f1,cond_true,cond_false]) (pk (d) _ _ hh _ hh (hI<|BC f1<|VV (vz 3 false true w6)<|CC<|ZZ) k!) (bp.refl aA) _ k! (fun x=>FH tO minute tP t tQ tE a_ fq hH ly mw l8 mO cS (fK - 1) o! (show (0≤(fK - 1)∧(fK - 1)≤t.g 322∧((fK - 1)=0→minute≤t.g 0)) from by first | exact fV | exact vN dx fV.2.1 dQ | omega) x hh aA ay bh)
     · have dQ:=of_decide_eq_false f1
       exact bt.out fK (by simp only[aQ,f0,f1,cond_true,cond_false]) (pk (d) _ _ hh _ hh (hI<|BB f1<|ZZ) k!) (bp.refl aA) (show (0≤fK∧fK≤t.g 322∧(fK=0→minute≤t.g 0)) from by first | exact fV | exact vN dx fV.2.1 dQ | omega) k!
   · have dx:=of_decide_eq_false f0
     exact bt.out fK (by simp only[aQ,f0,cond_true,cond_false]) (pk (d) _ _ hh _ hh (dR<|BB f0<|BB f0<|BB f0<|BB f0<|BB f0<|BB f0<|BB f0<|BB f0<|BB f0<|BV f0 (sS false f0)<|FF<|ZZ) k!) (bp.refl aA) (show (0≤fK∧fK≤t.g 322∧(fK=0→minute≤t.g 0)) from by first | exact fV | exact vN dx fV.2.1 dQ | omega) k!
def bz (t:List Int) (minute:Int):Int×List Int:=(bif (bif (decide ((aQ minute t ((t.g 322)).toNat (t.g 322))<(t.g 322))) then (decide ((t.g ((aQ minute t ((t.g 322)).toNat (t.g 322)).toNat*2))=minute)) else false) then ((aQ minute t ((t.g 322)).toNat (t.g 322)),t) else (bif (decide (((aQ minute t ((t.g 322)).toNat (t.g 322))+1).toNat<161)) then ((aQ minute t ((t.g 322)).toNat (t.g 322)),((((br t (((aQ minute t ((t.g 322)).toNat (t.g 322))+1).toNat*2) ((aQ minute t ((t.g 322)).toNat (t.g 322)).toNat*2) ((min ((t.g 322).toNat -(aQ minute t ((t.g 322)).toNat (t.g 322)).toNat) (((t.g 322)+1).toNat -((aQ minute t ((t.g 322)).toNat (t.g 322))+1).toNat))*2)).set ((aQ minute t ((t.g 322)).toNat (t.g 322)).toNat*2) minute).set ((aQ minute t ((t.g 322)).toNat (t.g 322)).toNat*2+1) ((br t (((aQ minute t ((t.g 322)).toNat (t.g 322))+1).toNat*2) ((aQ minute t ((t.g 322)).toNat (t.g 322)).toNat*2) ((min ((t.g 322).toNat -(aQ minute t ((t.g 322)).toNat (t.g 322)).toNat) (((t.g 322)+1).toNat -((aQ minute t ((t.g 322)).toNat (t.g 322))+1).toNat))*2)).g (((aQ minute t ((t.g 322)).toNat (t.g 322)) - 1).toNat*2+1))).set 322 (((((br t (((aQ minute t ((t.g 322)).toNat (t.g 322))+1).toNat*2) ((aQ minute t ((t.g 322)).toNat (t.g 322)).toNat*2) ((min ((t.g 322).toNat -(aQ minute t ((t.g 322)).toNat (t.g 322)).toNat) (((t.g 322)+1).toNat -((aQ minute t ((t.g 322)).toNat (t.g 322))+1).toNat))*2)).set ((aQ minute t ((t.g 322)).toNat (t.g 322)).toNat*2) minute).set ((aQ minute t ((t.g 322)).toNat (t.g 322)).toNat*2+1) ((br t (((aQ minute t ((t.g 322)).toNat (t.g 322))+1).toNat*2) ((aQ minute t ((t.g 322)).toNat (t.g 322)).toNat*2) ((min ((t.g 322).toNat -(aQ minute t ((t.g 322)).toNat (t.g 322)).toNat) (((t.g 322)+1).toNat -((aQ minute t ((t.g 322)).toNat (t.g 322))+1).toNat))*2)).g (((aQ minute t ((t.g 322)).toNat (t.g 322)) - 1).toNat*2+1))).g 322)+1))) else ((aQ minute t ((t.g 322)).toNat (t.g 322)),((((br t 0 ((aQ minute t ((t.g 322)).toNat (t.g 322)).toNat*2) ((min ((t.g 322).toNat -(aQ minute t ((t.g 322)).toNat (t.g 322)).toNat) 0)*2)).set ((aQ minute t ((t.g 322)).toNat (t.g 322)).toNat*2) minute).set ((aQ minute t ((t.g 322)).toNat (t.g 322)).toNat*2+1) ((br t 0 ((aQ minute t ((t.g 322)).toNat (t.g 322)).toNat*2) ((min ((t.g 322).toNat -(aQ minute t ((t.g 322)).toNat (t.g 322)).toNat) 0)*2)).g (((aQ minute t ((t.g 322)).toNat (t.g 322)) - 1).toNat*2+1))).set 322 (((((br t 0 ((aQ minute t ((t.g 322)).toNat (t.g 322)).toNat*2) ((min ((t.g 322).toNat -(aQ minute t ((t.g 322)).toNat (t.g 322)).toNat) 0)*2)).set ((aQ minute t ((t.g 322)).toNat (t.g 322)).toNat*2) minute).set ((aQ minute t ((t.g 322)).toNat (t.g 322)).toNat*2+1) ((br t 0 ((aQ minute t ((t.g 322)).toNat (t.g 322)).toNat*2) ((min ((t.g 322).toNat -(aQ minute t ((t.g 322)).toNat (t.g 322)).toNat) 0)*2)).g (((aQ minute t ((t.g 322)).toNat (t.g 322)) - 1).toNat*2+1))).g 322)+1)))))
theorem R9 {d:Nat} {h hh:aw} {tB tO:Nat} {tP tQ:List AV} {tE:TypeId} (t:List Int) (minute:Int) (Aq:hh.get tB=some (aH.cells (tP++zs .i64 t++tQ) tE false)) (aeB:tP.length=tO) (aeC:t.length=324) (p_t:h.get tB=none) (nE:1≤t.g 322) (qI:t.g 322≤160) (yS:t.g 0=0) (Ar:0≤minute) (ct:Tidy h) (aA:Tidy hh) (ay:Has h hh) (ij:h.nx≤hh.nx):∃hk,cU (d+1) (.fn 108) [(AV.ptr tB tO),(Zi minute)] hh= .ret (Zi ((bz t minute).1)) hk∧Tidy hk∧hh.nx≤hk.nx∧Has h hk∧hk.get tB=some (aH.cells (tP++zs .i64 ((bz t minute).2)++tQ) tE false)∧((bz t minute).2).length=324:=by
 have T_t:=aA _ _ Aq
 have ld1:aY env hh 3 (AV.ptr tB (tO+322))=some (Zi (t.g 322)):=(gQ (j:=322) (o:=tO) k! Aq o! l! o!)
 obtain ⟨Cb,h3,dy,dt,KM⟩:=FH (d:=d) (h:=h) tO minute tP t tQ tE tB o! o! o! o! o! o! ((t.g 322)).toNat (t.g 322) o! (show (0≤(t.g 322)∧(t.g 322)≤t.g 322∧((t.g 322)=0→minute≤t.g 0)) from by first | exact fV | exact vN dx fV.2.1 dQ | omega) (fun k_=>(((AV.ptr tB tO)::(Zi minute)::AV.undef::AV.undef::(Zi 0)::(Zi (t.g 322))::(AV.ptr tB tO)::(AV.ptr tB tO)::(AV.ptr tB (tO+322))::(Zi (t.g 322))::lk 78):List AV).getD k_ AV.undef) hh aA ay Aq
 obtain ⟨az,Eb⟩:∃q_:Int,q_=(aQ minute t ((t.g 322)).toNat (t.g 322)):=⟨_,rfl⟩
 rw[←Eb] at dy KM
 have l9:=dt.y
 have tz:hh.nx≤h3.nx:=dt.n
 have iy:Has h h3:=ay.trans dt.a
 obtain ⟨yj4,FI⟩:∃yj4:Nat→AV,Ev env (cU (d)) Ca ⟨((AV.ptr tB tO)::(Zi minute)::rx Cb 2 3 ((Zi az)::rx Cb 6 82 [])),h3,[],.no⟩ .normal ⟨((AV.ptr tB tO)::(Zi minute)::rx Cb 2 3 ((Zi az)::rx Cb 6 20 (rx yj4 26 16 ((AV.bool (bif (decide (az<(t.g 322))) then (decide ((t.g (az.toNat*2))=minute)) else false))::rx Cb 43 45 [])))),h3,[],.no⟩:=by
  have ZW:aY env h3 3 (AV.ptr tB (tO+322))=some (Zi (t.g 322)):=(gQ (j:=322) (o:=tO) k! (dt.a _ _ Aq) o! l! o!)
  rcases Bool.eq_false_or_eq_true (decide (az<(t.g 322))) with f0 | f0
  · have dx:=of_decide_eq_true f0
    have KN:bR env (some (.array 161 124)) (some (AV.ptr tB (tO+0))) (some (Zi az))=some (AV.ptr tB ((tO+0)+az.toNat*2)):=m7 (z:=2) (k:=az.toNat) k! o! o!
    have KO:aY env h3 3 (AV.ptr tB (((tO+0)+az.toNat*2)+0))=some (Zi (t.g (az.toNat*2))):=(gQ (j:=az.toNat*2) (o:=tO) k! (dt.a _ _ Aq) o! l! o!)
    have ev:=pk (d) Ca ((AV.ptr tB tO)::(Zi minute)::rx Cb 2 3 ((Zi az)::rx Cb 6 82 [])) h3 .normal h3 (CN 4<|MM ZW<|VV (bO 3 false false .i64 az (t.g 322))<|CC<|BC f0<|BC f0<|BC f0<|BC f0<|BV f0 KN<|BC f0<|BM f0 KO<|BC f0<|BV f0 (xy 3 false false .i64 (t.g (az.toNat*2)) minute)<|VV (pe (decide ((t.g (az.toNat*2))=minute)) false f0)<|ZZ) k!
    rw[show (bif (decide (az<(t.g 322))) then (decide ((t.g (az.toNat*2))=minute)) else false)=(decide ((t.g (az.toNat*2))=minute)) by simp only[f0,cond_true,cond_false]]
    exact kI ev k!
  · have dx:=of_decide_eq_false f0
    have ev:=pk (d) Ca ((AV.ptr tB tO)::(Zi minute)::rx Cb 2 3 ((Zi az)::rx Cb 6 82 [])) h3 .normal h3 (CN 4<|MM ZW<|VV (bO 3 false false .i64 az (t.g 322))<|CC<|BB f0<|BB f0<|BB f0<|BB f0<|BB f0<|BB f0<|BB f0<|BB f0<|BV f0 (sS false f0)<|ZZ) k!
    rw[show (bif (decide (az<(t.g 322))) then (decide ((t.g (az.toNat*2))=minute)) else false)=false by simp only[f0,cond_true,cond_false]]
    exact kI ev k!
 rcases Bool.eq_false_or_eq_true (bif (decide (az<(t.g 322))) then (decide ((t.g (az.toNat*2))=minute)) else false) with f0 | f0
 · have ev:=pk (d) nR ((AV.ptr tB tO)::(Zi minute)::lk 86) hh .ret h3 (CN 4<|MM ld1<|CC<|LL dy<|LL FI<|BB f0<|CN 2<|ZZ) k!
   subst Eb
   have e:bz t minute=((aQ minute t ((t.g 322)).toNat (t.g 322)),t):=by simp only[bz,f0,cond_true,cond_false]
   rw[e]
   exact fU rfl (aZ Tryz.func108 KL k! (.inr rfl) ev k!) aA l9 o! ⟨iy,(dt.a _ _ Aq),l!⟩ (fun q=>⟨ay,cK q Aq (dt.a _ _ Aq),l!⟩)
 · have alS:az≠0:=fun hz=>aeA f0 hz (KM.2.2 hz) o! o! o!
   have w6:IntKind.i64.wrap (az+1)=az+1:=wrap_i64 o! o!
   have KO:aY env h3 3 (AV.ptr tB (tO+322))=some (Zi (t.g 322)):=(gQ (j:=322) (o:=tO) k! (dt.a _ _ Aq) o! l! o!)
   have w8:IntKind.i64.wrap ((t.g 322)+1)=(t.g 322)+1:=wrap_i64 o! o!
   rcases Bool.eq_false_or_eq_true (decide ((az+1).toNat<161)) with f1 | f1
   · have dQ:=of_decide_eq_true f1
     have Xf:dV env 125 (AV.ptr tB (tO+0)) (some (Zi (az+1))) (some (Zi ((t.g 322)+1))) (none)=some (AV.slice tB ((tO+0)+(az+1).toNat*2) (((t.g 322)+1).toNat -(az+1).toNat) (161 -(az+1).toNat) false):=yR (e:=124) (z:=2) k! k! (lo:=(az+1).toNat) (hi:=((t.g 322)+1).toNat) o! o! o! o!
     have As:aY env h3 3 (AV.ptr tB (tO+322))=some (Zi (t.g 322)):=KO
     have aeD:dV env 125 (AV.ptr tB (tO+0)) (some (Zi az)) (some (Zi (t.g 322))) (none)=some (AV.slice tB ((tO+0)+az.toNat*2) ((t.g 322).toNat - az.toNat) (161 - az.toNat) false):=yR (e:=124) (z:=2) k! k! (lo:=az.toNat) (hi:=(t.g 322).toNat) o! o! o! o!
     obtain ⟨FJ,Xg,At,Xh⟩:=Nr (cd:=(161 -(az+1).toNat)) (cq:=(161 - az.toNat)) (op:=false) (oq:=false) (et:=124) (z:=2) (tys:= #[201,201]) (jd:=(az+1).toNat*2) (js:=az.toNat*2) (xd:=(tO+0)+(az+1).toNat*2) (xs:=(tO+0)+az.toNat*2) (nd:=(((t.g 322)+1).toNat -(az+1).toNat)) (ns:=((t.g 322).toNat - az.toNat)) (o:=tO) l9 rfl k! k! (dt.a _ _ Aq) o! o! o! o! o!
     have xW:=At.1
     have abo:(br t ((az+1).toNat*2) (az.toNat*2) ((min ((t.g 322).toNat - az.toNat) (((t.g 322)+1).toNat -(az+1).toNat))*2)).g 0=t.g 0:=gD o!
     have T3:(br t ((az+1).toNat*2) (az.toNat*2) ((min ((t.g 322).toNat - az.toNat) (((t.g 322)+1).toNat -(az+1).toNat))*2)).g 322=t.g 322:=gD o!
     have T4:(br t ((az+1).toNat*2) (az.toNat*2) ((min ((t.g 322).toNat - az.toNat) (((t.g 322)+1).toNat -(az+1).toNat))*2)).g 323=t.g 323:=gD o!
     have sc:Has h FJ:=jz At iy sa
     have w15:IntKind.i64.wrap (az - 1)=az - 1:=wrap_i64 o! o!
     have KP:bR env (some (.array 161 124)) (some (AV.ptr tB (tO+0))) (some (Zi (az - 1)))=some (AV.ptr tB ((tO+0)+(az - 1).toNat*2)):=m7 (z:=2) (k:=(az - 1).toNat) k! o! o!
     have Ns:aY env FJ 3 (AV.ptr tB (((tO+0)+(az - 1).toNat*2)+1))=some (Zi ((br t ((az+1).toNat*2) (az.toNat*2) ((min ((t.g 322).toNat - az.toNat) (((t.g 322)+1).toNat -(az+1).toNat))*2)).g ((az - 1).toNat*2+1))):=(gQ (j:=((az - 1).toNat*2+1)) (o:=tO) k! At.2.1 o! l! o!)
     have Xi:bR env (some (.array 161 124)) (some (AV.ptr tB (tO+0))) (some (Zi az))=some (AV.ptr tB ((tO+0)+az.toNat*2)):=m7 (z:=2) (k:=az.toNat) k! o! o!
     obtain ⟨FK,Nt,Au,adi⟩:=FG (t:=124) (j:=az.toNat*2) (x:=(tO+0)+az.toNat*2) (o:=tO) (v:=minute) (w:=((br t ((az+1).toNat*2) (az.toNat*2) ((min ((t.g 322).toNat - az.toNat) (((t.g 322)+1).toNat -(az+1).toNat))*2)).g ((az - 1).toNat*2+1))) xW k! At.2.1 o! l! o!
     have vQ:=Au.1
     have abp:(((br t ((az+1).toNat*2) (az.toNat*2) ((min ((t.g 322).toNat - az.toNat) (((t.g 322)+1).toNat -(az+1).toNat))*2)).set (az.toNat*2) minute).set (az.toNat*2+1) ((br t ((az+1).toNat*2) (az.toNat*2) ((min ((t.g 322).toNat - az.toNat) (((t.g 322)+1).toNat -(az+1).toNat))*2)).g ((az - 1).toNat*2+1))).g 0=(br t ((az+1).toNat*2) (az.toNat*2) ((min ((t.g 322).toNat - az.toNat) (((t.g 322)+1).toNat -(az+1).toNat))*2)).g 0:=(bj o! _).trans (bj o! _)
     have T5:(((br t ((az+1).toNat*2) (az.toNat*2) ((min ((t.g 322).toNat - az.toNat) (((t.g 322)+1).toNat -(az+1).toNat))*2)).set (az.toNat*2) minute).set (az.toNat*2+1) ((br t ((az+1).toNat*2) (az.toNat*2) ((min ((t.g 322).toNat - az.toNat) (((t.g 322)+1).toNat -(az+1).toNat))*2)).g ((az - 1).toNat*2+1))).g 322=(br t ((az+1).toNat*2) (az.toNat*2) ((min ((t.g 322).toNat - az.toNat) (((t.g 322)+1).toNat -(az+1).toNat))*2)).g 322:=(bj o! _).trans (bj o! _)
     have T6:(((br t ((az+1).toNat*2) (az.toNat*2) ((min ((t.g 322).toNat - az.toNat) (((t.g 322)+1).toNat -(az+1).toNat))*2)).set (az.toNat*2) minute).set (az.toNat*2+1) ((br t ((az+1).toNat*2) (az.toNat*2) ((min ((t.g 322).toNat - az.toNat) (((t.g 322)+1).toNat -(az+1).toNat))*2)).g ((az - 1).toNat*2+1))).g 323=(br t ((az+1).toNat*2) (az.toNat*2) ((min ((t.g 322).toNat - az.toNat) (((t.g 322)+1).toNat -(az+1).toNat))*2)).g 323:=(bj o! _).trans (bj o! _)
     have oH:Has h FK:=jz Au sc sa
     have T7:aY env FK 3 (AV.ptr tB (tO+322))=some (Zi ((((br t ((az+1).toNat*2) (az.toNat*2) ((min ((t.g 322).toNat - az.toNat) (((t.g 322)+1).toNat -(az+1).toNat))*2)).set (az.toNat*2) minute).set (az.toNat*2+1) ((br t ((az+1).toNat*2) (az.toNat*2) ((min ((t.g 322).toNat - az.toNat) (((t.g 322)+1).toNat -(az+1).toNat))*2)).g ((az - 1).toNat*2+1))).g 322)):=(gQ (j:=322) (o:=tO) k! Au.2.1 o! l! o!)
     have w21:IntKind.i64.wrap (((((br t ((az+1).toNat*2) (az.toNat*2) ((min ((t.g 322).toNat - az.toNat) (((t.g 322)+1).toNat -(az+1).toNat))*2)).set (az.toNat*2) minute).set (az.toNat*2+1) ((br t ((az+1).toNat*2) (az.toNat*2) ((min ((t.g 322).toNat - az.toNat) (((t.g 322)+1).toNat -(az+1).toNat))*2)).g ((az - 1).toNat*2+1))).g 322)+1)=((((br t ((az+1).toNat*2) (az.toNat*2) ((min ((t.g 322).toNat - az.toNat) (((t.g 322)+1).toNat -(az+1).toNat))*2)).set (az.toNat*2) minute).set (az.toNat*2+1) ((br t ((az+1).toNat*2) (az.toNat*2) ((min ((t.g 322).toNat - az.toNat) (((t.g 322)+1).toNat -(az+1).toNat))*2)).g ((az - 1).toNat*2+1))).g 322)+1:=wrap_i64 o! o!
     obtain ⟨h22,Xj,Av,ahF⟩:=yQ (t:=3) (j:=322) (x:=tO+322) (o:=tO) (v:=(((((br t ((az+1).toNat*2) (az.toNat*2) ((min ((t.g 322).toNat - az.toNat) (((t.g 322)+1).toNat -(az+1).toNat))*2)).set (az.toNat*2) minute).set (az.toNat*2+1) ((br t ((az+1).toNat*2) (az.toNat*2) ((min ((t.g 322).toNat - az.toNat) (((t.g 322)+1).toNat -(az+1).toNat))*2)).g ((az - 1).toNat*2+1))).g 322)+1)) vQ k! Au.2.1 o! l! o!
     have Xk:=Av.1
     have abq:((((br t ((az+1).toNat*2) (az.toNat*2) ((min ((t.g 322).toNat - az.toNat) (((t.g 322)+1).toNat -(az+1).toNat))*2)).set (az.toNat*2) minute).set (az.toNat*2+1) ((br t ((az+1).toNat*2) (az.toNat*2) ((min ((t.g 322).toNat - az.toNat) (((t.g 322)+1).toNat -(az+1).toNat))*2)).g ((az - 1).toNat*2+1))).set 322 (((((br t ((az+1).toNat*2) (az.toNat*2) ((min ((t.g 322).toNat - az.toNat) (((t.g 322)+1).toNat -(az+1).toNat))*2)).set (az.toNat*2) minute).set (az.toNat*2+1) ((br t ((az+1).toNat*2) (az.toNat*2) ((min ((t.g 322).toNat - az.toNat) (((t.g 322)+1).toNat -(az+1).toNat))*2)).g ((az - 1).toNat*2+1))).g 322)+1)).g 0=(((br t ((az+1).toNat*2) (az.toNat*2) ((min ((t.g 322).toNat - az.toNat) (((t.g 322)+1).toNat -(az+1).toNat))*2)).set (az.toNat*2) minute).set (az.toNat*2+1) ((br t ((az+1).toNat*2) (az.toNat*2) ((min ((t.g 322).toNat - az.toNat) (((t.g 322)+1).toNat -(az+1).toNat))*2)).g ((az - 1).toNat*2+1))).g 0:=bj o! _
     have T8:((((br t ((az+1).toNat*2) (az.toNat*2) ((min ((t.g 322).toNat - az.toNat) (((t.g 322)+1).toNat -(az+1).toNat))*2)).set (az.toNat*2) minute).set (az.toNat*2+1) ((br t ((az+1).toNat*2) (az.toNat*2) ((min ((t.g 322).toNat - az.toNat) (((t.g 322)+1).toNat -(az+1).toNat))*2)).g ((az - 1).toNat*2+1))).set 322 (((((br t ((az+1).toNat*2) (az.toNat*2) ((min ((t.g 322).toNat - az.toNat) (((t.g 322)+1).toNat -(az+1).toNat))*2)).set (az.toNat*2) minute).set (az.toNat*2+1) ((br t ((az+1).toNat*2) (az.toNat*2) ((min ((t.g 322).toNat - az.toNat) (((t.g 322)+1).toNat -(az+1).toNat))*2)).g ((az - 1).toNat*2+1))).g 322)+1)).g 322=(((((br t ((az+1).toNat*2) (az.toNat*2) ((min ((t.g 322).toNat - az.toNat) (((t.g 322)+1).toNat -(az+1).toNat))*2)).set (az.toNat*2) minute).set (az.toNat*2+1) ((br t ((az+1).toNat*2) (az.toNat*2) ((min ((t.g 322).toNat - az.toNat) (((t.g 322)+1).toNat -(az+1).toNat))*2)).g ((az - 1).toNat*2+1))).g 322)+1):=iL l!
     have T9:((((br t ((az+1).toNat*2) (az.toNat*2) ((min ((t.g 322).toNat - az.toNat) (((t.g 322)+1).toNat -(az+1).toNat))*2)).set (az.toNat*2) minute).set (az.toNat*2+1) ((br t ((az+1).toNat*2) (az.toNat*2) ((min ((t.g 322).toNat - az.toNat) (((t.g 322)+1).toNat -(az+1).toNat))*2)).g ((az - 1).toNat*2+1))).set 322 (((((br t ((az+1).toNat*2) (az.toNat*2) ((min ((t.g 322).toNat - az.toNat) (((t.g 322)+1).toNat -(az+1).toNat))*2)).set (az.toNat*2) minute).set (az.toNat*2+1) ((br t ((az+1).toNat*2) (az.toNat*2) ((min ((t.g 322).toNat - az.toNat) (((t.g 322)+1).toNat -(az+1).toNat))*2)).g ((az - 1).toNat*2+1))).g 322)+1)).g 323=(((br t ((az+1).toNat*2) (az.toNat*2) ((min ((t.g 322).toNat - az.toNat) (((t.g 322)+1).toNat -(az+1).toNat))*2)).set (az.toNat*2) minute).set (az.toNat*2+1) ((br t ((az+1).toNat*2) (az.toNat*2) ((min ((t.g 322).toNat - az.toNat) (((t.g 322)+1).toNat -(az+1).toNat))*2)).g ((az - 1).toNat*2+1))).g 323:=bj o! _
     have Xl:Has h h22:=jz Av oH sa
     have ev:=pk (d) nR ((AV.ptr tB tO)::(Zi minute)::lk 86) hh .ret h22 (CN 4<|MM ld1<|CC<|LL dy<|LL FI<|BB f0<|CN 4<|VV (rn 3 false true w6)<|CN 3<|MM KO<|VV (rn 3 false true w8)<|QQ Xf<|CN 7<|MM As<|QQ aeD<|PP Xg<|HH As<|HH (show AV.same 20 (Zi (t.g 322)) (Zi (t.g 322))=true from aK 19 _ _)<|HH As<|HH (show AV.same 20 (Zi (t.g 322)) (Zi (t.g 322))=true from aK 19 _ _)<|CN 5<|VV (vz 3 false true w15)<|CN 2<|VV KP<|CC<|MM Ns<|CN 3<|VV Xi<|SS Nt<|HH Ns<|HH (show AV.same 20 (Zi ((br t ((az+1).toNat*2) (az.toNat*2) ((min ((t.g 322).toNat - az.toNat) (((t.g 322)+1).toNat -(az+1).toNat))*2)).g ((az - 1).toNat*2+1))) (Zi ((br t ((az+1).toNat*2) (az.toNat*2) ((min ((t.g 322).toNat - az.toNat) (((t.g 322)+1).toNat -(az+1).toNat))*2)).g ((az - 1).toNat*2+1)))=true from aK 19 _ _)<|CN 3<|MM T7<|VV (rn 3 false true w21)<|CN 2<|SS Xj<|CN 2<|ZZ) k!
     subst Eb
     have e:bz t minute=((aQ minute t ((t.g 322)).toNat (t.g 322)),((((br t (((aQ minute t ((t.g 322)).toNat (t.g 322))+1).toNat*2) ((aQ minute t ((t.g 322)).toNat (t.g 322)).toNat*2) ((min ((t.g 322).toNat -(aQ minute t ((t.g 322)).toNat (t.g 322)).toNat) (((t.g 322)+1).toNat -((aQ minute t ((t.g 322)).toNat (t.g 322))+1).toNat))*2)).set ((aQ minute t ((t.g 322)).toNat (t.g 322)).toNat*2) minute).set ((aQ minute t ((t.g 322)).toNat (t.g 322)).toNat*2+1) ((br t (((aQ minute t ((t.g 322)).toNat (t.g 322))+1).toNat*2) ((aQ minute t ((t.g 322)).toNat (t.g 322)).toNat*2) ((min ((t.g 322).toNat -(aQ minute t ((t.g 322)).toNat (t.g 322)).toNat) (((t.g 322)+1).toNat -((aQ minute t ((t.g 322)).toNat (t.g 322))+1).toNat))*2)).g (((aQ minute t ((t.g 322)).toNat (t.g 322)) - 1).toNat*2+1))).set 322 (((((br t (((aQ minute t ((t.g 322)).toNat (t.g 322))+1).toNat*2) ((aQ minute t ((t.g 322)).toNat (t.g 322)).toNat*2) ((min ((t.g 322).toNat -(aQ minute t ((t.g 322)).toNat (t.g 322)).toNat) (((t.g 322)+1).toNat -((aQ minute t ((t.g 322)).toNat (t.g 322))+1).toNat))*2)).set ((aQ minute t ((t.g 322)).toNat (t.g 322)).toNat*2) minute).set ((aQ minute t ((t.g 322)).toNat (t.g 322)).toNat*2+1) ((br t (((aQ minute t ((t.g 322)).toNat (t.g 322))+1).toNat*2) ((aQ minute t ((t.g 322)).toNat (t.g 322)).toNat*2) ((min ((t.g 322).toNat -(aQ minute t ((t.g 322)).toNat (t.g 322)).toNat) (((t.g 322)+1).toNat -((aQ minute t ((t.g 322)).toNat (t.g 322))+1).toNat))*2)).g (((aQ minute t ((t.g 322)).toNat (t.g 322)) - 1).toNat*2+1))).g 322)+1))):=by simp only[bz,f0,f1,cond_true,cond_false]
     rw[e]
     exact fU rfl (aZ Tryz.func108 KL k! (.inr rfl) ev k!) aA Xk o! ⟨Xl,Av.2.1,l!⟩ (fun q=>⟨ay,cK q Aq Av.2.1,l!⟩)
   · have dQ:=of_decide_eq_false f1
     have Xf:dV env 125 (AV.ptr tB (tO+0)) (some (Zi (az+1))) (some (Zi ((t.g 322)+1))) (none)=some (AV.slice tB (tO+0) 0 0 false):=Nq (e:=124) (z:=2) (N:=161) k! k! o! o!
     have As:aY env h3 3 (AV.ptr tB (tO+322))=some (Zi (t.g 322)):=KO
     have aeD:dV env 125 (AV.ptr tB (tO+0)) (some (Zi az)) (some (Zi (t.g 322))) (none)=some (AV.slice tB ((tO+0)+az.toNat*2) ((t.g 322).toNat - az.toNat) (161 - az.toNat) false):=yR (e:=124) (z:=2) k! k! (lo:=az.toNat) (hi:=(t.g 322).toNat) o! o! o! o!
     obtain ⟨FJ,Xg,At,Xh⟩:=Nr (cd:=0) (cq:=(161 - az.toNat)) (op:=false) (oq:=false) (et:=124) (z:=2) (tys:= #[201,201]) (jd:=0) (js:=az.toNat*2) (xd:=tO+0) (xs:=(tO+0)+az.toNat*2) (nd:=0) (ns:=((t.g 322).toNat - az.toNat)) (o:=tO) l9 rfl k! k! (dt.a _ _ Aq) o! o! o! o! o!
     have xW:=At.1
     have abo:(br t 0 (az.toNat*2) ((min ((t.g 322).toNat - az.toNat) 0)*2)).g 0=t.g 0:=gD o!
     have T3:(br t 0 (az.toNat*2) ((min ((t.g 322).toNat - az.toNat) 0)*2)).g 322=t.g 322:=gD o!
     have T4:(br t 0 (az.toNat*2) ((min ((t.g 322).toNat - az.toNat) 0)*2)).g 323=t.g 323:=gD o!
     have sc:Has h FJ:=jz At iy sa
     have w15:IntKind.i64.wrap (az - 1)=az - 1:=wrap_i64 o! o!
     have KP:bR env (some (.array 161 124)) (some (AV.ptr tB (tO+0))) (some (Zi (az - 1)))=some (AV.ptr tB ((tO+0)+(az - 1).toNat*2)):=m7 (z:=2) (k:=(az - 1).toNat) k! o! o!
     have Ns:aY env FJ 3 (AV.ptr tB (((tO+0)+(az - 1).toNat*2)+1))=some (Zi ((br t 0 (az.toNat*2) ((min ((t.g 322).toNat - az.toNat) 0)*2)).g ((az - 1).toNat*2+1))):=(gQ (j:=((az - 1).toNat*2+1)) (o:=tO) k! At.2.1 o! l! o!)
     have Xi:bR env (some (.array 161 124)) (some (AV.ptr tB (tO+0))) (some (Zi az))=some (AV.ptr tB ((tO+0)+az.toNat*2)):=m7 (z:=2) (k:=az.toNat) k! o! o!
     obtain ⟨FK,Nt,Au,adi⟩:=FG (t:=124) (j:=az.toNat*2) (x:=(tO+0)+az.toNat*2) (o:=tO) (v:=minute) (w:=((br t 0 (az.toNat*2) ((min ((t.g 322).toNat - az.toNat) 0)*2)).g ((az - 1).toNat*2+1))) xW k! At.2.1 o! l! o!
     have vQ:=Au.1
     have abp:(((br t 0 (az.toNat*2) ((min ((t.g 322).toNat - az.toNat) 0)*2)).set (az.toNat*2) minute).set (az.toNat*2+1) ((br t 0 (az.toNat*2) ((min ((t.g 322).toNat - az.toNat) 0)*2)).g ((az - 1).toNat*2+1))).g 0=(br t 0 (az.toNat*2) ((min ((t.g 322).toNat - az.toNat) 0)*2)).g 0:=(bj o! _).trans (bj o! _)
     have T5:(((br t 0 (az.toNat*2) ((min ((t.g 322).toNat - az.toNat) 0)*2)).set (az.toNat*2) minute).set (az.toNat*2+1) ((br t 0 (az.toNat*2) ((min ((t.g 322).toNat - az.toNat) 0)*2)).g ((az - 1).toNat*2+1))).g 322=(br t 0 (az.toNat*2) ((min ((t.g 322).toNat - az.toNat) 0)*2)).g 322:=(bj o! _).trans (bj o! _)
     have T6:(((br t 0 (az.toNat*2) ((min ((t.g 322).toNat - az.toNat) 0)*2)).set (az.toNat*2) minute).set (az.toNat*2+1) ((br t 0 (az.toNat*2) ((min ((t.g 322).toNat - az.toNat) 0)*2)).g ((az - 1).toNat*2+1))).g 323=(br t 0 (az.toNat*2) ((min ((t.g 322).toNat - az.toNat) 0)*2)).g 323:=(bj o! _).trans (bj o! _)
     have oH:Has h FK:=jz Au sc sa
     have T7:aY env FK 3 (AV.ptr tB (tO+322))=some (Zi ((((br t 0 (az.toNat*2) ((min ((t.g 322).toNat - az.toNat) 0)*2)).set (az.toNat*2) minute).set (az.toNat*2+1) ((br t 0 (az.toNat*2) ((min ((t.g 322).toNat - az.toNat) 0)*2)).g ((az - 1).toNat*2+1))).g 322)):=(gQ (j:=322) (o:=tO) k! Au.2.1 o! l! o!)
     have w21:IntKind.i64.wrap (((((br t 0 (az.toNat*2) ((min ((t.g 322).toNat - az.toNat) 0)*2)).set (az.toNat*2) minute).set (az.toNat*2+1) ((br t 0 (az.toNat*2) ((min ((t.g 322).toNat - az.toNat) 0)*2)).g ((az - 1).toNat*2+1))).g 322)+1)=((((br t 0 (az.toNat*2) ((min ((t.g 322).toNat - az.toNat) 0)*2)).set (az.toNat*2) minute).set (az.toNat*2+1) ((br t 0 (az.toNat*2) ((min ((t.g 322).toNat - az.toNat) 0)*2)).g ((az - 1).toNat*2+1))).g 322)+1:=wrap_i64 o! o!
     obtain ⟨h22,Xj,Av,ahF⟩:=yQ (t:=3) (j:=322) (x:=tO+322) (o:=tO) (v:=(((((br t 0 (az.toNat*2) ((min ((t.g 322).toNat - az.toNat) 0)*2)).set (az.toNat*2) minute).set (az.toNat*2+1) ((br t 0 (az.toNat*2) ((min ((t.g 322).toNat - az.toNat) 0)*2)).g ((az - 1).toNat*2+1))).g 322)+1)) vQ k! Au.2.1 o! l! o!
     have Xk:=Av.1
     have abq:((((br t 0 (az.toNat*2) ((min ((t.g 322).toNat - az.toNat) 0)*2)).set (az.toNat*2) minute).set (az.toNat*2+1) ((br t 0 (az.toNat*2) ((min ((t.g 322).toNat - az.toNat) 0)*2)).g ((az - 1).toNat*2+1))).set 322 (((((br t 0 (az.toNat*2) ((min ((t.g 322).toNat - az.toNat) 0)*2)).set (az.toNat*2) minute).set (az.toNat*2+1) ((br t 0 (az.toNat*2) ((min ((t.g 322).toNat - az.toNat) 0)*2)).g ((az - 1).toNat*2+1))).g 322)+1)).g 0=(((br t 0 (az.toNat*2) ((min ((t.g 322).toNat - az.toNat) 0)*2)).set (az.toNat*2) minute).set (az.toNat*2+1) ((br t 0 (az.toNat*2) ((min ((t.g 322).toNat - az.toNat) 0)*2)).g ((az - 1).toNat*2+1))).g 0:=bj o! _
     have T8:((((br t 0 (az.toNat*2) ((min ((t.g 322).toNat - az.toNat) 0)*2)).set (az.toNat*2) minute).set (az.toNat*2+1) ((br t 0 (az.toNat*2) ((min ((t.g 322).toNat - az.toNat) 0)*2)).g ((az - 1).toNat*2+1))).set 322 (((((br t 0 (az.toNat*2) ((min ((t.g 322).toNat - az.toNat) 0)*2)).set (az.toNat*2) minute).set (az.toNat*2+1) ((br t 0 (az.toNat*2) ((min ((t.g 322).toNat - az.toNat) 0)*2)).g ((az - 1).toNat*2+1))).g 322)+1)).g 322=(((((br t 0 (az.toNat*2) ((min ((t.g 322).toNat - az.toNat) 0)*2)).set (az.toNat*2) minute).set (az.toNat*2+1) ((br t 0 (az.toNat*2) ((min ((t.g 322).toNat - az.toNat) 0)*2)).g ((az - 1).toNat*2+1))).g 322)+1):=iL l!
     have T9:((((br t 0 (az.toNat*2) ((min ((t.g 322).toNat - az.toNat) 0)*2)).set (az.toNat*2) minute).set (az.toNat*2+1) ((br t 0 (az.toNat*2) ((min ((t.g 322).toNat - az.toNat) 0)*2)).g ((az - 1).toNat*2+1))).set 322 (((((br t 0 (az.toNat*2) ((min ((t.g 322).toNat - az.toNat) 0)*2)).set (az.toNat*2) minute).set (az.toNat*2+1) ((br t 0 (az.toNat*2) ((min ((t.g 322).toNat - az.toNat) 0)*2)).g ((az - 1).toNat*2+1))).g 322)+1)).g 323=(((br t 0 (az.toNat*2) ((min ((t.g 322).toNat - az.toNat) 0)*2)).set (az.toNat*2) minute).set (az.toNat*2+1) ((br t 0 (az.toNat*2) ((min ((t.g 322).toNat - az.toNat) 0)*2)).g ((az - 1).toNat*2+1))).g 323:=bj o! _
     have Xl:Has h h22:=jz Av oH sa
     have ev:=pk (d) nR ((AV.ptr tB tO)::(Zi minute)::lk 86) hh .ret h22 (CN 4<|MM ld1<|CC<|LL dy<|LL FI<|BB f0<|CN 4<|VV (rn 3 false true w6)<|CN 3<|MM KO<|VV (rn 3 false true w8)<|QQ Xf<|CN 7<|MM As<|QQ aeD<|PP Xg<|HH As<|HH (show AV.same 20 (Zi (t.g 322)) (Zi (t.g 322))=true from aK 19 _ _)<|HH As<|HH (show AV.same 20 (Zi (t.g 322)) (Zi (t.g 322))=true from aK 19 _ _)<|CN 5<|VV (vz 3 false true w15)<|CN 2<|VV KP<|CC<|MM Ns<|CN 3<|VV Xi<|SS Nt<|HH Ns<|HH (show AV.same 20 (Zi ((br t 0 (az.toNat*2) ((min ((t.g 322).toNat - az.toNat) 0)*2)).g ((az - 1).toNat*2+1))) (Zi ((br t 0 (az.toNat*2) ((min ((t.g 322).toNat - az.toNat) 0)*2)).g ((az - 1).toNat*2+1)))=true from aK 19 _ _)<|CN 3<|MM T7<|VV (rn 3 false true w21)<|CN 2<|SS Xj<|CN 2<|ZZ) k!
     subst Eb
     have e:bz t minute=((aQ minute t ((t.g 322)).toNat (t.g 322)),((((br t 0 ((aQ minute t ((t.g 322)).toNat (t.g 322)).toNat*2) ((min ((t.g 322).toNat -(aQ minute t ((t.g 322)).toNat (t.g 322)).toNat) 0)*2)).set ((aQ minute t ((t.g 322)).toNat (t.g 322)).toNat*2) minute).set ((aQ minute t ((t.g 322)).toNat (t.g 322)).toNat*2+1) ((br t 0 ((aQ minute t ((t.g 322)).toNat (t.g 322)).toNat*2) ((min ((t.g 322).toNat -(aQ minute t ((t.g 322)).toNat (t.g 322)).toNat) 0)*2)).g (((aQ minute t ((t.g 322)).toNat (t.g 322)) - 1).toNat*2+1))).set 322 (((((br t 0 ((aQ minute t ((t.g 322)).toNat (t.g 322)).toNat*2) ((min ((t.g 322).toNat -(aQ minute t ((t.g 322)).toNat (t.g 322)).toNat) 0)*2)).set ((aQ minute t ((t.g 322)).toNat (t.g 322)).toNat*2) minute).set ((aQ minute t ((t.g 322)).toNat (t.g 322)).toNat*2+1) ((br t 0 ((aQ minute t ((t.g 322)).toNat (t.g 322)).toNat*2) ((min ((t.g 322).toNat -(aQ minute t ((t.g 322)).toNat (t.g 322)).toNat) 0)*2)).g (((aQ minute t ((t.g 322)).toNat (t.g 322)) - 1).toNat*2+1))).g 322)+1))):=by simp only[bz,f0,f1,cond_true,cond_false]
     rw[e]
     exact fU rfl (aZ Tryz.func108 KL k! (.inr rfl) ev k!) aA Xk o! ⟨Xl,Av.2.1,l!⟩ (fun q=>⟨ay,cK q Aq Av.2.1,l!⟩)
theorem I2 {minute:Int} {t:List Int}:∀(k:Nat) (v:Int),0≤v→v≤t.g 322→(v=0→minute≤t.g 0)→v≤k→t.g 0=0→0≤minute→0≤aQ minute t k v∧aQ minute t k v≤t.g 322∧(aQ minute t k v=0→minute≤t.g 0)
 | 0,v,a,b,c,_,_,_=>⟨a,b,c⟩
 | k+1,v,a,b,c,d,e,f=>by
   rw[aQ]
   by_cases f0:0<v
   · rw[decide_eq_true f0,cond_true]
     by_cases f1:minute≤t.g ((Int.toNat (v - 1))*2)
     · rw[decide_eq_true f1,cond_true]
       refine I2 k (v - 1) o! o! (fun hz=>?_) o! e f
       rw[hz] at f1;exact f1
     · rw[decide_eq_false f1,cond_false];exact ⟨a,b,c⟩
   · rw[decide_eq_false f0,cond_false];exact ⟨a,b,c⟩
theorem Aw (t:List Int) (minute:Int) (ln:t.length=324) (p0:1≤t.g 322) (p1:t.g 322≤160) (p2:t.g 0=0) (p3:0≤minute):0≤(bz t minute).1∧(bz t minute).1≤t.g 322∧t.g 322≤(bz t minute).2.g 322∧(bz t minute).2.g 322≤t.g 322+1∧(bz t minute).2.g 0=0∧(bz t minute).2.g 323=t.g 323∧(bz t minute).2.length=324:=by
 obtain ⟨a,b,c⟩:=I2 (minute:=minute) (t:=t) (Int.toNat (t.g 322)) (t.g 322) o! o! o! o! p2 p3
 rw[bz]
 generalize aQ minute t (Int.toNat (t.g 322)) (t.g 322)=i at a b c
 have hc:∀jd js n,(br t jd js n).length=324:=fun jd js n=>by rw[xj];exact ln
 have tl:∀(L:List Int) (x:Int),L.length=324→L.g 0=0→L.g 323=t.g 323→L.g 322=t.g 322→i≠0→0≤i∧i≤t.g 322∧t.g 322≤(((L.set ((Int.toNat i)*2) minute).set ((Int.toNat i)*2+1) x).set 322 (((L.set ((Int.toNat i)*2) minute).set ((Int.toNat i)*2+1) x).g 322+1)).g 322∧(((L.set ((Int.toNat i)*2) minute).set ((Int.toNat i)*2+1) x).set 322 (((L.set ((Int.toNat i)*2) minute).set ((Int.toNat i)*2+1) x).g 322+1)).g 322≤t.g 322+1∧(((L.set ((Int.toNat i)*2) minute).set ((Int.toNat i)*2+1) x).set 322 (((L.set ((Int.toNat i)*2) minute).set ((Int.toNat i)*2+1) x).g 322+1)).g 0=0∧(((L.set ((Int.toNat i)*2) minute).set ((Int.toNat i)*2+1) x).set 322 (((L.set ((Int.toNat i)*2) minute).set ((Int.toNat i)*2+1) x).g 322+1)).g 323=t.g 323∧(((L.set ((Int.toNat i)*2) minute).set ((Int.toNat i)*2+1) x).set 322 (((L.set ((Int.toNat i)*2) minute).set ((Int.toNat i)*2+1) x).g 322+1)).length=324:=by
  intro L x hl h0 h3 h2 hi
  have e2:((L.set ((Int.toNat i)*2) minute).set ((Int.toNat i)*2+1) x).g 322=t.g 322:=by
   rw[bj o!,bj o!,h2]
  rw[e2,iL (by rw[List.length_set,List.length_set,hl];decide),bj o!,bj o!,bj o!,bj o!,bj o!,bj o!,h0,h3]
  exact ⟨a,b,by omega,by omega,rfl,rfl,by rw[List.length_set,List.length_set,List.length_set,hl]⟩
 by_cases f0:i<t.g 322
 · rw[decide_eq_true f0,cond_true]
   by_cases f1:t.g ((Int.toNat i)*2)=minute
   · rw[decide_eq_true f1,cond_true];exact ⟨a,b,Int.le_refl _,by show t.g 322≤t.g 322+1;omega,p2,rfl,ln⟩
   · rw[decide_eq_false f1,cond_false]
     have hi:i≠0:=fun hz=>f1 (by subst hz;have:=c rfl;show t.g 0=minute;omega)
     by_cases f2:(Int.toNat (i+1))<161
     · rw[decide_eq_true f2,cond_true]
       exact tl _ _ (hc _ _ _) (by rw[gD o!];exact p2) (gD o!) (gD o!) hi
     · exfalso;omega
 · rw[decide_eq_false f0,cond_false,cond_false]
   have hi:i≠0:=by omega
   by_cases f1:(Int.toNat (i+1))<161
   · rw[decide_eq_true f1,cond_true]
     exact tl _ _ (hc _ _ _) (by rw[gD o!];exact p2) (gD o!) (gD o!) hi
   · rw[decide_eq_false f1,cond_false]
     exact tl _ _ (hc _ _ _) (by rw[gD o!];exact p2) (gD o!) (gD o!) hi
theorem oI {p:Prop} (h:p:=by first | omega | assumption | (simp only[List.length_set,List.length_replicate,List.length_append,List.length_cons,List.length_nil,List.nil_append]<;>omega) | (rw[List.length_take];omega)):p:=h
theorem Ax {p:Prop} (h:p:=by first | assumption | exact hG ct o!):p:=h
noncomputable def FL:Code:=(Tryz.f50.body).getD .skip
theorem R_:Tryz.f50.body=some FL:=by kernel_rfl
noncomputable def T_:Code:=(bw FL).getD 0 .skip
def fw (pieces:Int) (t:List Int) (s:Span):Nat→Int→List Int→List Int
 | 0,fN,aW=>aW
 | cS+1,fN,aW=>(bif (decide (fN<((bz ((bz t s.bl).2) (s.aN+1)).1))) then fw pieces t s cS (fN+1) (aW.set (fN.toNat*2+1) (IntKind.i64.wrap ((aW.g (fN.toNat*2+1))+pieces))) else aW)
theorem FM {d:Nat} {h:aw} (tO:Nat) (pieces:Int) (t:List Int) (s:Span) (tP:List AV) (tQ:List AV) (tE:TypeId) (a_:Nat) (fW:aG.ok h s) (fq:1≤t.g 322) (hH:t.g 322≤159) (ly:t.g 0=0) (mw:0≤s.bl) (l8:s.aN≤100000000) (mO:tP.length=tO) (ct:Tidy h) (tA:h.get a_=none):∀(k_:Nat) (fN:Int) (aW:List Int) (_:((bz ((bz t s.bl).2) (s.aN+1)).1) - fN≤(k_:Int)) (_:(((0:Int)≤1)∧(0≤fN∧((bz ((bz t s.bl).2) (s.aN+1)).1)≤161))) (x:Nat→AV) (hh:aw) (aA:Tidy hh) (ay:Has h hh) (ij:h.nx≤hh.nx) (iS:aW.length=324) (bh:hh.get a_=some (aH.cells (tP++zs .i64 aW++tQ) tE false)),cA (σ:=List Int) (ρ:=Unit) (cU (d+1)) T_ ⟨((AV.ptr a_ tO)::(x 1)::(Zi pieces)::rx x 3 4 ((Zi ((bz ((bz t s.bl).2) (s.aN+1)).1))::(Zi fN)::rx x 9 33 [])),hh,[],.no⟩ (.exit 0) hh (fun r z y=>((AV.ptr a_ tO)::(y 1)::(Zi pieces)::rx y 3 4 ((Zi ((bz ((bz t s.bl).2) (s.aN+1)).1))::rx y 8 34 []))) (fun r z y=>((AV.ptr a_ tO)::(y 1)::(Zi pieces)::rx y 3 4 ((Zi ((bz ((bz t s.bl).2) (s.aN+1)).1))::rx y 8 34 []))) (fun r z hk=>Has h hk∧hk.get a_=some (aH.cells (tP++zs .i64 r++tQ) tE false)∧r.length=324∧((0:Int)≤1)) (fun r z hk=>Has h hk) (Sum.inl (fw pieces t s k_ fN aW))
 | 0,fN,aW,gq,fV,x,hh,aA,ay,ij,iS,bh=>by
   have ji:=aA _ _ bh
   have q1:(decide (fN<((bz ((bz t s.bl).2) (s.aN+1)).1)))=false:=d!
   exact cA.out aW AV.undef rfl (pk (d+1) _ _ hh _ hh (CN 2<|VV (bO 3 false false .i64 fN ((bz ((bz t s.bl).2) (s.aN+1)).1))<|BB q1<|ZZ) k!) aA o! ⟨ay,bh,l!,(show ((0:Int)≤1) from o!)⟩ k!
 | cS+1,fN,aW,gq,fV,x,hh,aA,ay,ij,iS,bh=>by
   have ji:=aA _ _ bh
   have dR:=fun {al ps} (k:Pk al _ ps)=>(CN 2<|VV (bO 3 false false .i64 fN ((bz ((bz t s.bl).2) (s.aN+1)).1))<|k:Pk _ [] ps)
   rcases Bool.eq_false_or_eq_true (decide (fN<((bz ((bz t s.bl).2) (s.aN+1)).1))) with f0 | f0
   · have dx:=of_decide_eq_true f0
     have jL:bR env (some (.array 161 124)) (some (AV.ptr a_ (tO+0))) (some (Zi fN))=some (AV.ptr a_ ((tO+0)+fN.toNat*2)):=m7 (z:=2) (k:=fN.toNat) k! o! o!
     have ld3:aY env hh 3 (AV.ptr a_ (((tO+0)+fN.toNat*2)+1))=some (Zi (aW.g (fN.toNat*2+1))):=(gQ (j:=(fN.toNat*2+1)) (o:=tO) k! bh o! l! o!)
     have U_:bR env (some (.array 161 124)) (some (AV.ptr a_ (tO+0))) (some (Zi fN))=some (AV.ptr a_ ((tO+0)+fN.toNat*2)):=m7 (z:=2) (k:=fN.toNat) k! o! o!
     obtain ⟨h5,aeE,aeF,ahH⟩:=yQ (t:=3) (j:=(fN.toNat*2+1)) (x:=((tO+0)+fN.toNat*2)+1) (o:=tO) (v:=(IntKind.i64.wrap ((aW.g (fN.toNat*2+1))+pieces))) aA k! bh o! l! o!
     have kK:=aeF.1
     have akh:(aW.set (fN.toNat*2+1) (IntKind.i64.wrap ((aW.g (fN.toNat*2+1))+pieces))).g 0=aW.g 0:=bj o! _
     have ahI:(aW.set (fN.toNat*2+1) (IntKind.i64.wrap ((aW.g (fN.toNat*2+1))+pieces))).g 322=aW.g 322:=bj o! _
     have ahJ:(aW.set (fN.toNat*2+1) (IntKind.i64.wrap ((aW.g (fN.toNat*2+1))+pieces))).g 323=aW.g 323:=bj o! _
     have gE:Has h h5:=jz aeF ay Ax
     have w6:IntKind.i64.wrap (fN+1)=fN+1:=wrap_i64 o! o!
     exact cA.round (congrArg Sum.inl (by simp only[fw,f0,cond_true,cond_false])) (pk (d+1) _ _ hh _ h5 (dR<|BB f0<|CN 4<|VV jL<|CC<|MM ld3<|CN 4<|VV U_<|CC<|SS aeE<|HH ld3<|HH (show AV.same 20 (Zi (aW.g (fN.toNat*2+1))) (Zi (aW.g (fN.toNat*2+1)))=true from aK 19 _ _)<|CC<|VV (rn 3 false true w6)<|CC<|ZZ) k!) o! _ k! (fun x=>FM tO pieces t s tP tQ tE a_ fW fq hH ly mw l8 mO ct tA cS (fN+1) (aW.set (fN.toNat*2+1) (IntKind.i64.wrap ((aW.g (fN.toNat*2+1))+pieces))) o! (show (((0:Int)≤1)∧(0≤(fN+1)∧((bz ((bz t s.bl).2) (s.aN+1)).1)≤161)) from o!) x h5 kK gE o! l! aeF.2.1)
   · have dx:=of_decide_eq_false f0
     exact cA.out aW AV.undef (congrArg Sum.inl (by simp only[fw,f0,cond_true,cond_false])) (pk (d+1) _ _ hh _ hh (dR<|BB f0<|ZZ) k!) aA o! ⟨ay,bh,l!,(show ((0:Int)≤1) from o!)⟩ k!
def eS (t:List Int) (s:Span) (pieces:Int):List Int:=(bif (decide (s.aN<s.bl)) then t else (fw pieces t s (((bz ((bz t s.bl).2) (s.aN+1)).1) -((bz t s.bl).1)).toNat ((bz t s.bl).1) ((bz ((bz t s.bl).2) (s.aN+1)).2)))
theorem R' {d:Nat} {h hh:aw} {tB tO:Nat} {tP tQ:List AV} {tE:TypeId} (t:List Int) (s:Span) (pieces:Int) (sU:aG.ok h s) (Aq:hh.get tB=some (aH.cells (tP++zs .i64 t++tQ) tE false)) (aeB:tP.length=tO) (aeC:t.length=324) (p_t:h.get tB=none) (nE:1≤t.g 322) (qI:t.g 322≤159) (yS:t.g 0=0) (Ar:0≤s.bl) (DJ:s.aN≤100000000) (ct:Tidy h) (aA:Tidy hh) (ay:Has h hh) (ij:h.nx≤hh.nx):∃hk,cU (d+2) (.fn 50) [(AV.ptr tB tO),(AV.agg [(Zi s.bl),(Zi s.aN)]),(Zi pieces)] hh= .ret (AV.tuple []) hk∧Tidy hk∧hh.nx≤hk.nx∧Has h hk∧hk.get tB=some (aH.cells (tP++zs .i64 (eS t s pieces)++tQ) tE false)∧(eS t s pieces).length=324:=by
 have T_t:=aA _ _ Aq
 obtain ⟨h1,dH,cP,kr,bk,bW⟩:=kh aA (aH.cells [(Zi s.bl),(Zi s.aN)] 70 false)
 have bB:Has h h1:=ay.trans bW
 have hI:=fun {al ps} (k:Pk al _ ps)=>(NN dH (fun i=>(Pt i))<|CC<|MM (aI 3 0 (Zi s.bl) bk k!)<|CC<|MM (aI 3 1 (Zi s.aN) bk k!)<|VV (dw 3 false false .i64 s.bl s.aN)<|k:Pk _ [] ps)
 rcases Bool.eq_false_or_eq_true (decide (s.aN<s.bl)) with f0 | f0
 · have dx:=of_decide_eq_true f0
   have e:eS t s pieces=t:=by simp only[eS,f0,cond_true,cond_false]
   rw[e]
   exact fU rfl (aZ Tryz.func50 R_ rfl (.inr rfl) (pk (d+1) _ _ hh _ h1 (hI<|BB f0<|ZZ) k!) k!) aA cP o! ⟨bB,(bW _ _ Aq),l!⟩ (fun q=>⟨ay,cK q Aq (bW _ _ Aq),l!⟩)
 · have dx:=of_decide_eq_false f0
   have w3:IntKind.i64.wrap (s.aN+1)=s.aN+1:=wrap_i64 o! o!
   obtain ⟨hw4,ahK,aki,aeG,aeH,Xn⟩:=dO cP (bW _ _ Aq)
   have ahL:Has h hw4:=bM bB Ax Xn
   obtain ⟨h5,akj,kK,tC,Sa,Xo,aeI⟩:=R9 (d:=d) (h:=hw4) (tO:=tO) t s.bl (bW _ _ Aq) o! l! aeG oI oI oI oI ahK cP aeH o!
   have alT:=Aw t s.bl o! o! o! o! o!
   have gE:Has h h5:=(ahL.trans Sa)
   obtain ⟨hw6,Nu,Xp,FN,FP,ru⟩:=dO kK Xo
   have Nv:Has h hw6:=bM gE Ax ru
   obtain ⟨h7,akk,eO,HL,se,aeJ,PT⟩:=R9 (d:=d) (h:=hw6) (tO:=tO) ((bz t s.bl).2) (s.aN+1) Xo o! l! FN oI oI oI oI Nu kK FP o!
   have alU:=Aw ((bz t s.bl).2) (s.aN+1) o! o! o! o! o!
   have du:Has h h7:=(Nv.trans se)
   obtain ⟨amo,yl8,h9,tD,pF,KQ,FQ,Xq,Xr,ai8⟩:=cA.n rfl (FM (d:=d) (h:=h) tO pieces t s tP tQ tE tB sU o! o! o! o! o! o! ct Ax (((bz ((bz t s.bl).2) (s.aN+1)).1) -((bz t s.bl).1)).toNat ((bz t s.bl).1) ((bz ((bz t s.bl).2) (s.aN+1)).2) o! (show (((0:Int)≤1)∧(0≤((bz t s.bl).1)∧((bz ((bz t s.bl).2) (s.aN+1)).1)≤161)) from o!) (fun k_=>(((AV.ptr tB tO)::(AV.agg [(Zi s.bl),(Zi s.aN)])::(Zi pieces)::AV.undef::(Pt hh.nx)::AV.undef::(Zi ((bz t s.bl).1))::(Zi ((bz ((bz t s.bl).2) (s.aN+1)).1))::(Zi ((bz t s.bl).1))::(Pt hh.nx)::(Zi s.bl)::(AV.ptr hh.nx 1)::(Zi s.aN)::(AV.bool (decide (s.aN<s.bl)))::(AV.ptr tB tO)::(Pt hh.nx)::(Zi s.bl)::(Zi ((bz t s.bl).1))::(AV.ptr tB tO)::(AV.ptr hh.nx 1)::(Zi s.aN)::(Zi (s.aN+1))::(Zi ((bz ((bz t s.bl).2) (s.aN+1)).1))::(Zi ((bz t s.bl).1))::lk 18):List AV).getD k_ AV.undef) h7 eO du o! l! aeJ)
   have my:Has h h9:=FQ
   have e:eS t s pieces=(fw pieces t s (((bz ((bz t s.bl).2) (s.aN+1)).1) -((bz t s.bl).1)).toNat ((bz t s.bl).1) ((bz ((bz t s.bl).2) (s.aN+1)).2)):=by simp only[eS,f0,cond_true,cond_false]
   rw[e]
   exact fU rfl (aZ Tryz.func50 R_ rfl (.inl rfl) (pk (d+1) _ _ hh _ h9 (hI<|BB f0<|CN 2<|MM (aI 3 0 (Zi s.bl) bk k!)<|CN 2<|MM (aI 3 1 (Zi s.aN) bk k!)<|VV (rn 3 false true w3)<|EE akj<|EE akk<|CN 2<|HH (aI 3 0 (Zi s.bl) bk k!)<|HH (show AV.same 20 (Zi s.bl) (Zi s.bl)=true from aK 19 _ _)<|HH (aI 3 1 (Zi s.aN) bk k!)<|HH (show AV.same 20 (Zi s.aN) (Zi s.aN)=true from aK 19 _ _)<|HH (aI 3 1 (Zi s.aN) (Sa _ _ ((Xn _ o!).trans bk)) k!)<|HH (show AV.same 20 (Zi s.aN) (Zi s.aN)=true from aK 19 _ _)<|CN 2<|LL tD<|ZZ) k!) k!) aA pF o! ⟨my,Xq,l!⟩ (fun q=>⟨ay,cK q Aq Xq,l!⟩)
def fit (l:List Int):List Int:=(l++List.replicate 324 0).take 324
theorem xn (l:List Int):(fit l).length=324:=by
 rw[fit,List.length_take,List.length_append,List.length_replicate];omega
theorem tF {l:List Int} (h:l.length=324):fit l=l:=by
 rw[fit,←h,List.take_left'];rfl
structure Tl where
 l:List Int
def kL (L:List Tl):List AV:=L.flatMap fun t=>zs .i64 (fit t.l)
instance:Inhabited Tl:=⟨⟨[]⟩⟩
theorem Sb (t:Tl):(zs .i64 (fit t.l)).length=324:=by rw[fZ,xn]
theorem Xs (L:List Tl):(kL L).length=L.length*324:=ew Sb L
theorem Ay (a b:List Tl):kL (a++b)=kL a++kL b:=List.flatMap_append ..
theorem FR {L:List Tl} {i:Nat} (h:i<L.length):kL L=kL (L.take i)++zs .i64 (fit (L.g i).l)++kL (L.drop (i+1))∧(kL (L.take i)).length=i*324:=by
 constructor
 · have e:L=L.take i++[L.g i]++L.drop (i+1):=by
    have hg:L.g i=L[i]:=by rw[List.g,List.getD_eq_getElem?_getD,List.getElem?_eq_getElem h];rfl
    rw[hg,List.append_assoc,List.singleton_append,←List.drop_eq_getElem_cons h,List.take_append_drop]
   rw[congrArg kL e,Ay,Ay]
   rw[show kL [L.g i]=zs .i64 (fit (L.g i).l) from List.append_nil _]
 · rw[Xs,List.length_take,Nat.min_eq_left (Nat.le_of_lt h)]
theorem Xt {L:List Tl} {i:Nat} (h:i<L.length) {t:List Int} (ht:t.length=324):kL (L.set i ⟨t⟩)=kL (L.take i)++zs .i64 t++kL (L.drop (i+1)):=by
 have e:L.set i ⟨t⟩=L.take i++[⟨t⟩]++L.drop (i+1):=by rw[List.set_eq_take_append_cons_drop,if_pos h];simp
 rw[e,Ay,Ay]
 rw[show kL [⟨t⟩]=zs .i64 (fit t) from List.append_nil _,tF ht]
theorem Sc {h:aw} {b i:Nat} {L:List Tl} {e:TypeId} {ro:Bool} (hg:h.get b=some (.cells (kL L) e ro)) (hi:i<L.length):h.get b=some (.cells (kL (L.take i)++zs .i64 (fit (L.g i).l)++kL (L.drop (i+1))) e ro):=by
 rw[hg,(FR hi).1]
theorem Xu {h:aw} {b i:Nat} {L:List Tl} {e:TypeId} {ro:Bool} {t:List Int} (hi:i<L.length) (ht:t.length=324) (hg:h.get b=some (.cells (kL (L.take i)++zs .i64 t++kL (L.drop (i+1))) e ro)):h.get b=some (.cells (kL (L.set i ⟨t⟩)) e ro):=by
 rw[hg,Xt hi ht]
theorem Ua {L:List Tl} {i:Nat} {t:Tl} (h:i<L.length):(L.set i t).g i=t:=by
 rw[List.g,List.getD_eq_getElem?_getD,List.getElem?_set_self h];rfl
theorem Cc {L:List Tl} {i j:Nat} (h:i≠j) (t:Tl):(L.set i t).g j=L.g j:=by
 rw[List.g,List.g,List.getD_eq_getElem?_getD,List.getD_eq_getElem?_getD,List.getElem?_set_ne h]
def bsl (e:TypeId) (L:List Int):Option (aH×(Nat→AV)):=match pO (fun i=>some (i*324,324)) (bP (zs .i64 (List.replicate 324 0)) 1) [(0,AV.agg (zs .i64 L))] with
 | some cs=>some (.cells cs e false,fun i=> .slice i 0 1 1 false)
 | none=>none
theorem aeK {e:TypeId} {L:List Int} (h:L.length=324):bsl e L=some (.cells (zs .i64 L) e false,fun i=> .slice i 0 1 1 false):=by
 have hr:bP (zs .i64 (List.replicate 324 0)) 1=[]++zs .i64 (List.replicate 324 0)++[]:=by
  rw[List.nil_append];rfl
 have hc:(AV.agg (zs .i64 L)).cells=zs .i64 L:=rfl
 have hs:=qR [] [] L (List.replicate 324 0) 0 (by rw[List.length_replicate,h];exact Nat.le_refl _)
 have hf:pO (fun i=>some (i*324,324)) (bP (zs .i64 (List.replicate 324 0)) 1) [(0,AV.agg (zs .i64 L))]=some (zs .i64 L):=by
  rw[hr]
  simp only[pO,hc,fZ,h]
  rw[if_pos ⟨trivial,by simp [fZ]⟩,show 0*324=List.length ([]:List AV)+0 from rfl,hs]
  simp [h]
 rw[bsl,hf]
theorem PU {h:aw} {b t:Nat} {e:TypeId} {C:List AV} {L:List Int} (y:Tidy h) (hs:b7 env t=some 324) (hg:h.get b=some (.cells C e false)) (hC:C.length=324) (hL:L.length=324):∃(P Q:List AV) (h':aw),dW env h t (.ptr b 0) (.agg (zs .i64 L))=some h'∧KA h h' b (.cells (P++zs .i64 L++Q) e false)∧h'.nx=h.nx∧P.length=0:=by
 refine ⟨[],[],?_⟩
 obtain ⟨h',s⟩:=r5 (E:=env) (t:=t) (o:=0) (n:=324) (v:= .agg (zs .i64 L)) hg hs (by show (zs .i64 L).length=324;rw[fZ,hL]) o! (xm L)
 have q:=oE s hg
 have c:=kE (o:= .cells ([]++zs .i64 L++[]) e false) y hg
 have e2:setFrom C 0 (AV.agg (zs .i64 L)).cells=[]++zs .i64 L++[]:=by
  show setFrom C 0 (zs .i64 L)=_
  rw[List.nil_append,List.append_nil]
  apply List.ext_getElem?
  intro k
  rw[jK,fZ]
  by_cases hk:k<324
  · rw[if_pos ⟨by omega,by omega,by omega⟩,Nat.sub_zero]
  · rw[if_neg o!,List.getElem?_eq_none o!,List.getElem?_eq_none (by rw[fZ];omega)]
 rw[e2] at q
 subst q
 exact ⟨_,s,c,rfl,rfl⟩
theorem Ub {h:aw} {b t:Nat} {e:TypeId} {ro:Bool} {P Q:List AV} {L:List Int} (ha:fY env t=some true) (hs:b7 env t=some 324) (hg:h.get b=some (.cells (P++zs .i64 L++Q) e ro)) (hP:P.length=0) (hL:L.length=324):aY env h t (.ptr b 0)=some (.agg (zs .i64 L)):=by
 have:P=[]:=List.length_eq_zero_iff.1 hP
 subst this
 simp only[aY,hg,jq,ha,hs]
 rw[if_pos (by simp [fZ];omega)]
 rw[List.nil_append,List.drop_zero,List.take_append_of_le_length (by rw[fZ];omega),List.take_of_length_le (by rw[fZ];omega)]
instance:aG Tl:={toInhabited:=inferInstance,c:=fun t=>zs .i64 (fit t.l),n:=324,e:=127,len:=Sb,ok:=fun _ _=>True,mono:=fun _ o=>o,size:=by kernel_rfl,agg:=by kernel_rfl,pos:=by decide}
def nG (g h:aw) (z:AV) (L:List Tl):Prop:=(z= .aD∧L=[])∨(L≠ []∧∃p op,z= .slice p 0 L.length L.length op∧g.nx≤p∧h.get p=some (.cells (kL L) 127 false))
theorem nG.abl {g h:aw} {s xt b:TypeId} {tys:Array TypeId} {bytes:Nat} {z0 z:AV} {L:List Tl} {t:List Int} {e:TypeId} {ro op:Bool} (y:Tidy h) (hle:g.nx≤h.nx) (o:nG g h z L) (hg:h.get b=some (.cells (zs .i64 t) e ro)) (ht:t.length=324) (hl:L.length≤1000)
 (t0:tys[0]? =some s) (t1:tys[1]? =some xt) (hs:env.P.underlying s=some (.slice 127)) (hx:env.P.underlying xt=some (.slice 127)) (hb:jT env 127=some bytes) (DH:g5 env 127=some z0) (hz:z0.cells.length=324) (h8:bytes≤4095):
 ∃z' h',di env h tys z (.slice b 0 1 1 op)=some (z',h')∧Tidy h'∧h.nx≤h'.nx∧(∀i w,i<g.nx→h.get i=some w→h'.get i=some w)∧nG g h' z' (L++[⟨t⟩]):=by
 let he:aw:=⟨HT.nil,g.nx,fun _=>none⟩
 have hen:∀i,he.get i=none:=fun i=>RX i g.nx
 have ye:Tidy he:=fun i x q=>by rw[hen] at q;cases q
 have ae:Has he h:=fun i x q=>by rw[hen] at q;cases q
 have oe:nQ he h z L:=o.imp (fun q=>⟨.inl q.1,q.2⟩) id
 have hc:aG.c (⟨t⟩:Tl)=zs .i64 t:=congrArg (zs .i64) (tF ht)
 obtain ⟨z',h',a1,a2,a3,a4,a5,a6⟩:=nQ.ahB (α:=Tl) (N:=2000) (m:=[⟨t⟩]) (x:= .slice b 0 1 1 op) y ye ae hle oe rfl (FD (x:=(⟨t⟩:Tl)) (by rw[hc];exact hg)) (by rw[List.flatMap_cons,List.flatMap_nil,List.append_nil,hc];exact xm t) (by simp;omega) t0 t1 hs hx hb DH hz (fun k hk=>Nat.le_trans (Nat.mul_le_mul (show 4*k+4096≤20000 by omega) (show bytes+1≤4096 by omega)) (by decide))
 refine ⟨z',h',a1,a2,a3,fun i w hi q=>a6 i w (fun p n c b e=>?_) q,?_⟩
 · rcases o with ⟨rfl,_⟩ | ⟨_,p',op',rfl,h1,_⟩
   · cases e
   · have:=(AV.slice.inj e).1;omega
 · rcases a5 with ⟨_,e⟩ | q
   · simp at e
   · exact .inr q
theorem nG.has {g h h':aw} {z:AV} {L:List Tl} (o:nG g h z L) (a:Has h h'):nG g h' z L:=o.imp id fun ⟨hn,p,op,e,h1,q⟩=>⟨hn,p,op,e,h1,a _ _ q⟩
theorem nG.kept {g h h':aw} {z:AV} {L:List Tl} {b:Nat} (o:nG g h z L) (c:Kept b h h') (hb:b<g.nx):nG g h' z L:=o.imp id fun ⟨hn,p,op,e,h1,q⟩=>⟨hn,p,op,e,h1,c _ _ o! q⟩
theorem nG.scalar {g h:aw} {z:AV} {L:List Tl} (o:nG g h z L):AV.scalar z=true:=by
 rcases o with ⟨rfl,_⟩ | ⟨hn,p,op,rfl,h1,q⟩<;>rfl
theorem nG.block {g h:aw} {z:AV} {L:List Tl} (o:nG g h z L) (hL:0<L.length):∃p op,z= .slice p 0 L.length L.length op∧g.nx≤p∧h.get p=some (.cells (kL L) 127 false):=by
 rcases o with ⟨_,rfl⟩ | ⟨_,p,op,e,h1,q⟩
 · simp at hL
 · exact ⟨p,op,e,h1,q⟩
theorem nG.akm {g h:aw} {z:AV} {L:List Tl} (o:nG g h z L) (hL:L.length=0):z= .aD:=by
 rcases o with ⟨e,_⟩ | ⟨hn,_⟩
 · exact e
 · exact absurd (List.length_eq_zero_iff.1 hL) hn
def Az (c:Int) (t:Tl):Prop:=1≤(fit t.l).g 322∧(fit t.l).g 322≤c∧(fit t.l).g 0=0
theorem Az.le {c c':Int} {t:Tl} (h:Az c t) (hc:c≤c'):Az c' t:=⟨h.1,Int.le_trans h.2.1 hc,h.2.2⟩
end Go.Proofs.aJ
