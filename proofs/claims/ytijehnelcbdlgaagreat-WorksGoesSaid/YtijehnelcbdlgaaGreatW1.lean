import Derived.Test.YtijehnelcbdlgaaGreatW0
namespace Go.Proofs.aM
open Go.Proofs Ab
noncomputable section
set_option maxRecDepth 100000
set_option maxHeartbeats 4000000
set_option linter.unusedVariables false
set_option linter.unusedSimpArgs false
section
variable {h:az} {b:Nat} {pre post:List AV} {L:List Int} {e:TypeId} {ro:Bool} {o t j x:Nat}
theorem Of (L:List Int) (pre post:List AV) {j:Nat} (hj:j<L.length):(pre++zs .i64 L++post)[pre.length+j]? =some (.int .i64 (L.g j)):=by
 rw[List.getElem?_append_left (by rw[List.length_append,fS];omega),List.getElem?_append_right o!,show pre.length+j - pre.length=j by omega]
 exact IZ .i64 L hj
theorem gD (ht:jr env t=some false) (hg:h.get b=some (.cells (pre++zs .i64 L++post) e ro)) (ho:pre.length=o) (hj:j<L.length) (hx:x=o+j):cX env h t (.ptr b x)=some (.int .i64 (L.g j)):=by
 subst hx;subst ho
 simp only[cX,hg,nG,ht]
 exact Of L pre post hj
theorem ajJ {cs:List AV} {k:Nat} {a c:AV} (h1:cs[k]? =some a) (h2:cs[k+1]? =some c):(cs.drop k).take 2=[a,c]:=by
 have l2:=(List.getElem?_eq_some_iff.1 h2).1
 apply List.ext_getElem?
 intro i
 match i with
 | 0=>rw[List.getElem?_take_of_lt o!,List.getElem?_drop];exact h1
 | 1=>rw[List.getElem?_take_of_lt o!,List.getElem?_drop];exact h2
 | i+2=>rw[List.getElem?_eq_none (by rw[List.length_take];omega),List.getElem?_eq_none (by simp)]
theorem MF (ht:jr env t=some true) (hs:dm env t=some 2) (hg:h.get b=some (.cells (pre++zs .i64 L++post) e ro)) (ho:pre.length=o) (hj:j+1<L.length) (hx:x=o+j):cX env h t (.ptr b x)=some (.agg [.int .i64 (L.g j),.int .i64 (L.g (j+1))]):=by
 subst hx;subst ho
 have h1:=Of L pre post (j:=j) o!
 have h2:=Of L pre post (j:=j+1) hj
 have l2:=(List.getElem?_eq_some_iff.1 h2).1
 simp only[cX,hg,nG,ht,hs]
 rw[if_pos o!,ajJ h1 h2]
theorem o7 {n el z:Nat} {i:Int} {k:Nat} (hs:dm env el=some z) (hi:k<n) (hk:i=(k:Int)):hG env (some (.array n el)) (some (.ptr b o)) (some (.int .i64 i))=some (.ptr b (o+k*z)):=by
 subst hk
 simp only[hG,hs]
 rw[if_pos ⟨by omega,by omega⟩,Int.toNat_natCast]
theorem HM (L:List Int) (pre post:List AV) {j:Nat} (hj:j<L.length) (v:Int):setFrom (pre++zs .i64 L++post) (pre.length+j) [.int .i64 v]=pre++zs .i64 (L.set j v)++post:=by
 show (pre++zs .i64 L++post).set (pre.length+j) (.int .i64 v)=_
 rw[List.set_append_left _ _ (by rw[List.length_append,fS];omega),List.set_append_right _ _ o!,show pre.length+j - pre.length=j by omega,abC]
theorem Bq {v:Int} (y:Tidy h) (hs:dm env t=some 1) (hg:h.get b=some (.cells (pre++zs .i64 L++post) e false)) (ho:pre.length=o) (hj:j<L.length) (hx:x=o+j):∃h',eS env h t (.ptr b x) (.int .i64 v)=some h'∧Ll h h' b (.cells (pre++zs .i64 (L.set j v)++post) e false)∧h'.nx=h.nx:=by
 subst hx;subst ho
 obtain ⟨h',s⟩:=vb (E:=env) (t:=t) (o:=pre.length+j) (n:=1) (v:= .int .i64 v) hg hs rfl (by rw[List.length_append,List.length_append,fS];omega) rfl
 have q:=qD s hg
 have c:=jL (o:= .cells (pre++zs .i64 (L.set j v)++post) e false) y hg
 rw[show (AV.int IntKind.i64 v).cells=[.int .i64 v] from rfl,HM L pre post hj] at q
 subst q
 exact ⟨_,s,c,rfl⟩
theorem CP {n c el z:Nat} {op:Bool} {i:Int} {k:Nat} (hs:dm env el=some z) (hi:k<n) (hk:i=(k:Int)):hG env (some (.slice el)) (some (.slice b o n c op)) (some (.int .i64 i))=some (.ptr b (o+k*z)):=by
 subst hk;exact mo hs hi
theorem Gt {e N hi:Nat} {hh:Int} {size:Nat} (ht:env.P.underlying t=some (.array N e)) (hs:dm env e=some size) (h1:hh=(hi:Nat)) (h2:hi≤N):iY env t (.ptr b o) none (some (.int .i64 hh)) none=some (.slice b o hi N false):=by
 subst h1
 simp only[iY,ht,hs,vc (len:=N) (cap:=N) (lo:=0) none (some (.int .i64 (hi:Nat))) (.inr ⟨rfl,rfl⟩) (.inl rfl) (Nat.zero_le _) h2]
 simp
theorem Br {e N lo hi z:Nat} {ll hh:Int} (ht:env.P.underlying t=some (.array N e)) (hs:dm env e=some z) (h0:ll=(lo:Nat)) (h1:hh=(hi:Nat)) (h2:lo≤hi∧hi≤N) (h3:lo<N):iY env t (.ptr b o) (some (.int .i64 ll)) (some (.int .i64 hh)) none=some (.slice b (o+lo*z) (hi - lo) (N - lo) false):=by
 subst h0;subst h1
 simp only[iY,ht,hs,vc (len:=N) (cap:=N) (some (.int .i64 (lo:Nat))) (some (.int .i64 (hi:Nat))) (.inl rfl) (.inl rfl) h2.1 h2.2]
 rw[if_neg o!]
theorem Rf {e N z:Nat} {ll hh:Int} (ht:env.P.underlying t=some (.array N e)) (hs:dm env e=some z) (h0:ll=(N:Nat)) (h1:hh=(N:Nat)):iY env t (.ptr b o) (some (.int .i64 ll)) (some (.int .i64 hh)) none=some (.slice b o 0 0 false):=by
 subst h0;subst h1
 simp only[iY,ht,hs,vc (len:=N) (cap:=N) (some (.int .i64 (N:Nat))) (some (.int .i64 (N:Nat))) (.inl rfl) (.inl rfl) (jR _) (jR _)]
 simp only[if_true,Nat.sub_self]
theorem I3 {v w:Int} (y:Tidy h) (hs:dm env t=some 2) (hg:h.get b=some (.cells (pre++zs .i64 L++post) e false)) (ho:pre.length=o) (hj:j+1<L.length) (hx:x=o+j):∃h',eS env h t (.ptr b x) (.agg [.int .i64 v,.int .i64 w])=some h'∧Ll h h' b (.cells (pre++zs .i64 ((L.set j v).set (j+1) w)++post) e false)∧h'.nx=h.nx:=by
 subst hx;subst ho
 obtain ⟨h',s⟩:=vb (E:=env) (t:=t) (o:=pre.length+j) (n:=2) (v:= .agg [.int .i64 v,.int .i64 w]) hg hs rfl (by rw[List.length_append,List.length_append,fS];omega) rfl
 have q:=qD s hg
 have c:=jL (o:= .cells (pre++zs .i64 ((L.set j v).set (j+1) w)++post) e false) y hg
 have e2:setFrom (pre++zs .i64 L++post) (pre.length+j) (AV.agg [.int .i64 v,.int .i64 w]).cells=pre++zs .i64 ((L.set j v).set (j+1) w)++post:=by
  show setFrom ((pre++zs .i64 L++post).set (pre.length+j) (.int .i64 v)) (pre.length+j+1) [.int .i64 w]=_
  have h1:=HM L pre post (j:=j) o! v
  rw[show setFrom (pre++zs .i64 L++post) (pre.length+j) [.int .i64 v]=(pre++zs .i64 L++post).set (pre.length+j) (.int .i64 v) from rfl] at h1
  rw[h1,Nat.add_assoc,HM (L.set j v) pre post (j:=j+1) (by rw[List.length_set];exact hj) w]
 rw[e2] at q
 subst q
 exact ⟨_,s,c,rfl⟩
def bG (L:List Int) (d s n:Nat):List Int:=if d+n≤L.length∧s+n≤L.length then L.take d++(L.drop s).take n++L.drop (d+n) else L
theorem dQ (L:List Int) (d s n:Nat):(bG L d s n).length=L.length:=by
 unfold bG
 split
 · simp only[List.length_append,List.length_take,List.length_drop];omega
 · rfl
theorem aga {L:List Int} {j:Nat} (hj:j<L.length) (v:Int):(L.set j v).take (j+1)=L.take j++[v]∧∀k,j<k→(L.set j v).drop k=L.drop k:=by
 constructor
 · apply List.ext_getElem?
   intro i
   by_cases h1:i<j
   · rw[List.getElem?_take_of_lt o!,List.getElem?_set_ne o!,List.getElem?_append_left (by rw[List.length_take];omega),List.getElem?_take_of_lt h1]
   · by_cases h2:i=j
     · subst h2
       rw[List.getElem?_take_of_lt o!,List.getElem?_set_self hj,List.getElem?_append_right (by rw[List.length_take];omega)]
       rw[List.length_take,show i - min i L.length=0 by omega];rfl
     · rw[List.getElem?_eq_none (by rw[List.length_take];omega),List.getElem?_eq_none (by simp;omega)]
 · intro k hk
   apply List.ext_getElem?
   intro i
   rw[List.getElem?_drop,List.getElem?_drop,List.getElem?_set_ne o!]
theorem yE (pre post:List AV):∀(M L:List Int) (j:Nat),j+M.length≤L.length→setFrom (pre++zs .i64 L++post) (pre.length+j) (zs .i64 M)=pre++zs .i64 (L.take j++M++L.drop (j+M.length))++post
 | [],L,j,h=>by
  rw[List.append_nil,List.length_nil,Nat.add_zero,List.take_append_drop];rfl
 | v::M,L,j,h=>by
  rw[List.length_cons] at h
  have h1:=HM L pre post (j:=j) o! v
  show setFrom ((pre++zs .i64 L++post).set (pre.length+j) (.int .i64 v)) (pre.length+j+1) (zs .i64 M)=_
  rw[show (pre++zs .i64 L++post).set (pre.length+j) (.int .i64 v)=pre++zs .i64 (L.set j v)++post from h1,Nat.add_assoc,yE pre post M (L.set j v) (j+1) (by rw[List.length_set];omega)]
  obtain ⟨c1,c2⟩:=aga (show j<L.length by omega) v
  rw[c1,c2 _ o!,List.length_cons,show j+1+M.length=j+(M.length+1) by omega]
  have:L.take j++[v]++M++L.drop (j+(M.length+1))=L.take j++v::M++L.drop (j+(M.length+1)):=by simp
  rw[this]
theorem abH (L:List Int) (pre post:List AV) {j n:Nat} (h:j+n≤L.length):((pre++zs .i64 L++post).drop (pre.length+j)).take n=zs .i64 ((L.drop j).take n):=by
 rw[List.append_assoc,List.drop_append,show pre.length+j - pre.length=j by omega,List.drop_of_length_le (show pre.length≤pre.length+j by omega),List.nil_append,List.drop_append,List.take_append]
 rw[show n -((zs .i64 L).drop j).length=0 by rw[List.length_drop,fS];omega,List.take_zero,List.append_nil]
 rw[zs,zs,←List.map_drop,←List.map_take]
theorem fk {l:List Int} {i:Nat} {x:Int} (h:i<l.length):(l.set i x).g i=x:=by
 rw[List.g,List.getD_eq_getElem?_getD,List.getElem?_set_self h];rfl
theorem bk {l:List Int} {i j:Nat} (h:i≠j) (x:Int):(l.set i x).g j=l.g j:=by
 rw[List.g,List.g,List.getD_eq_getElem?_getD,List.getD_eq_getElem?_getD,List.getElem?_set_ne h]
theorem hI {L:List Int} {d s n k:Nat} (h:k<d∨d+n≤k):(bG L d s n).g k=L.g k:=by
 unfold bG
 split
 · rename_i q
   rw[List.g,List.g,List.getD_eq_getElem?_getD,List.getD_eq_getElem?_getD]
   rcases h with h | h
   · rw[List.append_assoc,List.getElem?_append_left (by rw[List.length_take];omega),List.getElem?_take_of_lt h]
   · have e:(L.take d++(L.drop s).take n).length=d+n:=by rw[List.length_append,List.length_take,List.length_take,List.length_drop];omega
     rw[List.getElem?_append_right o!,e,List.getElem?_drop,show d+n+(k -(d+n))=k by omega]
 · rfl
theorem yF {t:List Int} {v mqn c:Int} (hv:0<v) (i1:v≤c) (hm:mqn≤t.g ((Int.toNat (v - 1))*2)):0≤v - 1∧v - 1≤c∧(v - 1=0→mqn≤t.g 0):=
 ⟨by omega,by omega,fun h=>by rw[h] at hm;exact hm⟩
theorem zR (l:List Int):(zs .i64 l).all AV.scalar=true:=List.all_eq_true.2 fun x hx=>by
 obtain ⟨y,_,rfl⟩:=List.mem_map.1 hx
 rfl
theorem Rg {et z nd ns cd cq xd xs jd js:Nat} {op oq:Bool} {dT:TypeId} {tys:Array TypeId} (y:Tidy h) (t0:tys[0]? =some dT) (ht:env.P.underlying dT=some (.slice et)) (hz:dm env et=some z) (hg:h.get b=some (.cells (pre++zs .i64 L++post) e false)) (ho:pre.length=o)
 (hd:jd+min ns nd*z≤L.length) (hs:js+min ns nd*z≤L.length) (ex:xd=o+jd) (ey:xs=o+js):∃h',L7 env h tys (.slice b xd nd cd op) (.slice b xs ns cq oq)=some (.int .i64 ((min ns nd:Nat):Int),h')∧Ll h h' b (.cells (pre++zs .i64 (bG L jd js (min ns nd*z))++post) e false)∧h'.nx=h.nx:=by
 subst ex;subst ey;subst ho
 have hl:(pre++zs .i64 L++post).length=pre.length+L.length+post.length:=by rw[List.length_append,List.length_append,fS]
 have new:=abH L pre post hs
 have lz:(zs .i64 ((L.drop js).take (min ns nd*z))).length=min ns nd*z:=by rw[fS,List.length_take,List.length_drop];omega
 have sf:=yE pre post ((L.drop js).take (min ns nd*z)) L jd (by rw[List.length_take,List.length_drop];omega)
 have hc:bG L jd js (min ns nd*z)=L.take jd++(L.drop js).take (min ns nd*z)++L.drop (jd+((L.drop js).take (min ns nd*z)).length):=by
  rw[bG,if_pos ⟨hd,hs⟩]
  congr 2
  rw[List.length_take,List.length_drop];omega
 have c:=jL (o:= .cells (pre++zs .i64 (bG L jd js (min ns nd*z))++post) e false) y hg
 refine ⟨_,?_,c,rfl⟩
 have hf:gJ h z (min ns nd) (.slice b (pre.length+js) ns cq oq)=some (zs .i64 ((L.drop js).take (min ns nd*z))):=by
  simp only[gJ,hg]
  rw[new,if_pos (Nat.min_le_left _ _)]
  split
  · rename_i h0;rw[h0,Nat.zero_mul];rfl
  · rw[if_pos o!]
 simp only[L7,t0,ht,sE,hz,hf,hg]
 rw[if_pos ⟨by rw[lz,hl];omega,zR _⟩,sf,hc]
theorem iZ {h:az} {b:Nat} (y:Tidy h) (n:h.nx≤b):h.get b=none:=by
 cases e:h.get b with
 | none=>rfl
 | some o=>have:=y _ _ e;omega
theorem kU {h0 h h':az} {b:Nat} {o:aN} (c:Ll h h' b o) (a:Has h0 h) (n:h0.get b=none):Has h0 h':=fun i x g=>c.2.2 i x (fun e=>by subst e;rw[n] at g;cases g) (a i x g)
theorem dI {h:az} {b:Nat} {o:aN} (y:Tidy h) (g:h.get b=some o):∃hw,Tidy hw∧hw.nx=h.nx∧hw.get b=none∧Has hw h∧∀i,i≠b→hw.get i=h.get i:=
 ⟨h.put b none,fun i x q=>by
  by_cases e:i=b
  · subst e;rw[az.cY] at q;cases q
  · rw[az.bQ (Ne.symm e)] at q;exact y i x q,rfl,az.cY _,fun i x q=>by
  by_cases e:i=b
  · subst e;rw[az.cY] at q;cases q
  · rw[az.bQ (Ne.symm e)] at q;exact q,fun i e=>az.bQ (Ne.symm e) _⟩
theorem bL {h0 h hw:az} {b:Nat} (a:Has h0 h) (n:h0.get b=none) (k:∀i,i≠b→hw.get i=h.get i):Has h0 hw:=fun i x g=>(k i (fun e=>by subst e;rw[n] at g;cases g)).trans (a i x g)
end
structure Mi where l:List (Int×Int)
instance:Inhabited Mi:=⟨⟨[]⟩⟩
def G':Code:=(Tryz.f91.body).getD .skip
theorem Og:Tryz.f91.body=some G':=by kernel_rfl
def dc (aI:Int):List Int:=(List.replicate 322 0++[1,aI])
theorem Oh {d:Nat} {h:az} (aI:Int) (bM:Tidy h):cA (d+1) (.fn 91) [(Zi aI)] h= .ret (AV.agg (zs .i64 (dc aI))) h:=by
 obtain ⟨h1,dw,de,jW,bx,ca⟩:=gQ bM (aN.cells (List.replicate 323 (Zi 0)++[(Zi 0)]) 156 false)
 have bD:=ca
 obtain ⟨h2,arx,mN,I4,ka,anJ⟩:=j_ (t:=156) (n:=324) (i:=h.nx) (L:=(List.replicate 322 (Zi 0)++[(Zi 1),(Zi aI)])) de bx k! rfl rfl k!
 have gm:=Has.bK bD anJ bM o!
 have e:dc aI=(List.replicate 322 0++[1,aI]):=by simp only[dc,ao,ai]
 rw[e]
 exact aG rfl (Gs (a:=2) (t:=156) (i:=h.nx) Tryz.func91 Og rfl (.inr rfl) (pk (d) _ _ h _ h2 (NN dw (fun i=>(Pt i))<|CN 2<|SS arx<|ZZ) k!) k! (IQ ka k!)) gm rfl
theorem ajK {t:List Int} {q mqn:Int} (f:(bif decide (q<t.g 322) then decide (t.g (Int.toNat q*2)=mqn) else false)=false) (hz:q=0) (hm:mqn≤t.g 0) (h0:t.g 0=0) (h1:0≤mqn) (h2:1≤t.g 322):False:=by
 rw[hz,eV (by omega:(0:Int)<t.g 322),ao] at f
 exact pK f (show t.g 0=mqn by omega)
theorem fM {p:Prop} (h:p:=by first | omega | (simp only[List.length_set,List.length_replicate,dQ]<;>omega) | exact hJ _ | exact ku a!):p:=h
theorem ve {p:Prop} (h:p:=by first | assumption | exact iZ bM o!):p:=h
def pU:Code:=(Tryz.f138.body).getD .skip
theorem Oi:Tryz.f138.body=some pU:=by kernel_rfl
def YM:Code:=(bl pU).getD 0 .skip
def YN:Code:=(kT pU).getD 4 .skip
def aZ (mqn:Int) (t:List Int):Nat→Int→Int
 | 0,eY=>eY
 | dx+1,eY=>(bif (decide (0<eY)) then (bif (decide (mqn≤(t.g ((eY - 1).toNat*2)))) then aZ mqn t dx (eY - 1) else eY) else eY)
theorem I5 {d:Nat} {h:az} (tO:Nat) (mqn:Int) (tP:List AV) (t:List Int) (tQ:List AV) (tE:TypeId) (bj:Nat) (fU:1≤t.g 322) (iB:t.g 322≤160) (mO:t.g 0=0) (nI:0≤mqn) (o8:tP.length=tO) (qF:t.length=324):∀(k_:Nat) (eY:Int) (_:(eY≤(k_:Int))) (_:(0≤eY∧eY≤t.g 322∧(eY=0→mqn≤t.g 0))) (x:Nat→AV) (hh:az) (aF:Tidy hh) (aA:Has h hh) (br:hh.get bj=some (aN.cells (tP++zs .i64 t++tQ) tE false)),cr (cA (d)) YM ⟨((AV.ptr bj tO)::(Zi mqn)::rx x 2 3 ((Zi eY)::rx x 6 82 [])),hh,[],.no⟩ (.exit 0) hh (fun r y=>((AV.ptr bj tO)::(Zi mqn)::rx y 2 3 ((Zi r)::rx y 6 82 []))) (fun r=>(0≤r∧r≤t.g 322∧(r=0→mqn≤t.g 0))) (aZ mqn t k_ eY)
 | 0,eY,eZ,du,x,hh,aF,aA,br=>by
  have q1:(decide (0<eY))=false:=d!
  exact cr.out eY rfl (pk (d) _ _ hh _ hh (CC<|VV (gz 3 false true .i64 eY 0)<|CC<|BB q1<|BB q1<|BB q1<|BB q1<|BB q1<|BB q1<|BB q1<|BB q1<|BB q1<|BV q1 (vd false q1)<|FF<|ZZ) k!) (Grow.refl aF) (show (0≤eY∧eY≤t.g 322∧(eY=0→mqn≤t.g 0)) from by first | exact du | exact yF ja du.2.1 eB | omega) k!
 | dx+1,eY,eZ,du,x,hh,aF,aA,br=>by
  have ei:=fun {al ps} (k:Pk al _ ps)=>(CC<|VV (gz 3 false true .i64 eY 0)<|CC<|k:Pk _ [] ps)
  rcases bu (decide (0<eY)) with f0 | f0
  · have ja:=jv f0
    have w2:IntKind.i64.wrap (eY - 1)=eY - 1:=wrap_i64 o! o!
    have oH:hG env (some (.array 161 153)) (some (AV.ptr bj (tO+0))) (some (Zi (eY - 1)))=some (AV.ptr bj ((tO+0)+(eY - 1).toNat*2)):=o7 (z:=2) (k:=(eY - 1).toNat) k! o! o!
    have ld4:cX env hh 3 (AV.ptr bj (((tO+0)+(eY - 1).toNat*2)+0))=some (Zi (t.g ((eY - 1).toNat*2))):=(gD (j:=(eY - 1).toNat*2) (o:=tO) k! br o! fM o!)
    have gK:=fun {al ps} (k:Pk al _ ps)=>(ei<|BC f0<|BC f0<|BV f0 (Aj 3 false true w2)<|BC f0<|BC f0<|BV f0 oH<|BC f0<|BM f0 ld4<|BC f0<|BV f0 (tA 3 false false .i64 (t.g ((eY - 1).toNat*2)) mqn)<|VV (tp (decide (mqn≤(t.g ((eY - 1).toNat*2)))) false f0)<|k:Pk _ [] ps)
    rcases bu (decide (mqn≤(t.g ((eY - 1).toNat*2)))) with f1 | f1
    · have eB:=jv f1
      have w6:IntKind.i64.wrap (eY - 1)=eY - 1:=wrap_i64 o! o!
      exact cr.round (by simp only[aZ,f0,f1,ao,ai]) (pk (d) _ _ hh _ hh (gK<|BC f1<|VV (Aj 3 false true w6)<|CC<|ZZ) k!) (Grow.refl aF) _ k! (fun x=>I5 tO mqn tP t tQ tE bj fU iB mO nI o8 qF dx (eY - 1) o! (show (0≤(eY - 1)∧(eY - 1)≤t.g 322∧((eY - 1)=0→mqn≤t.g 0)) from by first | exact du | exact yF ja du.2.1 eB | omega) x hh aF aA br)
    · have eB:=pK f1
      exact cr.out eY (by simp only[aZ,f0,f1,ao,ai]) (pk (d) _ _ hh _ hh (gK<|BB f1<|ZZ) k!) (Grow.refl aF) (show (0≤eY∧eY≤t.g 322∧(eY=0→mqn≤t.g 0)) from by first | exact du | exact yF ja du.2.1 eB | omega) k!
  · have ja:=pK f0
    exact cr.out eY (by simp only[aZ,f0,ao,ai]) (pk (d) _ _ hh _ hh (ei<|BB f0<|BB f0<|BB f0<|BB f0<|BB f0<|BB f0<|BB f0<|BB f0<|BB f0<|BV f0 (vd false f0)<|FF<|ZZ) k!) (Grow.refl aF) (show (0≤eY∧eY≤t.g 322∧(eY=0→mqn≤t.g 0)) from by first | exact du | exact yF ja du.2.1 eB | omega) k!
def bN (t:List Int) (mqn:Int):Int×List Int:=(bif (bif (decide ((aZ mqn t (t.g 322).toNat (t.g 322))<(t.g 322))) then (decide ((t.g ((aZ mqn t (t.g 322).toNat (t.g 322)).toNat*2))=mqn)) else false) then ((aZ mqn t (t.g 322).toNat (t.g 322)),t) else (bif (decide (((aZ mqn t (t.g 322).toNat (t.g 322))+1).toNat<161)) then ((aZ mqn t (t.g 322).toNat (t.g 322)),((((bG t (((aZ mqn t (t.g 322).toNat (t.g 322))+1).toNat*2) ((aZ mqn t (t.g 322).toNat (t.g 322)).toNat*2) ((min ((t.g 322).toNat -(aZ mqn t (t.g 322).toNat (t.g 322)).toNat) (((t.g 322)+1).toNat -((aZ mqn t (t.g 322).toNat (t.g 322))+1).toNat))*2)).set ((aZ mqn t (t.g 322).toNat (t.g 322)).toNat*2) mqn).set ((aZ mqn t (t.g 322).toNat (t.g 322)).toNat*2+1) ((bG t (((aZ mqn t (t.g 322).toNat (t.g 322))+1).toNat*2) ((aZ mqn t (t.g 322).toNat (t.g 322)).toNat*2) ((min ((t.g 322).toNat -(aZ mqn t (t.g 322).toNat (t.g 322)).toNat) (((t.g 322)+1).toNat -((aZ mqn t (t.g 322).toNat (t.g 322))+1).toNat))*2)).g (((aZ mqn t (t.g 322).toNat (t.g 322)) - 1).toNat*2+1))).set 322 (((((bG t (((aZ mqn t (t.g 322).toNat (t.g 322))+1).toNat*2) ((aZ mqn t (t.g 322).toNat (t.g 322)).toNat*2) ((min ((t.g 322).toNat -(aZ mqn t (t.g 322).toNat (t.g 322)).toNat) (((t.g 322)+1).toNat -((aZ mqn t (t.g 322).toNat (t.g 322))+1).toNat))*2)).set ((aZ mqn t (t.g 322).toNat (t.g 322)).toNat*2) mqn).set ((aZ mqn t (t.g 322).toNat (t.g 322)).toNat*2+1) ((bG t (((aZ mqn t (t.g 322).toNat (t.g 322))+1).toNat*2) ((aZ mqn t (t.g 322).toNat (t.g 322)).toNat*2) ((min ((t.g 322).toNat -(aZ mqn t (t.g 322).toNat (t.g 322)).toNat) (((t.g 322)+1).toNat -((aZ mqn t (t.g 322).toNat (t.g 322))+1).toNat))*2)).g (((aZ mqn t (t.g 322).toNat (t.g 322)) - 1).toNat*2+1))).g 322)+1))) else ((aZ mqn t (t.g 322).toNat (t.g 322)),((((bG t 0 ((aZ mqn t (t.g 322).toNat (t.g 322)).toNat*2) ((min ((t.g 322).toNat -(aZ mqn t (t.g 322).toNat (t.g 322)).toNat) 0)*2)).set ((aZ mqn t (t.g 322).toNat (t.g 322)).toNat*2) mqn).set ((aZ mqn t (t.g 322).toNat (t.g 322)).toNat*2+1) ((bG t 0 ((aZ mqn t (t.g 322).toNat (t.g 322)).toNat*2) ((min ((t.g 322).toNat -(aZ mqn t (t.g 322).toNat (t.g 322)).toNat) 0)*2)).g (((aZ mqn t (t.g 322).toNat (t.g 322)) - 1).toNat*2+1))).set 322 (((((bG t 0 ((aZ mqn t (t.g 322).toNat (t.g 322)).toNat*2) ((min ((t.g 322).toNat -(aZ mqn t (t.g 322).toNat (t.g 322)).toNat) 0)*2)).set ((aZ mqn t (t.g 322).toNat (t.g 322)).toNat*2) mqn).set ((aZ mqn t (t.g 322).toNat (t.g 322)).toNat*2+1) ((bG t 0 ((aZ mqn t (t.g 322).toNat (t.g 322)).toNat*2) ((min ((t.g 322).toNat -(aZ mqn t (t.g 322).toNat (t.g 322)).toNat) 0)*2)).g (((aZ mqn t (t.g 322).toNat (t.g 322)) - 1).toNat*2+1))).g 322)+1)))))
theorem WD {d:Nat} {h hh:az} {tB tO:Nat} {tP tQ:List AV} {tE:TypeId} (t:List Int) (mqn:Int) (AD:hh.get tB=some (aN.cells (tP++zs .i64 t++tQ) tE false)) (agb:tP.length=tO) (agc:t.length=324) (p_t:h.get tB=none) (mf:1≤t.g 322) (oQ:t.g 322≤160) (xU:t.g 0=0) (Ak:0≤mqn) (bM:Tidy h) (aF:Tidy hh) (aA:Has h hh) (fN:h.nx≤hh.nx):∃hk,cA (d+1) (.fn 138) [(AV.ptr tB tO),(Zi mqn)] hh= .ret (Zi (bN t mqn).1) hk∧Tidy hk∧hh.nx≤hk.nx∧Has h hk∧hk.get tB=some (aN.cells (tP++zs .i64 ((bN t mqn).2)++tQ) tE false)∧((bN t mqn).2).length=324:=by
 have T_t:=aF _ _ AD
 have ld1:cX env hh 3 (AV.ptr tB (tO+322))=some (Zi (t.g 322)):=(gD (j:=322) (o:=tO) k! AD o! fM o!)
 obtain ⟨HN,h3,dV,iC,CQ⟩:=I5 (d:=d) (h:=h) tO mqn tP t tQ tE tB o! o! o! o! o! o! (t.g 322).toNat (t.g 322) o! (show (0≤(t.g 322)∧(t.g 322)≤t.g 322∧((t.g 322)=0→mqn≤t.g 0)) from by first | exact du | exact yF ja du.2.1 eB | omega) (dr ((AV.ptr tB tO)::(Zi mqn)::aL::aL::(Zi 0)::(Zi (t.g 322))::(AV.ptr tB tO)::(AV.ptr tB tO)::(AV.ptr tB (tO+322))::(Zi (t.g 322))::iW 78)) hh aF aA AD
 obtain ⟨aH,HO⟩:∃q_:Int,q_=(aZ mqn t (t.g 322).toNat (t.g 322)):=⟨_,rfl⟩
 rw[←HO] at dV CQ
 have om:=iC.y
 have Oj:hh.nx≤h3.nx:=iC.n
 have fl:=aA.trans iC.a
 obtain ⟨yj4,I6⟩:∃yj4:Nat→AV,Ev env (cA (d)) YN ⟨((AV.ptr tB tO)::(Zi mqn)::rx HN 2 3 ((Zi aH)::rx HN 6 82 [])),h3,[],.no⟩ .normal ⟨((AV.ptr tB tO)::(Zi mqn)::rx HN 2 3 ((Zi aH)::rx HN 6 20 (rx yj4 26 16 ((AV.bool (bif (decide (aH<(t.g 322))) then (decide ((t.g (aH.toNat*2))=mqn)) else false))::rx HN 43 45 [])))),h3,[],.no⟩:=by
  have ld4:cX env h3 3 (AV.ptr tB (tO+322))=some (Zi (t.g 322)):=(gD (j:=322) (o:=tO) k! (iC.a _ _ AD) o! fM o!)
  have n9:=fun {al ps} (k:Pk al _ ps)=>(CN 4<|MM ld4<|VV (bE 3 false false .i64 aH (t.g 322))<|CC<|k:Pk _ [] ps)
  rcases bu (decide (aH<(t.g 322))) with f0 | f0
  · have ja:=jv f0
    have MH:hG env (some (.array 161 153)) (some (AV.ptr tB (tO+0))) (some (Zi aH))=some (AV.ptr tB ((tO+0)+aH.toNat*2)):=o7 (z:=2) (k:=aH.toNat) k! o! o!
    have Tf:cX env h3 3 (AV.ptr tB (((tO+0)+aH.toNat*2)+0))=some (Zi (t.g (aH.toNat*2))):=(gD (j:=aH.toNat*2) (o:=tO) k! (iC.a _ _ AD) o! fM o!)
    rw[EX f0]
    exact j9 (pk (d) _ _ h3 _ h3 (n9<|BC f0<|BC f0<|BC f0<|BC f0<|BV f0 MH<|BC f0<|BM f0 Tf<|BC f0<|BV f0 (Bo 3 false false .i64 (t.g (aH.toNat*2)) mqn)<|VV (tp (decide ((t.g (aH.toNat*2))=mqn)) false f0)<|ZZ) k!) k!
  · have ja:=pK f0
    rw[Et f0]
    exact j9 (pk (d) _ _ h3 _ h3 (n9<|BB f0<|BB f0<|BB f0<|BB f0<|BB f0<|BB f0<|BB f0<|BB f0<|BV f0 (vd false f0)<|ZZ) k!) k!
 rcases bu (bif (decide (aH<(t.g 322))) then (decide ((t.g (aH.toNat*2))=mqn)) else false) with f0 | f0
 · have ev:=pk (d) pU ((AV.ptr tB tO)::(Zi mqn)::iW 86) hh .ret h3 (CN 4<|MM ld1<|CC<|LL dV<|LL I6<|BB f0<|CN 2<|ZZ) k!
   subst HO
   have e:bN t mqn=((aZ mqn t (t.g 322).toNat (t.g 322)),t):=by simp only[bN,f0,ao,ai]
   rw[e]
   exact iE rfl (aY Tryz.func138 Oi k! (.inr rfl) ev k!) aF om o! ⟨fl,(iC.a _ _ AD),fM⟩ (fun q=>⟨aA,eL q AD (iC.a _ _ AD),fM⟩)
 · have at9:aH≠0:=fun hz=>ajK f0 hz (CQ.2.2 hz) o! o! o!
   have w6:IntKind.i64.wrap (aH+1)=aH+1:=wrap_i64 o! o!
   have Tf:cX env h3 3 (AV.ptr tB (tO+322))=some (Zi (t.g 322)):=(gD (j:=322) (o:=tO) k! (iC.a _ _ AD) o! fM o!)
   have w8:IntKind.i64.wrap ((t.g 322)+1)=(t.g 322)+1:=wrap_i64 o! o!
   rcases bu (decide ((aH+1).toNat<161)) with f1 | f1
   · have eB:=jv f1
     have abI:iY env 154 (AV.ptr tB (tO+0)) (some (Zi (aH+1))) (some (Zi ((t.g 322)+1))) (none)=some (AV.slice tB ((tO+0)+(aH+1).toNat*2) (((t.g 322)+1).toNat -(aH+1).toNat) (161 -(aH+1).toNat) false):=Br (e:=153) (z:=2) k! k! (lo:=(aH+1).toNat) (hi:=((t.g 322)+1).toNat) o! o! o! o!
     have Bs:cX env h3 3 (AV.ptr tB (tO+322))=some (Zi (t.g 322)):=Tf
     have ajL:iY env 154 (AV.ptr tB (tO+0)) (some (Zi aH)) (some (Zi (t.g 322))) (none)=some (AV.slice tB ((tO+0)+aH.toNat*2) ((t.g 322).toNat - aH.toNat) (161 - aH.toNat) false):=Br (e:=153) (z:=2) k! k! (lo:=aH.toNat) (hi:=(t.g 322).toNat) o! o! o! o!
     obtain ⟨Tg,I7,CT,abJ⟩:=Rg (cd:=(161 -(aH+1).toNat)) (cq:=(161 - aH.toNat)) (op:=false) (oq:=false) (et:=153) (z:=2) (tys:= #[210,210]) (jd:=(aH+1).toNat*2) (js:=aH.toNat*2) (xd:=(tO+0)+(aH+1).toNat*2) (xs:=(tO+0)+aH.toNat*2) (nd:=(((t.g 322)+1).toNat -(aH+1).toNat)) (ns:=((t.g 322).toNat - aH.toNat)) (o:=tO) om rfl k! k! (iC.a _ _ AD) o! o! o! o! o!
     have vf:=CT.1
     have agd:(bG t ((aH+1).toNat*2) (aH.toNat*2) ((min ((t.g 322).toNat - aH.toNat) (((t.g 322)+1).toNat -(aH+1).toNat))*2)).g 0=t.g 0:=hI o!
     have YO:(bG t ((aH+1).toNat*2) (aH.toNat*2) ((min ((t.g 322).toNat - aH.toNat) (((t.g 322)+1).toNat -(aH+1).toNat))*2)).g 322=t.g 322:=hI o!
     have YP:(bG t ((aH+1).toNat*2) (aH.toNat*2) ((min ((t.g 322).toNat - aH.toNat) (((t.g 322)+1).toNat -(aH+1).toNat))*2)).g 323=t.g 323:=hI o!
     have sU:=kU CT fl ve
     have w15:IntKind.i64.wrap (aH - 1)=aH - 1:=wrap_i64 o! o!
     have Lm:hG env (some (.array 161 153)) (some (AV.ptr tB (tO+0))) (some (Zi (aH - 1)))=some (AV.ptr tB ((tO+0)+(aH - 1).toNat*2)):=o7 (z:=2) (k:=(aH - 1).toNat) k! o! o!
     have Ri:cX env Tg 3 (AV.ptr tB (((tO+0)+(aH - 1).toNat*2)+1))=some (Zi ((bG t ((aH+1).toNat*2) (aH.toNat*2) ((min ((t.g 322).toNat - aH.toNat) (((t.g 322)+1).toNat -(aH+1).toNat))*2)).g ((aH - 1).toNat*2+1))):=(gD (j:=((aH - 1).toNat*2+1)) (o:=tO) k! CT.2.1 o! fM o!)
     have YQ:hG env (some (.array 161 153)) (some (AV.ptr tB (tO+0))) (some (Zi aH))=some (AV.ptr tB ((tO+0)+aH.toNat*2)):=o7 (z:=2) (k:=aH.toNat) k! o! o!
     obtain ⟨CU,I8,CV,Rj⟩:=I3 (t:=153) (j:=aH.toNat*2) (x:=(tO+0)+aH.toNat*2) (o:=tO) (v:=mqn) (w:=((bG t ((aH+1).toNat*2) (aH.toNat*2) ((min ((t.g 322).toNat - aH.toNat) (((t.g 322)+1).toNat -(aH+1).toNat))*2)).g ((aH - 1).toNat*2+1))) vf k! CT.2.1 o! fM o!
     have ly:=CV.1
     have age:(((bG t ((aH+1).toNat*2) (aH.toNat*2) ((min ((t.g 322).toNat - aH.toNat) (((t.g 322)+1).toNat -(aH+1).toNat))*2)).set (aH.toNat*2) mqn).set (aH.toNat*2+1) ((bG t ((aH+1).toNat*2) (aH.toNat*2) ((min ((t.g 322).toNat - aH.toNat) (((t.g 322)+1).toNat -(aH+1).toNat))*2)).g ((aH - 1).toNat*2+1))).g 0=(bG t ((aH+1).toNat*2) (aH.toNat*2) ((min ((t.g 322).toNat - aH.toNat) (((t.g 322)+1).toNat -(aH+1).toNat))*2)).g 0:=(bk o! _).trans (bk o! _)
     have YR:(((bG t ((aH+1).toNat*2) (aH.toNat*2) ((min ((t.g 322).toNat - aH.toNat) (((t.g 322)+1).toNat -(aH+1).toNat))*2)).set (aH.toNat*2) mqn).set (aH.toNat*2+1) ((bG t ((aH+1).toNat*2) (aH.toNat*2) ((min ((t.g 322).toNat - aH.toNat) (((t.g 322)+1).toNat -(aH+1).toNat))*2)).g ((aH - 1).toNat*2+1))).g 322=(bG t ((aH+1).toNat*2) (aH.toNat*2) ((min ((t.g 322).toNat - aH.toNat) (((t.g 322)+1).toNat -(aH+1).toNat))*2)).g 322:=(bk o! _).trans (bk o! _)
     have YS:(((bG t ((aH+1).toNat*2) (aH.toNat*2) ((min ((t.g 322).toNat - aH.toNat) (((t.g 322)+1).toNat -(aH+1).toNat))*2)).set (aH.toNat*2) mqn).set (aH.toNat*2+1) ((bG t ((aH+1).toNat*2) (aH.toNat*2) ((min ((t.g 322).toNat - aH.toNat) (((t.g 322)+1).toNat -(aH+1).toNat))*2)).g ((aH - 1).toNat*2+1))).g 323=(bG t ((aH+1).toNat*2) (aH.toNat*2) ((min ((t.g 322).toNat - aH.toNat) (((t.g 322)+1).toNat -(aH+1).toNat))*2)).g 323:=(bk o! _).trans (bk o! _)
     have kH:=kU CV sU ve
     have Ol:cX env CU 3 (AV.ptr tB (tO+322))=some (Zi ((((bG t ((aH+1).toNat*2) (aH.toNat*2) ((min ((t.g 322).toNat - aH.toNat) (((t.g 322)+1).toNat -(aH+1).toNat))*2)).set (aH.toNat*2) mqn).set (aH.toNat*2+1) ((bG t ((aH+1).toNat*2) (aH.toNat*2) ((min ((t.g 322).toNat - aH.toNat) (((t.g 322)+1).toNat -(aH+1).toNat))*2)).g ((aH - 1).toNat*2+1))).g 322)):=(gD (j:=322) (o:=tO) k! CV.2.1 o! fM o!)
     have w21:IntKind.i64.wrap (((((bG t ((aH+1).toNat*2) (aH.toNat*2) ((min ((t.g 322).toNat - aH.toNat) (((t.g 322)+1).toNat -(aH+1).toNat))*2)).set (aH.toNat*2) mqn).set (aH.toNat*2+1) ((bG t ((aH+1).toNat*2) (aH.toNat*2) ((min ((t.g 322).toNat - aH.toNat) (((t.g 322)+1).toNat -(aH+1).toNat))*2)).g ((aH - 1).toNat*2+1))).g 322)+1)=((((bG t ((aH+1).toNat*2) (aH.toNat*2) ((min ((t.g 322).toNat - aH.toNat) (((t.g 322)+1).toNat -(aH+1).toNat))*2)).set (aH.toNat*2) mqn).set (aH.toNat*2+1) ((bG t ((aH+1).toNat*2) (aH.toNat*2) ((min ((t.g 322).toNat - aH.toNat) (((t.g 322)+1).toNat -(aH+1).toNat))*2)).g ((aH - 1).toNat*2+1))).g 322)+1:=wrap_i64 o! o!
     obtain ⟨h22,abK,CW,anK⟩:=Bq (t:=3) (j:=322) (x:=tO+322) (o:=tO) (v:=(((((bG t ((aH+1).toNat*2) (aH.toNat*2) ((min ((t.g 322).toNat - aH.toNat) (((t.g 322)+1).toNat -(aH+1).toNat))*2)).set (aH.toNat*2) mqn).set (aH.toNat*2+1) ((bG t ((aH+1).toNat*2) (aH.toNat*2) ((min ((t.g 322).toNat - aH.toNat) (((t.g 322)+1).toNat -(aH+1).toNat))*2)).g ((aH - 1).toNat*2+1))).g 322)+1)) ly k! CV.2.1 o! fM o!
     have Rl:=CW.1
     have agf:((((bG t ((aH+1).toNat*2) (aH.toNat*2) ((min ((t.g 322).toNat - aH.toNat) (((t.g 322)+1).toNat -(aH+1).toNat))*2)).set (aH.toNat*2) mqn).set (aH.toNat*2+1) ((bG t ((aH+1).toNat*2) (aH.toNat*2) ((min ((t.g 322).toNat - aH.toNat) (((t.g 322)+1).toNat -(aH+1).toNat))*2)).g ((aH - 1).toNat*2+1))).set 322 (((((bG t ((aH+1).toNat*2) (aH.toNat*2) ((min ((t.g 322).toNat - aH.toNat) (((t.g 322)+1).toNat -(aH+1).toNat))*2)).set (aH.toNat*2) mqn).set (aH.toNat*2+1) ((bG t ((aH+1).toNat*2) (aH.toNat*2) ((min ((t.g 322).toNat - aH.toNat) (((t.g 322)+1).toNat -(aH+1).toNat))*2)).g ((aH - 1).toNat*2+1))).g 322)+1)).g 0=(((bG t ((aH+1).toNat*2) (aH.toNat*2) ((min ((t.g 322).toNat - aH.toNat) (((t.g 322)+1).toNat -(aH+1).toNat))*2)).set (aH.toNat*2) mqn).set (aH.toNat*2+1) ((bG t ((aH+1).toNat*2) (aH.toNat*2) ((min ((t.g 322).toNat - aH.toNat) (((t.g 322)+1).toNat -(aH+1).toNat))*2)).g ((aH - 1).toNat*2+1))).g 0:=bk o! _
     have YT:((((bG t ((aH+1).toNat*2) (aH.toNat*2) ((min ((t.g 322).toNat - aH.toNat) (((t.g 322)+1).toNat -(aH+1).toNat))*2)).set (aH.toNat*2) mqn).set (aH.toNat*2+1) ((bG t ((aH+1).toNat*2) (aH.toNat*2) ((min ((t.g 322).toNat - aH.toNat) (((t.g 322)+1).toNat -(aH+1).toNat))*2)).g ((aH - 1).toNat*2+1))).set 322 (((((bG t ((aH+1).toNat*2) (aH.toNat*2) ((min ((t.g 322).toNat - aH.toNat) (((t.g 322)+1).toNat -(aH+1).toNat))*2)).set (aH.toNat*2) mqn).set (aH.toNat*2+1) ((bG t ((aH+1).toNat*2) (aH.toNat*2) ((min ((t.g 322).toNat - aH.toNat) (((t.g 322)+1).toNat -(aH+1).toNat))*2)).g ((aH - 1).toNat*2+1))).g 322)+1)).g 322=(((((bG t ((aH+1).toNat*2) (aH.toNat*2) ((min ((t.g 322).toNat - aH.toNat) (((t.g 322)+1).toNat -(aH+1).toNat))*2)).set (aH.toNat*2) mqn).set (aH.toNat*2+1) ((bG t ((aH+1).toNat*2) (aH.toNat*2) ((min ((t.g 322).toNat - aH.toNat) (((t.g 322)+1).toNat -(aH+1).toNat))*2)).g ((aH - 1).toNat*2+1))).g 322)+1):=fk fM
     have YU:((((bG t ((aH+1).toNat*2) (aH.toNat*2) ((min ((t.g 322).toNat - aH.toNat) (((t.g 322)+1).toNat -(aH+1).toNat))*2)).set (aH.toNat*2) mqn).set (aH.toNat*2+1) ((bG t ((aH+1).toNat*2) (aH.toNat*2) ((min ((t.g 322).toNat - aH.toNat) (((t.g 322)+1).toNat -(aH+1).toNat))*2)).g ((aH - 1).toNat*2+1))).set 322 (((((bG t ((aH+1).toNat*2) (aH.toNat*2) ((min ((t.g 322).toNat - aH.toNat) (((t.g 322)+1).toNat -(aH+1).toNat))*2)).set (aH.toNat*2) mqn).set (aH.toNat*2+1) ((bG t ((aH+1).toNat*2) (aH.toNat*2) ((min ((t.g 322).toNat - aH.toNat) (((t.g 322)+1).toNat -(aH+1).toNat))*2)).g ((aH - 1).toNat*2+1))).g 322)+1)).g 323=(((bG t ((aH+1).toNat*2) (aH.toNat*2) ((min ((t.g 322).toNat - aH.toNat) (((t.g 322)+1).toNat -(aH+1).toNat))*2)).set (aH.toNat*2) mqn).set (aH.toNat*2+1) ((bG t ((aH+1).toNat*2) (aH.toNat*2) ((min ((t.g 322).toNat - aH.toNat) (((t.g 322)+1).toNat -(aH+1).toNat))*2)).g ((aH - 1).toNat*2+1))).g 323:=bk o! _
     have abL:=kU CW kH ve
     have ev:=pk (d) pU ((AV.ptr tB tO)::(Zi mqn)::iW 86) hh .ret h22 (CN 4<|MM ld1<|CC<|LL dV<|LL I6<|BB f0<|CN 4<|VV (qE 3 false true w6)<|CN 3<|MM Tf<|VV (qE 3 false true w8)<|QQ abI<|CN 7<|MM Bs<|QQ ajL<|PP I7<|HH Bs<|HH (show AV.same 20 (Zi (t.g 322)) (Zi (t.g 322))=true from aS 19 _ _)<|HH Bs<|HH (show AV.same 20 (Zi (t.g 322)) (Zi (t.g 322))=true from aS 19 _ _)<|CN 5<|VV (Aj 3 false true w15)<|CN 2<|VV Lm<|CC<|MM Ri<|CN 3<|VV YQ<|SS I8<|HH Ri<|HH (show AV.same 20 (Zi ((bG t ((aH+1).toNat*2) (aH.toNat*2) ((min ((t.g 322).toNat - aH.toNat) (((t.g 322)+1).toNat -(aH+1).toNat))*2)).g ((aH - 1).toNat*2+1))) (Zi ((bG t ((aH+1).toNat*2) (aH.toNat*2) ((min ((t.g 322).toNat - aH.toNat) (((t.g 322)+1).toNat -(aH+1).toNat))*2)).g ((aH - 1).toNat*2+1)))=true from aS 19 _ _)<|CN 3<|MM Ol<|VV (qE 3 false true w21)<|CN 2<|SS abK<|CN 2<|ZZ) k!
     subst HO
     have e:bN t mqn=((aZ mqn t (t.g 322).toNat (t.g 322)),((((bG t (((aZ mqn t (t.g 322).toNat (t.g 322))+1).toNat*2) ((aZ mqn t (t.g 322).toNat (t.g 322)).toNat*2) ((min ((t.g 322).toNat -(aZ mqn t (t.g 322).toNat (t.g 322)).toNat) (((t.g 322)+1).toNat -((aZ mqn t (t.g 322).toNat (t.g 322))+1).toNat))*2)).set ((aZ mqn t (t.g 322).toNat (t.g 322)).toNat*2) mqn).set ((aZ mqn t (t.g 322).toNat (t.g 322)).toNat*2+1) ((bG t (((aZ mqn t (t.g 322).toNat (t.g 322))+1).toNat*2) ((aZ mqn t (t.g 322).toNat (t.g 322)).toNat*2) ((min ((t.g 322).toNat -(aZ mqn t (t.g 322).toNat (t.g 322)).toNat) (((t.g 322)+1).toNat -((aZ mqn t (t.g 322).toNat (t.g 322))+1).toNat))*2)).g (((aZ mqn t (t.g 322).toNat (t.g 322)) - 1).toNat*2+1))).set 322 (((((bG t (((aZ mqn t (t.g 322).toNat (t.g 322))+1).toNat*2) ((aZ mqn t (t.g 322).toNat (t.g 322)).toNat*2) ((min ((t.g 322).toNat -(aZ mqn t (t.g 322).toNat (t.g 322)).toNat) (((t.g 322)+1).toNat -((aZ mqn t (t.g 322).toNat (t.g 322))+1).toNat))*2)).set ((aZ mqn t (t.g 322).toNat (t.g 322)).toNat*2) mqn).set ((aZ mqn t (t.g 322).toNat (t.g 322)).toNat*2+1) ((bG t (((aZ mqn t (t.g 322).toNat (t.g 322))+1).toNat*2) ((aZ mqn t (t.g 322).toNat (t.g 322)).toNat*2) ((min ((t.g 322).toNat -(aZ mqn t (t.g 322).toNat (t.g 322)).toNat) (((t.g 322)+1).toNat -((aZ mqn t (t.g 322).toNat (t.g 322))+1).toNat))*2)).g (((aZ mqn t (t.g 322).toNat (t.g 322)) - 1).toNat*2+1))).g 322)+1))):=by simp only[bN,f0,f1,ao,ai]
     rw[e]
     exact iE rfl (aY Tryz.func138 Oi k! (.inr rfl) ev k!) aF Rl o! ⟨abL,CW.2.1,fM⟩ (fun q=>⟨aA,eL q AD CW.2.1,fM⟩)
   · have eB:=pK f1
     have abI:iY env 154 (AV.ptr tB (tO+0)) (some (Zi (aH+1))) (some (Zi ((t.g 322)+1))) (none)=some (AV.slice tB (tO+0) 0 0 false):=Rf (e:=153) (z:=2) (N:=161) k! k! o! o!
     have Bs:cX env h3 3 (AV.ptr tB (tO+322))=some (Zi (t.g 322)):=Tf
     have ajL:iY env 154 (AV.ptr tB (tO+0)) (some (Zi aH)) (some (Zi (t.g 322))) (none)=some (AV.slice tB ((tO+0)+aH.toNat*2) ((t.g 322).toNat - aH.toNat) (161 - aH.toNat) false):=Br (e:=153) (z:=2) k! k! (lo:=aH.toNat) (hi:=(t.g 322).toNat) o! o! o! o!
     obtain ⟨Tg,I7,CT,abJ⟩:=Rg (cd:=0) (cq:=(161 - aH.toNat)) (op:=false) (oq:=false) (et:=153) (z:=2) (tys:= #[210,210]) (jd:=0) (js:=aH.toNat*2) (xd:=tO+0) (xs:=(tO+0)+aH.toNat*2) (nd:=0) (ns:=((t.g 322).toNat - aH.toNat)) (o:=tO) om rfl k! k! (iC.a _ _ AD) o! o! o! o! o!
     have vf:=CT.1
     have agd:(bG t 0 (aH.toNat*2) ((min ((t.g 322).toNat - aH.toNat) 0)*2)).g 0=t.g 0:=hI o!
     have YO:(bG t 0 (aH.toNat*2) ((min ((t.g 322).toNat - aH.toNat) 0)*2)).g 322=t.g 322:=hI o!
     have YP:(bG t 0 (aH.toNat*2) ((min ((t.g 322).toNat - aH.toNat) 0)*2)).g 323=t.g 323:=hI o!
     have sU:=kU CT fl ve
     have w15:IntKind.i64.wrap (aH - 1)=aH - 1:=wrap_i64 o! o!
     have Lm:hG env (some (.array 161 153)) (some (AV.ptr tB (tO+0))) (some (Zi (aH - 1)))=some (AV.ptr tB ((tO+0)+(aH - 1).toNat*2)):=o7 (z:=2) (k:=(aH - 1).toNat) k! o! o!
     have Ri:cX env Tg 3 (AV.ptr tB (((tO+0)+(aH - 1).toNat*2)+1))=some (Zi ((bG t 0 (aH.toNat*2) ((min ((t.g 322).toNat - aH.toNat) 0)*2)).g ((aH - 1).toNat*2+1))):=(gD (j:=((aH - 1).toNat*2+1)) (o:=tO) k! CT.2.1 o! fM o!)
     have YQ:hG env (some (.array 161 153)) (some (AV.ptr tB (tO+0))) (some (Zi aH))=some (AV.ptr tB ((tO+0)+aH.toNat*2)):=o7 (z:=2) (k:=aH.toNat) k! o! o!
     obtain ⟨CU,I8,CV,Rj⟩:=I3 (t:=153) (j:=aH.toNat*2) (x:=(tO+0)+aH.toNat*2) (o:=tO) (v:=mqn) (w:=((bG t 0 (aH.toNat*2) ((min ((t.g 322).toNat - aH.toNat) 0)*2)).g ((aH - 1).toNat*2+1))) vf k! CT.2.1 o! fM o!
     have ly:=CV.1
     have age:(((bG t 0 (aH.toNat*2) ((min ((t.g 322).toNat - aH.toNat) 0)*2)).set (aH.toNat*2) mqn).set (aH.toNat*2+1) ((bG t 0 (aH.toNat*2) ((min ((t.g 322).toNat - aH.toNat) 0)*2)).g ((aH - 1).toNat*2+1))).g 0=(bG t 0 (aH.toNat*2) ((min ((t.g 322).toNat - aH.toNat) 0)*2)).g 0:=(bk o! _).trans (bk o! _)
     have YR:(((bG t 0 (aH.toNat*2) ((min ((t.g 322).toNat - aH.toNat) 0)*2)).set (aH.toNat*2) mqn).set (aH.toNat*2+1) ((bG t 0 (aH.toNat*2) ((min ((t.g 322).toNat - aH.toNat) 0)*2)).g ((aH - 1).toNat*2+1))).g 322=(bG t 0 (aH.toNat*2) ((min ((t.g 322).toNat - aH.toNat) 0)*2)).g 322:=(bk o! _).trans (bk o! _)
     have YS:(((bG t 0 (aH.toNat*2) ((min ((t.g 322).toNat - aH.toNat) 0)*2)).set (aH.toNat*2) mqn).set (aH.toNat*2+1) ((bG t 0 (aH.toNat*2) ((min ((t.g 322).toNat - aH.toNat) 0)*2)).g ((aH - 1).toNat*2+1))).g 323=(bG t 0 (aH.toNat*2) ((min ((t.g 322).toNat - aH.toNat) 0)*2)).g 323:=(bk o! _).trans (bk o! _)
     have kH:=kU CV sU ve
     have Ol:cX env CU 3 (AV.ptr tB (tO+322))=some (Zi ((((bG t 0 (aH.toNat*2) ((min ((t.g 322).toNat - aH.toNat) 0)*2)).set (aH.toNat*2) mqn).set (aH.toNat*2+1) ((bG t 0 (aH.toNat*2) ((min ((t.g 322).toNat - aH.toNat) 0)*2)).g ((aH - 1).toNat*2+1))).g 322)):=(gD (j:=322) (o:=tO) k! CV.2.1 o! fM o!)
     have w21:IntKind.i64.wrap (((((bG t 0 (aH.toNat*2) ((min ((t.g 322).toNat - aH.toNat) 0)*2)).set (aH.toNat*2) mqn).set (aH.toNat*2+1) ((bG t 0 (aH.toNat*2) ((min ((t.g 322).toNat - aH.toNat) 0)*2)).g ((aH - 1).toNat*2+1))).g 322)+1)=((((bG t 0 (aH.toNat*2) ((min ((t.g 322).toNat - aH.toNat) 0)*2)).set (aH.toNat*2) mqn).set (aH.toNat*2+1) ((bG t 0 (aH.toNat*2) ((min ((t.g 322).toNat - aH.toNat) 0)*2)).g ((aH - 1).toNat*2+1))).g 322)+1:=wrap_i64 o! o!
     obtain ⟨h22,abK,CW,anK⟩:=Bq (t:=3) (j:=322) (x:=tO+322) (o:=tO) (v:=(((((bG t 0 (aH.toNat*2) ((min ((t.g 322).toNat - aH.toNat) 0)*2)).set (aH.toNat*2) mqn).set (aH.toNat*2+1) ((bG t 0 (aH.toNat*2) ((min ((t.g 322).toNat - aH.toNat) 0)*2)).g ((aH - 1).toNat*2+1))).g 322)+1)) ly k! CV.2.1 o! fM o!
     have Rl:=CW.1
     have agf:((((bG t 0 (aH.toNat*2) ((min ((t.g 322).toNat - aH.toNat) 0)*2)).set (aH.toNat*2) mqn).set (aH.toNat*2+1) ((bG t 0 (aH.toNat*2) ((min ((t.g 322).toNat - aH.toNat) 0)*2)).g ((aH - 1).toNat*2+1))).set 322 (((((bG t 0 (aH.toNat*2) ((min ((t.g 322).toNat - aH.toNat) 0)*2)).set (aH.toNat*2) mqn).set (aH.toNat*2+1) ((bG t 0 (aH.toNat*2) ((min ((t.g 322).toNat - aH.toNat) 0)*2)).g ((aH - 1).toNat*2+1))).g 322)+1)).g 0=(((bG t 0 (aH.toNat*2) ((min ((t.g 322).toNat - aH.toNat) 0)*2)).set (aH.toNat*2) mqn).set (aH.toNat*2+1) ((bG t 0 (aH.toNat*2) ((min ((t.g 322).toNat - aH.toNat) 0)*2)).g ((aH - 1).toNat*2+1))).g 0:=bk o! _
     have YT:((((bG t 0 (aH.toNat*2) ((min ((t.g 322).toNat - aH.toNat) 0)*2)).set (aH.toNat*2) mqn).set (aH.toNat*2+1) ((bG t 0 (aH.toNat*2) ((min ((t.g 322).toNat - aH.toNat) 0)*2)).g ((aH - 1).toNat*2+1))).set 322 (((((bG t 0 (aH.toNat*2) ((min ((t.g 322).toNat - aH.toNat) 0)*2)).set (aH.toNat*2) mqn).set (aH.toNat*2+1) ((bG t 0 (aH.toNat*2) ((min ((t.g 322).toNat - aH.toNat) 0)*2)).g ((aH - 1).toNat*2+1))).g 322)+1)).g 322=(((((bG t 0 (aH.toNat*2) ((min ((t.g 322).toNat - aH.toNat) 0)*2)).set (aH.toNat*2) mqn).set (aH.toNat*2+1) ((bG t 0 (aH.toNat*2) ((min ((t.g 322).toNat - aH.toNat) 0)*2)).g ((aH - 1).toNat*2+1))).g 322)+1):=fk fM
     have YU:((((bG t 0 (aH.toNat*2) ((min ((t.g 322).toNat - aH.toNat) 0)*2)).set (aH.toNat*2) mqn).set (aH.toNat*2+1) ((bG t 0 (aH.toNat*2) ((min ((t.g 322).toNat - aH.toNat) 0)*2)).g ((aH - 1).toNat*2+1))).set 322 (((((bG t 0 (aH.toNat*2) ((min ((t.g 322).toNat - aH.toNat) 0)*2)).set (aH.toNat*2) mqn).set (aH.toNat*2+1) ((bG t 0 (aH.toNat*2) ((min ((t.g 322).toNat - aH.toNat) 0)*2)).g ((aH - 1).toNat*2+1))).g 322)+1)).g 323=(((bG t 0 (aH.toNat*2) ((min ((t.g 322).toNat - aH.toNat) 0)*2)).set (aH.toNat*2) mqn).set (aH.toNat*2+1) ((bG t 0 (aH.toNat*2) ((min ((t.g 322).toNat - aH.toNat) 0)*2)).g ((aH - 1).toNat*2+1))).g 323:=bk o! _
     have abL:=kU CW kH ve
     have ev:=pk (d) pU ((AV.ptr tB tO)::(Zi mqn)::iW 86) hh .ret h22 (CN 4<|MM ld1<|CC<|LL dV<|LL I6<|BB f0<|CN 4<|VV (qE 3 false true w6)<|CN 3<|MM Tf<|VV (qE 3 false true w8)<|QQ abI<|CN 7<|MM Bs<|QQ ajL<|PP I7<|HH Bs<|HH (show AV.same 20 (Zi (t.g 322)) (Zi (t.g 322))=true from aS 19 _ _)<|HH Bs<|HH (show AV.same 20 (Zi (t.g 322)) (Zi (t.g 322))=true from aS 19 _ _)<|CN 5<|VV (Aj 3 false true w15)<|CN 2<|VV Lm<|CC<|MM Ri<|CN 3<|VV YQ<|SS I8<|HH Ri<|HH (show AV.same 20 (Zi ((bG t 0 (aH.toNat*2) ((min ((t.g 322).toNat - aH.toNat) 0)*2)).g ((aH - 1).toNat*2+1))) (Zi ((bG t 0 (aH.toNat*2) ((min ((t.g 322).toNat - aH.toNat) 0)*2)).g ((aH - 1).toNat*2+1)))=true from aS 19 _ _)<|CN 3<|MM Ol<|VV (qE 3 false true w21)<|CN 2<|SS abK<|CN 2<|ZZ) k!
     subst HO
     have e:bN t mqn=((aZ mqn t (t.g 322).toNat (t.g 322)),((((bG t 0 ((aZ mqn t (t.g 322).toNat (t.g 322)).toNat*2) ((min ((t.g 322).toNat -(aZ mqn t (t.g 322).toNat (t.g 322)).toNat) 0)*2)).set ((aZ mqn t (t.g 322).toNat (t.g 322)).toNat*2) mqn).set ((aZ mqn t (t.g 322).toNat (t.g 322)).toNat*2+1) ((bG t 0 ((aZ mqn t (t.g 322).toNat (t.g 322)).toNat*2) ((min ((t.g 322).toNat -(aZ mqn t (t.g 322).toNat (t.g 322)).toNat) 0)*2)).g (((aZ mqn t (t.g 322).toNat (t.g 322)) - 1).toNat*2+1))).set 322 (((((bG t 0 ((aZ mqn t (t.g 322).toNat (t.g 322)).toNat*2) ((min ((t.g 322).toNat -(aZ mqn t (t.g 322).toNat (t.g 322)).toNat) 0)*2)).set ((aZ mqn t (t.g 322).toNat (t.g 322)).toNat*2) mqn).set ((aZ mqn t (t.g 322).toNat (t.g 322)).toNat*2+1) ((bG t 0 ((aZ mqn t (t.g 322).toNat (t.g 322)).toNat*2) ((min ((t.g 322).toNat -(aZ mqn t (t.g 322).toNat (t.g 322)).toNat) 0)*2)).g (((aZ mqn t (t.g 322).toNat (t.g 322)) - 1).toNat*2+1))).g 322)+1))):=by simp only[bN,f0,f1,ao,ai]
     rw[e]
     exact iE rfl (aY Tryz.func138 Oi k! (.inr rfl) ev k!) aF Rl o! ⟨abL,CW.2.1,fM⟩ (fun q=>⟨aA,eL q AD CW.2.1,fM⟩)
theorem MI {mqn:Int} {t:List Int}:∀(k:Nat) (v:Int),0≤v→v≤t.g 322→(v=0→mqn≤t.g 0)→v≤k→t.g 0=0→0≤mqn→0≤aZ mqn t k v∧aZ mqn t k v≤t.g 322∧(aZ mqn t k v=0→mqn≤t.g 0)
 | 0,v,a,b,c,_,_,_=>⟨a,b,c⟩
 | k+1,v,a,b,c,d,e,f=>by
  rw[aZ]
  by_cases f0:0<v
  · rw[eV f0,ao]
    by_cases f1:mqn≤t.g ((Int.toNat (v - 1))*2)
    · rw[eV f1,ao]
      refine MI k (v - 1) o! o! (fun hz=>?_) o! e f
      rw[hz] at f1;exact f1
    · rw[fL f1,ai];exact ⟨a,b,c⟩
  · rw[fL f0,ai];exact ⟨a,b,c⟩
theorem CX (t:List Int) (mqn:Int) (ln:t.length=324) (p0:1≤t.g 322) (p1:t.g 322≤160) (p2:t.g 0=0) (p3:0≤mqn):0≤(bN t mqn).1∧(bN t mqn).1≤t.g 322∧t.g 322≤(bN t mqn).2.g 322∧(bN t mqn).2.g 322≤t.g 322+1∧(bN t mqn).2.g 0=0∧(bN t mqn).2.g 323=t.g 323∧(bN t mqn).2.length=324:=by
 obtain ⟨a,b,c⟩:=MI (mqn:=mqn) (t:=t) (Int.toNat (t.g 322)) (t.g 322) o! o! o! o! p2 p3
 rw[bN]
 generalize aZ mqn t (Int.toNat (t.g 322)) (t.g 322)=i at a b c
 have hc:∀jd js n,(bG t jd js n).length=324:=fun jd js n=>by rw[dQ];exact ln
 have tl:∀(L:List Int) (x:Int),L.length=324→L.g 0=0→L.g 323=t.g 323→L.g 322=t.g 322→i≠0→0≤i∧i≤t.g 322∧t.g 322≤(((L.set (i.toNat*2) mqn).set (i.toNat*2+1) x).set 322 (((L.set (i.toNat*2) mqn).set (i.toNat*2+1) x).g 322+1)).g 322∧(((L.set (i.toNat*2) mqn).set (i.toNat*2+1) x).set 322 (((L.set (i.toNat*2) mqn).set (i.toNat*2+1) x).g 322+1)).g 322≤t.g 322+1∧(((L.set (i.toNat*2) mqn).set (i.toNat*2+1) x).set 322 (((L.set (i.toNat*2) mqn).set (i.toNat*2+1) x).g 322+1)).g 0=0∧(((L.set (i.toNat*2) mqn).set (i.toNat*2+1) x).set 322 (((L.set (i.toNat*2) mqn).set (i.toNat*2+1) x).g 322+1)).g 323=t.g 323∧(((L.set (i.toNat*2) mqn).set (i.toNat*2+1) x).set 322 (((L.set (i.toNat*2) mqn).set (i.toNat*2+1) x).g 322+1)).length=324:=by
  intro L x hl h0 h3 h2 hi
  have e2:((L.set (i.toNat*2) mqn).set (i.toNat*2+1) x).g 322=t.g 322:=by
   rw[bk o!,bk o!,h2]
  rw[e2,fk (by rw[List.length_set,List.length_set,hl];decide),bk o!,bk o!,bk o!,bk o!,bk o!,bk o!,h0,h3]
  exact ⟨a,b,by omega,by omega,rfl,rfl,by rw[List.length_set,List.length_set,List.length_set,hl]⟩
 by_cases f0:i<t.g 322
 · rw[eV f0,ao]
   by_cases f1:t.g (i.toNat*2)=mqn
   · rw[eV f1,ao];exact ⟨a,b,Int.le_refl _,by show t.g 322≤t.g 322+1;omega,p2,rfl,ln⟩
   · rw[fL f1,ai]
     have hi:i≠0:=fun hz=>f1 (by subst hz;have:=c rfl;show t.g 0=mqn;omega)
     by_cases f2:(Int.toNat (i+1))<161
     · rw[eV f2,ao]
       exact tl _ _ (hc _ _ _) (by rw[hI o!];exact p2) (hI o!) (hI o!) hi
     · exfalso;omega
 · rw[fL f0,ai,ai]
   have hi:i≠0:=by omega
   by_cases f1:(Int.toNat (i+1))<161
   · rw[eV f1,ao]
     exact tl _ _ (hc _ _ _) (by rw[hI o!];exact p2) (hI o!) (hI o!) hi
   · rw[fL f1,ai]
     exact tl _ _ (hc _ _ _) (by rw[hI o!];exact p2) (hI o!) (hI o!) hi
theorem qG {p:Prop} (h:p:=by first | omega | assumption | (simp only[List.length_set,List.length_replicate,List.length_append,List.length_cons,List.length_nil,List.nil_append]<;>omega) | (rw[List.length_take];omega)):p:=h
theorem lO {p:Prop} (h:p:=by first | omega | (simp only[List.length_set,List.length_replicate,dQ]<;>omega) | exact hJ _ | exact ku a!):p:=h
theorem CY {p:Prop} (h:p:=by first | assumption | exact iZ bM o!):p:=h
def I9:Code:=(Tryz.f92.body).getD .skip
theorem WE:Tryz.f92.body=some I9:=by kernel_rfl
def YV:Code:=(bl I9).getD 0 .skip
def f_ (pieces:Int) (t:List Int) (s:Span):Nat→Int→List Int→List Int
 | 0,cZ,ba=>ba
 | dx+1,cZ,ba=>(bif (decide (cZ<((bN (bN t s.a8).2 (s.aQ+1)).1))) then f_ pieces t s dx (cZ+1) (ba.set (cZ.toNat*2+1) (IntKind.i64.wrap ((ba.g (cZ.toNat*2+1))+pieces))) else ba)
theorem I_ {d:Nat} {h:az} (tO:Nat) (pieces:Int) (t:List Int) (s:Span) (tP:List AV) (tQ:List AV) (tE:TypeId) (bj:Nat) (fI:aK.ok h s) (fU:1≤t.g 322) (iB:t.g 322≤159) (mO:t.g 0=0) (nI:0≤s.a8) (o8:s.aQ≤100000000) (qF:tP.length=tO) (bM:Tidy h) (tC:h.get bj=none):∀(k_:Nat) (cZ:Int) (ba:List Int) (_:((bN (bN t s.a8).2 (s.aQ+1)).1) - cZ≤(k_:Int)) (_:(((0:Int)≤1)∧(0≤cZ∧((bN (bN t s.a8).2 (s.aQ+1)).1)≤161))) (x:Nat→AV) (hh:az) (aF:Tidy hh) (aA:Has h hh) (fN:h.nx≤hh.nx) (kc:ba.length=324) (br:hh.get bj=some (aN.cells (tP++zs .i64 ba++tQ) tE false)),bY (σ:=List Int) (ρ:=Unit) (cA (d+1)) YV ⟨((AV.ptr bj tO)::(x 1)::(Zi pieces)::rx x 3 4 ((Zi (bN (bN t s.a8).2 (s.aQ+1)).1)::(Zi cZ)::rx x 9 33 [])),hh,[],.no⟩ (.exit 0) hh (fun r z y=>((AV.ptr bj tO)::(y 1)::(Zi pieces)::rx y 3 4 ((Zi (bN (bN t s.a8).2 (s.aQ+1)).1)::rx y 8 34 []))) (fun r z y=>((AV.ptr bj tO)::(y 1)::(Zi pieces)::rx y 3 4 ((Zi (bN (bN t s.a8).2 (s.aQ+1)).1)::rx y 8 34 []))) (fun r z hk=>Has h hk∧hk.get bj=some (aN.cells (tP++zs .i64 r++tQ) tE false)∧r.length=324∧((0:Int)≤1)) (fun r z hk=>Has h hk) (Sum.inl (f_ pieces t s k_ cZ ba))
 | 0,cZ,ba,eZ,du,x,hh,aF,aA,fN,kc,br=>by
  have q1:(decide (cZ<((bN (bN t s.a8).2 (s.aQ+1)).1)))=false:=d!
  exact bY.out ba aL rfl (pk (d+1) _ _ hh _ hh (CN 2<|VV (bE 3 false false .i64 cZ (bN (bN t s.a8).2 (s.aQ+1)).1)<|BB q1<|ZZ) k!) aF o! ⟨aA,br,lO,(show ((0:Int)≤1) from o!)⟩ k!
 | dx+1,cZ,ba,eZ,du,x,hh,aF,aA,fN,kc,br=>by
  have tD:=aF _ _ br
  have ei:=fun {al ps} (k:Pk al _ ps)=>(CN 2<|VV (bE 3 false false .i64 cZ (bN (bN t s.a8).2 (s.aQ+1)).1)<|k:Pk _ [] ps)
  rcases bu (decide (cZ<((bN (bN t s.a8).2 (s.aQ+1)).1))) with f0 | f0
  · have ja:=jv f0
    have gh:hG env (some (.array 161 153)) (some (AV.ptr bj (tO+0))) (some (Zi cZ))=some (AV.ptr bj ((tO+0)+cZ.toNat*2)):=o7 (z:=2) (k:=cZ.toNat) k! o! o!
    have ld3:cX env hh 3 (AV.ptr bj (((tO+0)+cZ.toNat*2)+1))=some (Zi (ba.g (cZ.toNat*2+1))):=(gD (j:=(cZ.toNat*2+1)) (o:=tO) k! br o! lO o!)
    have T5:hG env (some (.array 161 153)) (some (AV.ptr bj (tO+0))) (some (Zi cZ))=some (AV.ptr bj ((tO+0)+cZ.toNat*2)):=o7 (z:=2) (k:=cZ.toNat) k! o! o!
    obtain ⟨h5,T6,ajM,abN⟩:=Bq (t:=3) (j:=(cZ.toNat*2+1)) (x:=((tO+0)+cZ.toNat*2)+1) (o:=tO) (v:=(IntKind.i64.wrap ((ba.g (cZ.toNat*2+1))+pieces))) aF k! br o! lO o!
    have mP:=ajM.1
    have ary:(ba.set (cZ.toNat*2+1) (IntKind.i64.wrap ((ba.g (cZ.toNat*2+1))+pieces))).g 0=ba.g 0:=bk o! _
    have anM:(ba.set (cZ.toNat*2+1) (IntKind.i64.wrap ((ba.g (cZ.toNat*2+1))+pieces))).g 322=ba.g 322:=bk o! _
    have anN:(ba.set (cZ.toNat*2+1) (IntKind.i64.wrap ((ba.g (cZ.toNat*2+1))+pieces))).g 323=ba.g 323:=bk o! _
    have fO:=kU ajM aA CY
    have w6:IntKind.i64.wrap (cZ+1)=cZ+1:=wrap_i64 o! o!
    exact bY.round (congrArg Sum.inl (by simp only[f_,f0,ao,ai])) (pk (d+1) _ _ hh _ h5 (ei<|BB f0<|CN 4<|VV gh<|CC<|MM ld3<|CN 4<|VV T5<|CC<|SS T6<|HH ld3<|HH (show AV.same 20 (Zi (ba.g (cZ.toNat*2+1))) (Zi (ba.g (cZ.toNat*2+1)))=true from aS 19 _ _)<|CC<|VV (qE 3 false true w6)<|CC<|ZZ) k!) o! _ k! (fun x=>I_ tO pieces t s tP tQ tE bj fI fU iB mO nI o8 qF bM tC dx (cZ+1) (ba.set (cZ.toNat*2+1) (IntKind.i64.wrap ((ba.g (cZ.toNat*2+1))+pieces))) o! (show (((0:Int)≤1)∧(0≤(cZ+1)∧((bN (bN t s.a8).2 (s.aQ+1)).1)≤161)) from o!) x h5 mP fO o! lO ajM.2.1)
  · exact bY.out ba aL (congrArg Sum.inl (by simp only[f_,f0,ao,ai])) (pk (d+1) _ _ hh _ hh (ei<|BB f0<|ZZ) k!) aF o! ⟨aA,br,lO,(show ((0:Int)≤1) from o!)⟩ k!
def fC (t:List Int) (s:Span) (pieces:Int):List Int:=(bif (decide (s.aQ<s.a8)) then t else (f_ pieces t s ((bN (bN t s.a8).2 (s.aQ+1)).1 -((bN t s.a8).1)).toNat (bN t s.a8).1 (bN (bN t s.a8).2 (s.aQ+1)).2))
theorem WG {d:Nat} {h hh:az} {tB tO:Nat} {tP tQ:List AV} {tE:TypeId} (t:List Int) (s:Span) (pieces:Int) (Cg:aK.ok h s) (AD:hh.get tB=some (aN.cells (tP++zs .i64 t++tQ) tE false)) (agb:tP.length=tO) (agc:t.length=324) (p_t:h.get tB=none) (mf:1≤t.g 322) (oQ:t.g 322≤159) (xU:t.g 0=0) (Ak:0≤s.a8) (Ha:s.aQ≤100000000) (bM:Tidy h) (aF:Tidy hh) (aA:Has h hh) (fN:h.nx≤hh.nx):∃hk,cA (d+2) (.fn 92) [(AV.ptr tB tO),(AV.agg [(Zi s.a8),(Zi s.aQ)]),(Zi pieces)] hh= .ret (AV.tuple []) hk∧Tidy hk∧hh.nx≤hk.nx∧Has h hk∧hk.get tB=some (aN.cells (tP++zs .i64 (fC t s pieces)++tQ) tE false)∧(fC t s pieces).length=324:=by
 have T_t:=aF _ _ AD
 obtain ⟨h1,dw,de,jW,bx,ca⟩:=gQ aF (aN.cells [(Zi s.a8),(Zi s.aQ)] 52 false)
 have bD:=aA.trans ca
 have gK:=fun {al ps} (k:Pk al _ ps)=>(NN dw (fun i=>(Pt i))<|CC<|MM (aP 3 0 (Zi s.a8) bx k!)<|CC<|MM (aP 3 1 (Zi s.aQ) bx k!)<|VV (gz 3 false false .i64 s.a8 s.aQ)<|k:Pk _ [] ps)
 rcases bu (decide (s.aQ<s.a8)) with f0 | f0
 · have ja:=jv f0
   have e:fC t s pieces=t:=by simp only[fC,f0,ao,ai]
   rw[e]
   exact iE rfl (aY Tryz.func92 WE rfl (.inr rfl) (pk (d+1) _ _ hh _ h1 (gK<|BB f0<|ZZ) k!) k!) aF de o! ⟨bD,(ca _ _ AD),lO⟩ (fun q=>⟨aA,eL q AD (ca _ _ AD),lO⟩)
 · have ja:=pK f0
   have w3:IntKind.i64.wrap (s.aQ+1)=s.aQ+1:=wrap_i64 o! o!
   obtain ⟨hw4,anO,arz,ajN,ajO,abO⟩:=dI de (ca _ _ AD)
   have anP:=bL bD CY abO
   obtain ⟨h5,abP,mP,agh,WH,abQ,ajP⟩:=WD (d:=d) (h:=hw4) (tO:=tO) t s.a8 (ca _ _ AD) o! lO ajN qG qG qG qG anO de ajO o!
   have aua:=CX t s.a8 o! o! o! o! o!
   have fO:=(anP.trans WH)
   obtain ⟨hw6,abR,ajQ,T7,T8,EZ⟩:=dI mP abQ
   have abS:=bL fO CY EZ
   obtain ⟨h7,arA,dM,ajR,Rm,ajS,ajT⟩:=WD (d:=d) (h:=hw6) (tO:=tO) (bN t s.a8).2 (s.aQ+1) abQ o! lO T7 qG qG qG qG abR mP T8 o!
   have aub:=CX (bN t s.a8).2 (s.aQ+1) o! o! o! o! o!
   have cV:=(abS.trans Rm)
   obtain ⟨anQ,E0,h9,ot,uw,T9,yG,T_,Ua,ap3⟩:=bY.n rfl (I_ (d:=d) (h:=h) tO pieces t s tP tQ tE tB Cg o! o! o! o! o! o! bM CY ((bN (bN t s.a8).2 (s.aQ+1)).1 -((bN t s.a8).1)).toNat (bN t s.a8).1 (bN (bN t s.a8).2 (s.aQ+1)).2 o! (show (((0:Int)≤1)∧(0≤((bN t s.a8).1)∧((bN (bN t s.a8).2 (s.aQ+1)).1)≤161)) from o!) (dr ((AV.ptr tB tO)::(AV.agg [(Zi s.a8),(Zi s.aQ)])::(Zi pieces)::aL::(Pt hh.nx)::aL::(Zi (bN t s.a8).1)::(Zi (bN (bN t s.a8).2 (s.aQ+1)).1)::(Zi (bN t s.a8).1)::(Pt hh.nx)::(Zi s.a8)::(AV.ptr hh.nx 1)::(Zi s.aQ)::(AV.bool (decide (s.aQ<s.a8)))::(AV.ptr tB tO)::(Pt hh.nx)::(Zi s.a8)::(Zi (bN t s.a8).1)::(AV.ptr tB tO)::(AV.ptr hh.nx 1)::(Zi s.aQ)::(Zi (s.aQ+1))::(Zi (bN (bN t s.a8).2 (s.aQ+1)).1)::(Zi (bN t s.a8).1)::iW 18)) h7 dM cV o! lO ajS)
   have nz:=yG
   have e:fC t s pieces=(f_ pieces t s ((bN (bN t s.a8).2 (s.aQ+1)).1 -((bN t s.a8).1)).toNat (bN t s.a8).1 (bN (bN t s.a8).2 (s.aQ+1)).2):=by simp only[fC,f0,ao,ai]
   rw[e]
   exact iE rfl (aY Tryz.func92 WE rfl (.inl rfl) (pk (d+1) _ _ hh _ h9 (gK<|BB f0<|CN 2<|MM (aP 3 0 (Zi s.a8) bx k!)<|CN 2<|MM (aP 3 1 (Zi s.aQ) bx k!)<|VV (qE 3 false true w3)<|EE abP<|EE arA<|CN 2<|HH (aP 3 0 (Zi s.a8) bx k!)<|HH (show AV.same 20 (Zi s.a8) (Zi s.a8)=true from aS 19 _ _)<|HH (aP 3 1 (Zi s.aQ) bx k!)<|HH (show AV.same 20 (Zi s.aQ) (Zi s.aQ)=true from aS 19 _ _)<|HH (aP 3 1 (Zi s.aQ) (WH _ _ ((abO _ o!).trans bx)) k!)<|HH (show AV.same 20 (Zi s.aQ) (Zi s.aQ)=true from aS 19 _ _)<|CN 2<|LL ot<|ZZ) k!) k!) aF uw o! ⟨nz,T_,lO⟩ (fun q=>⟨aA,eL q AD T_,lO⟩)
def fit (l:List Int):List Int:=(l++List.replicate 324 0).take 324
theorem wq (l:List Int):(fit l).length=324:=by
 rw[fit,List.length_take,List.length_append,List.length_replicate];omega
theorem ux {l:List Int} (h:l.length=324):fit l=l:=by
 rw[fit,←h,List.take_left'];rfl
structure Tl where
 l:List Int
def kL (L:List Tl):List AV:=L.flatMap fun t=>zs .i64 (fit t.l)
instance:Inhabited Tl:=⟨⟨[]⟩⟩
theorem WI (t:Tl):(zs .i64 (fit t.l)).length=324:=by rw[fS,wq]
theorem abT (L:List Tl):(kL L).length=L.length*324:=dJ WI L
theorem CZ (a b:List Tl):kL (a++b)=kL a++kL b:=List.flatMap_append ..
theorem C1 {L:List Tl} {i:Nat} (h:i<L.length):kL L=kL (L.take i)++zs .i64 (fit (L.g i).l)++kL (L.drop (i+1))∧(kL (L.take i)).length=i*324:=by
 constructor
 · have e:L=L.take i++[L.g i]++L.drop (i+1):=by
    have hg:L.g i=L[i]:=by rw[List.g,List.getD_eq_getElem?_getD,List.getElem?_eq_getElem h];rfl
    rw[hg,List.append_assoc,List.singleton_append,←List.drop_eq_getElem_cons h,List.take_append_drop]
   rw[congrArg kL e,CZ,CZ]
   rw[show kL [L.g i]=zs .i64 (fit (L.g i).l) from List.append_nil _]
 · rw[abT,List.length_take,Nat.min_eq_left (Nat.le_of_lt h)]
theorem abU {L:List Tl} {i:Nat} (h:i<L.length) {t:List Int} (ht:t.length=324):kL (L.set i ⟨t⟩)=kL (L.take i)++zs .i64 t++kL (L.drop (i+1)):=by
 have e:L.set i ⟨t⟩=L.take i++[⟨t⟩]++L.drop (i+1):=by rw[List.set_eq_take_append_cons_drop,if_pos h];simp
 rw[e,CZ,CZ]
 rw[show kL [⟨t⟩]=zs .i64 (fit t) from List.append_nil _,ux ht]
theorem Om {h:az} {b i:Nat} {L:List Tl} {e:TypeId} {ro:Bool} (hg:h.get b=some (.cells (kL L) e ro)) (hi:i<L.length):h.get b=some (.cells (kL (L.take i)++zs .i64 (fit (L.g i).l)++kL (L.drop (i+1))) e ro):=by
 rw[hg,(C1 hi).1]
theorem abV {h:az} {b i:Nat} {L:List Tl} {e:TypeId} {ro:Bool} {t:List Int} (hi:i<L.length) (ht:t.length=324) (hg:h.get b=some (.cells (kL (L.take i)++zs .i64 t++kL (L.drop (i+1))) e ro)):h.get b=some (.cells (kL (L.set i ⟨t⟩)) e ro):=by
 rw[hg,abU hi ht]
theorem YW {L:List Tl} {i:Nat} {t:Tl} (h:i<L.length):(L.set i t).g i=t:=by
 rw[List.g,List.getD_eq_getElem?_getD,List.getElem?_set_self h];rfl
theorem E1 {L:List Tl} {i j:Nat} (h:i≠j) (t:Tl):(L.set i t).g j=L.g j:=by
 rw[List.g,List.g,List.getD_eq_getElem?_getD,List.getD_eq_getElem?_getD,List.getElem?_set_ne h]
def bsl (e:TypeId) (L:List Int):Option (aN×(Nat→AV)):=match Av (fun i=>some (i*324,324)) (cB (zs .i64 (List.replicate 324 0)) 1) [(0,AV.agg (zs .i64 L))] with
 | some cs=>some (.cells cs e false,fun i=> .slice i 0 1 1 false)
 | none=>none
theorem ajU {e:TypeId} {L:List Int} (h:L.length=324):bsl e L=some (.cells (zs .i64 L) e false,fun i=> .slice i 0 1 1 false):=by
 have hr:cB (zs .i64 (List.replicate 324 0)) 1=[]++zs .i64 (List.replicate 324 0)++[]:=by
  rw[List.nil_append];rfl
 have hc:(AV.agg (zs .i64 L)).cells=zs .i64 L:=rfl
 have hs:=yE [] [] L (List.replicate 324 0) 0 (by rw[List.length_replicate,h];exact jR _)
 have hf:Av (fun i=>some (i*324,324)) (cB (zs .i64 (List.replicate 324 0)) 1) [(0,AV.agg (zs .i64 L))]=some (zs .i64 L):=by
  rw[hr]
  simp only[Av,hc,fS,h]
  rw[if_pos ⟨trivial,by simp [fS]⟩,show 0*324=List.length ([]:List AV)+0 from rfl,hs]
  simp [h]
 rw[bsl,hf]
theorem Ub {h:az} {b t:Nat} {e:TypeId} {C:List AV} {L:List Int} (y:Tidy h) (hs:dm env t=some 324) (hg:h.get b=some (.cells C e false)) (hC:C.length=324) (hL:L.length=324):∃(P Q:List AV) (h':az),eS env h t (.ptr b 0) (.agg (zs .i64 L))=some h'∧Ll h h' b (.cells (P++zs .i64 L++Q) e false)∧h'.nx=h.nx∧P.length=0:=by
 refine ⟨[],[],?_⟩
 obtain ⟨h',s⟩:=vb (E:=env) (t:=t) (o:=0) (n:=324) (v:= .agg (zs .i64 L)) hg hs (by show (zs .i64 L).length=324;rw[fS,hL]) o! (zR L)
 have q:=qD s hg
 have c:=jL (o:= .cells ([]++zs .i64 L++[]) e false) y hg
 have e2:setFrom C 0 (AV.agg (zs .i64 L)).cells=[]++zs .i64 L++[]:=by
  show setFrom C 0 (zs .i64 L)=_
  rw[List.nil_append,List.append_nil]
  apply List.ext_getElem?
  intro k
  rw[j5,fS]
  by_cases hk:k<324
  · rw[if_pos ⟨by omega,by omega,by omega⟩,Nat.sub_zero]
  · rw[if_neg o!,List.getElem?_eq_none o!,List.getElem?_eq_none (by rw[fS];omega)]
 rw[e2] at q
 subst q
 exact ⟨_,s,c,rfl,rfl⟩
theorem YX {h:az} {b t:Nat} {e:TypeId} {ro:Bool} {P Q:List AV} {L:List Int} (ha:jr env t=some true) (hs:dm env t=some 324) (hg:h.get b=some (.cells (P++zs .i64 L++Q) e ro)) (hP:P.length=0) (hL:L.length=324):cX env h t (.ptr b 0)=some (.agg (zs .i64 L)):=by
 have:P=[]:=List.length_eq_zero_iff.1 hP
 subst this
 simp only[cX,hg,nG,ha,hs]
 rw[if_pos (by simp [fS];omega)]
 rw[List.nil_append,List.drop_zero,List.take_append_of_le_length (by rw[fS];omega),List.take_of_length_le (by rw[fS];omega)]
instance:aK Tl:={toInhabited:=inferInstance,c:=fun t=>zs .i64 (fit t.l),n:=324,e:=156,len:=WI,ok:=fun _ _=>True,mono:=fun _ o=>o,size:=by kernel_rfl,agg:=by kernel_rfl,pos:=by decide}
def pL (g h:az) (z:AV) (L:List Tl):Prop:=(z= .aw∧L=[])∨(L≠ []∧∃p op,z= .slice p 0 L.length L.length op∧g.nx≤p∧h.get p=some (.cells (kL L) 156 false))
theorem pL.I0 {g h:az} {s xt b:TypeId} {tys:Array TypeId} {bytes:Nat} {z0 z:AV} {L:List Tl} {t:List Int} {e:TypeId} {ro op:Bool} (y:Tidy h) (hle:g.nx≤h.nx) (o:pL g h z L) (hg:h.get b=some (.cells (zs .i64 t) e ro)) (ht:t.length=324) (hl:L.length≤1000)
 (t0:tys[0]? =some s) (t1:tys[1]? =some xt) (hs:env.P.underlying s=some (.slice 156)) (hx:env.P.underlying xt=some (.slice 156)) (hb:jT env 156=some bytes) (xS:kE env 156=some z0) (hz:z0.cells.length=324) (h8:bytes≤4095):
 ∃z' h',cb env h tys z (.slice b 0 1 1 op)=some (z',h')∧Tidy h'∧h.nx≤h'.nx∧(∀i w,i<g.nx→h.get i=some w→h'.get i=some w)∧pL g h' z' (L++[⟨t⟩]):=by
 let he:az:=⟨HT.nil,g.nx,fun _=>none⟩
 have hen:∀i,he.get i=none:=fun i=>zL i g.nx
 have ye:Tidy he:=fun i x q=>by rw[hen] at q;cases q
 have ae:Has he h:=fun i x q=>by rw[hen] at q;cases q
 have oe:bI he h z L:=o.imp (fun q=>⟨.inl q.1,q.2⟩) id
 have hc:aK.c (⟨t⟩:Tl)=zs .i64 t:=congrArg (zs .i64) (ux ht)
 obtain ⟨z',h',a1,a2,a3,a4,a5,a6⟩:=bI.anF (α:=Tl) (N:=2000) (m:=[⟨t⟩]) (x:= .slice b 0 1 1 op) y ye ae hle oe rfl (oi (x:=(⟨t⟩:Tl)) (by rw[hc];exact hg)) (by rw[List.flatMap_cons,List.flatMap_nil,List.append_nil,hc];exact zR t) (by simp;omega) t0 t1 hs hx hb xS hz (fun k hk=>Nat.le_trans (Nat.mul_le_mul (show 4*k+4096≤20000 by omega) (show bytes+1≤4096 by omega)) (by decide))
 refine ⟨z',h',a1,a2,a3,fun i w hi q=>a6 i w (fun p n c b e=>?_) q,?_⟩
 · rcases o with ⟨rfl,_⟩ | ⟨_,p',op',rfl,h1,_⟩
   · cases e
   · have:=(AV.slice.inj e).1;omega
 · rcases a5 with ⟨_,e⟩ | q
   · simp at e
   · exact .inr q
theorem pL.has {g h h':az} {z:AV} {L:List Tl} (o:pL g h z L) (a:Has h h'):pL g h' z L:=o.imp id fun ⟨hn,p,op,e,h1,q⟩=>⟨hn,p,op,e,h1,a _ _ q⟩
theorem pL.kept {g h h':az} {z:AV} {L:List Tl} {b:Nat} (o:pL g h z L) (c:Kept b h h') (hb:b<g.nx):pL g h' z L:=o.imp id fun ⟨hn,p,op,e,h1,q⟩=>⟨hn,p,op,e,h1,c _ _ o! q⟩
theorem pL.scalar {g h:az} {z:AV} {L:List Tl} (o:pL g h z L):AV.scalar z=true:=by
 rcases o with ⟨rfl,_⟩ | ⟨hn,p,op,rfl,h1,q⟩<;>rfl
theorem pL.block {g h:az} {z:AV} {L:List Tl} (o:pL g h z L) (hL:0<L.length):∃p op,z= .slice p 0 L.length L.length op∧g.nx≤p∧h.get p=some (.cells (kL L) 156 false):=by
 rcases o with ⟨_,rfl⟩ | ⟨_,p,op,e,h1,q⟩
 · simp at hL
 · exact ⟨p,op,e,h1,q⟩
theorem pL.arC {g h:az} {z:AV} {L:List Tl} (o:pL g h z L) (hL:L.length=0):z= .aw:=by
 rcases o with ⟨e,_⟩ | ⟨hn,_⟩
 · exact e
 · exact absurd (List.length_eq_zero_iff.1 hL) hn
def tq (c:Int) (t:Tl):Prop:=1≤(fit t.l).g 322∧(fit t.l).g 322≤c∧(fit t.l).g 0=0
theorem tq.le {c c':Int} {t:Tl} (h:tq c t) (hc:c≤c'):tq c' t:=⟨h.1,Int.le_trans h.2.1 hc,h.2.2⟩
theorem Ro {nx:Nat} {a b z:AV} {cs:List AV} (h:AV.within nx 20 (.agg (a::b::z::cs))=true):AV.within nx (18+1) z=true:=by
 simp only[AV.within,List.all_cons,Bool.and_eq_true] at h
 exact h.2.2.1
theorem abW {A:List Tl} {u:List ko} {v:Int} {t:Tl} {n:Int} (ur:∀q,q<u.length→0≤(u.g q).ah∧(u.g q).ah<n) (ud:∀a,a<u.length→∀b,a<b→b<u.length→(u.g a).ah≠(u.g b).ah) (h0:0≤v) (hv:v<(u.length:Int)) (hi:∀q:Nat,v≤(q:Int)→q<u.length→tq 159 (A.g (Int.toNat (u.g q).ah))):∀q:Nat,v+1≤(q:Int)→q<u.length→tq 159 ((A.set (Int.toNat (u.g v.toNat).ah) t).g (Int.toNat (u.g q).ah)):=fun q hq hl=>by
 have a:=ur v.toNat o!
 have b:=ur q hl
 have c:=ud v.toNat o! q o! hl
 rw[E1 o!]
 exact hi q o! hl
end
end Go.Proofs.aM
