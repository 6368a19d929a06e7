import Derived.Test.YtkkpegaeikljmaaGreatDoorA5
set_option linter.unusedVariables false
set_option linter.unusedSimpArgs false
section
namespace Go.Ab
variable {E:Env} {M0:Fa.MJ}
structure Grow (h h':ah):Prop where
 y:Tidy h'
 a:Has h h'
 n:h.nx≤h'.nx
theorem Grow.refl {h:ah} (y:Tidy h):Grow h h:=⟨y,Has.refl h,Nat.le_refl _⟩
theorem Grow.trans {a b c:ah} (x:Grow a b) (y:Grow b c):Grow a c:=⟨y.y,x.a.trans y.a,Nat.le_trans x.n y.n⟩
theorem aU {d:Nat} {f:FuncId} {args:List AV} {h h':ah} {v:AV} {P:ah→Prop} (hm:M0 f args h=none) (hd:mz E (gE E M0 d) f args h v h') (y:Tidy h) (g:Grow h h') (p1:P h') (p2:AV.within h.nx 20 v=true→P h):
 ∃hk,gE E M0 (d+1) (.fn f) args h= .ret v hk∧Grow h hk∧P hk:=by
 by_cases hv:AV.within h.nx 20 v=true
 · exact ⟨h,ai hm hd g.a hv,Grow.refl y,p2 hv⟩
 · exact ⟨h',fa hm hd fun c=>hv c.2,g,p1⟩
theorem RE {d:Nat} {f:FuncId} {args:List AV} {h h':ah} {v:AV} (hm:M0 f args h=none) (hd:mz E (gE E M0 d) f args h v h'):
 ∃hk,gE E M0 (d+1) (.fn f) args h= .ret v hk∧(hk=h'∨(hk=h∧Has h h')):=by
 by_cases hv:Has h h'∧AV.within h.nx 20 v=true
 · exact ⟨h,ai hm hd hv.1 hv.2,.inr ⟨rfl,hv.1⟩⟩
 · exact ⟨h',fa hm hd hv,.inl rfl⟩
theorem il {h:ah} {p:Nat} {x o:ar} (y:Tidy h) (g:h.get p=some x):nj h (h.put p (some o)) p o:=
 ⟨fun i z hz=>by
  by_cases e:i=p
  · subst e;exact y _ _ g
  · rw[ah.bZ (Ne.symm e)] at hz;exact y _ _ hz,
  ah.eF _,fun i z hi hz=>by rw[ah.bZ (Ne.symm hi)];exact hz⟩
def Kept (p:Nat) (h h':ah):Prop:=∀i x,i≠p→h.get i=some x→h'.get i=some x
theorem Kept.refl (p:Nat) (h:ah):Kept p h h:=fun _ _ _ g=>g
theorem Kept.trans {p:Nat} {a b c:ah} (x:Kept p a b) (y:Kept p b c):Kept p a c:=fun i o hi g=>y i o hi (x i o hi g)
theorem Has.kept {p:Nat} {h h':ah} (a:Has h h'):Kept p h h':=fun i x _ g=>a i x g
theorem Kept.store {h h':ah} {t e:TypeId} {i o:Nat} {cs:List AV} {v:AV} (y:Tidy h) (s:ch E h t (.ptr i o) v=some h') (g:h.get i=some (.cells cs e false)):Kept i h h':=fun _ _ hj gj=>gX y s g hj gj
theorem ao.kept {h h':ah} {k:IntKind} {e:TypeId} {av:AV} {l:List Nat} {p:Nat} (x:ao E h k e av l) (c:Kept p h h') (ho:mj p av):ao E h' k e av l:=by
 refine ⟨⟨x.at_.size,x.at_.cells,x.at_.small,x.at_.lens,x.at_.block.imp id fun ⟨p',o',m,c',b,C,f,ro,h1,h0,h2,h3⟩=>⟨p',o',m,c',b,C,f,ro,h1,h0,c p' _ (fun e=>?_) h2,h3⟩⟩,x.agg,x.known⟩
 subst e
 exact ho _ _ _ _ h1
theorem jG (k:IntKind) (l:List Nat):(aA k l).all AV.scalar=true:=by
 simp [aA,AV.scalar]
theorem ao.rI {h:ah} {k:IntKind} {e:TypeId} {av:AV} {l:List Nat} (x:ao E h k e av l):rI av=some l.length:=by
 rcases x.known with rfl | ⟨p,o,n,c,b,rfl,_⟩
 · have:=x.len
   rw[nZ] at this
   simp only[Option.some.injEq,AV.int.injEq,true_and] at this
   rw[show l.length=0 by omega];rfl
 · rw[x.inv.1];rfl
theorem ao.first {h:ah} {k:IntKind} {e:TypeId} {av:AV} {l:List Nat} (x:ao E h k e av l):iq h 1 l.length av=some (aA k l):=by
 by_cases hl:l=[]
 · subst hl
   rcases x.known with rfl | ⟨p,o,n,c,b,rfl,_⟩<;>simp [iq,aA]
 rcases x.known with rfl | ⟨p,o,n,c,b,rfl,_⟩
 · have:=x.len
   rw[nZ] at this
   simp only[Option.some.injEq,AV.int.injEq,true_and] at this
   exact absurd (List.length_eq_zero_iff.1 (show l.length=0 by omega)) hl
 · obtain ⟨rfl,h2⟩:=x.inv
   obtain ⟨_,C,f,ro,g,hv⟩:=h2 hl
   have hC:o+l.length≤C.length:=by
    have hp:0<l.length:=List.length_pos_iff.2 hl
    have:=hv (l.length - 1) _ (List.getElem?_eq_getElem (show l.length - 1<l.length by omega))
    have:=(List.getElem?_eq_some_iff.1 this).1
    omega
   have h0:¬l.length=0:=fun e=>hl (List.length_eq_zero_iff.1 e)
   simp only[iq,Nat.le_refl,if_true,h0,if_false,g,Nat.mul_one,hC]
   refine congrArg some (List.ext_getElem? fun i=>?_)
   by_cases hi:i<l.length
   · rw[List.getElem?_take_of_lt hi,List.getElem?_drop,hv i _ (List.getElem?_eq_getElem hi),dP (List.getElem?_eq_getElem hi)]
   · rw[List.getElem?_eq_none (by simp;omega),List.getElem?_eq_none (by rw[aM];omega)]
theorem KO {h:ah} {k:IntKind} {e t:TypeId} {tys:Array TypeId} {d s:AV} {l:List Nat} {p o n:Nat} {C:List AV} {f:TypeId} (h0:tys[0]? =some t) (ht:E.P.underlying t=some (.slice e)) (hs:bK E e=some 1) (w:EL h d p o n C f) (x:ao E h k e s l) (hn:l.length≤n):
 DJ E h tys d s=some (.int .i64 (l.length:Nat),h.put p (some (.cells (setFrom C o (aA k l)) f false))):=by
 obtain ⟨c,b,rfl,hc⟩:=w.is
 have hf:=w.fits
 have Aj:iq h 1 (min l.length n) s=some (aA k l):=by
  rw[Nat.min_eq_left hn];exact x.first
 simp only[DJ,h0,ht,x.rI,hs,Aj,w.get]
 rw[if_pos ⟨by rw[aM];omega,jG k l⟩,Nat.min_eq_left hn]
theorem gH {e:TypeId} {s bytes n:Nat} {z:AV} (hs:bK E e=some s) (hb:mr E e=some bytes) (hz:jW E e=some z) (hl:z.cells.length=s) (h8:bytes≤1024) (hn:n<2^30):
 qm E (some (.slice e)) (some (.int .i64 (n:Nat))) (some (.int .i64 (n:Nat)))=some (.cells (aS z.cells n) e false,fun i=> .slice i 0 n n false):=by
 have h1:(bytes:Int)*(n:Int)≤1024*2^30:=by
  have:bytes*n≤1024*2^30:=Nat.mul_le_mul h8 (Nat.le_of_lt hn)
  omega
 simp only[qm,hs,hb,hz,hl]
 rw[if_pos ⟨by omega,by omega,by omega,by omega,trivial⟩]
 rfl
theorem Bv (z:List AV):∀n,(aS z n).length=n*z.length
 | 0=>by simp [aS]
 | n+1=>by rw[aS,List.length_append,Bv z n,Nat.succ_mul,Nat.add_comm]
theorem nH {d:Nat} {f:FuncId} {args:List AV} {h h':ah} {v:AV} {p:Nat} {x o:ar} (hm:M0 f args h=none) (hd:mz E (gE E M0 d) f args h v h') (y:Tidy h) (y':Tidy h') (hn:h.nx≤h'.nx) (k:Kept p h h') (gx:h.get p=some x) (go:h'.get p=some o):
 ∃hk,gE E M0 (d+1) (.fn f) args h= .ret v hk∧Tidy hk∧h.nx≤hk.nx∧Kept p h hk∧hk.get p=some o:=by
 by_cases hv:Has h h'∧AV.within h.nx 20 v=true
 · refine ⟨h,ai hm hd hv.1 hv.2,y,Nat.le_refl _,Kept.refl _ _,?_⟩
   have:=hv.1 _ _ gx
   rw[go] at this
   rw[gx,this]
 · exact ⟨h',fa hm hd hv,y',hn,k,go⟩
theorem cN {e:TypeId} {p n c i:Nat} {op:Bool} {z:Int} (hs:bK E e=some 1) (hi:i<n) (hz:z=(i:Nat)):bq E (some (.slice e)) (some (.slice p 0 n c op)) (some (.int .i64 z))=some (.ptr p i):=by
 subst hz
 have:=uH (E:=E) (e:=e) (i:=p) (o:=0) (len:=n) (c:=c) (z:=i) (b:=op) hs hi
 rw[Nat.zero_add,Nat.mul_one] at this
 exact this
theorem tj {h:ah} {t e:TypeId} {p i:Nat} {k:IntKind} {l:List Nat} {ro:Bool} (ht:iS E t=some false) (hg:h.get p=some (.cells (aA k l) e ro)) (hi:i<l.length):bk E h t (.ptr p i)=some (.int k ((l.getD i 0:Nat):Int)):=by
 simp only[bk,hg,jX,ht]
 exact dP (fK hi)
theorem Yu (k:IntKind) (l:List Nat) (i v:Nat):setFrom (aA k l) i [.int k (v:Int)]=aA k (l.set i v):=by
 show (aA k l).set i _=_
 simp [aA,List.map_set]
theorem RG {h:ah} {t e:TypeId} {p i v:Nat} {k:IntKind} {l:List Nat} (hs:bK E t=some 1) (hg:h.get p=some (.cells (aA k l) e false)) (hi:i<l.length):
 ch E h t (.ptr p i) (.int k (v:Int))=some (h.put p (some (.cells (aA k (l.set i v)) e false))):=by
 simp only[ch,hg,hs]
 rw[if_pos ⟨rfl,by rw[aM];omega,rfl⟩]
 rw[show (AV.int k (v:Int)).cells=[.int k (v:Int)] from rfl,Yu]
theorem append_nil {h:ah} {k:IntKind} {e s xt:TypeId} {tys:Array TypeId} {bytes:Nat} {z x:AV} {m:List Nat} (h0:tys[0]? =some s) (h1:tys[1]? =some xt) (hs:E.P.underlying s=some (.slice e)) (hx:E.P.underlying xt=some (.slice e)) (Ij:bK E e=some 1) (hb:mr E e=some bytes) (Jd:jW E e=some z) (hz:z.cells.length=1) (h8:bytes≤15) (x1:ao E h k e x m) (hm:m≠ []) (hl:m.length≤1073741824):
 ∃h',dI E h tys .ax x=some (.slice h.nx 0 m.length m.length true,h')∧h.new (.cells (aA k m) e false)=some h':=by
 obtain ⟨h',n⟩:=eH (h:=h) (.cells (aA k m) e false)
 refine ⟨h',?_,n⟩
 have hn:¬m.length=0:=fun e=>hm (List.length_eq_zero_iff.1 e)
 have FL:(4*m.length+4096)*(bytes+1)≤1099511627776:=Nat.le_trans (Nat.mul_le_mul (show 4*m.length+4096≤68719476736 by omega) (show bytes+1≤16 by omega)) (by decide)
 simp only[dI,h0,h1,hs,hx,pZ,Ij,hb,x1.rI,x1.first,Jd,hz,jG,aM,Nat.mul_one,hn,FL,n,if_true,if_false,and_self,Bool.false_eq_true]
theorem uJ {h:ah} {k:IntKind} {e s xt:TypeId} {tys:Array TypeId} {bytes p:Nat} {op:Bool} {z x:AV} {l m:List Nat} (y:Tidy h) (h0:tys[0]? =some s) (h1:tys[1]? =some xt) (hs:E.P.underlying s=some (.slice e)) (hx:E.P.underlying xt=some (.slice e)) (Ij:bK E e=some 1) (hb:mr E e=some bytes) (Jd:jW E e=some z) (hz:z.cells.length=1) (h8:bytes≤15) (x1:ao E h k e x m) {n:Nat} (hn:l.length=n) (hm:m≠ []) (hl:n+m.length≤1073741824)
 (hg:h.get p=some (.cells (aA k l) e false)):
 ∃h',dI E h tys (.slice p 0 n n op) x=some (.slice h.nx 0 (n+m.length) (n+m.length) true,h')∧Tidy h'∧h'.nx=h.nx+1∧Kept p h h'∧h'.get h.nx=some (.cells (aA k (l++m)) e false):=by
 have hp:=y _ _ hg
 subst hn
 have ec:((aA k l).drop 0).take (l.length*1)++aA k m=aA k (l++m):=by
  rw[List.drop_zero,Nat.mul_one,List.take_of_length_le (by rw[aM];exact Nat.le_refl _)]
  simp [aA]
 have y2:Tidy (if op then h.put p none else h):=by
  cases op with
  | false=>exact y
  | true=>
    intro i x g
    show i<h.nx
    by_cases hi:i=p
    · subst hi;exact hp
    · rw[if_pos rfl,ah.bZ (Ne.symm hi)] at g;exact y i x g
 have n2:(if op then h.put p none else h).nx=h.nx:=by cases op<;>rfl
 obtain ⟨h',n⟩:=eH (h:=if op then h.put p none else h) (.cells (aA k (l++m)) e false)
 refine ⟨h',?_,bI y2 n,by rw[cW n,n2],fun i x hi g=>?_,by rw[←n2];exact bU n⟩
 · have hn:0<m.length:=List.length_pos_iff.2 hm
   have FL:(4*(l.length+m.length)+4096)*(bytes+1)≤1099511627776:=Nat.le_trans (Nat.mul_le_mul (show 4*(l.length+m.length)+4096≤68719476736 by omega) (show bytes+1≤16 by omega)) (by decide)
   have hc:¬l.length+m.length≤l.length:=by omega
   simp only[dI,h0,h1,hs,hx,pZ,Ij,hb,x1.rI,x1.first,Jd,hz,jG,aM,hg,hc,if_true,if_false,Bool.false_eq_true]
   rw[if_pos ⟨trivial,trivial,by omega⟩,if_pos ⟨FL,by omega,fun _=>⟨trivial,by omega⟩⟩,ec,n]
 · refine b6 y2 n ?_
   cases op with
   | false=>exact g
   | true=>rw[if_pos rfl,ah.bZ (Ne.symm hi)];exact g
theorem ao.KE {h:ah} {k:IntKind} {e:TypeId} {av:AV} {l:List Nat} (x:ao E h k e av l) {i z p q:Nat} (hz:l[i]? =some z) (hi:bq E (some (.slice e)) (some av) (some (.int .i64 (i:Nat)))=some (.ptr p q)):bk E h e (.ptr p q)=some (.int k (z:Int)):=by
 obtain ⟨p2,q2,i2,l2⟩:=x.elem hz
 have:=hi.symm.trans i2
 simp only[Option.some.injEq,AV.ptr.injEq] at this
 rw[this.1,this.2];exact l2
theorem tk {t:TypeId} {s:List UInt8} {n:Nat} {z:Int} (ht:E.P.underlying t=some .string) (hz:z=(n:Nat)) (hn:n≤s.length):aZ E t (.str s) none (some (.int .i64 z)) none=some (.str (s.take n)):=by
 subst hz
 simp only[aZ,ht,iv (len:=s.length) (cap:=s.length) (lo:=0) (hi:=n) none (some (.int .i64 (n:Nat))) (.inr ⟨rfl,rfl⟩) (.inl rfl) (Nat.zero_le _) hn]
 rfl
theorem ln {t:TypeId} {s:List UInt8} {n:Nat} {z:Int} (ht:E.P.underlying t=some .string) (hz:z=(n:Nat)) (hn:n≤s.length):aZ E t (.str s) (some (.int .i64 z)) none none=some (.str (s.drop n)):=by
 subst hz
 simp only[aZ,ht,iv (len:=s.length) (cap:=s.length) (lo:=n) (hi:=s.length) (some (.int .i64 (n:Nat))) none (.inl rfl) (.inr ⟨rfl,rfl⟩) hn (Nat.le_refl _)]
 rw[List.take_of_length_le (by simp)]
theorem Jl {t:TypeId} {s:List UInt8} {m n:Nat} {y z:Int} (ht:E.P.underlying t=some .string) (hy:y=(m:Nat)) (hz:z=(n:Nat)) (hm:m≤n) (hn:n≤s.length):aZ E t (.str s) (some (.int .i64 y)) (some (.int .i64 z)) none=some (.str ((s.drop m).take (n - m))):=by
 subst hy hz
 simp only[aZ,ht,iv (len:=s.length) (cap:=s.length) (lo:=m) (hi:=n) (some (.int .i64 (m:Nat))) (some (.int .i64 (n:Nat))) (.inl rfl) (.inl rfl) hm hn]
theorem acC (k:Int) (h0:0≤k) (h1:k<256):IntKind.u8.wrap k=k:=by
 show (if (false&&decide (k%2^8≥2^7))=true then k%2^8 - 2^8 else k%2^8)=k
 rw[if_neg (by simp)]
 omega
theorem Bw {t:TypeId} {c d:Bool} {a b:Nat} {x y:Int} (hx:x=(a:Nat)) (hy:y=(b:Nat)) (h:a+b<18446744073709551616):aI E .add t c d (some (.int .u64 x)) (some (.int .u64 y))=some (.int .u64 ((a+b:Nat):Int)):=by
 subst hx hy;exact b_ h
theorem a8 {e:TypeId} {p o n c i:Nat} {op:Bool} {z:Int} (hs:bK E e=some 1) (hi:i<n) (hz:z=(i:Nat)):bq E (some (.slice e)) (some (.slice p o n c op)) (some (.int .i64 z))=some (.ptr p (o+i)):=by
 subst hz
 have:=uH (E:=E) (e:=e) (i:=p) (o:=o) (len:=n) (c:=c) (z:=i) (b:=op) hs hi
 rw[Nat.mul_one] at this
 exact this
theorem MV {C:List AV} {o i:Nat} {k:IntKind} {l:List Nat} (hf:o+l.length≤C.length) (hi:i<l.length):(setFrom C o (aA k l))[o+i]? =some (.int k ((l.getD i 0:Nat):Int)):=Holds.of hf i _ (fK hi)
theorem ku {h:ah} {t f:TypeId} {p o i:Nat} {k:IntKind} {l:List Nat} {C:List AV} {ro:Bool} (ht:iS E t=some false) (hf:o+l.length≤C.length) (hg:h.get p=some (.cells (setFrom C o (aA k l)) f ro)) (hi:i<l.length):bk E h t (.ptr p (o+i))=some (.int k ((l.getD i 0:Nat):Int)):=by
 simp only[bk,hg,jX,ht]
 exact MV hf hi
theorem MW {C:List AV} {o i v:Nat} {k:IntKind} {l:List Nat} (hf:o+l.length≤C.length) (hi:i<l.length):setFrom (setFrom C o (aA k l)) (o+i) [.int k (v:Int)]=setFrom C o (aA k (l.set i v)):=by
 show (setFrom C o (aA k l)).set (o+i) _=_
 apply List.ext_getElem?
 intro j
 rw[List.getElem?_set,cV,fV,fV,aM,aM,List.length_set]
 by_cases hj:o+i=j
 · subst hj
   rw[if_pos rfl,if_pos (by omega),if_pos ⟨by omega,by omega,by omega⟩,Nat.add_sub_cancel_left]
   simp [aA,hi]
 · rw[if_neg hj]
   split
   · rename_i h3
     have:(aA k (l.set i v))[j - o]? =(aA k l)[j - o]? :=by
      simp only[aA,List.getElem?_map,List.getElem?_set]
      rw[if_neg (by omega)]
     rw[this]
   · rfl
theorem tm {h:ah} {t f:TypeId} {p o i v:Nat} {k:IntKind} {l:List Nat} {C:List AV} (hs:bK E t=some 1) (hf:o+l.length≤C.length) (hg:h.get p=some (.cells (setFrom C o (aA k l)) f false)) (hi:i<l.length):
 ch E h t (.ptr p (o+i)) (.int k (v:Int))=some (h.put p (some (.cells (setFrom C o (aA k (l.set i v))) f false))):=by
 simp only[ch,hg,hs]
 rw[if_pos ⟨rfl,by rw[cV];omega,rfl⟩]
 rw[show (AV.int k (v:Int)).cells=[.int k (v:Int)] from rfl,MW hf hi]
theorem KP {C:List AV} {o:Nat} {k:IntKind} {l:List Nat} (x:Holds k C o l):setFrom C o (aA k l)=C:=by
 apply List.ext_getElem?
 intro j
 rw[fV]
 split
 · rename_i h3
   rw[aM] at h3
   have:=x (j - o) _ (List.getElem?_eq_getElem (show j - o<l.length by omega))
   rw[show o+(j - o)=j by omega] at this
   rw[this,dP (List.getElem?_eq_getElem (show j - o<l.length by omega))]
 · rfl
theorem mC {o:Nat} {k:IntKind} {R l:List Nat} (hf:o+l.length≤R.length):setFrom (aA k R) o (aA k l)=aA k (R.take o++l++R.drop (o+l.length)):=by
 apply List.ext_getElem?
 intro j
 rw[fV,aM,aM]
 simp only[aA,List.getElem?_map]
 split
 · rename_i h3
   rw[List.append_assoc,List.getElem?_append_right (by simp;omega),List.getElem?_append_left (by simp;omega)]
   congr 2
   simp;omega
 · rename_i h3
   congr 1
   by_cases hj:j<o
   · rw[List.append_assoc,List.getElem?_append_left (by simp;omega),List.getElem?_take_of_lt hj]
   · by_cases hk:j<R.length
     · have:¬j<o+l.length:=fun h=>h3 ⟨by omega,by omega,by omega⟩
       rw[List.getElem?_append_right (by simp;omega),List.getElem?_drop]
       congr 1
       simp;omega
     · rw[List.getElem?_eq_none (by omega),List.getElem?_eq_none (by simp;omega)]
theorem c_ (k:IntKind):∀n,aS [AV.int k 0] n=aA k (List.replicate n 0)
 | 0=>rfl
 | n+1=>by
   show AV.int k 0::aS [AV.int k 0] n=_
   rw[c_ k n,List.replicate_succ];rfl
theorem C4 {t e:TypeId} {p o m c lo hi:Nat} {op:Bool} {low high:Option AV} (ht:E.P.underlying t=some (.slice e)) (hs:bK E e=some 1) (hl:low=some (.int .i64 (lo:Nat))∨low=none∧lo=0) (hh:high=some (.int .i64 (hi:Nat))∨high=none∧hi=m) (h1:lo≤hi) (h2:hi≤c) (hm:m≤c) (h3:lo<c):
 aZ E t (.slice p o m c op) low high none=some (.slice p (o+lo) (hi - lo) (c - lo) op):=by
 simp only[aZ,ht,hs,hm,if_true,iv (len:=m) (cap:=c) low high hl hh h1 h2]
 rw[if_neg (by omega)]
 simp
theorem gI {t e:TypeId} {p o m c n:Nat} {op:Bool} {z:Int} (ht:E.P.underlying t=some (.slice e)) (hs:bK E e=some 1) (hz:z=(n:Nat)) (hn:n≤c) (hm:m≤c) (hc:0<c):aZ E t (.slice p o m c op) none (some (.int .i64 z)) none=some (.slice p o n c op):=by
 subst hz
 have:=C4 (E:=E) (t:=t) (e:=e) (p:=p) (o:=o) (m:=m) (c:=c) (lo:=0) (hi:=n) (op:=op) (low:=none) (high:=some (.int .i64 (n:Nat))) ht hs (.inr ⟨rfl,rfl⟩) (.inl rfl) (Nat.zero_le _) hn hm hc
 simpa using this
theorem Vt {t e:TypeId} {p o m c lo hi:Nat} {op:Bool} {y z:Int} (ht:E.P.underlying t=some (.slice e)) (hs:bK E e=some 1) (hy:y=(lo:Nat)) (hz:z=(hi:Nat)) (h1:lo≤hi) (h2:hi≤c) (hm:m≤c) (h3:lo<c):aZ E t (.slice p o m c op) (some (.int .i64 y)) (some (.int .i64 z)) none=some (.slice p (o+lo) (hi - lo) (c - lo) op):=by
 subst hy hz
 exact C4 ht hs (.inl rfl) (.inl rfl) h1 h2 hm h3
theorem MX {h:ah} {k:IntKind} {e s xt:TypeId} {tys:Array TypeId} {bytes:Nat} {z x:AV} (h0:tys[0]? =some s) (h1:tys[1]? =some xt) (hs:E.P.underlying s=some (.slice e)) (hx:E.P.underlying xt=some (.slice e)) (Ij:bK E e=some 1) (hb:mr E e=some bytes) (Jd:jW E e=some z) (hz:z.cells.length=1) (x1:ao E h k e x []):dI E h tys .ax x=some (.ax,h):=by
 have hl:=x1.rI
 have hf:=x1.first
 simp only[List.length_nil] at hl hf
 simp only[dI,h0,h1,hs,hx,pZ,Ij,hb,hl,hf,Jd,hz,jG,aM,List.length_nil,Nat.zero_mul,if_true,and_self,Bool.false_eq_true,if_false]
theorem Gp {t e:TypeId} {p m c lo w:Nat} {op:Bool} {y z:Int} (ht:E.P.underlying t=some (.slice e)) (hs:bK E e=some 1) (hy:y=(lo:Nat)) (hz:z=((lo+w:Nat):Int)) (h2:lo+w≤c) (hm:m≤c) (h3:lo<c):aZ E t (.slice p 0 m c op) (some (.int .i64 y)) (some (.int .i64 z)) none=some (.slice p lo w (c - lo) op):=by
 have:=Vt (E:=E) (t:=t) (e:=e) (p:=p) (o:=0) (m:=m) (c:=c) (lo:=lo) (hi:=lo+w) (op:=op) (y:=y) (z:=z) ht hs hy hz (by omega) h2 hm h3
 rwa [Nat.zero_add,Nat.add_sub_cancel_left] at this
def wJ (p q:Nat) (h h':ah):Prop:=∀i x,i≠p→i≠q→h.get i=some x→h'.get i=some x
theorem wJ.refl (p q:Nat) (h:ah):wJ p q h h:=fun _ _ _ _ g=>g
theorem wJ.trans {p q:Nat} {a b c:ah} (x:wJ p q a b) (y:wJ p q b c):wJ p q a c:=fun i o hi hj g=>y i o hi hj (x i o hi hj g)
theorem Has.MY {h0 h h':ah} {p q:Nat} (a:Has h0 h) (k:wJ p q h h') (y:Tidy h0) (hp:h0.nx≤p) (hq:h0.nx≤q):Has h0 h':=fun i x g=>by
 have:=y i x g
 exact k i x (by omega) (by omega) (a i x g)
theorem ao.RH {h:ah} {k:IntKind} {e:TypeId} {av:AV} {l:List Nat} (x:ao E h k e av l) {n:Nat} (hn:n≤l.length):iq h 1 n av=some (aA k (l.take n)):=by
 by_cases h0:n=0
 · subst h0
   rcases x.known with rfl | ⟨p,o,n,c,b,rfl,_⟩<;>simp [iq,aA]
 · have hl:l≠ []:=fun e=>by subst e;simp at hn;exact h0 hn
   rcases x.known with rfl | ⟨p,o,m,c,b,rfl,_⟩
   · have:=x.len
     rw[nZ] at this
     simp only[Option.some.injEq,AV.int.injEq,true_and] at this
     exact absurd (List.length_eq_zero_iff.1 (show l.length=0 by omega)) hl
   · obtain ⟨rfl,h2⟩:=x.inv
     obtain ⟨_,C,f,ro,g,hv⟩:=h2 hl
     have hC:o+n≤C.length:=by
      have:=hv (n - 1) _ (List.getElem?_eq_getElem (show n - 1<l.length by omega))
      have:=(List.getElem?_eq_some_iff.1 this).1
      omega
     simp only[iq,hn,if_true,h0,if_false,g,Nat.mul_one,hC]
     refine congrArg some (List.ext_getElem? fun i=>?_)
     by_cases hi:i<n
     · rw[List.getElem?_take_of_lt hi,List.getElem?_drop,hv i _ (List.getElem?_eq_getElem (by omega)),dP (z:=l[i]) (by rw[List.getElem?_take_of_lt hi];exact List.getElem?_eq_getElem _)]
     · rw[List.getElem?_eq_none (by simp;omega),List.getElem?_eq_none (by rw[aM];simp;omega)]
theorem Vu {h:ah} {k:IntKind} {e t:TypeId} {tys:Array TypeId} {d s:AV} {l:List Nat} {p o n:Nat} {C:List AV} {f:TypeId} (h0:tys[0]? =some t) (ht:E.P.underlying t=some (.slice e)) (hs:bK E e=some 1) (w:EL h d p o n C f) (x:ao E h k e s l) (hn:n≤l.length):
 DJ E h tys d s=some (.int .i64 (n:Nat),h.put p (some (.cells (setFrom C o (aA k (l.take n))) f false))):=by
 obtain ⟨c,b,rfl,hc⟩:=w.is
 have hf:=w.fits
 have Aj:iq h 1 (min l.length n) s=some (aA k (l.take n)):=by
  rw[Nat.min_eq_right hn];exact x.RH hn
 simp only[DJ,h0,ht,x.rI,hs,Aj,w.get]
 rw[if_pos ⟨by rw[aM,List.length_take];omega,jG k _⟩,Nat.min_eq_right hn]
theorem MZ (k:IntKind) (n:Nat) (e:TypeId) (ro:Bool):ar.same (.cells (aS [AV.int k 0] n) e ro) (.cells (aS [AV.int k 0] n) e ro)=true:=by
 have:∀n,dL (AV.same 20) (aS [AV.int k 0] n) (aS [AV.int k 0] n)=true:=fun n=>by
  induction n with
  | zero=>rfl
  | succ n ih=>
    show dL (AV.same 20) (AV.int k 0::aS [AV.int k 0] n) (AV.int k 0::aS [AV.int k 0] n)=true
    rw[dL,ih,aP];rfl
 simp [ar.same,this]
end Go.Ab
end
section
namespace Go.Ab
variable {E:Env}
structure Pk (al:List oB) (p0 ps:List Prop):Prop where
 ok:ni p0→ni ps
section
variable {al:List oB} {p0 ps:List Prop}
theorem ZZ {p:List Prop}:Pk [] p p:=⟨id⟩
theorem AA (a:oB) (k:Pk al p0 ps):Pk (a::al) p0 ps:=⟨k.ok⟩
theorem CC (k:Pk al p0 ps):Pk (.c::al) p0 ps:=⟨k.ok⟩
def cs:Nat→List oB→List oB
 | 0,l=>l
 | n+1,l=> .c::cs n l
theorem CN (n:Nat) (k:Pk al p0 ps):Pk (cs n al) p0 ps:=⟨k.ok⟩
theorem HH {P:Prop} (h:P) (k:Pk al (P::p0) ps):Pk al p0 ps:=⟨fun c=>k.ok ⟨h,c⟩⟩
theorem VV {l:Option AV} {x:AV} (h:l=some x) (k:Pk al ((l=some x)::p0) ps):Pk (.v x::al) p0 ps:=⟨fun c=>k.ok ⟨h,c⟩⟩
theorem QQ {l:Option AV} {x:AV} (h:l=some x) (k:Pk al ((l=some x)::p0) ps):Pk (.q x::al) p0 ps:=⟨fun c=>k.ok ⟨h,c⟩⟩
theorem MM {l:Option AV} {x:AV} (h:l=some x) (k:Pk al ((l=some x)::p0) ps):Pk (.m x::al) p0 ps:=⟨fun c=>k.ok ⟨h,c⟩⟩
theorem TT (k:Pk al ((true=true)::p0) ps):Pk (.b true::al) p0 ps:=⟨fun c=>k.ok ⟨rfl,c⟩⟩
theorem FF (k:Pk al ((false=false)::p0) ps):Pk (.b false::al) p0 ps:=⟨fun c=>k.ok ⟨rfl,c⟩⟩
theorem BB {u v:Bool} (h:u=v) (k:Pk al ((u=v)::p0) ps):Pk (.b v::al) p0 ps:=⟨fun c=>k.ok ⟨h,c⟩⟩
theorem EE {call:aE} {f:Fn} {args:List AV} {h h':ah} {x:AV} (e:call f args h= .ret x h') (k:Pk al ((call f args h= .ret x h')::p0) ps):Pk (.e x h'::al) p0 ps:=⟨fun c=>k.ok ⟨e,c⟩⟩
theorem SS {h h':ah} {t:TypeId} {a v:AV} (s:ch E h t a v=some h') (k:Pk al ((AV.undef=AV.undef∧ch E h t a v=some h')::p0) ps):Pk (.e AV.undef h'::al) p0 ps:=⟨fun c=>k.ok ⟨⟨rfl,s⟩,c⟩⟩
theorem PP {l:Option (AV×ah)} {x:AV} {h':ah} (e:l=some (x,h')) (k:Pk al ((l=some (x,h'))::p0) ps):Pk (.e x h'::al) p0 ps:=⟨fun c=>k.ok ⟨e,c⟩⟩
theorem NN {h h':ah} {obj:ar} (n:h.new obj=some h') (f:Nat→AV) (k:Pk al ((∃mk:Nat→AV,some (obj,f)=some (obj,mk)∧mk h.nx=f h.nx)::(h.new obj=some h')::p0) ps):Pk (.a obj (f h.nx) h'::al) p0 ps:=⟨fun c=>k.ok ⟨⟨f,rfl,rfl⟩,n,c⟩⟩
theorem KK {h h':ah} {obj:ar} {l:Option (ar×(Nat→AV))} {f:Nat→AV} (e:l=some (obj,f)) (n:h.new obj=some h') (k:Pk al ((∃mk:Nat→AV,l=some (obj,mk)∧mk h.nx=f h.nx)::(h.new obj=some h')::p0) ps):Pk (.a obj (f h.nx) h'::al) p0 ps:=⟨fun c=>k.ok ⟨⟨f,e,rfl⟩,n,c⟩⟩
theorem LL {call:aE} {b:Code} {s s':St} {e:oA} (ev:Ev E call b s e s') (k:Pk al ((Ev E call b s e s')::p0) ps):Pk (.l e s'::al) p0 ps:=⟨fun c=>k.ok ⟨ev,c⟩⟩
end
@[irreducible] def D6:R→List AV
  | .at _ s _ _=>s.ts
  | .bad=> []
theorem aec {call:aE} {c:Code} {ts:List AV} {h h':ah} {ds:List cC} {rc:RC} {n:Nat} {e:oA} {al:List oB} {ps:List Prop} (k:Pk al [] ps) (hr:run E call n c ⟨ts,h,ds,rc⟩ al []= .at e ⟨D6 (run E call n c ⟨ts,h,ds,rc⟩ al []),h',ds,rc⟩ [] ps):Ev E call c ⟨ts,h,ds,rc⟩ e ⟨D6 (run E call n c ⟨ts,h,ds,rc⟩ al []),h',ds,rc⟩:=As hr (k.ok trivial)
theorem aR {call:aE} {c:Code} {s s':St} {n:Nat} {e:oA} {al:List oB} {ps:List Prop} (k:Pk al [] ps) (hr:run E call n c s al []= .at e s' [] ps):Ev E call c s e s':=As hr (k.ok trivial)
def rx (x:Nat→AV):Nat→Nat→List AV→List AV
 | _,0,l=>l
 | i,n+1,l=>x i::rx x (i+1) n l
def aV:Nat→List AV
 | 0=> []
 | n+1=>AV.undef::aV n
end Go.Ab
end
