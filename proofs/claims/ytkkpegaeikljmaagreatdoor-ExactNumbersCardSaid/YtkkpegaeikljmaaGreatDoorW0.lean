import Derived.Test.YtkkpegaeikljmaaGreatDoorA6
import Derived.Test.YtkkpegaeikljmaaGreatDoorEnv
namespace Go.Proofs.aF
open Go.Proofs Ab
set_option maxRecDepth 100000
set_option maxHeartbeats 4000000
set_option linter.unusedVariables false
set_option linter.unusedSimpArgs false
theorem ak2 {b:Bool} (h:b=true):(!b)=false:=by rw[h];rfl
theorem ak3 {b:Bool} (h:b=false):(!b)=true:=by rw[h];rfl
theorem bQ (t:TypeId) (c d:Bool) (k:IntKind) (a b:Int):aI env .eql t c d (some (.int k a)) (some (.int k b))=some (.bool (decide (a=b))):=aco t c d k a b
theorem jb (t:TypeId) (c d:Bool) (k:IntKind) (a b:Int):aI env .neq t c d (some (.int k a)) (some (.int k b))=some (.bool (!decide (a=b))):=acp t c d k a b
theorem bh (t:TypeId) (c d:Bool) (k:IntKind) (a b:Int):aI env .lss t c d (some (.int k a)) (some (.int k b))=some (.bool (decide (a<b))):=acq t c d k a b
theorem yV (t:TypeId) (c d:Bool) (k:IntKind) (a b:Int):aI env .leq t c d (some (.int k a)) (some (.int k b))=some (.bool (decide (a≤b))):=acr t c d k a b
theorem bM (t:TypeId) (c d:Bool) (k:IntKind) (a b:Int):aI env .gtr t c d (some (.int k a)) (some (.int k b))=some (.bool (decide (b<a))):=acs t c d k a b
theorem bV (t:TypeId) (c d:Bool) (k:IntKind) (a b:Int):aI env .geq t c d (some (.int k a)) (some (.int k b))=some (.bool (decide (b≤a))):=acu t c d k a b
theorem EO (t:TypeId) (c d:Bool) (a b:List UInt8):aI env .eql t c d (some (.str a)) (some (.str b))=some (.bool (decide (a=b))):=Ym t c d a b
theorem VF (t:TypeId) (c d:Bool) (a b:List UInt8):aI env .neq t c d (some (.str a)) (some (.str b))=some (.bool (!decide (a=b))):=Yn t c d a b
theorem iI (t:TypeId) (c d:Bool) {k:IntKind} {a b z:Int} (h:k.wrap (a+b)=z):aI env .add t c d (some (.int k a)) (some (.int k b))=some (.int k z):=Au h
theorem bT (t:TypeId) (c d:Bool) {k:IntKind} {a b z:Int} (h:k.wrap (a - b)=z):aI env .sub t c d (some (.int k a)) (some (.int k b))=some (.int k z):=Gm h
theorem Iy (t:TypeId) (c d:Bool) {k:IntKind} {a b z:Int} (h:k.wrap (a*b)=z):aI env .mul t c d (some (.int k a)) (some (.int k b))=some (.int k z):=Av h
theorem aJ (t:TypeId) (o:Nat) (v:AV) {h:ah} {i:Nat} {cs:List AV} {e:TypeId} {ro:Bool} (hg:h.get i=some (.cells cs e ro)) (hv:jX env t cs o=some v):bk env h t (.ptr i o)=some v:=aN hg hv
theorem yq {a:Nat} (h:a<9223372036854775808):IntKind.i64.wrap (a:Int)=(a:Int):=wrap_i64 (by omega) (by omega)
theorem fX (t:TypeId) (c d:Bool) (a b:Nat) (h:a+b<9223372036854775808):aI env .add t c d (some (.int .i64 (a:Int))) (some (.int .i64 (b:Int)))=some (.int .i64 ((a+b:Nat):Int)):=Au (by rw[show (a:Int)+b=((a+b:Nat):Int) by omega];exact yq h)
theorem KQ (t:TypeId) (c d:Bool) (a b:Nat) (h:b≤a) (ha:a<9223372036854775808):aI env .sub t c d (some (.int .i64 (a:Int))) (some (.int .i64 (b:Int)))=some (.int .i64 ((a - b:Nat):Int)):=Gm (by rw[show (a:Int) - b=((a - b:Nat):Int) by omega];exact yq (by omega))
theorem YB (t:TypeId) (c d:Bool) (a b:Nat) (h:a*b<9223372036854775808):aI env .mul t c d (some (.int .i64 (a:Int))) (some (.int .i64 (b:Int)))=some (.int .i64 ((a*b:Nat):Int)):=Av (by rw[←Int.natCast_mul];exact yq h)
theorem Gr (t:TypeId) (c d:Bool) (a b:Nat) (hb:b≠0) (ha:a<9223372036854775808):aI env .quo t c d (some (.int .i64 (a:Int))) (some (.int .i64 (b:Int)))=some (.int .i64 ((a/b:Nat):Int)):=Aw (by omega) (by rw[←Int.ofNat_tdiv];exact yq (Nat.lt_of_le_of_lt (Nat.div_le_self _ _) ha))
theorem VG (t:TypeId) (c d:Bool) (a b:Nat) (hb:b≠0):aI env .rem t c d (some (.int .i64 (a:Int))) (some (.int .i64 (b:Int)))=some (.int .i64 ((a%b:Nat):Int)):=Ax (by omega) (by rw[←Int.ofNat_tmod])
theorem vG (d:Nat) (c:Code) (ts:List AV) (h:ah) (ds:List cC) (rc:RC) (e:oA) (h':ah) {al:List oB} {ps:List Prop} (k:Pk al [] ps) (hr:run env (aQ d) 300 c ⟨ts,h,ds,rc⟩ al []= .at e ⟨D6 (run env (aQ d) 300 c ⟨ts,h,ds,rc⟩ al []),h',ds,rc⟩ [] ps):Ev env (aQ d) c ⟨ts,h,ds,rc⟩ e ⟨D6 (run env (aQ d) 300 c ⟨ts,h,ds,rc⟩ al []),h',ds,rc⟩:=aec k hr
theorem pk (d:Nat) (c:Code) (ts:List AV) (h:ah) (e:oA) (h':ah) {al:List oB} {ps:List Prop} (k:Pk al [] ps) (hr:run env (aQ d) 300 c ⟨ts,h,[],.no⟩ al []= .at e ⟨D6 (run env (aQ d) 300 c ⟨ts,h,[],.no⟩ al []),h',[],.no⟩ [] ps):Ev env (aQ d) c ⟨ts,h,[],.no⟩ e ⟨D6 (run env (aQ d) 300 c ⟨ts,h,[],.no⟩ al []),h',[],.no⟩:=aec k hr
theorem de {h:ah} (y:Tidy h) (o:ar):∃h',h.new o=some h'∧Tidy h'∧h'.nx=h.nx+1∧h'.get h.nx=some o∧Has h h':=by
 obtain ⟨h',n⟩:=eH (h:=h) o
 exact ⟨h',n,bI y n,cW n,bU n,bu y n⟩
theorem yW {h:ah} {t e:TypeId} {i o n:Nat} {cs N:List AV} {v:AV} (y:Tidy h) (gg:h.get i=some (.cells cs e false)) (hs:bK env t=some n) (hv:v.cells.length=n) (hl:Nat.ble (o+n) cs.length=true) (hN:setFrom cs o v.cells=N) (hk:v.cells.all AV.scalar=true):∃h',ch env h t (.ptr i o) v=some h'∧Tidy h'∧h'.nx=h.nx∧h'.get i=some (.cells N e false)∧Kept i h h':=by
 obtain ⟨h',s⟩:=mA (E:=env) gg hs hv (Nat.le_of_ble_eq_true hl) hk
 exact ⟨h',s,iU y s gg,kq s gg,by rw[←hN];exact jP y s gg,Kept.store y s gg⟩
theorem b9 {h:ah} {t e:TypeId} {i n:Nat} {cs L:List AV} (y:Tidy h) (gg:h.get i=some (.cells cs e false)) (hs:bK env t=some n) (hv:L.length=n) (hc:cs.length=n) (hk:L.all AV.scalar=true):∃h',ch env h t (.ptr i 0) (.agg L)=some h'∧Tidy h'∧h'.nx=h.nx∧h'.get i=some (.cells L e false)∧Kept i h h':=
 yW y gg hs hv (by rw[hc,Nat.zero_add,Nat.ble_eq];exact Nat.le_refl n) (by
  show setFrom cs 0 L=L
  apply List.ext_getElem?
  intro k
  rw[fV]
  split
  · rfl
  · rw[List.getElem?_eq_none (by omega),List.getElem?_eq_none (by omega)]) hk
structure Rk (f:List oB→List oB) (ps:List Prop):Prop where
 ok:ni ps
theorem R0:Rk (fun l=>l) []:=⟨trivial⟩
section
variable {f:List oB→List oB} {ps:List Prop}
theorem Rc (k:Rk f ps):Rk (fun l=>f (.c::l)) ps:=⟨k.ok⟩
theorem Rn (n:Nat) (k:Rk f ps):Rk (fun l=>f (cs n l)) ps:=⟨k.ok⟩
end
section
variable {f:List oB→List oB} {ps:List Prop}
theorem Rh {P:Prop} (h:P) (k:Rk f ps):Rk f (P::ps):=⟨⟨h,k.ok⟩⟩
theorem Rv {l:Option AV} {x:AV} (h:l=some x) (k:Rk f ps):Rk (fun a=>f (.v x::a)) ((l=some x)::ps):=⟨⟨h,k.ok⟩⟩
theorem Rq {l:Option AV} {x:AV} (h:l=some x) (k:Rk f ps):Rk (fun a=>f (.q x::a)) ((l=some x)::ps):=⟨⟨h,k.ok⟩⟩
theorem Rm {l:Option AV} {x:AV} (h:l=some x) (k:Rk f ps):Rk (fun a=>f (.m x::a)) ((l=some x)::ps):=⟨⟨h,k.ok⟩⟩
theorem Rt (k:Rk f ps):Rk (fun a=>f (.b true::a)) ((true=true)::ps):=⟨⟨rfl,k.ok⟩⟩
theorem Rf (k:Rk f ps):Rk (fun a=>f (.b false::a)) ((false=false)::ps):=⟨⟨rfl,k.ok⟩⟩
theorem Rb {u v:Bool} (h:u=v) (k:Rk f ps):Rk (fun a=>f (.b v::a)) ((u=v)::ps):=⟨⟨h,k.ok⟩⟩
theorem Re {call:aE} {g:Ab.Fn} {args:List AV} {h h':ah} {x:AV} (e:call g args h= .ret x h') (k:Rk f ps):Rk (fun a=>f (.e x h'::a)) ((call g args h= .ret x h')::ps):=⟨⟨e,k.ok⟩⟩
theorem Rs {h h':ah} {t:TypeId} {a v:AV} (s:ch env h t a v=some h') (k:Rk f ps):Rk (fun l=>f (.e AV.undef h'::l)) ((AV.undef=AV.undef∧ch env h t a v=some h')::ps):=⟨⟨⟨rfl,s⟩,k.ok⟩⟩
theorem Ra {h h':ah} {obj:ar} (n:h.new obj=some h') (g:Nat→AV) (k:Rk f ps):Rk (fun a=>f (.a obj (g h.nx) h'::a)) ((∃mk:Nat→AV,some (obj,g)=some (obj,mk)∧mk h.nx=g h.nx)::(h.new obj=some h')::ps):=⟨⟨⟨g,rfl,rfl⟩,n,k.ok⟩⟩
end
theorem nf (d:Nat) (c:Code) (ts:List AV) (h:ah) (e:oA) (h':ah) {f:List oB→List oB} {ps:List Prop} (k:Rk f ps) (hr:run env (aQ d) 300 c ⟨ts,h,[],.no⟩ (f []) []= .at e ⟨D6 (run env (aQ d) 300 c ⟨ts,h,[],.no⟩ (f []) []),h',[],.no⟩ [] ps):Ev env (aQ d) c ⟨ts,h,[],.no⟩ e ⟨D6 (run env (aQ d) 300 c ⟨ts,h,[],.no⟩ (f []) []),h',[],.no⟩:=As hr k.ok
theorem k! {p:Prop} (h:p:=by kernel_rfl):p:=h
theorem z! {p:Prop} (h:p:=by first | (simp only[AV.cells,List.all_cons,List.all_nil,Bool.and_true,Bool.and_self,Yq,TB,Yr,Ys,MT,ad7,ad8,ad9,aea,aeb,Yt];done) | (simp only[AV.cells,List.all_cons,List.all_nil,Bool.and_true,Bool.and_self,Bool.and_eq_true,Yq,TB,Yr,Ys,MT,ad7,ad8,ad9,aea,aeb,Yt];and_intros<;>trivial)):p:=h
theorem o! {p:Prop} (h:p:=by omega):p:=h
theorem d! {p:Prop} (h:p:=by first | assumption | exact ak2 (by assumption) | exact ak3 (by assumption) | exact dT (by omega) | exact dF (by omega) | exact nT (by omega) | exact nF (by omega) | exact wrap_i64 (by omega) (by omega)):p:=h
theorem q! {p:Prop} (h:p:=by first | assumption | exact dT (by omega) | exact dF (by omega) | exact nT (by omega) | exact nF (by omega) | exact wrap_i64 (by omega) (by omega) | omega):p:=h
abbrev ae (n:Nat):AV:=.int .u64 (n:Int)
abbrev ag (n:Nat):AV:=.int .i64 (n:Int)
abbrev EP (n:Nat):AV:=.int .u8 (n:Int)
abbrev qo (n:Nat):AV:=.int .u32 (n:Int)
abbrev aa (n:Int):AV:=.int .u64 n
abbrev af (n:Int):AV:=.int .i64 n
abbrev bj (n:Int):AV:=.int .u8 n
abbrev gF (n:Int):AV:=.int .u32 n
abbrev aB:AV:=.undef
abbrev bE:AV:=.ax
abbrev aj (b:Bool):AV:=.bool b
abbrev au (m:Bool) (a b c d:Int) (f:AV) (u:Int):List AV:=[.bool m,.int .u64 a,.int .u64 b,.int .u64 c,.int .u64 d,f,.int .i64 u]
abbrev bz (m:Bool) (a b c d:Int) (f:AV) (u:Nat):List AV:=[.bool m,.int .u64 a,.int .u64 b,.int .u64 c,.int .u64 d,f,.int .i64 (u:Int)]
theorem fS (x:Int) (h1:-9223372036854775808≤x:=by omega) (h2:x<9223372036854775808:=by omega):IntKind.i64.wrap x=x:=wrap_i64 h1 h2
theorem dg (p:Prop) [Decidable p] (h:p:=by omega):decide p=true:=dT h
theorem cI (p:Prop) [Decidable p] (h:¬p:=by omega):decide p=false:=dF h
theorem W0 (p:Prop) [Decidable p] (h:¬p:=by omega):(!decide p)=true:=nT h
theorem TJ (p:Prop) [Decidable p] (h:p:=by omega):(!decide p)=false:=nF h
theorem Iz {h:ah} {p:Nat} {k:IntKind} {L:List Nat} {e:TypeId} (t:TypeId) (j v:Nat) (y:Tidy h) (hg:h.get p=some (.cells (aA k L) e false)) (hj:j<L.length) (hs:bK env t=some 1:=by kernel_rfl):∃h',ch env h t (.ptr p j) (.int k (v:Int))=some h'∧nj h h' p (.cells (aA k (L.set j v)) e false)∧Tidy h'∧h'.nx=h.nx:=
 ⟨_,RG hs hg hj,il y hg,(il y hg).1,rfl⟩
theorem iJ {h:ah} {p o:Nat} {k:IntKind} {L:List Nat} {C:List AV} {f:TypeId} (t:TypeId) (j v:Nat) (y:Tidy h) (fits:o+L.length≤C.length) (hg:h.get p=some (.cells (setFrom C o (aA k L)) f false)) (hj:j<L.length) (hs:bK env t=some 1:=by kernel_rfl):∃h',ch env h t (.ptr p (o+j)) (.int k (v:Int))=some h'∧nj h h' p (.cells (setFrom C o (aA k (L.set j v))) f false)∧Tidy h'∧h'.nx=h.nx:=
 ⟨_,tm hs fits hg hj,il y hg,(il y hg).1,rfl⟩
theorem _root_.Go.Ab.ao.j8 {h:ah} {k:IntKind} {e:TypeId} {av:AV} {l:List Nat} (x:ao env h k e av l) (I:Int) {N:Nat} (hN:N<l.length) (hI:I=(N:Int):=by omega):∃p q,bq env (some (.slice e)) (some av) (some (.int .i64 I))=some (.ptr p q)∧bk env h e (.ptr p q)=some (.int k ((l.getD N 0:Nat):Int)):=by
 rw[hI];exact x.elem (fK hN)
theorem acG (t:TypeId) (c d:Bool) (a b:Nat) (h0:a+b<18446744073709551616:=by omega):aI env .add t c d (some (.int .u64 (a:Int))) (some (.int .u64 (b:Int)))=some (.int .u64 ((a+b:Nat):Int)):=b_ h0
theorem M3 (t:TypeId) (c d:Bool) (a b:Nat) (h0:b≤a:=by omega) (h1:a<18446744073709551616:=by omega):aI env .sub t c d (some (.int .u64 (a:Int))) (some (.int .u64 (b:Int)))=some (.int .u64 ((a - b:Nat):Int)):=dR h0 h1
theorem acH (t:TypeId) (c d:Bool) (a b:Nat) (h0:a*b<18446744073709551616:=by omega):aI env .mul t c d (some (.int .u64 (a:Int))) (some (.int .u64 (b:Int)))=some (.int .u64 ((a*b:Nat):Int)):=bW h0
theorem afU (t:TypeId) (c d:Bool) (a b:Nat) (h0:b≠0:=by omega) (h1:a<18446744073709551616:=by omega):aI env .quo t c d (some (.int .u64 (a:Int))) (some (.int .u64 (b:Int)))=some (.int .u64 ((a/b:Nat):Int)):=rZ h0 h1
theorem afV (t:TypeId) (c d:Bool) (a b:Nat) (h0:b≠0:=by omega):aI env .rem t c d (some (.int .u64 (a:Int))) (some (.int .u64 (b:Int)))=some (.int .u64 ((a%b:Nat):Int)):=wI h0
theorem C5 (t:TypeId) (c d:Bool) (a b:Nat):aI env .add t c d (some (.int .u64 (a:Int))) (some (.int .u64 (b:Int)))=some (.int .u64 (((a+b)%18446744073709551616:Nat):Int)):=wH
abbrev KR (n:Nat) (l:List AV):List AV:=rx (fun _=>.undef) 0 n l
noncomputable def Gs:Code:=(Tryz.f75.body).getD .skip
theorem acI:Tryz.f75.body=some Gs:=by kernel_rfl
theorem YC {call:aE} {h:ah} {x y:Int} {u1 u3 u5 u7 u9 nk YD W1:Int} (c2:aI env .and 54 false true (some (aa x)) (some (aa 4294967295))=some (aa u1)) (c4:aI env .shr 54 false true (some (aa x)) (some (aa 32))=some (aa u3)) (c6:aI env .and 54 false true (some (aa y)) (some (aa 4294967295))=some (aa u5)) (c8:aI env .shr 54 false true (some (aa y)) (some (aa 32))=some (aa u7)) (VH:aI env .shr 54 false true (some (aa (IntKind.u64.wrap (u1*u5)))) (some (aa 32))=some (aa u9)) (Qo:aI env .and 54 false true (some (aa (IntKind.u64.wrap ((IntKind.u64.wrap (u3*u5))+u9)))) (some (aa 4294967295))=some (aa nk)) (c14:aI env .shr 54 false true (some (aa (IntKind.u64.wrap ((IntKind.u64.wrap (u3*u5))+u9)))) (some (aa 32))=some (aa YD)) (c16:aI env .shr 54 false true (some (aa (IntKind.u64.wrap (nk+(IntKind.u64.wrap (u1*u7)))))) (some (aa 32))=some (aa W1)):
 Ev env call Gs ⟨((aa x)::(aa y)::aV 49),h,[],.no⟩ .ret ⟨[(aa x),(aa y),aB,aB,(aa (IntKind.u64.wrap ((IntKind.u64.wrap ((IntKind.u64.wrap (u3*u7))+YD))+W1))),(aa (IntKind.u64.wrap (x*y))),(aa u1),(aa u3),(aa u5),(aa u7),(aa (IntKind.u64.wrap (u1*u5))),(aa (IntKind.u64.wrap ((IntKind.u64.wrap (u3*u5))+u9))),(aa (IntKind.u64.wrap (nk+(IntKind.u64.wrap (u1*u7))))),(aa YD),(aa x),(aa u1),(aa x),(aa u3),(aa y),(aa u5),(aa y),(aa u7),(aa u1),(aa u5),(aa (IntKind.u64.wrap (u1*u5))),(aa u3),(aa u5),(aa (IntKind.u64.wrap (u3*u5))),(aa (IntKind.u64.wrap (u1*u5))),(aa u9),(aa (IntKind.u64.wrap ((IntKind.u64.wrap (u3*u5))+u9))),(aa (IntKind.u64.wrap ((IntKind.u64.wrap (u3*u5))+u9))),(aa nk),(aa (IntKind.u64.wrap ((IntKind.u64.wrap (u3*u5))+u9))),(aa YD),(aa nk),(aa u1),(aa u7),(aa (IntKind.u64.wrap (u1*u7))),(aa (IntKind.u64.wrap (nk+(IntKind.u64.wrap (u1*u7))))),(aa u3),(aa u7),(aa (IntKind.u64.wrap (u3*u7))),(aa YD),(aa (IntKind.u64.wrap ((IntKind.u64.wrap (u3*u7))+YD))),(aa (IntKind.u64.wrap (nk+(IntKind.u64.wrap (u1*u7))))),(aa W1),(aa (IntKind.u64.wrap ((IntKind.u64.wrap ((IntKind.u64.wrap (u3*u7))+YD))+W1))),(aa x),(aa y),(aa (IntKind.u64.wrap (x*y)))],h,[],.no⟩:=
 aR (n:=200) (CN 3<|VV c2<|CN 2<|VV c4<|CN 2<|VV c6<|CN 2<|VV c8<|CN 9<|VV VH<|CN 3<|VV Qo<|CN 2<|VV c14<|CN 13<|VV c16<|CN 6<|ZZ) k!
theorem VI (x y:Nat) (hx:x<18446744073709551616) (hy:y<18446744073709551616):
 ((((x/2^32)*(y/2^32))%18446744073709551616+((((x/2^32)*(y%2^32))%18446744073709551616+((x%2^32)*(y%2^32))%18446744073709551616/2^32)%18446744073709551616) /2^32)%18446744073709551616+
  ((((((x/2^32)*(y%2^32))%18446744073709551616+((x%2^32)*(y%2^32))%18446744073709551616/2^32)%18446744073709551616)%2^32+((x%2^32)*(y/2^32))%18446744073709551616)%18446744073709551616) /2^32)%18446744073709551616=x*y/18446744073709551616:=by
 have ex:x=(x/2^32)*4294967296+x%2^32:=by omega
 have ey:y=(y/2^32)*4294967296+y%2^32:=by omega
 have b1:x/2^32≤4294967295:=by omega
 have b2:y/2^32≤4294967295:=by omega
 have b3:x%2^32≤4294967295:=by omega
 have b4:y%2^32≤4294967295:=by omega
 have e:x*y=((x/2^32)*(y/2^32))*18446744073709551616+((x/2^32)*(y%2^32)+(x%2^32)*(y/2^32))*4294967296+(x%2^32)*(y%2^32):=by
  conv=>lhs;rw[ex,ey]
  generalize x/2^32=a
  generalize y/2^32=b
  generalize x%2^32=c
  generalize y%2^32=d
  rw[Nat.add_mul,Nat.mul_add,Nat.mul_add]
  have h1:a*4294967296*(b*4294967296)=a*b*18446744073709551616:=by rw[Nat.mul_mul_mul_comm]
  have h2:a*4294967296*d=a*d*4294967296:=by rw[Nat.mul_right_comm]
  have h3:c*(b*4294967296)=c*b*4294967296:=by rw[Nat.mul_assoc]
  omega
 rw[e]
 generalize x/2^32=a at *
 generalize y/2^32=b at *
 generalize x%2^32=c at *
 generalize y%2^32=d at *
 have m1:a*b≤4294967295*4294967295:=Nat.mul_le_mul b1 b2
 have m2:a*d≤4294967295*4294967295:=Nat.mul_le_mul b1 b4
 have m3:c*b≤4294967295*4294967295:=Nat.mul_le_mul b3 b2
 have m4:c*d≤4294967295*4294967295:=Nat.mul_le_mul b3 b4
 generalize a*b=p at *
 generalize a*d=q at *
 generalize c*b=r at *
 generalize c*d=s at *
 omega
theorem RJ {call:aE} {h:ah} (x y:Nat) (hx:x<18446744073709551616) (hy:y<18446744073709551616):mz env call 75 [.int .u64 (x:Int),.int .u64 (y:Int)] h (.tuple [.int .u64 ((x*y/18446744073709551616:Nat):Int),.int .u64 ((x*y%18446744073709551616:Nat):Int)]) h:=by
 have YE:∀(z:Nat),z<18446744073709551616→aI env .and 54 false true (some (.int .u64 (z:Int))) (some (.int .u64 4294967295))=some (.int .u64 ((z%2^32:Nat):Int)):=fun z hz=>wG 54 false true z 32 hz (by decide)
 have M4:∀(z:Nat),aI env .shr 54 false true (some (.int .u64 (z:Int))) (some (.int .u64 32))=some (.int .u64 ((z/2^32:Nat):Int)):=fun z=>cZ 54 false true z 32 .u64 (by decide)
 have lt:∀z:Nat,z%18446744073709551616<18446744073709551616:=fun z=>Nat.mod_lt _ (by decide)
 have e1:IntKind.u64.wrap (IntKind.u64.wrap (IntKind.u64.wrap (((x/2^32:Nat):Int)*((y/2^32:Nat):Int))+(((((x/2^32)*(y%2^32))%18446744073709551616+((x%2^32)*(y%2^32))%18446744073709551616/2^32)%18446744073709551616/2^32:Nat):Int))+(((((((x/2^32)*(y%2^32))%18446744073709551616+((x%2^32)*(y%2^32))%18446744073709551616/2^32)%18446744073709551616)%2^32+((x%2^32)*(y/2^32))%18446744073709551616)%18446744073709551616/2^32:Nat):Int))=((x*y/18446744073709551616:Nat):Int):=by
  rw[gN,eI,eI,VI x y hx hy]
 rw[←e1,←gN x y]
 exact az Tryz.func75 acI k! (.inr rfl) (YC (YE x hx) (M4 x) (YE y hy) (M4 y) (by rw[gN];exact M4 _) (by rw[gN,eI];exact YE _ (lt _)) (by rw[gN,eI];exact M4 _) (by rw[gN,eI];exact M4 _)) k!
theorem r8 {d:Nat} {h:ah} (x y:Nat) (hx:x<18446744073709551616) (hy:y<18446744073709551616):aQ (d+1) (.fn 75) [.int .u64 (x:Int),.int .u64 (y:Int)] h= .ret (.tuple [.int .u64 ((x*y/18446744073709551616:Nat):Int),.int .u64 ((x*y%18446744073709551616:Nat):Int)]) h:=
 ai rfl (RJ x y hx hy) (Has.refl h) rfl
def Words (l:List Nat):Prop:=∀w∈l,w<18446744073709551616
theorem Words.getD {l:List Nat} (h:Words l) (k:Nat):l.getD k 0<18446744073709551616:=by
 by_cases hk:k<l.length
 · rw[List.getD_eq_getElem?_getD,List.getElem?_eq_getElem hk];exact h _ (List.getElem_mem hk)
 · rw[List.getD_eq_getElem?_getD,List.getElem?_eq_none o!];decide
noncomputable def sO:Code:=(Tryz.f134.body).getD .skip
theorem RK:Tryz.f134.body=some sO:=by kernel_rfl
noncomputable def pw:Code:=(aY sO).getD 0 .skip
theorem Gt {call:aE} {h:ah} {ds:List cC} {rc:RC} {x1 x3 x4 x5 x6 x8 x9 x10 x11 x12 x13 x14 x15 x16 x20 x21 x22 x23 x24 x25 x26 x27 x28 x29 x30 x31 x32 x33 x34 x35 x36 x37 x38 x39 x40 x41 x42 x43 x44 x45 x46 x47 x48 x49 x50 x51 x52 x53 x54 x55 x56:AV} {z a:AV} {m ca i n:Int} {p2 p3 C7 Ff:Nat} {y5 y7 y8 By zM uk sP sQ:Int} {Bz:List AV} {Gu:TypeId} (aw:Tidy h) (ES:0≤h.nx) (q1:(decide (i<n))=true) (c4:bq env (some (.slice 54)) (some a) (some (af i))=some (AV.ptr p2 p3)) (c6:bk env h 54 (AV.ptr p2 p3)=some (aa y5)) (k9:∀hh,Tidy hh→Has h hh→(h.nx≤hh.nx∧0≤hh.nx)→call (.fn 75) [(aa y5),(aa m)] hh= .ret (AV.tuple [(aa y7),(aa y8)]) hh) (Qo:bq env (some (.slice 54)) (some z) (some (af i))=some (AV.ptr C7 Ff)) (c14:bk env h 54 (AV.ptr C7 Ff)=some (aa By)) (RL:jk [(aa y8),(aa By),(aa 0)]=some (AV.tuple [(aa zM),(aa uk)])) (c20:jk [(aa zM),(aa ca),(aa 0)]=some (AV.tuple [(aa sP),(aa sQ)])) (qp:h.get C7=some (ar.cells Bz Gu false)) (afW:Ff<Bz.length) (w22:IntKind.i64.wrap (i+1)=i+1):
 ∃(KS:ah),Ev env call pw ⟨[z,x1,(aa m),x3,x4,x5,x6,(aa ca),x8,x9,x10,x11,x12,x13,x14,x15,x16,a,(af n),(af i),x20,x21,x22,x23,x24,x25,x26,x27,x28,x29,x30,x31,x32,x33,x34,x35,x36,x37,x38,x39,x40,x41,x42,x43,x44,x45,x46,x47,x48,x49,x50,x51,x52,x53,x54,x55,x56],h,ds,rc⟩ .normal ⟨[z,x1,(aa m),x3,x4,x5,x6,(aa (IntKind.u64.wrap ((IntKind.u64.wrap (y7+uk))+sQ))),(af i),(aa y5),(aa (IntKind.u64.wrap (y7+uk))),(aa sP),(aa sQ),x13,x14,x15,x16,a,(af n),(af (i+1)),(aj (decide (i<n))),(af i),(AV.ptr p2 p3),(aa y5),(AV.tuple [(aa y7),(aa y8)]),(aa y5),(aa m),(AV.tuple [(aa y7),(aa y8)]),(aa y7),(aa y8),(AV.tuple [(aa zM),(aa uk)]),(aa y8),z,(af i),(AV.ptr C7 Ff),(aa By),(AV.tuple [(aa zM),(aa uk)]),(aa zM),(aa uk),(aa y7),(aa uk),(aa (IntKind.u64.wrap (y7+uk))),(AV.tuple [(aa sP),(aa sQ)]),(aa zM),(aa ca),(AV.tuple [(aa sP),(aa sQ)]),(aa sP),(aa sQ),z,(af i),(aa sP),(aa (IntKind.u64.wrap (y7+uk))),(aa sQ),(aa (IntKind.u64.wrap ((IntKind.u64.wrap (y7+uk))+sQ))),(AV.ptr C7 Ff),(af (i+1)),x56],KS,ds,rc⟩∧nj h KS C7 (ar.cells (Bz.set Ff (aa sP)) Gu false)∧KS.nx=h.nx:=by
 obtain ⟨KS,qt⟩:∃h',ch env h 54 (AV.ptr C7 Ff) (aa sP)=some h':=mA (n:=1) qp k! rfl o! z!
 have r9:=iU aw qt qp
 have M5:=kq qt qp
 have YF:nj h KS C7 (ar.cells (Bz.set Ff (aa sP)) Gu false):=⟨r9,jP aw qt qp,fun i x hi gx=>gX aw qt qp hi gx⟩
 exact ⟨KS,aR (n:=200) (VV (bh 3 false false .i64 i n)<|BB q1<|CC<|VV c4<|MM c6<|CN 4<|EE (show call (.fn 75) [(aa y5),(aa m)] h= .ret (AV.tuple [(aa y7),(aa y8)]) h from k9 _ aw (Has.refl _) ⟨by omega,by omega⟩)<|CN 8<|VV Qo<|MM c14<|QQ RL<|CN 11<|QQ c20<|CN 11<|VV Qo<|SS qt<|CC<|VV (iI 3 false true w22)<|CC<|ZZ) k!,YF,M5⟩
theorem Gv {call:aE} {h:ah} {ds:List cC} {rc:RC} {x1 x3 x4 x5 x6 x8 x9 x10 x11 x12 x13 x14 x15 x16 x20 x21 x22 x23 x24 x25 x26 x27 x28 x29 x30 x31 x32 x33 x34 x35 x36 x37 x38 x39 x40 x41 x42 x43 x44 x45 x46 x47 x48 x49 x50 x51 x52 x53 x54 x55 x56:AV} {z a:AV} {m ca i n:Int} (q1:(decide (i<n))=false):
 Ev env call pw ⟨[z,x1,(aa m),x3,x4,x5,x6,(aa ca),x8,x9,x10,x11,x12,x13,x14,x15,x16,a,(af n),(af i),x20,x21,x22,x23,x24,x25,x26,x27,x28,x29,x30,x31,x32,x33,x34,x35,x36,x37,x38,x39,x40,x41,x42,x43,x44,x45,x46,x47,x48,x49,x50,x51,x52,x53,x54,x55,x56],h,ds,rc⟩ (.exit 0) ⟨[z,x1,(aa m),x3,x4,x5,x6,(aa ca),x8,x9,x10,x11,x12,x13,x14,x15,x16,a,(af n),(af i),(aj (decide (i<n))),x21,x22,x23,x24,x25,x26,x27,x28,x29,x30,x31,x32,x33,x34,x35,x36,x37,x38,x39,x40,x41,x42,x43,x44,x45,x46,x47,x48,x49,x50,x51,x52,x53,x54,x55,x56],h,ds,rc⟩:=
 aR (n:=200) (VV (bh 3 false false .i64 i n)<|BB q1<|ZZ) k!
theorem M6 {call:aE} {h:ah} {z a:AV} {m:Int} {n1 co:Int} {y3 YG YH YI YJ YK YM afX YN YO M7 M8 M9 M_ M' Na Nb Nc Nd Nf Ng Nh Ni Nj Nk Nl Nm Nn No Np Nq Nr Ns Nt Nu Nv Nw Nx Ny Nz NA NB NC ND NF NG NH NI NJ NK NL NM NO NP NQ TL ah2:AV} {hz:ah} (aw:Tidy h) (ES:0≤h.nx) (afY:Tidy hz) (afZ:0≤hz.nx) (c2:dO (some (.slice 54)) (some a)=some (af n1)) (c4:aZ env 56 z (none) (some (af n1)) (none)=some y3) (e6:Ev env call (.loop pw) ⟨(y3::a::(aa m)::aB::aB::aB::(aa 0)::(aa 0)::aB::aB::aB::aB::aB::z::a::(af n1)::y3::a::(af n1)::(af 0)::aV 37),h,[],.no⟩ (.exit 0) ⟨[YG,YH,YI,YJ,YK,YM,afX,(aa co),YN,YO,M7,M8,M9,M_,M',Na,Nb,Nc,Nd,Nf,Ng,Nh,Ni,Nj,Nk,Nl,Nm,Nn,No,Np,Nq,Nr,Ns,Nt,Nu,Nv,Nw,Nx,Ny,Nz,NA,NB,NC,ND,NF,NG,NH,NI,NJ,NK,NL,NM,NO,NP,NQ,TL,ah2],hz,[],.no⟩):
 Ev env call sO ⟨(z::a::(aa m)::aV 54),h,[],.no⟩ .ret ⟨[YG,YH,YI,YJ,YK,YM,(aa co),(aa co),YN,YO,M7,M8,M9,M_,M',Na,Nb,Nc,Nd,Nf,Ng,Nh,Ni,Nj,Nk,Nl,Nm,Nn,No,Np,Nq,Nr,Ns,Nt,Nu,Nv,Nw,Nx,Ny,Nz,NA,NB,NC,ND,NF,NG,NH,NI,NJ,NK,NL,NM,NO,NP,NQ,TL,(aa co)],hz,[],.no⟩:=
 aR (n:=200) (CN 4<|VV c2<|QQ c4<|CN 2<|VV c2<|CC<|LL e6<|CN 2<|ZZ) k!
def vH (z x:List Nat) (m:Nat):Nat→List Nat×Nat
 | 0=>([],0)
 | k+1=>((vH z x m k).1++[(x.getD k 0*m+z.getD k 0+(vH z x m k).2)%18446744073709551616],(x.getD k 0*m+z.getD k 0+(vH z x m k).2) /18446744073709551616)
theorem BA (z x:List Nat) (m:Nat):∀k,(vH z x m k).1.length=k
 | 0=>rfl
 | k+1=>by simp [vH,BA z x m k]
theorem wK {x m:Nat} (hx:x<18446744073709551616) (hm:m<18446744073709551616):x*m≤18446744073709551615*18446744073709551615:=Nat.mul_le_mul o! o!
theorem C8 {z x:List Nat} {m:Nat} (wz:Words z) (wx:Words x) (hm:m<18446744073709551616):∀k,(vH z x m k).2<18446744073709551616
 | 0=>by show 0<18446744073709551616;decide
 | k+1=>by
  have h0:=C8 wz wx hm k
  have h1:=wK (wx.getD k) hm
  have h2:=wz.getD k
  simp only[vH]
  generalize x.getD k 0*m=P at *
  omega
theorem zN {d:Nat} {h0:ah} {ds:List cC} {rc:RC} {z a:AV} {l zs:List Nat} {m:Nat} {p o n:Nat} {C:List AV} {f:TypeId} (hz:EL h0 z p o n C f) (hn:l.length=n) (Q6:l.length=zs.length) (hC:Holds .u64 C o zs) (ha:ao env h0 .u64 54 a l) (oa:mj p a) (wl:Words l) (wz:Words zs) (hm:m<18446744073709551616) (po:0≤h0.nx):
 ∀(r k:Nat) (i:Int) (h:ah),k+r=l.length→i=(k:Nat)→nj h0 h p (.cells (setFrom C o (aA .u64 (vH zs l m k).1)) f false)→h.nx=h0.nx→∀(ca:Int) (x1 x3 x4 x5 x6 x8 x9 x10 x11 x12 x13 x14 x15 x16 x20 x21 x22 x23 x24 x25 x26 x27 x28 x29 x30 x31 x32 x33 x34 x35 x36 x37 x38 x39 x40 x41 x42 x43 x44 x45 x46 x47 x48 x49 x50 x51 x52 x53 x54 x55 x56:AV),ca=((vH zs l m k).2:Nat)→
  ∃h' y0 y1 y2 y3 y4 y5 y6 y7 y8 y9 gP vP sR By pO zM uk ET sP sQ EU KT KU KV KW KX KY KZ K0 K1 K2 TM TN TO TP TQ TR TS TU TV TW y41 y42 y43 y44 y45 y46 y47 y48 y49 y50 y51 y52 y53 y54 y55 y56,Ev env (aQ (d+1)) (.loop pw) ⟨[z,x1,(ae m),x3,x4,x5,x6,(aa ca),x8,x9,x10,x11,x12,x13,x14,x15,x16,a,(af (l.length:Nat)),(af i),x20,x21,x22,x23,x24,x25,x26,x27,x28,x29,x30,x31,x32,x33,x34,x35,x36,x37,x38,x39,x40,x41,x42,x43,x44,x45,x46,x47,x48,x49,x50,x51,x52,x53,x54,x55,x56],h,ds,rc⟩ (.exit 0) ⟨[y0,y1,y2,y3,y4,y5,y6,y7,y8,y9,gP,vP,sR,By,pO,zM,uk,ET,sP,sQ,EU,KT,KU,KV,KW,KX,KY,KZ,K0,K1,K2,TM,TN,TO,TP,TQ,TR,TS,TU,TV,TW,y41,y42,y43,y44,y45,y46,y47,y48,y49,y50,y51,y52,y53,y54,y55,y56],h',ds,rc⟩∧y7= .int .u64 ((vH zs l m l.length).2:Nat)∧nj h0 h' p (.cells (setFrom C o (aA .u64 (vH zs l m l.length).1)) f false)∧h'.nx=h0.nx
 | 0,k,i,h,hk,hi,hc,hx,ca,x1,x3,x4,x5,x6,x8,x9,x10,x11,x12,x13,x14,x15,x16,x20,x21,x22,x23,x24,x25,x26,x27,x28,x29,x30,x31,x32,x33,x34,x35,x36,x37,x38,x39,x40,x41,x42,x43,x44,x45,x46,x47,x48,x49,x50,x51,x52,x53,x54,x55,x56,CI=>by
  obtain rfl:k=l.length:=by omega
  exact ⟨h,_,_,_,_,_,_,_,_,_,_,_,_,_,_,_,_,_,_,_,_,_,_,_,_,_,_,_,_,_,_,_,_,_,_,_,_,_,_,_,_,_,_,_,_,_,_,_,_,_,_,_,_,_,_,_,_,_,Ev.out (Gv (dF o!)),by rw[CI],hc,hx⟩
 | r+1,k,i,h,hk,hi,hc,hx,ca,x1,x3,x4,x5,x6,x8,x9,x10,x11,x12,x13,x14,x15,x16,x20,x21,x22,x23,x24,x25,x26,x27,x28,x29,x30,x31,x32,x33,x34,x35,x36,x37,x38,x39,x40,x41,x42,x43,x44,x45,x46,x47,x48,x49,x50,x51,x52,x53,x54,x55,x56,CI=>by
  have hs:=ha.small
  have ha':=ha.chg hc oa
  obtain ⟨p1,q1,i1,l1⟩:=ha'.elem (fK (show k<l.length by omega))
  have RM:EL h z p o n (setFrom C o (aA .u64 (vH zs l m k).1)) f:=⟨hz.is,hc.2.1,by rw[cV];exact hz.fits⟩
  have j1:=RM.idx (E:=env) (e:=54) k! (show k<n by omega)
  have zl:bk env h 54 (.ptr p (o+k))=some (.int .u64 ((zs.getD k 0:Nat):Int)):=RM.load k! (hC.behind (by rw[BA];exact Nat.le_refl _) (fK o!))
  have lt:=RM.fits
  have w2:=fS (i+1)
  have b1:=C8 wz wl hm k
  have b2:=wz.getD k
  have b3:=wK (wl.getD k) hm
  have sL:(setFrom C o (aA .u64 (vH zs l m k).1)).set (o+k) (.int .u64 (((l.getD k 0*m+zs.getD k 0+(vH zs l m k).2)%18446744073709551616:Nat):Int))=setFrom C o (aA .u64 (vH zs l m (k+1)).1):=by
   simp only[vH]
   rw[th,mB,aM,BA]
  have a1:=fL (l.getD k 0*m%18446744073709551616) (zs.getD k 0) 0 (by decide)
  have a2:=fL ((l.getD k 0*m%18446744073709551616+zs.getD k 0+0)%18446744073709551616) (vH zs l m k).2 0 (by decide)
  have ew:(((l.getD k 0*m%18446744073709551616+zs.getD k 0+0)%18446744073709551616+(vH zs l m k).2+0)%18446744073709551616:Nat)=(l.getD k 0*m+zs.getD k 0+(vH zs l m k).2)%18446744073709551616:=by omega
  have ec:IntKind.u64.wrap (IntKind.u64.wrap (((l.getD k 0*m/18446744073709551616:Nat):Int)+(((l.getD k 0*m%18446744073709551616+zs.getD k 0+0) /18446744073709551616:Nat):Int))+((((l.getD k 0*m%18446744073709551616+zs.getD k 0+0)%18446744073709551616+(vH zs l m k).2+0) /18446744073709551616:Nat):Int))=(((vH zs l m (k+1)).2:Nat):Int):=by
   rw[eI,eI]
   congr 1
   simp only[vH]
   generalize l.getD k 0*m=P at *
   omega
  rw[←hi] at i1 j1
  rw[←CI] at a2
  rw[ew] at a2
  obtain ⟨h1,vQ,c1,x1⟩:=Gt (call:=aQ (d+1)) (ds:=ds) (rc:=rc) (x1:=x1) (x3:=x3) (x4:=x4) (x5:=x5) (x6:=x6) (x8:=x8) (x9:=x9) (x10:=x10) (x11:=x11) (x12:=x12) (x13:=x13) (x14:=x14) (x15:=x15) (x16:=x16) (x20:=x20) (x21:=x21) (x22:=x22) (x23:=x23) (x24:=x24) (x25:=x25) (x26:=x26) (x27:=x27) (x28:=x28) (x29:=x29) (x30:=x30) (x31:=x31) (x32:=x32) (x33:=x33) (x34:=x34) (x35:=x35) (x36:=x36) (x37:=x37) (x38:=x38) (x39:=x39) (x40:=x40) (x41:=x41) (x42:=x42) (x43:=x43) (x44:=x44) (x45:=x45) (x46:=x46) (x47:=x47) (x48:=x48) (x49:=x49) (x50:=x50) (x51:=x51) (x52:=x52) (x53:=x53) (x54:=x54) (x55:=x55) (x56:=x56) (z:=z) (a:=a) (m:=(m:Nat)) (ca:=ca) (i:=i) (n:=(l.length:Nat)) hc.1 o! (dT o!) i1 l1 (fun hh _ _ _=>r8 _ _ (wl.getD k) hm) j1 zl a1 a2 hc.2.1 o! w2
  rw[ec] at vQ
  rw[sL] at c1
  obtain ⟨h',y0,y1,y2,y3,y4,y5,y6,y7,y8,y9,gP,vP,sR,By,pO,zM,uk,ET,sP,sQ,EU,KT,KU,KV,KW,KX,KY,KZ,K0,K1,K2,TM,TN,TO,TP,TQ,TR,TS,TU,TV,TW,y41,y42,y43,y44,y45,y46,y47,y48,y49,y50,y51,y52,y53,y54,y55,y56,ev,hp⟩:=zN hz hn Q6 hC ha oa wl wz hm po r (k+1) (i+1) h1 o! o! (hc.trans c1) o! _ _ _ _ _ _ _ _ _ _ _ _ _ _ _ _ _ _ _ _ _ _ _ _ _ _ _ _ _ _ _ _ _ _ _ _ _ _ _ _ _ _ _ _ _ _ _ _ _ _ _ _ rfl
  exact ⟨h',y0,y1,y2,y3,y4,y5,y6,y7,y8,y9,gP,vP,sR,By,pO,zM,uk,ET,sP,sQ,EU,KT,KU,KV,KW,KX,KY,KZ,K0,K1,K2,TM,TN,TO,TP,TQ,TR,TS,TU,TV,TW,y41,y42,y43,y44,y45,y46,y47,y48,y49,y50,y51,y52,y53,y54,y55,y56,Ev.loop vQ ev,hp⟩
theorem RN {d:Nat} {h:ah} {z a:AV} {l zs:List Nat} {m:Nat} {p o n:Nat} {C:List AV} {f:TypeId} (hz:EL h z p o n C f) (I2:0<l.length) (hn:l.length≤n) (Q6:l.length≤zs.length) (hC:Holds .u64 C o zs) (ha:ao env h .u64 54 a l) (oa:mj p a) (wl:Words l) (wz:Words zs) (hm:m<18446744073709551616) (hy:Tidy h) (po:0≤h.nx):
 ∃hk,aQ (d+2) (.fn 134) [z,a,.int .u64 (m:Int)] h= .ret (.int .u64 ((vH zs l m l.length).2:Nat)) hk∧nj h hk p (.cells (setFrom C o (aA .u64 (vH zs l m l.length).1)) f false)∧hk.nx=h.nx:=by
 obtain ⟨r,e1,w1⟩:=hz.slice (E:=env) (e:=54) (t:=56) k! k! none (some (.int .i64 (l.length:Nat))) (.inr ⟨rfl,rfl⟩) (.inl rfl) (Nat.zero_le _) hn o!
 rw[Nat.add_zero,Nat.sub_zero] at w1
 have ek:∀k,k≤l.length→vH (zs.take l.length) l m k=vH zs l m k:=by
  intro k
  induction k with
  | zero=>intro _;rfl
  | succ k ih=>
   intro hk
   have:(zs.take l.length).getD k 0=zs.getD k 0:=by
    rw[List.getD_eq_getElem?_getD,List.getD_eq_getElem?_getD,List.getElem?_take_of_lt o!]
   simp only[vH,ih o!,this]
 obtain ⟨h1,y0,y1,y2,y3,y4,y5,y6,y7,y8,y9,gP,vP,sR,By,pO,zM,uk,ET,sP,sQ,EU,KT,KU,KV,KW,KX,KY,KZ,K0,K1,K2,TM,TN,TO,TP,TQ,TR,TS,TU,TV,TW,y41,y42,y43,y44,y45,y46,y47,y48,y49,y50,y51,y52,y53,y54,y55,y56,ev,rfl,c1,x1⟩:=zN (d:=d) (ds:=[]) (rc:= .no) (zs:=zs.take l.length) w1 rfl (by simp;omega) (fun i z hz=>hC i z (by
  have:=(List.getElem?_eq_some_iff.1 hz).1
  rw[List.length_take] at this
  rw[List.getElem?_take_of_lt o!] at hz;exact hz)) ha oa wl (fun w hw=>wz w (List.mem_of_mem_take hw)) hm po l.length 0 0 h o! rfl (nj.refl hy hz.get) rfl 0 _ _ _ _ _ _ _ _ _ _ _ _ _ _ _ _ _ _ _ _ _ _ _ _ _ _ _ _ _ _ _ _ _ _ _ _ _ _ _ _ _ _ _ _ _ _ _ _ _ _ _ rfl
 rw[ek _ (Nat.le_refl _)] at ev c1
 exact dQ rfl (az Tryz.func134 RK k! (.inr rfl) (M6 hy po c1.1 o! ha.len e1 ev) k!) c1 hy hz.get x1
noncomputable def zO:Code:=(Tryz.f79.body).getD .skip
theorem Gw:Tryz.f79.body=some zO:=by kernel_rfl
theorem D9 {call:aE} {h:ah} {p o:Nat} {y2:Int} {y4:AV} (c1:bk env h 56 (AV.ptr p (o+4))=some bE) (c3:bk env h 3 (AV.ptr p (o+5))=some (af y2)) (c5:aZ env 55 (AV.ptr p (o+0)) (none) (some (af y2)) (none)=some y4):
 Ev env call zO ⟨((AV.ptr p o)::aV 24),h,[],.no⟩ .ret ⟨[(AV.ptr p o),aB,y4,(AV.ptr p o),(AV.ptr p o),(AV.ptr p (o+4)),bE,(aj false),aB,aB,aB,aB,aB,aB,aB,aB,aB,(AV.ptr p o),(AV.ptr p o),(AV.ptr p (o+0)),(AV.ptr p o),(AV.ptr p o),(AV.ptr p (o+5)),(af y2),y4],h,[],.no⟩:=
 aR (n:=200) (CN 4<|MM c1<|CC<|FF<|CN 6<|MM c3<|QQ c5<|CC<|HH c3<|HH (show AV.same 20 (af y2) (af y2)=true from aP 19 _ _)<|ZZ) k!
noncomputable def BC:Code:=(Tryz.f79.body).getD .skip
theorem C9:Tryz.f79.body=some BC:=by kernel_rfl
theorem Az {call:aE} {h:ah} {p o:Nat} {q oo fn fc:Nat} {fb:Bool} {y2:Int} {y4:AV} (c1:bk env h 56 (AV.ptr p (o+4))=some (AV.slice q oo fn fc fb)) (c3:bk env h 3 (AV.ptr p (o+5))=some (af y2)) (c5:aZ env 56 (AV.slice q oo fn fc fb) (none) (some (af y2)) (none)=some y4):
 Ev env call BC ⟨((AV.ptr p o)::aV 24),h,[],.no⟩ .ret ⟨((AV.ptr p o)::aB::y4::(AV.ptr p o)::(AV.ptr p o)::(AV.ptr p (o+4))::(AV.slice q oo fn fc fb)::(aj true)::(AV.ptr p o)::(AV.ptr p o)::(AV.ptr p (o+4))::(AV.slice q oo fn fc fb)::(AV.ptr p o)::(AV.ptr p o)::(AV.ptr p (o+5))::(af y2)::y4::aV 8),h,[],.no⟩:=
 aR (n:=200) (CN 4<|MM c1<|CC<|TT<|CN 3<|MM c1<|CN 3<|MM c3<|QQ c5<|CC<|HH c1<|HH (show AV.same 20 (AV.slice q oo fn fc fb) (AV.slice q oo fn fc fb)=true from F8 19 _ _ _ _ _)<|HH c3<|HH (show AV.same 20 (af y2) (af y2)=true from aP 19 _ _)<|ZZ) k!
def iw (h:ah) (C:List AV) (o:Nat) (l:List Nat):Prop:=C[o+5]? =some (.int .i64 (l.length:Nat))∧
 ((C[o+4]? =some .ax∧l.length≤4∧Holds .u64 C o l)∨
  ∃q oo n c b l',C[o+4]? =some (.slice q oo n c b)∧ao env h .u64 54 (.slice q oo n c b) l'∧l=l'.take l.length)
theorem iw.has {h hh:ah} {C:List AV} {o:Nat} {l:List Nat} (w:iw h C o l) (a:Has h hh):iw hh C o l:=
 ⟨w.1,w.2.imp id fun ⟨q,oo,n,c,b,l',h4,hn,hl⟩=>⟨q,oo,n,c,b,l',h4,hn.has a,hl⟩⟩
theorem Gx {d:Nat} {h:ah} {p o:Nat} {C:List AV} {l:List Nat} (hw:iw h C o l):
 ∃r,∀hh f ro,Has h hh→hh.get p=some (.cells C f ro)→aQ (d+1) (.fn 79) [.ptr p o] hh= .ret r hh∧ao env hh .u64 54 r l:=by
 have ld:∀{hh:ah} {f:TypeId} {ro:Bool} (_:hh.get p=some (.cells C f ro)) (t:TypeId) (j:Nat) (v:AV),iS env t=some false→C[o+j]? =some v→bk env hh t (.ptr p (o+j))=some v:=fun hg t j v ha hv=>aN hg (by simp only[jX,ha,hv])
 obtain ⟨h5,h4⟩:=hw
 rcases h4 with ⟨h4,hl,hh'⟩ | ⟨q,oo,n,c,b,l',h4,hn,hl⟩
 · have es:aZ env 55 (.ptr p (o+0)) none (some (.int .i64 (l.length:Nat))) none=some (.slice p (o+0+0*1) (l.length - 0) (4 - 0) false):=by
    have hu:env.P.underlying 55=some (.array 4 54):=by kernel_rfl
    have hz:bK env 54=some 1:=by kernel_rfl
    simp only[aZ,hu,hz,iv (len:=4) (cap:=4) (lo:=0) (hi:=l.length) none (some (.int .i64 (l.length:Nat))) (.inr ⟨rfl,rfl⟩) (.inl rfl) (Nat.zero_le _) hl]
    rw[if_neg (by decide)]
   refine ⟨.slice p (o+0+0*1) (l.length - 0) (4 - 0) false,fun hh f ro _ hg=>⟨fP rfl (az Tryz.func79 Gw k! (.inr rfl) (D9 (ld hg 56 4 _ k! h4) (ld hg 2 5 _ k! h5) es) k!),?_⟩⟩
   simp only[Nat.add_zero,Nat.zero_mul,Nat.sub_zero]
   exact ao.of k! k! o! o! (by simp) hg hh'
 · have hle:l.length≤l'.length:=by rw[hl];simp;omega
   obtain ⟨r,e1,e2,_⟩:=hn.slice (t:=56) k! none (some (.int .i64 (l.length:Nat))) (.inr ⟨rfl,rfl⟩) (.inl rfl) (Nat.zero_le _) hle o!
   rw[List.drop_zero,←hl] at e2
   exact ⟨r,fun hh f ro a hg=>⟨fP rfl (az Tryz.func79 C9 k! (.inr rfl) (Az (ld hg 56 4 _ k! h4) (ld hg 2 5 _ k! h5) e1) k!),e2.has a⟩⟩
def cj (h:ah) (cs:List AV) (neg:Bool) (l:List Nat):Prop:=∃w0 w1 w2 w3 us far,cs=[.bool neg,.int .u64 w0,.int .u64 w1,.int .u64 w2,.int .u64 w3,far,.int .i64 us]∧AV.scalar far=true∧AV.within h.nx 19 far=true∧iw h cs 1 l
noncomputable def C_:Code:=(Tryz.f78.body).getD .skip
theorem YQ:Tryz.f78.body=some C_:=by kernel_rfl
theorem Jo {d:Nat} {h:ah} {p o n:Nat} {C:List AV} {f:TypeId} {ro:Bool} (hg:h.get p=some (.cells C f ro)) (h4:C[o+4]? =some .ax) (h5:C[o+5]? =some (.int .i64 (n:Nat))) (hn:n≤4):
 aQ (d+1) (.fn 79) [.ptr p o] h= .ret (.slice p o n 4 false) h:=by
 have ld:∀(t:TypeId) (j:Nat) (v:AV),iS env t=some false→C[o+j]? =some v→bk env h t (.ptr p (o+j))=some v:=fun t j v ha hv=>aN hg (by simp only[jX,ha,hv])
 have es:aZ env 55 (.ptr p (o+0)) none (some (.int .i64 (n:Nat))) none=some (.slice p (o+0+0*1) (n - 0) (4 - 0) false):=by
  have hu:env.P.underlying 55=some (.array 4 54):=by kernel_rfl
  have hz:bK env 54=some 1:=by kernel_rfl
  simp only[aZ,hu,hz,iv (len:=4) (cap:=4) (lo:=0) (hi:=n) none (some (.int .i64 (n:Nat))) (.inr ⟨rfl,rfl⟩) (.inl rfl) (Nat.zero_le _) hn]
  rw[if_neg (by decide)]
 exact fP rfl (az Tryz.func79 Gw k! (.inr rfl) (D9 (ld 56 4 _ k! h4) (ld 2 5 _ k! h5) es) k!)
theorem YR {d:Nat} {h:ah} {p o n q oo m c:Nat} {b:Bool} {C:List AV} {f:TypeId} {ro:Bool} (hg:h.get p=some (.cells C f ro)) (h4:C[o+4]? =some (.slice q oo m c b)) (h5:C[o+5]? =some (.int .i64 (n:Nat))) (hn:n≤c) (hm:m≤c) (hc:0<c):
 aQ (d+1) (.fn 79) [.ptr p o] h= .ret (.slice q oo n c b) h:=by
 have ld:∀(t:TypeId) (j:Nat) (v:AV),iS env t=some false→C[o+j]? =some v→bk env h t (.ptr p (o+j))=some v:=fun t j v ha hv=>aN hg (by simp only[jX,ha,hv])
 have es:aZ env 56 (.slice q oo m c b) none (some (.int .i64 (n:Nat))) none=some (.slice q (oo+0*1) (n - 0) (c - 0) b):=by
  have hu:env.P.underlying 56=some (.slice 54):=by kernel_rfl
  have hz:bK env 54=some 1:=by kernel_rfl
  simp only[aZ,hu,hz,hm,if_true,iv (len:=m) (cap:=c) (lo:=0) (hi:=n) none (some (.int .i64 (n:Nat))) (.inr ⟨rfl,rfl⟩) (.inl rfl) (Nat.zero_le _) hn]
  rw[if_neg o!]
  simp
 exact fP rfl (az Tryz.func79 C9 k! (.inr rfl) (Az (ld 56 4 _ k! h4) (ld 2 5 _ k! h5) es) k!)
def YS (h0 h:ah) (p:Nat) (m:Bool) (n:Nat) (r:AV):Prop:=
 (n≤4∧r= .slice p 1 n 4 false∧h.get p=some (.cells [.bool m,.int .u64 0,.int .u64 0,.int .u64 0,.int .u64 0,.ax,.int .i64 (n:Nat)] 60 false))∨
 (4<n∧∃q,h0.nx≤q∧q≠p∧r= .slice q 0 n n false∧h.get p=some (.cells [.bool m,.int .u64 0,.int .u64 0,.int .u64 0,.int .u64 0,.slice q 0 n n false,.int .i64 (n:Nat)] 60 false)∧h.get q=some (.cells (aS [.int .u64 0] n) 54 false))
theorem RO {d:Nat} {h:ah} {p n:Nat} {m:Bool} (hg:h.get p=some (.cells [.bool m,.int .u64 0,.int .u64 0,.int .u64 0,.int .u64 0,.ax,.int .i64 0] 60 false)) (aw:Tidy h) (hn:n<2^30):
 ∃r hk,aQ (d+2) (.fn 78) [.ptr p 1,.int .i64 (n:Nat)] h= .ret r hk∧Tidy hk∧h.nx≤hk.nx∧Kept p h hk∧YS h hk p m n r:=by
 have hp:=aw _ _ hg
 by_cases q:4<n
 · obtain ⟨h1,YT,aK,bm,aC,NR⟩:=yW (t:=3) (n:=1) (i:=p) (o:=6) (v:=(ag n)) (N:=(bz m 0 0 0 0 bE n)) aw hg k! rfl k! k! z!
   have aD:Kept p h h1:=NR
   have q2:=dg (4<(n:Int))
   have YU:qm env (some (.slice 54)) (some (ag n)) (some (ag n))=some (ar.cells (aS [(aa 0)] n) 54 false,fun i=>AV.slice i 0 n n false):=gH (bytes:=8) (z:=(aa 0)) k! k! k! rfl (by decide) o!
   obtain ⟨h4,sS,gk,wL,jH,sU⟩:=de aK (ar.cells (aS [(aa 0)] n) 54 false)
   have iy:Kept p h h4:=aD.trans sU.kept
   obtain ⟨h5,pz,fA,wM,lu,iO⟩:=yW (t:=56) (n:=1) (i:=p) (o:=5) (v:=(AV.slice h1.nx 0 n n false)) (N:=(bz m 0 0 0 0 (AV.slice h1.nx 0 n n false) n)) gk (sU _ _ aC) k! rfl k! k! z!
   have ep:Kept p h h5:=iy.trans iO
   have ev:=pk (d+1) C_ ((AV.ptr p 1)::(ag n)::aV 16) h .ret h5 (CN 5<|SS YT<|CC<|VV (bM 3 false true .i64 (n:Int) 4)<|BB q2<|CN 2<|KK YU sS<|CN 2<|SS pz<|CC<|EE (show (aQ (d+1)) (.fn 79) [(AV.ptr p 1)] h5= .ret (AV.slice h1.nx 0 n n false) h5 from YR (d:=d) (n:=n) lu rfl rfl (Nat.le_refl _) (Nat.le_refl _) o!)<|CC<|ZZ) k!
   have nw:¬AV.within h.nx 20 (.slice h1.nx 0 n n false)=true:=by
    rw[bm];simp [AV.within]
   exact ⟨_,_,fa rfl (az Tryz.func78 YQ k! (.inr rfl) ev k!) (fun c=>nw c.2),fA,by omega,ep,.inr ⟨q,h1.nx,by omega,by omega,rfl,lu,iO _ _ o! jH⟩⟩
 · obtain ⟨h1,YT,aK,bm,aC,NR⟩:=yW (t:=3) (n:=1) (i:=p) (o:=6) (v:=(ag n)) (N:=(bz m 0 0 0 0 bE n)) aw hg k! rfl k! k! z!
   have aD:Kept p h h1:=NR
   have q2:=cI (4<(n:Int))
   have ev:=pk (d+1) C_ ((AV.ptr p 1)::(ag n)::aV 16) h .ret h1 (CN 5<|SS YT<|CC<|VV (bM 3 false true .i64 (n:Int) 4)<|BB q2<|CC<|EE (show (aQ (d+1)) (.fn 79) [(AV.ptr p 1)] h1= .ret (AV.slice p 1 n 4 false) h1 from Jo (d:=d) (n:=n) aC rfl rfl o!)<|CC<|ZZ) k!
   obtain ⟨hk,k1,k2,k3,k4,k5⟩:=nH rfl (az Tryz.func78 YQ k! (.inr rfl) ev k!) aw aK o! aD hg aC
   exact ⟨_,hk,k1,k2,k3,k4,.inl ⟨by omega,rfl,k5⟩⟩
noncomputable def Da:Code:=(Tryz.f77.body).getD .skip
theorem YV:Tryz.f77.body=some Da:=by kernel_rfl
noncomputable def wN:Code:=(aY Da).getD 0 .skip
theorem RP {call:aE} {h:ah} {ds:List cC} {rc:RC} {x1 x2 x4 x5 x6 x7 x8 x9 x10 x11 x12 x13 x14 x15 x16 x17 x18 x19 x20:AV} {a:AV} {n:Int} {p3 p4:Nat} {y6:Int} (q1:(decide (0<n))=true) (w2:IntKind.i64.wrap (n - 1)=n - 1) (c5:bq env (some (.slice 54)) (some a) (some (af (n - 1)))=some (AV.ptr p3 p4)) (c7:bk env h 54 (AV.ptr p3 p4)=some (aa y6)) (q8:(decide (y6=0))=true):
 Ev env call wN ⟨[a,x1,x2,(af n),x4,x5,x6,x7,x8,x9,x10,x11,x12,x13,x14,x15,x16,x17,x18,x19,x20],h,ds,rc⟩ .normal ⟨[a,x1,x2,(af (n - 1)),x4,x5,(af n),(aj (decide (0<n))),(aj (decide (0<n))),a,(af n),(af (n - 1)),(AV.ptr p3 p4),(aa y6),(aj (decide (y6=0))),(aj (decide (y6=0))),(af n),(af (n - 1)),x18,x19,x20],h,ds,rc⟩:=
 aR (n:=200) (CC<|VV (bM 3 false true .i64 n 0)<|CC<|BB q1<|CC<|BB q1<|CC<|BB q1<|VV (bT 3 false true w2)<|BB q1<|VV c5<|BB q1<|MM c7<|BB q1<|VV (bQ 54 false true .u64 y6 0)<|VV (aG (a:=some (aj (decide (y6=0)))) (b:=some (aj false)) q1)<|BB q8<|CC<|VV (bT 3 false true w2)<|CC<|ZZ) k!
theorem RQ {call:aE} {h:ah} {ds:List cC} {rc:RC} {x1 x2 x4 x5 x6 x7 x8 x9 x10 x11 x12 x13 x14 x15 x16 x17 x18 x19 x20:AV} {a:AV} {n:Int} {p3 p4:Nat} {y6:Int} (q1:(decide (0<n))=true) (w2:IntKind.i64.wrap (n - 1)=n - 1) (c5:bq env (some (.slice 54)) (some a) (some (af (n - 1)))=some (AV.ptr p3 p4)) (c7:bk env h 54 (AV.ptr p3 p4)=some (aa y6)) (q8:(decide (y6=0))=false):
 Ev env call wN ⟨[a,x1,x2,(af n),x4,x5,x6,x7,x8,x9,x10,x11,x12,x13,x14,x15,x16,x17,x18,x19,x20],h,ds,rc⟩ (.exit 0) ⟨[a,x1,x2,(af n),x4,x5,(af n),(aj (decide (0<n))),(aj (decide (0<n))),a,(af n),(af (n - 1)),(AV.ptr p3 p4),(aa y6),(aj (decide (y6=0))),(aj (decide (y6=0))),x16,x17,x18,x19,x20],h,ds,rc⟩:=
 aR (n:=200) (CC<|VV (bM 3 false true .i64 n 0)<|CC<|BB q1<|CC<|BB q1<|CC<|BB q1<|VV (bT 3 false true w2)<|BB q1<|VV c5<|BB q1<|MM c7<|BB q1<|VV (bQ 54 false true .u64 y6 0)<|VV (aG (a:=some (aj (decide (y6=0)))) (b:=some (aj false)) q1)<|BB q8<|ZZ) k!
theorem RR {call:aE} {h:ah} {ds:List cC} {rc:RC} {x1 x2 x4 x5 x6 x7 x8 x9 x10 x11 x12 x13 x14 x15 x16 x17 x18 x19 x20:AV} {a:AV} {n:Int} (q1:(decide (0<n))=false):
 Ev env call wN ⟨[a,x1,x2,(af n),x4,x5,x6,x7,x8,x9,x10,x11,x12,x13,x14,x15,x16,x17,x18,x19,x20],h,ds,rc⟩ (.exit 0) ⟨[a,x1,x2,(af n),x4,x5,(af n),(aj (decide (0<n))),(aj (decide (0<n))),aB,aB,aB,aB,aB,aB,(aj false),x16,x17,x18,x19,x20],h,ds,rc⟩:=
 aR (n:=200) (CC<|VV (bM 3 false true .i64 n 0)<|CC<|BB q1<|BB q1<|BB q1<|BB q1<|BB q1<|BB q1<|VV (aL (a:=some aB) (b:=some (aj false)) q1)<|FF<|ZZ) k!
theorem TX {call:aE} {h:ah} {a:AV} {n1:Int} {RS YW acJ RU YX YY acK ah3 YZ Y2 NS NT NU NV NW NX NY NZ TY TZ T0 y5:AV} (c2:dO (some (.slice 54)) (some a)=some (af n1)) (e4:Ev env call (.loop wN) ⟨(a::aB::bE::(af n1)::a::(af n1)::aV 15),h,[],.no⟩ (.exit 0) ⟨[RS,YW,acJ,RU,YX,YY,acK,ah3,YZ,Y2,NS,NT,NU,NV,NW,NX,NY,NZ,TY,TZ,T0],h,[],.no⟩) (c6:aZ env 56 RS (none) (some RU) (none)=some y5):
 Ev env call Da ⟨(a::aV 20),h,[],.no⟩ .ret ⟨[RS,YW,y5,RU,YX,YY,acK,ah3,YZ,Y2,NS,NT,NU,NV,NW,NX,NY,NZ,RS,RU,y5],h,[],.no⟩:=
 aR (n:=200) (CN 2<|VV c2<|CC<|LL e4<|CN 2<|QQ c6<|CC<|ZZ) k!
def fk (l:List Nat):Nat→Nat
 | 0=>0
 | n+1=>if l.getD n 0=0 then fk l n else n+1
def bR (l:List Nat):List Nat:=l.take (fk l l.length)
theorem qu (l:List Nat):∀n,fk l n≤n
 | 0=>Nat.le_refl 0
 | n+1=>by
  unfold fk
  split
  · exact Nat.le_succ_of_le (qu l n)
  · exact Nat.le_refl _
theorem Db {call:aE} {h:ah} {ds:List cC} {rc:RC} {a:AV} {l:List Nat} (ha:ao env h .u64 54 a l):
 ∀(k:Nat) (i:Int),k≤l.length→i=(k:Nat)→∀(x1 x2 x4 x5 x6 x7 x8 x9 x10 x11 x12 x13 x14 x15 x16 x17 x18 x19 x20:AV),∃y0 y1 y2 y3 y4 y5 y6 y7 y8 y9 gP vP sR By pO zM uk ET sP sQ EU,Ev env call (.loop wN) ⟨[a,x1,x2,(af i),x4,x5,x6,x7,x8,x9,x10,x11,x12,x13,x14,x15,x16,x17,x18,x19,x20],h,ds,rc⟩ (.exit 0) ⟨[y0,y1,y2,y3,y4,y5,y6,y7,y8,y9,gP,vP,sR,By,pO,zM,uk,ET,sP,sQ,EU],h,ds,rc⟩∧y0=a∧y3= .int .i64 (fk l k:Nat)
 | 0,i,hk,hi,x1,x2,x4,x5,x6,x7,x8,x9,x10,x11,x12,x13,x14,x15,x16,x17,x18,x19,x20=>⟨_,_,_,_,_,_,_,_,_,_,_,_,_,_,_,_,_,_,_,_,_,Ev.out (RR (dF o!)),rfl,by rw[hi];rfl⟩
 | k+1,i,hk,hi,x1,x2,x4,x5,x6,x7,x8,x9,x10,x11,x12,x13,x14,x15,x16,x17,x18,x19,x20=>by
  have hs:=ha.small
  obtain ⟨p1,q1,i1,l1⟩:=ha.elem (fK (show k<l.length by omega))
  have ek:i - 1=(k:Nat):=by omega
  rw[←ek] at i1
  have w2:=fS (i - 1)
  by_cases hq:l.getD k 0=0
  · obtain ⟨y0,y1,y2,y3,y4,y5,y6,y7,y8,y9,gP,vP,sR,By,pO,zM,uk,ET,sP,sQ,EU,ev,hp⟩:=Db ha k (i - 1) o! ek _ _ _ _ _ _ _ _ _ _ _ _ _ _ _ _ _ _ _
    refine ⟨y0,y1,y2,y3,y4,y5,y6,y7,y8,y9,gP,vP,sR,By,pO,zM,uk,ET,sP,sQ,EU,Ev.loop (RP (dT o!) w2 i1 l1 (dT o!)) ev,?_⟩
    simp only[fk,hq,if_true];exact hp
  · refine ⟨_,_,_,_,_,_,_,_,_,_,_,_,_,_,_,_,_,_,_,_,_,Ev.out (RQ (dT o!) w2 i1 l1 (dF o!)),rfl,?_⟩
    simp only[fk,hq,if_false];rw[hi]
theorem VJ {call:aE} {h:ah} {a:AV} {l:List Nat} (ha:ao env h .u64 54 a l):∃r,mz env call 77 [a] h r h∧ao env h .u64 54 r (bR l)∧∀p,mj p a→mj p r:=by
 obtain ⟨y0,y1,y2,y3,y4,y5,y6,y7,y8,y9,gP,vP,sR,By,pO,zM,uk,ET,sP,sQ,EU,ev,rfl,rfl⟩:=Db (call:=call) (ds:=[]) (rc:= .no) ha l.length _ (Nat.le_refl _) rfl _ _ _ _ _ _ _ _ _ _ _ _ _ _ _ _ _ _ _
 have hn:=qu l l.length
 obtain ⟨r,e1,e2,e3⟩:=ha.slice (t:=56) k! none (some (.int .i64 (fk l l.length:Nat))) (.inr ⟨rfl,rfl⟩) (.inl rfl) (Nat.zero_le _) hn o!
 refine ⟨r,az Tryz.func77 YV k! (.inr rfl) (TX ha.len ev e1) k!,by simpa [bR] using e2,e3⟩
theorem Gy {d:Nat} {h:ah} {a:AV} {l:List Nat} (ha:ao env h .u64 54 a l):∃r,aQ (d+1) (.fn 77) [a] h= .ret r h∧ao env h .u64 54 r (bR l)∧∀p,mj p a→mj p r:=by
 obtain ⟨r,h1,h2,h3⟩:=VJ (call:=aQ d) ha
 exact ⟨r,fP rfl h1,h2,h3⟩
noncomputable def N0:Code:=(Tryz.f128.body).getD .skip
theorem ah5:Tryz.f128.body=some N0:=by kernel_rfl
noncomputable def wO:Code:=(Tryz.f84.body).getD .skip
theorem N1:Tryz.f84.body=some wO:=by kernel_rfl
theorem iw.take {h:ah} {x y:AV} {w0 w1 w2 w3:AV} {far us:AV} {l:List Nat} {n:Nat} (hc:iw h [x,w0,w1,w2,w3,far,us] 1 l) (hn:n≤l.length):iw h [y,w0,w1,w2,w3,far,.int .i64 (n:Nat)] 1 (l.take n):=by
 have hl:(l.take n).length=n:=by simp;omega
 obtain ⟨h5,h4⟩:=hc
 refine ⟨by rw[hl];rfl,?_⟩
 rcases h4 with ⟨a,b,c⟩ | ⟨q,oo,m,c,b,l',e4,WO,WW⟩
 · refine .inl ⟨a,by omega,fun i z hz=>?_⟩
   have hi:i<n:=by rw[←hl];exact (List.getElem?_eq_some_iff.1 hz).1
   rw[List.getElem?_take_of_lt hi] at hz
   have:=c i z hz
   have hi4:i<4:=by omega
   rcases i with _ | _ | _ | _ | i
   · exact this
   · exact this
   · exact this
   · exact this
   · omega
 · refine .inr ⟨q,oo,m,c,b,l',e4,WO,?_⟩
   rw[hl,WW,List.take_take]
   congr 1
   omega
def gY (h0 h:ah) (cs:List AV) (m:Bool) (ws:List Nat):Prop:=∃w0 w1 w2 w3 far,cs=[.bool m,.int .u64 w0,.int .u64 w1,.int .u64 w2,.int .u64 w3,far,.int .i64 (ws.length:Nat)]∧AV.scalar far=true∧iw h cs 1 ws∧(far= .ax∨∃q n,far= .slice q 0 n n false∧h0.nx≤q∧q<h.nx)
theorem iw.kept {h h':ah} {x w0 w1 w2 w3 far us:AV} {l:List Nat} {b:Nat} (hc:iw h [x,w0,w1,w2,w3,far,us] 1 l) (k:Kept b h h') (hf:far= .ax∨∃q n,far= .slice q 0 n n false∧q≠b):iw h' [x,w0,w1,w2,w3,far,us] 1 l:=by
 obtain ⟨h5,h4⟩:=hc
 refine ⟨h5,h4.imp id fun ⟨q,oo,m,c,bb,l',e4,WO,WW⟩=>⟨q,oo,m,c,bb,l',e4,WO.kept k fun o n c' b' e=>?_,WW⟩⟩
 obtain rfl:far= .slice q oo m c bb:=by simpa using e4
 cases e
 rcases hf with e | ⟨q',n',e,hq⟩
 · cases e
 · cases e;exact hq rfl
theorem gY.kept {h0 h h':ah} {cs:List AV} {m:Bool} {ws:List Nat} {b:Nat} (z:gY h0 h cs m ws) (k:Kept b h h') (hb:b<h0.nx) (hn:h.nx≤h'.nx):gY h0 h' cs m ws:=by
 obtain ⟨w0,w1,w2,w3,far,rfl,sc,hc,hf⟩:=z
 exact ⟨w0,w1,w2,w3,far,rfl,sc,hc.kept k (hf.imp id fun ⟨q,n,e,h1,_⟩=>⟨q,n,e,by omega⟩),hf.imp id fun ⟨q,n,e,h1,h2⟩=>⟨q,n,e,h1,by omega⟩⟩
theorem gY.whole {h0 h:ah} {cs:List AV} {m:Bool} {ws:List Nat} (z:gY h0 h cs m ws):cj h cs m ws:=by
 obtain ⟨w0,w1,w2,w3,far,rfl,sc,hc,hf⟩:=z
 refine ⟨w0,w1,w2,w3,_,far,rfl,sc,?_,hc⟩
 rcases hf with rfl | ⟨q,n,rfl,_,h2⟩
 · rfl
 · simp [AV.within,h2]
theorem iw.ah6 {h h':ah} {x w0 w1 w2 w3 us:AV} {l:List Nat} (hc:iw h [x,w0,w1,w2,w3,.ax,us] 1 l):iw h' [x,w0,w1,w2,w3,.ax,us] 1 l:=
 ⟨hc.1,.inl (by rcases hc.2 with h | ⟨q,oo,m,c,bb,l',e4,_⟩;exact h;cases e4)⟩
theorem gY.old {hb h0 h:ah} {cs:List AV} {m:Bool} {ws:List Nat} (z:gY h0 h cs m ws) (hn:hb.nx≤h0.nx) (hv:AV.within hb.nx 20 (.agg cs)=true):cj hb cs m ws:=by
 obtain ⟨w0,w1,w2,w3,far,rfl,sc,hc,hf⟩:=z
 rcases hf with rfl | ⟨q,n,rfl,h1,_⟩
 · exact ⟨w0,w1,w2,w3,_,_,rfl,sc,rfl,hc.ah6⟩
 · have:decide (q<hb.nx)=true:=by
    have:(List.all [AV.bool m,.int .u64 w0,.int .u64 w1,.int .u64 w2,.int .u64 w3,.slice q 0 n n false,.int .i64 (ws.length:Nat)] (AV.within hb.nx 19))=true:=hv
    simp only[List.all_cons,List.all_nil,Bool.and_true,Bool.and_eq_true] at this
    exact this.2.2.2.2.2.1
   have:=of_decide_eq_true this
   omega
theorem gY.mono {h1 h0 h:ah} {cs:List AV} {m:Bool} {ws:List Nat} (z:gY h0 h cs m ws) (hn:h1.nx≤h0.nx):gY h1 h cs m ws:=by
 obtain ⟨w0,w1,w2,w3,far,rfl,sc,hc,hf⟩:=z
 exact ⟨w0,w1,w2,w3,far,rfl,sc,hc,hf.imp id fun ⟨q,n,e,h1,h2⟩=>⟨q,n,e,by omega,h2⟩⟩
theorem gY.grow {h0 h h':ah} {cs:List AV} {m:Bool} {ws:List Nat} (z:gY h0 h cs m ws) (g:Has h h') (hn:h.nx≤h'.nx):gY h0 h' cs m ws:=by
 obtain ⟨w0,w1,w2,w3,far,rfl,sc,hc,hf⟩:=z
 exact ⟨w0,w1,w2,w3,far,rfl,sc,hc.has g,hf.imp id fun ⟨q,n,e,h1,h2⟩=>⟨q,n,e,h1,by omega⟩⟩
theorem gY.fit {hb h0 h:ah} {cs:List AV} {m:Bool} {ws:List Nat} (z:gY h0 h cs m ws) (hn:hb.nx≤h0.nx) (hv:AV.within hb.nx 20 (.agg cs)=true):gY hb hb cs m ws:=by
 obtain ⟨w0,w1,w2,w3,far,rfl,sc,hc,hf⟩:=z
 rcases hf with rfl | ⟨q,n,rfl,h1,_⟩
 · exact ⟨w0,w1,w2,w3,_,rfl,sc,hc.ah6,.inl rfl⟩
 · have:decide (q<hb.nx)=true:=by
    have:(List.all [AV.bool m,.int .u64 w0,.int .u64 w1,.int .u64 w2,.int .u64 w3,.slice q 0 n n false,.int .i64 (ws.length:Nat)] (AV.within hb.nx 19))=true:=hv
    simp only[List.all_cons,List.all_nil,Bool.and_true,Bool.and_eq_true] at this
    exact this.2.2.2.2.2.1
   have:=of_decide_eq_true this
   omega
def acL (h0 h:ah) (p:Nat) (m:Bool) (ws:List Nat):Prop:=∃cs,h.get p=some (.cells cs 60 false)∧p<h0.nx∧gY h0 h cs m ws
theorem YS.T2 {h0 h:ah} {p n:Nat} {m:Bool} {r:AV} (z:YS h0 h p m n r) (hp:p<h0.nx) (hn:n<2^30) (y:Tidy h):
 ∃q oo C f,EL h r q oo n C f∧(q=p∨h0.nx≤q)∧∀h' ws,nj h h' q (.cells (setFrom C oo (aA .u64 ws)) f false)→ws.length=n→acL h0 h' p m ws:=by
 rcases z with ⟨h4,rfl,hg⟩ | ⟨h4,q,h1,h2,rfl,hg,hq⟩
 · refine ⟨p,1,_,_,⟨⟨4,false,rfl,h4⟩,hg,by simp;omega⟩,.inl rfl,fun h' ws c hl=>?_⟩
   subst hl
   have e:∃w0 w1 w2 w3:Int,setFrom [AV.bool m,.int .u64 0,.int .u64 0,.int .u64 0,.int .u64 0,.ax,.int .i64 (ws.length:Nat)] 1 (aA .u64 ws)=[.bool m,.int .u64 w0,.int .u64 w1,.int .u64 w2,.int .u64 w3,.ax,.int .i64 (ws.length:Nat)]:=by
    match ws,h4 with
    | [],_=>exact ⟨_,_,_,_,rfl⟩
    | [a],_=>exact ⟨_,_,_,_,rfl⟩
    | [a,b],_=>exact ⟨_,_,_,_,rfl⟩
    | [a,b,c],_=>exact ⟨_,_,_,_,rfl⟩
    | [a,b,c,d],_=>exact ⟨_,_,_,_,rfl⟩
    | a::b::c::d::e::ws,h4=>simp at h4
   obtain ⟨w0,w1,w2,w3,e⟩:=e
   have hh:Holds .u64 (setFrom [AV.bool m,.int .u64 0,.int .u64 0,.int .u64 0,.int .u64 0,.ax,.int .i64 (ws.length:Nat)] 1 (aA .u64 ws)) 1 ws:=Holds.of (by simp;omega)
   rw[e] at hh
   have hg':=c.2.1
   rw[e] at hg'
   exact ⟨_,hg',hp,w0,w1,w2,w3,_,rfl,rfl,⟨rfl,.inl ⟨rfl,h4,hh⟩⟩,.inl rfl⟩
 · have hr:=Bv [AV.int .u64 0] n
   simp only[List.length_singleton,Nat.mul_one] at hr
   refine ⟨q,0,_,_,⟨⟨n,false,rfl,Nat.le_refl _⟩,hq,by omega⟩,.inr h1,fun h' ws c hl=>?_⟩
   subst hl
   have hh:Holds .u64 (setFrom (aS [AV.int .u64 0] ws.length) 0 (aA .u64 ws)) 0 ws:=Holds.of o!
   have na:ao env h' .u64 54 (.slice q 0 ws.length ws.length false) ws:=ao.of k! k! o! (Nat.le_refl _) (by simp) c.2.1 hh
   refine ⟨_,c.2.2 _ _ o! hg,hp,0,0,0,0,_,rfl,rfl,⟨rfl,.inr ⟨q,0,_,_,false,ws,rfl,na,by simp⟩⟩,.inr ⟨q,_,rfl,h1,c.1 _ _ c.2.1⟩⟩
theorem aee {d:Nat} {h:ah} {p n:Nat} {c0 c1 c2 c3 c4 c5 c6:AV} (hg:h.get p=some (.cells [c0,c1,c2,c3,c4,c5,c6] 60 false)) (aw:Tidy h):
 ∃hk,aQ (d+1) (.fn 128) [.ptr p 1,.int .i64 (n:Nat)] h= .ret (.tuple []) hk∧nj h hk p (.cells [c0,c1,c2,c3,c4,c5,.int .i64 (n:Nat)] 60 false)∧hk.nx=h.nx:=by
 obtain ⟨h1,YT,aK,bm,aC,NR⟩:=yW (t:=3) (n:=1) (i:=p) (o:=6) (v:=(ag n)) (N:=[c0,c1,c2,c3,c4,c5,(ag n)]) aw hg k! rfl k! k! z!
 have aD:Kept p h h1:=NR
 have ev:=pk (d) N0 ((AV.ptr p 1)::(ag n)::aV 6) h .normal h1 (CN 4<|SS YT<|ZZ) k!
 exact dQ rfl (az Tryz.func128 ah5 k! (.inl rfl) ev k!) ⟨aK,aC,aD⟩ aw hg bm
theorem Y3 {d:Nat} {h0 h:ah} {p:Nat} {m b:Bool} {ws:List Nat} (z:acL h0 h p m ws) (aw:Tidy h):
 ∃hk,aQ (d+2) (.fn 84) [.ptr p 0,.bool b] h= .ret (.tuple []) hk∧Tidy hk∧h.nx≤hk.nx∧Kept p h hk∧acL h0 hk p (b&&decide (bR ws≠ [])) (bR ws):=by
 obtain ⟨cs,hg,hp,w0,w1,w2,w3,far,rfl,sc,hc,hf⟩:=z
 have wp:0<p∨True:= .inr trivial
 have Kb:∀(l:List Nat),decide (0<((l.length:Nat):Int))=decide (l≠ []):=fun l=>by
  by_cases q:l=[]
  · subst q;rfl
  · rw[decide_eq_true q,decide_eq_true]
    have:=List.length_pos_iff.2 q
    omega
 have hle:(bR ws).length≤ws.length:=by simp [bR];omega
 have htk:bR ws=ws.take (bR ws).length:=by
  have:=qu ws ws.length
  have e:(bR ws).length=fk ws ws.length:=by simp [bR];omega
  rw[e];rfl
 obtain ⟨r,hr⟩:=Gx (d:=d) hc
 cases b with
 | true=>
  obtain ⟨kl,nl⟩:=hr _ _ _ (Has.refl _) hg
  obtain ⟨r2,kt,nt,_⟩:=Gy (d:=d) nl
  obtain ⟨h1,vI,sV,bm⟩:=aee (d:=d) (n:=((bR ws).length)) hg aw
  have aK:=sV.1
  have aD:Kept p h h1:=sV.2.2
  obtain ⟨h2,af0,bP,iA,bB,Y4⟩:=yW (t:=4) (n:=1) (i:=p) (o:=0) (v:=(aj (decide (0<(((bR ws).length:Nat):Int))))) (N:=[(aj (decide (0<(((bR ws).length:Nat):Int)))),(aa w0),(aa w1),(aa w2),(aa w3),far,(ag ((bR ws).length))]) aK sV.2.1 k! rfl k! k! z!
  have b7:Kept p h h2:=aD.trans Y4
  have ev:=pk (d+1) wO ((AV.ptr p 0)::(aj true)::aV 24) h .normal h2 (CN 6<|EE kl<|EE kt<|VV nt.len<|EE vI<|CN 3<|TT<|CC<|TT<|CC<|TT<|CC<|TT<|CC<|TT<|MM (aJ 3 6 (ag ((bR ws).length)) sV.2.1 k!)<|TT<|VV (bM 3 false true .i64 (((bR ws).length:Nat):Int) 0)<|CN 3<|SS af0<|ZZ) k!
  obtain ⟨hk,k1,k2,k3,k4,k5⟩:=nH rfl (az Tryz.func84 N1 k! (.inl rfl) ev k!) aw bP o! b7 hg bB
  have hc':=hc.take (y:= .bool (decide (bR ws≠ []))) hle
  rw[←htk] at hc'
  rw[Kb] at k5
  exact ⟨hk,k1,k2,k3,k4,_,k5,hp,w0,w1,w2,w3,far,rfl,sc,hc'.kept k4 (hf.imp id fun ⟨q,n,e,h1,_⟩=>⟨q,n,e,by omega⟩),hf.imp id fun ⟨q,n,e,h1,h2⟩=>⟨q,n,e,h1,by omega⟩⟩
 | false=>
  obtain ⟨kl,nl⟩:=hr _ _ _ (Has.refl _) hg
  obtain ⟨r2,kt,nt,_⟩:=Gy (d:=d) nl
  obtain ⟨h1,vI,sV,bm⟩:=aee (d:=d) (n:=((bR ws).length)) hg aw
  have aK:=sV.1
  have aD:Kept p h h1:=sV.2.2
  obtain ⟨h2,af0,bP,iA,bB,Y4⟩:=yW (t:=4) (n:=1) (i:=p) (o:=0) (v:=(aj false)) (N:=(bz false w0 w1 w2 w3 far ((bR ws).length))) aK sV.2.1 k! rfl k! k! z!
  have b7:Kept p h h2:=aD.trans Y4
  have ev:=pk (d+1) wO ((AV.ptr p 0)::(aj false)::aV 24) h .normal h2 (CN 6<|EE kl<|EE kt<|VV nt.len<|EE vI<|CN 3<|FF<|FF<|FF<|FF<|FF<|FF<|CN 3<|SS af0<|ZZ) k!
  obtain ⟨hk,k1,k2,k3,k4,k5⟩:=nH rfl (az Tryz.func84 N1 k! (.inl rfl) ev k!) aw bP o! b7 hg bB
  have hc':=hc.take (y:= .bool false) hle
  rw[←htk] at hc'
  exact ⟨hk,k1,k2,k3,k4,_,k5,hp,w0,w1,w2,w3,far,rfl,sc,hc'.kept k4 (hf.imp id fun ⟨q,n,e,h1,_⟩=>⟨q,n,e,by omega⟩),hf.imp id fun ⟨q,n,e,h1,h2⟩=>⟨q,n,e,h1,by omega⟩⟩
noncomputable def uK:Code:=(Tryz.f46.body).getD .skip
theorem Jp:Tryz.f46.body=some uK:=by kernel_rfl
theorem Has.ak {h0 h h':ah} {b:Nat} (a:Has h0 h) (k:Kept b h h') (y:Tidy h0) (hb:h0.nx≤b):Has h0 h':=fun i x g=>by
 have:=y i x g
 exact k i x o! (a i x g)
theorem iw.aef {h:ah} {x y:AV} {C:List AV} {l:List Nat} (w:iw h (x::C) 1 l):iw h (y::C) 1 l:=by
 obtain ⟨h1,h2⟩:=w
 refine ⟨h1,h2.imp (fun ⟨a,b,c⟩=>⟨a,b,fun i z hz=>?_⟩) id⟩
 have:=c i z hz
 rw[Nat.add_comm] at this ⊢
 exact this
theorem gY.sign {h0 h:ah} {R:List AV} {m m':Bool} {ws:List Nat} (z:gY h0 h (.bool m::R) m ws):gY h0 h (.bool m'::R) m' ws:=by
 obtain ⟨w0,w1,w2,w3,far,e,sc,hc,hf⟩:=z
 obtain rfl:R=_:=(List.cons.inj e).2
 exact ⟨w0,w1,w2,w3,far,rfl,sc,hc.aef,hf⟩
theorem af1 (l:List Nat):decide (0<((l.length:Nat):Int))=decide (l≠ []):=by
 by_cases q:l=[]
 · subst q;rfl
 · rw[decide_eq_true q,decide_eq_true]
   have:=List.length_pos_iff.2 q
   omega
theorem VK (l:List Nat):(bR l).length≤l.length:=by simp [bR];omega
theorem Jq {d:Nat} {h:ah} {b:Bool} {words:AV} {l:List Nat} (nw:ao env h .u64 54 words l) (aw:Tidy h) (hl:l.length<2^30):
 ∃cs hk,aQ (d+3) (.fn 46) [.bool b,words] h= .ret (.agg cs) hk∧Grow h hk∧gY h hk cs (b&&decide (bR l≠ [])) (bR l):=by
 have hle:=VK l
 cases b with
 | true=>
  obtain ⟨h1,aO,aK,bm,aC,ck⟩:=de aw (ar.cells (au false 0 0 0 0 bE 0) 60 false)
  have aD:Has h h1:=ck
  obtain ⟨r1,kt,nt,_⟩:=Gy (d:=d+1) (nw.has aD)
  obtain ⟨h2,bD,bP,iA,bB,b8⟩:=de aK (ar.cells (au false 0 0 0 0 bE 0) 60 false)
  have b7:=aD.trans b8
  have K3:Has h1 h2:=b8
  obtain ⟨zr,h3,pA,bt,uL,Gz,N2⟩:=RO (d:=d) (n:=(bR l).length) bB bP o!
  have aX:=Has.ak b7 Gz aw o!
  have BD:=Has.ak K3 Gz aK o!
  obtain ⟨q,oo,C,f,T2,hq,fill⟩:=N2.T2 o! o! bt
  have N3:=KO (tys:= #[56,56]) (t:=56) (l:=bR l) rfl k! k! T2 (nt.has BD) (Nat.le_refl _)
  obtain ⟨h4,RV⟩:∃hh,hh=h3.put q (some (.cells (setFrom C oo (aA .u64 (bR l))) f false)):=⟨_,rfl⟩
  rw[←RV] at N3
  have AB:nj h3 h4 q (.cells (setFrom C oo (aA .u64 (bR l))) f false):=by rw[RV];exact il bt T2.get
  have gk:=AB.1
  have wL:h4.nx=h3.nx:=by rw[RV];rfl
  obtain ⟨cs_,Y5,hp_,zv_⟩:=fill h4 _ AB rfl
  obtain ⟨w0,w1,w2,w3,far,rfl,sc,hc,hf⟩:=id zv_
  have iy:Has h h4:=AB.has aX aw o!
  have K4:Has h1 h4:=AB.has BD aK o!
  obtain ⟨h5,pz,fA,wM,lu,iO⟩:=yW (t:=4) (n:=1) (i:=h1.nx) (o:=0) (v:=(aj (decide (0<(((bR l).length:Nat):Int))))) (N:=[(aj (decide (0<(((bR l).length:Nat):Int)))),(aa w0),(aa w1),(aa w2),(aa w3),far,(ag ((bR l).length))]) gk Y5 k! rfl k! k! z!
  have ep:=Has.ak iy iO aw o!
  have acM:=Has.ak K4 iO aK o!
  have sc7:AV.scalar far=true:=sc
  obtain ⟨h6,AD,dh,wP,j9,qv⟩:=b9 (t:=60) (n:=7) (i:=h.nx) (L:=[(aj (decide (0<(((bR l).length:Nat):Int)))),(aa w0),(aa w1),(aa w2),(aa w3),far,(ag ((bR l).length))]) fA (iO _ _ o! (AB.2.2 _ _ o! (Gz _ _ o! (b8 _ _ aC)))) k! rfl rfl z!
  have dK:=Has.ak ep qv aw o!
  have ev:=pk (d+2) uK ((aj true)::words::aV 20) h .ret h6 (NN aO (fun i=>(AV.ptr i 0))<|CC<|EE kt<|CC<|NN bD (fun i=>(AV.ptr i 0))<|CN 2<|VV nt.len<|EE pA<|CC<|PP N3<|CN 2<|TT<|CC<|TT<|VV nt.len<|TT<|VV (bM 3 false true .i64 (((bR l).length:Nat):Int) 0)<|CN 2<|SS pz<|MM (aJ 60 0 (AV.agg [(aj (decide (0<(((bR l).length:Nat):Int)))),(aa w0),(aa w1),(aa w2),(aa w3),far,(ag ((bR l).length))]) lu k!)<|SS AD<|ZZ) k!
  rw[←af1,Bool.true_and]
  have zv:=((zv_.sign (m':=decide (0<(((bR l).length:Nat):Int)))).kept iO o! o!).kept qv o! o!
  exact ⟨_,aU rfl (bn (a:=4) (t:=60) Tryz.func46 Jp k! (.inr rfl) ev k! (aN j9 k!)) aw ⟨dh,dK,by omega⟩ (P:=fun hh=>gY h hh _ _ _) (zv.mono o!) fun v=>zv.fit o! v⟩
 | false=>
  obtain ⟨h1,aO,aK,bm,aC,ck⟩:=de aw (ar.cells (au false 0 0 0 0 bE 0) 60 false)
  have aD:Has h h1:=ck
  obtain ⟨r1,kt,nt,_⟩:=Gy (d:=d+1) (nw.has aD)
  obtain ⟨h2,bD,bP,iA,bB,b8⟩:=de aK (ar.cells (au false 0 0 0 0 bE 0) 60 false)
  have b7:=aD.trans b8
  have K3:Has h1 h2:=b8
  obtain ⟨zr,h3,pA,bt,uL,Gz,N2⟩:=RO (d:=d) (n:=(bR l).length) bB bP o!
  have aX:=Has.ak b7 Gz aw o!
  have BD:=Has.ak K3 Gz aK o!
  obtain ⟨q,oo,C,f,T2,hq,fill⟩:=N2.T2 o! o! bt
  have N3:=KO (tys:= #[56,56]) (t:=56) (l:=bR l) rfl k! k! T2 (nt.has BD) (Nat.le_refl _)
  obtain ⟨h4,RV⟩:∃hh,hh=h3.put q (some (.cells (setFrom C oo (aA .u64 (bR l))) f false)):=⟨_,rfl⟩
  rw[←RV] at N3
  have AB:nj h3 h4 q (.cells (setFrom C oo (aA .u64 (bR l))) f false):=by rw[RV];exact il bt T2.get
  have gk:=AB.1
  have wL:h4.nx=h3.nx:=by rw[RV];rfl
  obtain ⟨cs_,Y5,hp_,zv_⟩:=fill h4 _ AB rfl
  obtain ⟨w0,w1,w2,w3,far,rfl,sc,hc,hf⟩:=id zv_
  have iy:Has h h4:=AB.has aX aw o!
  have K4:Has h1 h4:=AB.has BD aK o!
  obtain ⟨h5,pz,fA,wM,lu,iO⟩:=yW (t:=4) (n:=1) (i:=h1.nx) (o:=0) (v:=(aj false)) (N:=(bz false w0 w1 w2 w3 far ((bR l).length))) gk Y5 k! rfl k! k! z!
  have ep:=Has.ak iy iO aw o!
  have acM:=Has.ak K4 iO aK o!
  have sc7:AV.scalar far=true:=sc
  obtain ⟨h6,AD,dh,wP,j9,qv⟩:=b9 (t:=60) (n:=7) (i:=h.nx) (L:=(bz false w0 w1 w2 w3 far ((bR l).length))) fA (iO _ _ o! (AB.2.2 _ _ o! (Gz _ _ o! (b8 _ _ aC)))) k! rfl rfl z!
  have dK:=Has.ak ep qv aw o!
  have ev:=pk (d+2) uK ((aj false)::words::aV 20) h .ret h6 (NN aO (fun i=>(AV.ptr i 0))<|CC<|EE kt<|CC<|NN bD (fun i=>(AV.ptr i 0))<|CN 2<|VV nt.len<|EE pA<|CC<|PP N3<|CN 2<|FF<|FF<|FF<|CN 2<|SS pz<|MM (aJ 60 0 (AV.agg (bz false w0 w1 w2 w3 far ((bR l).length))) lu k!)<|SS AD<|ZZ) k!
  rw[Bool.false_and]
  have zv:=(zv_.kept iO o! o!).kept qv o! o!
  exact ⟨_,aU rfl (bn (a:=4) (t:=60) Tryz.func46 Jp k! (.inr rfl) ev k! (aN j9 k!)) aw ⟨dh,dK,by omega⟩ (P:=fun hh=>gY h hh _ _ _) (zv.mono o!) fun v=>zv.fit o! v⟩
end Go.Proofs.aF
