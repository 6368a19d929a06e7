import Derived.Test.YtmbkbhleedecdaaGreatDoorA8
import Derived.Test.YtmbkbhleedecdaaGreatDoorW0
import Derived.Test.YtmbkbhleedecdaaGreatDoorEnv
namespace Go.Proofs.aM
open Go.Proofs Ab
noncomputable section
set_option maxRecDepth 100000
set_option maxHeartbeats 4000000
set_option linter.unusedVariables false
set_option linter.unusedSimpArgs false
def lL:List UInt8:=[0,1,2,2,3,3,3,3,4,4,4,4,4,4,4,4,5,5,5,5,5,5,5,5,5,5,5,5,5,5,5,5,6,6,6,6,6,6,6,6,6,6,6,6,6,6,6,6,6,6,6,6,6,6,6,6,6,6,6,6,6,6,6,6,7,7,7,7,7,7,7,7,7,7,7,7,7,7,7,7,7,7,7,7,7,7,7,7,7,7,7,7,7,7,7,7,7,7,7,7,7,7,7,7,7,7,7,7,7,7,7,7,7,7,7,7,7,7,7,7,7,7,7,7,7,7,7,7,8,8,8,8,8,8,8,8,8,8,8,8,8,8,8,8,8,8,8,8,8,8,8,8,8,8,8,8,8,8,8,8,8,8,8,8,8,8,8,8,8,8,8,8,8,8,8,8,8,8,8,8,8,8,8,8,8,8,8,8,8,8,8,8,8,8,8,8,8,8,8,8,8,8,8,8,8,8,8,8,8,8,8,8,8,8,8,8,8,8,8,8,8,8,8,8,8,8,8,8,8,8,8,8,8,8,8,8,8,8,8,8,8,8,8,8,8,8,8,8,8,8,8,8,8,8,8,8]
def iE:Code:=(Tryz.f114.body).getD .skip
theorem pz:Tryz.f114.body=some iE:=by kernel_rfl
theorem QT {call:a_} {h:ax} {x:Int} {u2 u5 u8 XC:Int} (q1:(decide (4294967296≤x))=true) (c3:bu env .shr 150 false true (some (AV.int .u64 x)) (some (AV.int .u64 32))=some (AV.int .u64 u2)) (q4:(decide (65536≤u2))=true) (c6:bu env .shr 150 false true (some (AV.int .u64 u2)) (some (AV.int .u64 16))=some (AV.int .u64 u5)) (q7:(decide (256≤u5))=true) (c9:bu env .shr 150 false true (some (AV.int .u64 u5)) (some (AV.int .u64 8))=some (AV.int .u64 u8)) (Ky:j9 env (some .string) (some (AV.str lL)) (some (AV.int .u8 (IntKind.u8.wrap u8)))=some (AV.int .u8 XC)) (w12:IntKind.i64.wrap (56+(IntKind.i64.wrap XC))=56+(IntKind.i64.wrap XC)):
 Ev env call iE ⟨((AV.int .u64 x)::jg 24),h,[],.no⟩ .ret ⟨[(AV.int .u64 u8),AV.undef,(AV.int .i64 (56+(IntKind.i64.wrap XC))),(AV.int .u64 x),(AV.bool (decide (4294967296≤x))),(AV.int .u64 x),(AV.int .u64 u2),(AV.int .u64 u2),(AV.bool (decide (65536≤u2))),(AV.int .u64 u2),(AV.int .u64 u5),(AV.int .i64 32),(AV.int .i64 48),(AV.int .u64 u5),(AV.bool (decide (256≤u5))),(AV.int .u64 u5),(AV.int .u64 u8),(AV.int .i64 48),(AV.int .i64 56),(AV.int .i64 56),(AV.int .u64 u8),(AV.int .u8 (IntKind.u8.wrap u8)),(AV.int .u8 XC),(AV.int .i64 (IntKind.i64.wrap XC)),(AV.int .i64 (56+(IntKind.i64.wrap XC)))],h,[],.no⟩:=
 sM (n:=200) (CN 2<|VV (b9 150 false true .u64 x 4294967296)<|BB q1<|CC<|VV c3<|CN 3<|VV (b9 150 false true .u64 u2 65536)<|BB q4<|CC<|VV c6<|CN 5<|VV (b9 150 false true .u64 u5 256)<|BB q7<|CC<|VV c9<|CN 7<|VV Ky<|CC<|VV (qY 3 false false w12)<|CC<|ZZ) (by kernel_rfl)
theorem QU {call:a_} {h:ax} {x:Int} {u2 u5 y8:Int} (q1:(decide (4294967296≤x))=true) (c3:bu env .shr 150 false true (some (AV.int .u64 x)) (some (AV.int .u64 32))=some (AV.int .u64 u2)) (q4:(decide (65536≤u2))=true) (c6:bu env .shr 150 false true (some (AV.int .u64 u2)) (some (AV.int .u64 16))=some (AV.int .u64 u5)) (q7:(decide (256≤u5))=false) (c9:j9 env (some .string) (some (AV.str lL)) (some (AV.int .u8 (IntKind.u8.wrap u5)))=some (AV.int .u8 y8)) (w10:IntKind.i64.wrap (48+(IntKind.i64.wrap y8))=48+(IntKind.i64.wrap y8)):
 Ev env call iE ⟨((AV.int .u64 x)::jg 24),h,[],.no⟩ .ret ⟨[(AV.int .u64 u5),AV.undef,(AV.int .i64 (48+(IntKind.i64.wrap y8))),(AV.int .u64 x),(AV.bool (decide (4294967296≤x))),(AV.int .u64 x),(AV.int .u64 u2),(AV.int .u64 u2),(AV.bool (decide (65536≤u2))),(AV.int .u64 u2),(AV.int .u64 u5),(AV.int .i64 32),(AV.int .i64 48),(AV.int .u64 u5),(AV.bool (decide (256≤u5))),AV.undef,AV.undef,AV.undef,AV.undef,(AV.int .i64 48),(AV.int .u64 u5),(AV.int .u8 (IntKind.u8.wrap u5)),(AV.int .u8 y8),(AV.int .i64 (IntKind.i64.wrap y8)),(AV.int .i64 (48+(IntKind.i64.wrap y8)))],h,[],.no⟩:=
 sM (n:=200) (CN 2<|VV (b9 150 false true .u64 x 4294967296)<|BB q1<|CC<|VV c3<|CN 3<|VV (b9 150 false true .u64 u2 65536)<|BB q4<|CC<|VV c6<|CN 5<|VV (b9 150 false true .u64 u5 256)<|BB q7<|CN 3<|VV c9<|CC<|VV (qY 3 false false w10)<|CC<|ZZ) (by kernel_rfl)
theorem QV {call:a_} {h:ax} {x:Int} {u2 u6 y8:Int} (q1:(decide (4294967296≤x))=true) (c3:bu env .shr 150 false true (some (AV.int .u64 x)) (some (AV.int .u64 32))=some (AV.int .u64 u2)) (q4:(decide (65536≤u2))=false) (q5:(decide (256≤u2))=true) (c7:bu env .shr 150 false true (some (AV.int .u64 u2)) (some (AV.int .u64 8))=some (AV.int .u64 u6)) (c9:j9 env (some .string) (some (AV.str lL)) (some (AV.int .u8 (IntKind.u8.wrap u6)))=some (AV.int .u8 y8)) (w10:IntKind.i64.wrap (40+(IntKind.i64.wrap y8))=40+(IntKind.i64.wrap y8)):
 Ev env call iE ⟨((AV.int .u64 x)::jg 24),h,[],.no⟩ .ret ⟨[(AV.int .u64 u6),AV.undef,(AV.int .i64 (40+(IntKind.i64.wrap y8))),(AV.int .u64 x),(AV.bool (decide (4294967296≤x))),(AV.int .u64 x),(AV.int .u64 u2),(AV.int .u64 u2),(AV.bool (decide (65536≤u2))),AV.undef,AV.undef,AV.undef,AV.undef,(AV.int .u64 u2),(AV.bool (decide (256≤u2))),(AV.int .u64 u2),(AV.int .u64 u6),(AV.int .i64 32),(AV.int .i64 40),(AV.int .i64 40),(AV.int .u64 u6),(AV.int .u8 (IntKind.u8.wrap u6)),(AV.int .u8 y8),(AV.int .i64 (IntKind.i64.wrap y8)),(AV.int .i64 (40+(IntKind.i64.wrap y8)))],h,[],.no⟩:=
 sM (n:=200) (CN 2<|VV (b9 150 false true .u64 x 4294967296)<|BB q1<|CC<|VV c3<|CN 3<|VV (b9 150 false true .u64 u2 65536)<|BB q4<|CC<|VV (b9 150 false true .u64 u2 256)<|BB q5<|CC<|VV c7<|CN 7<|VV c9<|CC<|VV (qY 3 false false w10)<|CC<|ZZ) (by kernel_rfl)
theorem QW {call:a_} {h:ax} {x:Int} {u2 y6:Int} (q1:(decide (4294967296≤x))=true) (c3:bu env .shr 150 false true (some (AV.int .u64 x)) (some (AV.int .u64 32))=some (AV.int .u64 u2)) (q4:(decide (65536≤u2))=false) (q5:(decide (256≤u2))=false) (c7:j9 env (some .string) (some (AV.str lL)) (some (AV.int .u8 (IntKind.u8.wrap u2)))=some (AV.int .u8 y6)) (w8:IntKind.i64.wrap (32+(IntKind.i64.wrap y6))=32+(IntKind.i64.wrap y6)):
 Ev env call iE ⟨((AV.int .u64 x)::jg 24),h,[],.no⟩ .ret ⟨[(AV.int .u64 u2),AV.undef,(AV.int .i64 (32+(IntKind.i64.wrap y6))),(AV.int .u64 x),(AV.bool (decide (4294967296≤x))),(AV.int .u64 x),(AV.int .u64 u2),(AV.int .u64 u2),(AV.bool (decide (65536≤u2))),AV.undef,AV.undef,AV.undef,AV.undef,(AV.int .u64 u2),(AV.bool (decide (256≤u2))),AV.undef,AV.undef,AV.undef,AV.undef,(AV.int .i64 32),(AV.int .u64 u2),(AV.int .u8 (IntKind.u8.wrap u2)),(AV.int .u8 y6),(AV.int .i64 (IntKind.i64.wrap y6)),(AV.int .i64 (32+(IntKind.i64.wrap y6)))],h,[],.no⟩:=
 sM (n:=200) (CN 2<|VV (b9 150 false true .u64 x 4294967296)<|BB q1<|CC<|VV c3<|CN 3<|VV (b9 150 false true .u64 u2 65536)<|BB q4<|CC<|VV (b9 150 false true .u64 u2 256)<|BB q5<|CN 3<|VV c7<|CC<|VV (qY 3 false false w8)<|CC<|ZZ) (by kernel_rfl)
theorem QX {call:a_} {h:ax} {x:Int} {u3 u6 y8:Int} (q1:(decide (4294967296≤x))=false) (q2:(decide (65536≤x))=true) (c4:bu env .shr 150 false true (some (AV.int .u64 x)) (some (AV.int .u64 16))=some (AV.int .u64 u3)) (q5:(decide (256≤u3))=true) (c7:bu env .shr 150 false true (some (AV.int .u64 u3)) (some (AV.int .u64 8))=some (AV.int .u64 u6)) (c9:j9 env (some .string) (some (AV.str lL)) (some (AV.int .u8 (IntKind.u8.wrap u6)))=some (AV.int .u8 y8)) (w10:IntKind.i64.wrap (24+(IntKind.i64.wrap y8))=24+(IntKind.i64.wrap y8)):
 Ev env call iE ⟨((AV.int .u64 x)::jg 24),h,[],.no⟩ .ret ⟨[(AV.int .u64 u6),AV.undef,(AV.int .i64 (24+(IntKind.i64.wrap y8))),(AV.int .u64 x),(AV.bool (decide (4294967296≤x))),AV.undef,AV.undef,(AV.int .u64 x),(AV.bool (decide (65536≤x))),(AV.int .u64 x),(AV.int .u64 u3),(AV.int .i64 0),(AV.int .i64 16),(AV.int .u64 u3),(AV.bool (decide (256≤u3))),(AV.int .u64 u3),(AV.int .u64 u6),(AV.int .i64 16),(AV.int .i64 24),(AV.int .i64 24),(AV.int .u64 u6),(AV.int .u8 (IntKind.u8.wrap u6)),(AV.int .u8 y8),(AV.int .i64 (IntKind.i64.wrap y8)),(AV.int .i64 (24+(IntKind.i64.wrap y8)))],h,[],.no⟩:=
 sM (n:=200) (CN 2<|VV (b9 150 false true .u64 x 4294967296)<|BB q1<|CC<|VV (b9 150 false true .u64 x 65536)<|BB q2<|CC<|VV c4<|CN 5<|VV (b9 150 false true .u64 u3 256)<|BB q5<|CC<|VV c7<|CN 7<|VV c9<|CC<|VV (qY 3 false false w10)<|CC<|ZZ) (by kernel_rfl)
theorem QY {call:a_} {h:ax} {x:Int} {u3 y6:Int} (q1:(decide (4294967296≤x))=false) (q2:(decide (65536≤x))=true) (c4:bu env .shr 150 false true (some (AV.int .u64 x)) (some (AV.int .u64 16))=some (AV.int .u64 u3)) (q5:(decide (256≤u3))=false) (c7:j9 env (some .string) (some (AV.str lL)) (some (AV.int .u8 (IntKind.u8.wrap u3)))=some (AV.int .u8 y6)) (w8:IntKind.i64.wrap (16+(IntKind.i64.wrap y6))=16+(IntKind.i64.wrap y6)):
 Ev env call iE ⟨((AV.int .u64 x)::jg 24),h,[],.no⟩ .ret ⟨[(AV.int .u64 u3),AV.undef,(AV.int .i64 (16+(IntKind.i64.wrap y6))),(AV.int .u64 x),(AV.bool (decide (4294967296≤x))),AV.undef,AV.undef,(AV.int .u64 x),(AV.bool (decide (65536≤x))),(AV.int .u64 x),(AV.int .u64 u3),(AV.int .i64 0),(AV.int .i64 16),(AV.int .u64 u3),(AV.bool (decide (256≤u3))),AV.undef,AV.undef,AV.undef,AV.undef,(AV.int .i64 16),(AV.int .u64 u3),(AV.int .u8 (IntKind.u8.wrap u3)),(AV.int .u8 y6),(AV.int .i64 (IntKind.i64.wrap y6)),(AV.int .i64 (16+(IntKind.i64.wrap y6)))],h,[],.no⟩:=
 sM (n:=200) (CN 2<|VV (b9 150 false true .u64 x 4294967296)<|BB q1<|CC<|VV (b9 150 false true .u64 x 65536)<|BB q2<|CC<|VV c4<|CN 5<|VV (b9 150 false true .u64 u3 256)<|BB q5<|CN 3<|VV c7<|CC<|VV (qY 3 false false w8)<|CC<|ZZ) (by kernel_rfl)
theorem QZ {call:a_} {h:ax} {x:Int} {u4 y6:Int} (q1:(decide (4294967296≤x))=false) (q2:(decide (65536≤x))=false) (q3:(decide (256≤x))=true) (c5:bu env .shr 150 false true (some (AV.int .u64 x)) (some (AV.int .u64 8))=some (AV.int .u64 u4)) (c7:j9 env (some .string) (some (AV.str lL)) (some (AV.int .u8 (IntKind.u8.wrap u4)))=some (AV.int .u8 y6)) (w8:IntKind.i64.wrap (8+(IntKind.i64.wrap y6))=8+(IntKind.i64.wrap y6)):
 Ev env call iE ⟨((AV.int .u64 x)::jg 24),h,[],.no⟩ .ret ⟨[(AV.int .u64 u4),AV.undef,(AV.int .i64 (8+(IntKind.i64.wrap y6))),(AV.int .u64 x),(AV.bool (decide (4294967296≤x))),AV.undef,AV.undef,(AV.int .u64 x),(AV.bool (decide (65536≤x))),AV.undef,AV.undef,AV.undef,AV.undef,(AV.int .u64 x),(AV.bool (decide (256≤x))),(AV.int .u64 x),(AV.int .u64 u4),(AV.int .i64 0),(AV.int .i64 8),(AV.int .i64 8),(AV.int .u64 u4),(AV.int .u8 (IntKind.u8.wrap u4)),(AV.int .u8 y6),(AV.int .i64 (IntKind.i64.wrap y6)),(AV.int .i64 (8+(IntKind.i64.wrap y6)))],h,[],.no⟩:=
 sM (n:=200) (CN 2<|VV (b9 150 false true .u64 x 4294967296)<|BB q1<|CC<|VV (b9 150 false true .u64 x 65536)<|BB q2<|CC<|VV (b9 150 false true .u64 x 256)<|BB q3<|CC<|VV c5<|CN 7<|VV c7<|CC<|VV (qY 3 false false w8)<|CC<|ZZ) (by kernel_rfl)
theorem Q0 {call:a_} {h:ax} {x:Int} {y4:Int} (q1:(decide (4294967296≤x))=false) (q2:(decide (65536≤x))=false) (q3:(decide (256≤x))=false) (c5:j9 env (some .string) (some (AV.str lL)) (some (AV.int .u8 (IntKind.u8.wrap x)))=some (AV.int .u8 y4)) (w6:IntKind.i64.wrap (0+(IntKind.i64.wrap y4))=0+(IntKind.i64.wrap y4)):
 Ev env call iE ⟨((AV.int .u64 x)::jg 24),h,[],.no⟩ .ret ⟨[(AV.int .u64 x),AV.undef,(AV.int .i64 (0+(IntKind.i64.wrap y4))),(AV.int .u64 x),(AV.bool (decide (4294967296≤x))),AV.undef,AV.undef,(AV.int .u64 x),(AV.bool (decide (65536≤x))),AV.undef,AV.undef,AV.undef,AV.undef,(AV.int .u64 x),(AV.bool (decide (256≤x))),AV.undef,AV.undef,AV.undef,AV.undef,(AV.int .i64 0),(AV.int .u64 x),(AV.int .u8 (IntKind.u8.wrap x)),(AV.int .u8 y4),(AV.int .i64 (IntKind.i64.wrap y4)),(AV.int .i64 (0+(IntKind.i64.wrap y4)))],h,[],.no⟩:=
 sM (n:=200) (CN 2<|VV (b9 150 false true .u64 x 4294967296)<|BB q1<|CC<|VV (b9 150 false true .u64 x 65536)<|BB q2<|CC<|VV (b9 150 false true .u64 x 256)<|BB q3<|CN 3<|VV c5<|CC<|VV (qY 3 false false w6)<|CC<|ZZ) (by kernel_rfl)
def Ai (x L:Nat):Prop:=(x=0∧L=0)∨(0<L∧2^(L - 1)≤x∧x<2^L)
theorem XD:((List.range 256).all fun u=>match lL[u]? with
 | some b=>(decide (u=0)&&decide (b.toNat=0))||(decide (0<b.toNat)&&decide (b.toNat≤8)&&decide (2^(b.toNat - 1)≤u)&&decide (u<2^b.toNat))
 | none=>false)=true:=by decide+kernel
theorem pA (u:Nat) (hu:u<256):∃t:Nat,j9 env (some .string) (some (.str lL)) (some (.int .u8 (IntKind.u8.wrap (u:Int))))=some (.int .u8 (t:Int))∧Ai u t∧t≤8:=by
 have h:=List.all_eq_true.1 XD u (List.mem_range.2 hu)
 cases hb:lL[u]? with
 | none=>rw[hb] at h;cases h
 | some b=>
   rw[hb] at h
   have hw:IntKind.u8.wrap (u:Int)=(u:Int):=by
    show (if (false&&decide ((u:Int)%2^8≥2^7))=true then (u:Int)%2^8 - 2^8 else (u:Int)%2^8)=_
    rw[if_neg (by simp)]
    omega
   refine ⟨b.toNat,?_,?_⟩
   · rw[hw]
     simp only[j9]
     rw[if_pos o!,Int.toNat_natCast,hb]
   · simp only[Bool.or_eq_true,Bool.and_eq_true,decide_eq_true_eq] at h
     rcases h with ⟨h1,h2⟩ | ⟨⟨⟨h1,h2⟩,h3⟩,h4⟩
     · exact ⟨.inl ⟨h1,h2⟩,by omega⟩
     · exact ⟨.inr ⟨h1,h3,h4⟩,h2⟩
theorem Ai.up {x s t:Nat} (h:Ai (x/2^s) t) (hx:x/2^s≠0):Ai x (s+t):=by
 rcases h with ⟨h1,_⟩ | ⟨h1,h2,h3⟩
 · exact absurd h1 hx
 · refine .inr ⟨by omega,?_,?_⟩
   · have:=(Nat.le_div_iff_mul_le (Nat.pow_pos (n:=s) (by decide:0<2))).1 h2
     rw[←Nat.pow_add] at this
     rwa [show s+t - 1=t - 1+s by omega]
   · rw[Nat.div_lt_iff_lt_mul (Nat.pow_pos (by decide)),←Nat.pow_add] at h3
     rwa [Nat.add_comm]
theorem Ai.le {x L:Nat} (h:Ai x L) (hx:x<18446744073709551616):L≤64:=by
 rcases h with ⟨_,h⟩ | ⟨h1,h2,h3⟩
 · omega
 · have:2^(L - 1)<2^64:=by omega
   have:=(Nat.pow_lt_pow_iff_right (by decide:1<2)).1 this
   omega
theorem Up {d:Nat} {h:ax} (x:Nat) (hx:x<18446744073709551616):∃L:Nat,cT (d+1) (.fn 114) [.int .u64 (x:Int)] h= .ret (.int .i64 (L:Int)) h∧Ai x L∧L≤64:=by
 have fin:∀{v:Int} (L:Nat),Ai x L→v=(L:Int)→wY env (cT d) 114 [.int .u64 (x:Int)] h (.int .i64 v) h→∃L:Nat,cT (d+1) (.fn 114) [.int .u64 (x:Int)] h= .ret (.int .i64 (L:Int)) h∧Ai x L∧L≤64:=by
  intro v L hL hv hd
  subst hv
  exact ⟨L,aw rfl hd (Has.refl h) rfl,hL,hL.le hx⟩
 have s32:=fun y=>sL (E:=env) 12 false true y 32 .u64 (by decide)
 have s16:=fun y=>sL (E:=env) 12 false true y 16 .u64 (by decide)
 have s8:=fun y=>sL (E:=env) 12 false true y 8 .u64 (by decide)
 have wr:∀(n t:Nat),n≤56→t≤8→IntKind.i64.wrap ((n:Int)+IntKind.i64.wrap (t:Int))=(n:Int)+IntKind.i64.wrap (t:Int)∧(n:Int)+IntKind.i64.wrap (t:Int)=((n+t:Nat):Int):=by
  intro n t h1 h2
  rw[wrap_i64 (n:=(t:Int)) o! o!]
  exact ⟨wrap_i64 o! o!,by omega⟩
 by_cases q1:4294967296≤x
 · by_cases q2:65536≤x/2^32
   · by_cases q3:256≤x/2^32/2^16
     · obtain ⟨t,i1,b1,t8⟩:=pA (x/2^32/2^16/2^8) o!
       obtain ⟨w1,w2⟩:=wr 56 t (by decide) t8
       exact fin (32+(16+(8+t))) (((b1.up o!).up o!).up o!) (w2.trans o!) (aI Tryz.func114 pz (by kernel_rfl) (.inr rfl) (QT (dT o!) (s32 x) (dT o!) (s16 _) (dT o!) (s8 _) i1 w1) (by kernel_rfl))
     · obtain ⟨t,i1,b1,t8⟩:=pA (x/2^32/2^16) o!
       obtain ⟨w1,w2⟩:=wr 48 t (by decide) t8
       exact fin (32+(16+t)) ((b1.up o!).up o!) (w2.trans o!) (aI Tryz.func114 pz (by kernel_rfl) (.inr rfl) (QU (dT o!) (s32 x) (dT o!) (s16 _) (dF o!) i1 w1) (by kernel_rfl))
   · by_cases q3:256≤x/2^32
     · obtain ⟨t,i1,b1,t8⟩:=pA (x/2^32/2^8) o!
       obtain ⟨w1,w2⟩:=wr 40 t (by decide) t8
       exact fin (32+(8+t)) ((b1.up o!).up o!) (w2.trans o!) (aI Tryz.func114 pz (by kernel_rfl) (.inr rfl) (QV (dT o!) (s32 x) (dF o!) (dT o!) (s8 _) i1 w1) (by kernel_rfl))
     · obtain ⟨t,i1,b1,t8⟩:=pA (x/2^32) o!
       obtain ⟨w1,w2⟩:=wr 32 t (by decide) t8
       exact fin (32+t) (b1.up o!) (w2.trans o!) (aI Tryz.func114 pz (by kernel_rfl) (.inr rfl) (QW (dT o!) (s32 x) (dF o!) (dF o!) i1 w1) (by kernel_rfl))
 · by_cases q2:65536≤x
   · by_cases q3:256≤x/2^16
     · obtain ⟨t,i1,b1,t8⟩:=pA (x/2^16/2^8) o!
       obtain ⟨w1,w2⟩:=wr 24 t (by decide) t8
       exact fin (16+(8+t)) ((b1.up o!).up o!) (w2.trans o!) (aI Tryz.func114 pz (by kernel_rfl) (.inr rfl) (QX (dF o!) (dT o!) (s16 x) (dT o!) (s8 _) i1 w1) (by kernel_rfl))
     · obtain ⟨t,i1,b1,t8⟩:=pA (x/2^16) o!
       obtain ⟨w1,w2⟩:=wr 16 t (by decide) t8
       exact fin (16+t) (b1.up o!) (w2.trans o!) (aI Tryz.func114 pz (by kernel_rfl) (.inr rfl) (QY (dF o!) (dT o!) (s16 x) (dF o!) i1 w1) (by kernel_rfl))
   · by_cases q3:256≤x
     · obtain ⟨t,i1,b1,t8⟩:=pA (x/2^8) o!
       obtain ⟨w1,w2⟩:=wr 8 t (by decide) t8
       exact fin (8+t) (b1.up o!) (w2.trans o!) (aI Tryz.func114 pz (by kernel_rfl) (.inr rfl) (QZ (dF o!) (dF o!) (dT o!) (s8 x) i1 w1) (by kernel_rfl))
     · obtain ⟨t,i1,b1,t8⟩:=pA x o!
       obtain ⟨w1,w2⟩:=wr 0 t (by decide) t8
       exact fin t b1 (w2.trans o!) (aI Tryz.func114 pz (by kernel_rfl) (.inr rfl) (Q0 (dF o!) (dF o!) (dF o!) i1 w1) (by kernel_rfl))
theorem Ai.unique {x M L:Nat} (g2:Ai x M) (h2:Ai x L):M=L:=by
 rcases h2 with ⟨a1,a2⟩ | ⟨a1,a2,a3⟩<;>rcases g2 with ⟨b1,b2⟩ | ⟨b1,b2,b3⟩
 · omega
 · have:0<2^(M - 1):=Nat.pow_pos (by decide)
   omega
 · have:0<2^(L - 1):=Nat.pow_pos (by decide)
   omega
 · have c1:L - 1<M:=(Nat.pow_lt_pow_iff_right (by decide:1<2)).1 (Nat.lt_of_le_of_lt a2 b3)
   have c2:M - 1<L:=(Nat.pow_lt_pow_iff_right (by decide:1<2)).1 (Nat.lt_of_le_of_lt b2 a3)
   omega
theorem FX {α:Type} {tin:(Nat→AV)→List AV} {aao:α→(Nat→AV)→List AV} {b:Code} {s:St} {h:ax} {ds:List ny} {rc:RC} {L:List AV} {e:jY} {Q:α→ax→Prop} {call:a_} (ev:Ev env call b s .normal ⟨L,h,ds,rc⟩) (hl:L=tin fun k=>L.getD k AV.undef)
 (ih:∀x,∃a h',(∃y,Ev env call (.loop b) ⟨tin x,h,ds,rc⟩ e ⟨aao a y,h',ds,rc⟩)∧Q a h'):∃a h',(∃y,Ev env call (.loop b) s e ⟨aao a y,h',ds,rc⟩)∧Q a h':=by
 obtain ⟨a,h',⟨y,h1⟩,h2⟩:=ih fun k=>L.getD k AV.undef
 exact ⟨a,h',⟨y,Ni ev hl h1⟩,h2⟩
theorem Ef {l:List Nat} {j:Nat} (hj:j<l.length):l.take (j+1)=l.take j++[l.getD j 0]:=by
 rw[List.take_add_one,List.getD_eq_getElem?_getD,List.getElem?_eq_getElem hj];rfl
end
end Go.Proofs.aM
