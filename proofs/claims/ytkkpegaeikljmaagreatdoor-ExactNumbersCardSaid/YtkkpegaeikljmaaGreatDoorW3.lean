import Derived.Test.YtkkpegaeikljmaaGreatDoorA6
import Derived.Test.YtkkpegaeikljmaaGreatDoorW0
import Derived.Test.YtkkpegaeikljmaaGreatDoorEnv
import Derived.Test.YtkkpegaeikljmaaGreatDoorW2
namespace Go.Proofs.aF
open Go.Proofs Ab
set_option maxRecDepth 100000
set_option maxHeartbeats 4000000
set_option linter.unusedVariables false
set_option linter.unusedSimpArgs false
noncomputable def qB:Code:=(Tryz.f127.body).getD .skip
theorem T5:Tryz.f127.body=some qB:=by kernel_rfl
noncomputable def lH:Code:=(aY qB).getD 0 .skip
noncomputable def lI:Code:=(aY qB).getD 1 .skip
theorem N' {call:aE} {h:ah} {ds:List cC} {rc:RC} {x0 x1 x2 x8 x11 x12 x14:AV} {x:Nat→AV} {a1 a0 dd q r:Int} {u2 u4:Int} (q1:(decide (4294967296≤q))=true) (c3:aI env .sub 54 false true (some (aa q)) (some (aa 1))=some (aa u2)) (c5:aI env .add 54 false false (some (aa r)) (some (aa a1))=some (aa u4)) (q6:(decide (4294967296≤u4))=true):
 Ev env call lH ⟨(x0::x1::x2::rx x 3 5 (x8::(aa a1)::(aa a0)::x11::x12::(aa dd)::x14::(aa q)::(aa r)::rx x 17 118 [])),h,ds,rc⟩ (.exit 0) ⟨(x0::x1::x2::rx x 3 5 (x8::(aa a1)::(aa a0)::x11::x12::(aa dd)::x14::(aa u2)::(aa u4)::rx x 17 50 ((aa q)::(aj (decide (4294967296≤q)))::(aj (decide (4294967296≤q)))::KR 8 ((aj true)::(aa q)::(aa u2)::(aa r)::(aa a1)::(aa u4)::(aa u4)::(aj (decide (4294967296≤u4)))::rx x 86 49 [])))),h,ds,rc⟩:=
 aR (n:=200) (CC<|VV (bV 54 false true .u64 q 4294967296)<|CC<|BB q1<|BB q1<|BB q1<|BB q1<|BB q1<|BB q1<|BB q1<|BB q1<|VV (aG (a:=some (aj true)) (b:=some aB) q1)<|TT<|CC<|VV c3<|CN 3<|VV c5<|CN 2<|VV (bV 54 false true .u64 u4 4294967296)<|BB q6<|ZZ) k!
theorem Oa {call:aE} {h:ah} {ds:List cC} {rc:RC} {x0 x1 x2 x8 x11 x12 x14:AV} {x:Nat→AV} {a1 a0 dd q r:Int} {u2 u4:Int} (q1:(decide (4294967296≤q))=true) (c3:aI env .sub 54 false true (some (aa q)) (some (aa 1))=some (aa u2)) (c5:aI env .add 54 false false (some (aa r)) (some (aa a1))=some (aa u4)) (q6:(decide (4294967296≤u4))=false):
 Ev env call lH ⟨(x0::x1::x2::rx x 3 5 (x8::(aa a1)::(aa a0)::x11::x12::(aa dd)::x14::(aa q)::(aa r)::rx x 17 118 [])),h,ds,rc⟩ .normal ⟨(x0::x1::x2::rx x 3 5 (x8::(aa a1)::(aa a0)::x11::x12::(aa dd)::x14::(aa u2)::(aa u4)::rx x 17 50 ((aa q)::(aj (decide (4294967296≤q)))::(aj (decide (4294967296≤q)))::KR 8 ((aj true)::(aa q)::(aa u2)::(aa r)::(aa a1)::(aa u4)::(aa u4)::(aj (decide (4294967296≤u4)))::rx x 86 49 [])))),h,ds,rc⟩:=
 aR (n:=200) (CC<|VV (bV 54 false true .u64 q 4294967296)<|CC<|BB q1<|BB q1<|BB q1<|BB q1<|BB q1<|BB q1<|BB q1<|BB q1<|VV (aG (a:=some (aj true)) (b:=some aB) q1)<|TT<|CC<|VV c3<|CN 3<|VV c5<|CN 2<|VV (bV 54 false true .u64 u4 4294967296)<|BB q6<|ZZ) k!
theorem Ob {call:aE} {h:ah} {ds:List cC} {rc:RC} {x0 x1 x2 x8 x11 x12 x14:AV} {x:Nat→AV} {a1 a0 dd q r:Int} {u2 u4 u6 u9 nk:Int} (q1:(decide (4294967296≤q))=false) (c3:aI env .mul 54 false false (some (aa q)) (some (aa a0))=some (aa u2)) (c5:aI env .mul 54 true false (some (aa 4294967296)) (some (aa r))=some (aa u4)) (c7:aI env .add 54 false false (some (aa u4)) (some (aa dd))=some (aa u6)) (q8:(decide (u6<u2))=true) (VH:aI env .sub 54 false true (some (aa q)) (some (aa 1))=some (aa u9)) (Qo:aI env .add 54 false false (some (aa r)) (some (aa a1))=some (aa nk)) (W5:(decide (4294967296≤nk))=true):
 Ev env call lH ⟨(x0::x1::x2::rx x 3 5 (x8::(aa a1)::(aa a0)::x11::x12::(aa dd)::x14::(aa q)::(aa r)::rx x 17 118 [])),h,ds,rc⟩ (.exit 0) ⟨(x0::x1::x2::rx x 3 5 (x8::(aa a1)::(aa a0)::x11::x12::(aa dd)::x14::(aa u9)::(aa nk)::rx x 17 50 ((aa q)::(aj (decide (4294967296≤q)))::(aj (decide (4294967296≤q)))::(aa q)::(aa a0)::(aa u2)::(aa r)::(aa u4)::(aa dd)::(aa u6)::(aj (decide (u6<u2)))::(aj (decide (u6<u2)))::(aa q)::(aa u9)::(aa r)::(aa a1)::(aa nk)::(aa nk)::(aj (decide (4294967296≤nk)))::rx x 86 49 []))),h,ds,rc⟩:=
 aR (n:=200) (CC<|VV (bV 54 false true .u64 q 4294967296)<|CC<|BB q1<|CC<|BB q1<|CC<|BB q1<|VV c3<|BB q1<|CC<|BB q1<|VV c5<|BB q1<|CC<|BB q1<|VV c7<|BB q1<|VV (bM 54 false false .u64 u2 u6)<|VV (aL (a:=some (aj true)) (b:=some (aj (decide (u6<u2)))) q1)<|BB q8<|CC<|VV VH<|CN 3<|VV Qo<|CN 2<|VV (bV 54 false true .u64 nk 4294967296)<|BB W5<|ZZ) k!
theorem Oc {call:aE} {h:ah} {ds:List cC} {rc:RC} {x0 x1 x2 x8 x11 x12 x14:AV} {x:Nat→AV} {a1 a0 dd q r:Int} {u2 u4 u6 u9 nk:Int} (q1:(decide (4294967296≤q))=false) (c3:aI env .mul 54 false false (some (aa q)) (some (aa a0))=some (aa u2)) (c5:aI env .mul 54 true false (some (aa 4294967296)) (some (aa r))=some (aa u4)) (c7:aI env .add 54 false false (some (aa u4)) (some (aa dd))=some (aa u6)) (q8:(decide (u6<u2))=true) (VH:aI env .sub 54 false true (some (aa q)) (some (aa 1))=some (aa u9)) (Qo:aI env .add 54 false false (some (aa r)) (some (aa a1))=some (aa nk)) (W5:(decide (4294967296≤nk))=false):
 Ev env call lH ⟨(x0::x1::x2::rx x 3 5 (x8::(aa a1)::(aa a0)::x11::x12::(aa dd)::x14::(aa q)::(aa r)::rx x 17 118 [])),h,ds,rc⟩ .normal ⟨(x0::x1::x2::rx x 3 5 (x8::(aa a1)::(aa a0)::x11::x12::(aa dd)::x14::(aa u9)::(aa nk)::rx x 17 50 ((aa q)::(aj (decide (4294967296≤q)))::(aj (decide (4294967296≤q)))::(aa q)::(aa a0)::(aa u2)::(aa r)::(aa u4)::(aa dd)::(aa u6)::(aj (decide (u6<u2)))::(aj (decide (u6<u2)))::(aa q)::(aa u9)::(aa r)::(aa a1)::(aa nk)::(aa nk)::(aj (decide (4294967296≤nk)))::rx x 86 49 []))),h,ds,rc⟩:=
 aR (n:=200) (CC<|VV (bV 54 false true .u64 q 4294967296)<|CC<|BB q1<|CC<|BB q1<|CC<|BB q1<|VV c3<|BB q1<|CC<|BB q1<|VV c5<|BB q1<|CC<|BB q1<|VV c7<|BB q1<|VV (bM 54 false false .u64 u2 u6)<|VV (aL (a:=some (aj true)) (b:=some (aj (decide (u6<u2)))) q1)<|BB q8<|CC<|VV VH<|CN 3<|VV Qo<|CN 2<|VV (bV 54 false true .u64 nk 4294967296)<|BB W5<|ZZ) k!
theorem Ed {call:aE} {h:ah} {ds:List cC} {rc:RC} {x0 x1 x2 x8 x11 x12 x14:AV} {x:Nat→AV} {a1 a0 dd q r:Int} {u2 u4 u6:Int} (q1:(decide (4294967296≤q))=false) (c3:aI env .mul 54 false false (some (aa q)) (some (aa a0))=some (aa u2)) (c5:aI env .mul 54 true false (some (aa 4294967296)) (some (aa r))=some (aa u4)) (c7:aI env .add 54 false false (some (aa u4)) (some (aa dd))=some (aa u6)) (q8:(decide (u6<u2))=false):
 Ev env call lH ⟨(x0::x1::x2::rx x 3 5 (x8::(aa a1)::(aa a0)::x11::x12::(aa dd)::x14::(aa q)::(aa r)::rx x 17 118 [])),h,ds,rc⟩ (.exit 0) ⟨(x0::x1::x2::rx x 3 5 (x8::(aa a1)::(aa a0)::x11::x12::(aa dd)::x14::(aa q)::(aa r)::rx x 17 50 ((aa q)::(aj (decide (4294967296≤q)))::(aj (decide (4294967296≤q)))::(aa q)::(aa a0)::(aa u2)::(aa r)::(aa u4)::(aa dd)::(aa u6)::(aj (decide (u6<u2)))::(aj (decide (u6<u2)))::rx x 79 56 []))),h,ds,rc⟩:=
 aR (n:=200) (CC<|VV (bV 54 false true .u64 q 4294967296)<|CC<|BB q1<|CC<|BB q1<|CC<|BB q1<|VV c3<|BB q1<|CC<|BB q1<|VV c5<|BB q1<|CC<|BB q1<|VV c7<|BB q1<|VV (bM 54 false false .u64 u2 u6)<|VV (aL (a:=some (aj true)) (b:=some (aj (decide (u6<u2)))) q1)<|BB q8<|ZZ) k!
theorem Od {call:aE} {h:ah} {ds:List cC} {rc:RC} {x0 x1 x2 x8 x11 x12 x13 x15 x17:AV} {x:Nat→AV} {a1 a0 dd q r:Int} {u2 u4:Int} (q1:(decide (4294967296≤q))=true) (c3:aI env .sub 54 false true (some (aa q)) (some (aa 1))=some (aa u2)) (c5:aI env .add 54 false false (some (aa r)) (some (aa a1))=some (aa u4)) (q6:(decide (4294967296≤u4))=true):
 Ev env call lI ⟨(x0::x1::x2::rx x 3 5 (x8::(aa a1)::(aa a0)::x11::x12::x13::(aa dd)::x15::(aa r)::x17::(aa q)::rx x 19 116 [])),h,ds,rc⟩ (.exit 2) ⟨(x0::x1::x2::rx x 3 5 (x8::(aa a1)::(aa a0)::x11::x12::x13::(aa dd)::x15::(aa u4)::x17::(aa u2)::rx x 19 83 ((aa q)::(aj (decide (4294967296≤q)))::(aj (decide (4294967296≤q)))::KR 8 ((aj true)::(aa q)::(aa u2)::(aa r)::(aa a1)::(aa u4)::(aa u4)::(aj (decide (4294967296≤u4)))::rx x 121 14 [])))),h,ds,rc⟩:=
 aR (n:=200) (CC<|VV (bV 54 false true .u64 q 4294967296)<|CC<|BB q1<|BB q1<|BB q1<|BB q1<|BB q1<|BB q1<|BB q1<|BB q1<|VV (aG (a:=some (aj true)) (b:=some aB) q1)<|TT<|CC<|VV c3<|CN 3<|VV c5<|CN 2<|VV (bV 54 false true .u64 u4 4294967296)<|BB q6<|ZZ) k!
theorem Oe {call:aE} {h:ah} {ds:List cC} {rc:RC} {x0 x1 x2 x8 x11 x12 x13 x15 x17:AV} {x:Nat→AV} {a1 a0 dd q r:Int} {u2 u4:Int} (q1:(decide (4294967296≤q))=true) (c3:aI env .sub 54 false true (some (aa q)) (some (aa 1))=some (aa u2)) (c5:aI env .add 54 false false (some (aa r)) (some (aa a1))=some (aa u4)) (q6:(decide (4294967296≤u4))=false):
 Ev env call lI ⟨(x0::x1::x2::rx x 3 5 (x8::(aa a1)::(aa a0)::x11::x12::x13::(aa dd)::x15::(aa r)::x17::(aa q)::rx x 19 116 [])),h,ds,rc⟩ .normal ⟨(x0::x1::x2::rx x 3 5 (x8::(aa a1)::(aa a0)::x11::x12::x13::(aa dd)::x15::(aa u4)::x17::(aa u2)::rx x 19 83 ((aa q)::(aj (decide (4294967296≤q)))::(aj (decide (4294967296≤q)))::KR 8 ((aj true)::(aa q)::(aa u2)::(aa r)::(aa a1)::(aa u4)::(aa u4)::(aj (decide (4294967296≤u4)))::rx x 121 14 [])))),h,ds,rc⟩:=
 aR (n:=200) (CC<|VV (bV 54 false true .u64 q 4294967296)<|CC<|BB q1<|BB q1<|BB q1<|BB q1<|BB q1<|BB q1<|BB q1<|BB q1<|VV (aG (a:=some (aj true)) (b:=some aB) q1)<|TT<|CC<|VV c3<|CN 3<|VV c5<|CN 2<|VV (bV 54 false true .u64 u4 4294967296)<|BB q6<|ZZ) k!
theorem Of {call:aE} {h:ah} {ds:List cC} {rc:RC} {x0 x1 x2 x8 x11 x12 x13 x15 x17:AV} {x:Nat→AV} {a1 a0 dd q r:Int} {u2 u4 u6 u9 nk:Int} (q1:(decide (4294967296≤q))=false) (c3:aI env .mul 54 false false (some (aa q)) (some (aa a0))=some (aa u2)) (c5:aI env .mul 54 true false (some (aa 4294967296)) (some (aa r))=some (aa u4)) (c7:aI env .add 54 false false (some (aa u4)) (some (aa dd))=some (aa u6)) (q8:(decide (u6<u2))=true) (VH:aI env .sub 54 false true (some (aa q)) (some (aa 1))=some (aa u9)) (Qo:aI env .add 54 false false (some (aa r)) (some (aa a1))=some (aa nk)) (W5:(decide (4294967296≤nk))=true):
 Ev env call lI ⟨(x0::x1::x2::rx x 3 5 (x8::(aa a1)::(aa a0)::x11::x12::x13::(aa dd)::x15::(aa r)::x17::(aa q)::rx x 19 116 [])),h,ds,rc⟩ (.exit 2) ⟨(x0::x1::x2::rx x 3 5 (x8::(aa a1)::(aa a0)::x11::x12::x13::(aa dd)::x15::(aa nk)::x17::(aa u9)::rx x 19 83 ((aa q)::(aj (decide (4294967296≤q)))::(aj (decide (4294967296≤q)))::(aa q)::(aa a0)::(aa u2)::(aa r)::(aa u4)::(aa dd)::(aa u6)::(aj (decide (u6<u2)))::(aj (decide (u6<u2)))::(aa q)::(aa u9)::(aa r)::(aa a1)::(aa nk)::(aa nk)::(aj (decide (4294967296≤nk)))::rx x 121 14 []))),h,ds,rc⟩:=
 aR (n:=200) (CC<|VV (bV 54 false true .u64 q 4294967296)<|CC<|BB q1<|CC<|BB q1<|CC<|BB q1<|VV c3<|BB q1<|CC<|BB q1<|VV c5<|BB q1<|CC<|BB q1<|VV c7<|BB q1<|VV (bM 54 false false .u64 u2 u6)<|VV (aL (a:=some (aj true)) (b:=some (aj (decide (u6<u2)))) q1)<|BB q8<|CC<|VV VH<|CN 3<|VV Qo<|CN 2<|VV (bV 54 false true .u64 nk 4294967296)<|BB W5<|ZZ) k!
theorem Og {call:aE} {h:ah} {ds:List cC} {rc:RC} {x0 x1 x2 x8 x11 x12 x13 x15 x17:AV} {x:Nat→AV} {a1 a0 dd q r:Int} {u2 u4 u6 u9 nk:Int} (q1:(decide (4294967296≤q))=false) (c3:aI env .mul 54 false false (some (aa q)) (some (aa a0))=some (aa u2)) (c5:aI env .mul 54 true false (some (aa 4294967296)) (some (aa r))=some (aa u4)) (c7:aI env .add 54 false false (some (aa u4)) (some (aa dd))=some (aa u6)) (q8:(decide (u6<u2))=true) (VH:aI env .sub 54 false true (some (aa q)) (some (aa 1))=some (aa u9)) (Qo:aI env .add 54 false false (some (aa r)) (some (aa a1))=some (aa nk)) (W5:(decide (4294967296≤nk))=false):
 Ev env call lI ⟨(x0::x1::x2::rx x 3 5 (x8::(aa a1)::(aa a0)::x11::x12::x13::(aa dd)::x15::(aa r)::x17::(aa q)::rx x 19 116 [])),h,ds,rc⟩ .normal ⟨(x0::x1::x2::rx x 3 5 (x8::(aa a1)::(aa a0)::x11::x12::x13::(aa dd)::x15::(aa nk)::x17::(aa u9)::rx x 19 83 ((aa q)::(aj (decide (4294967296≤q)))::(aj (decide (4294967296≤q)))::(aa q)::(aa a0)::(aa u2)::(aa r)::(aa u4)::(aa dd)::(aa u6)::(aj (decide (u6<u2)))::(aj (decide (u6<u2)))::(aa q)::(aa u9)::(aa r)::(aa a1)::(aa nk)::(aa nk)::(aj (decide (4294967296≤nk)))::rx x 121 14 []))),h,ds,rc⟩:=
 aR (n:=200) (CC<|VV (bV 54 false true .u64 q 4294967296)<|CC<|BB q1<|CC<|BB q1<|CC<|BB q1<|VV c3<|BB q1<|CC<|BB q1<|VV c5<|BB q1<|CC<|BB q1<|VV c7<|BB q1<|VV (bM 54 false false .u64 u2 u6)<|VV (aL (a:=some (aj true)) (b:=some (aj (decide (u6<u2)))) q1)<|BB q8<|CC<|VV VH<|CN 3<|VV Qo<|CN 2<|VV (bV 54 false true .u64 nk 4294967296)<|BB W5<|ZZ) k!
theorem Ee {call:aE} {h:ah} {ds:List cC} {rc:RC} {x0 x1 x2 x8 x11 x12 x13 x15 x17:AV} {x:Nat→AV} {a1 a0 dd q r:Int} {u2 u4 u6:Int} (q1:(decide (4294967296≤q))=false) (c3:aI env .mul 54 false false (some (aa q)) (some (aa a0))=some (aa u2)) (c5:aI env .mul 54 true false (some (aa 4294967296)) (some (aa r))=some (aa u4)) (c7:aI env .add 54 false false (some (aa u4)) (some (aa dd))=some (aa u6)) (q8:(decide (u6<u2))=false):
 Ev env call lI ⟨(x0::x1::x2::rx x 3 5 (x8::(aa a1)::(aa a0)::x11::x12::x13::(aa dd)::x15::(aa r)::x17::(aa q)::rx x 19 116 [])),h,ds,rc⟩ (.exit 2) ⟨(x0::x1::x2::rx x 3 5 (x8::(aa a1)::(aa a0)::x11::x12::x13::(aa dd)::x15::(aa r)::x17::(aa q)::rx x 19 83 ((aa q)::(aj (decide (4294967296≤q)))::(aj (decide (4294967296≤q)))::(aa q)::(aa a0)::(aa u2)::(aa r)::(aa u4)::(aa dd)::(aa u6)::(aj (decide (u6<u2)))::(aj (decide (u6<u2)))::rx x 114 21 []))),h,ds,rc⟩:=
 aR (n:=200) (CC<|VV (bV 54 false true .u64 q 4294967296)<|CC<|BB q1<|CC<|BB q1<|CC<|BB q1<|VV c3<|BB q1<|CC<|BB q1<|VV c5<|BB q1<|CC<|BB q1<|VV c7<|BB q1<|VV (bM 54 false false .u64 u2 u6)<|VV (aL (a:=some (aj true)) (b:=some (aj (decide (u6<u2)))) q1)<|BB q8<|ZZ) k!
theorem aer {q r u d a1 a0:Nat} (e:q*a1+r=u) (h:4294967296*r+d<q*a0):(u*4294967296+d) /(a1*4294967296+a0)<q:=by
 apply Nat.div_lt_of_lt_mul
 have:(a1*4294967296+a0)*q=(q*a1)*4294967296+q*a0:=by
  rw[Nat.add_mul,Nat.mul_right_comm,Nat.mul_comm a1 q,Nat.mul_comm a0 q]
 rw[this]
 generalize q*a1=P at *
 generalize q*a0=S at *
 omega
theorem T6 {q r u d a1 a0:Nat} (e:q*a1+r=u) (h:q*a0≤4294967296*r+d) (hp:0<a1*4294967296+a0):q≤(u*4294967296+d) /(a1*4294967296+a0):=by
 rw[Nat.le_div_iff_mul_le hp]
 have:q*(a1*4294967296+a0)=(q*a1)*4294967296+q*a0:=by rw[Nat.mul_add,Nat.mul_assoc]
 rw[this]
 generalize q*a1=P at *
 generalize q*a0=S at *
 omega
theorem T7 {u d a1 a0:Nat} (hu:u<a1*4294967296+a0) (hd:d<4294967296):(u*4294967296+d) /(a1*4294967296+a0)<4294967296:=by
 apply Nat.div_lt_of_lt_mul
 obtain ⟨Y,hY⟩:∃Y,Y=a1*4294967296+a0:=⟨_,rfl⟩
 rw[←hY] at hu ⊢
 omega
theorem Zk {q r u d a1 a0:Nat} (e:q*a1+r=u) (hu:u<a1*4294967296+a0) (h0:a0<4294967296) (hr:4294967296≤r) (h1:0<a1):q<4294967296∧q*a0≤4294967296*r+d:=by
 have hq:q<4294967296:=by
  apply Nat.lt_of_not_le
  intro hq
  have:4294967296*a1≤q*a1:=Nat.mul_le_mul_right _ hq
  rw[Nat.mul_comm] at this
  generalize q*a1=P at *
  omega
 refine ⟨hq,?_⟩
 have:q*a0≤4294967295*4294967295:=Nat.mul_le_mul o! o!
 omega
theorem Oh {call:aE} {h:ah} {ds:List cC} {rc:RC} {w0 w1 w2 w8 Zl N_ w14:AV} {u d a1 a0:Nat} (hu:u<a1*4294967296+a0) (h0:a0<4294967296) (h1:2147483648≤a1) (h1':a1<4294967296) (hd:d<4294967296):
 ∀(q r:Nat),q*a1+r=u→(u*4294967296+d) /(a1*4294967296+a0)≤q→r<4294967296→q<18446744073709551616→∀(x:Nat→AV),
  ∃y:Nat→AV,Ev env call (.loop lH) ⟨(w0::w1::w2::rx x 3 5 (w8::(ae a1)::(ae a0)::Zl::N_::(ae d)::w14::(ae q)::(ae r)::rx x 17 118 [])),h,ds,rc⟩ (.exit 0) ⟨(w0::w1::w2::rx y 3 5 (w8::(ae a1)::(ae a0)::Zl::N_::(ae d)::w14::(ae ((u*4294967296+d) /(a1*4294967296+a0)))::rx y 16 119 [])),h,ds,rc⟩:=by
 intro q
 induction q with
 | zero=>
  intro r e hQ hr hq x
  have hQ0:(u*4294967296+d) /(a1*4294967296+a0)=0:=Nat.le_zero.1 hQ
  rw[hQ0]
  exact cT (Ev.out (Ed (dF o!) (bW o!) (bW (a:=4294967296) o!) (b_ o!) (dF o!))) k!
 | succ q ih=>
  intro r e hQ hr hq x
  have e':q*a1+(r+a1)=u:=by rw[Nat.add_mul,Nat.one_mul] at e;omega
  have sub:∀t c d',aI env .sub t c d' (some (.int .u64 ((q+1:Nat):Int))) (some (.int .u64 1))=some (.int .u64 ((q:Nat):Int)):=fun t c d'=>dR (a:=q+1) (b:=1) o! hq
  have lt:=T7 hu hd
  have fin:4294967296≤r+a1→(u*4294967296+d) /(a1*4294967296+a0)≤q→(u*4294967296+d) /(a1*4294967296+a0)=q:=fun hb Ii=>by
   have:=T6 e' (Zk (d:=d) e' hu h0 hb o!).2 o!
   omega
  by_cases hc:4294967296≤q+1
  · have Ii:(u*4294967296+d) /(a1*4294967296+a0)≤q:=by omega
    by_cases hb:4294967296≤r+a1
    · rw[fin hb Ii]
      exact cT (Ev.out (N' (dT o!) (sub _ _ _) (b_ o!) (dT o!))) k!
    · exact bO (Oa (dT o!) (sub _ _ _) (b_ o!) (dF o!)) k! (ih (r+a1) e' Ii o! o!)
  · have hm:(q+1)*a0≤4294967295*4294967295:=Nat.mul_le_mul o! o!
    by_cases hg:4294967296*r+d<(q+1)*a0
    · have Ii:(u*4294967296+d) /(a1*4294967296+a0)≤q:=by have:=aer e hg;omega
      by_cases hb:4294967296≤r+a1
      · rw[fin hb Ii]
        exact cT (Ev.out (Ob (dF o!) (bW o!) (bW (a:=4294967296) o!) (b_ o!) (dT o!) (sub _ _ _) (b_ o!) (dT o!))) k!
      · exact bO (Oc (dF o!) (bW o!) (bW (a:=4294967296) o!) (b_ o!) (dT o!) (sub _ _ _) (b_ o!) (dF o!)) k! (ih (r+a1) e' Ii o! o!)
    · have Ii:=T6 e (Nat.not_lt.1 hg) (show 0<a1*4294967296+a0 by omega)
      rw[show (u*4294967296+d) /(a1*4294967296+a0)=q+1 by omega]
      exact cT (Ev.out (Ed (dF o!) (bW o!) (bW (a:=4294967296) o!) (b_ o!) (dF o!))) k!
theorem Oi {call:aE} {h:ah} {ds:List cC} {rc:RC} {w0 w1 w2 w8 Zl N_ w13 w15 w17:AV} {u d a1 a0:Nat} (hu:u<a1*4294967296+a0) (h0:a0<4294967296) (h1:2147483648≤a1) (h1':a1<4294967296) (hd:d<4294967296):
 ∀(q r:Nat),q*a1+r=u→(u*4294967296+d) /(a1*4294967296+a0)≤q→r<4294967296→q<18446744073709551616→∀(x:Nat→AV),
  ∃y:Nat→AV,Ev env call (.loop lI) ⟨(w0::w1::w2::rx x 3 5 (w8::(ae a1)::(ae a0)::Zl::N_::w13::(ae d)::w15::(ae r)::w17::(ae q)::rx x 19 116 [])),h,ds,rc⟩ (.exit 2) ⟨(w0::w1::w2::rx y 3 5 (w8::(ae a1)::(ae a0)::Zl::N_::w13::(ae d)::w15::(y 16)::w17::(ae ((u*4294967296+d) /(a1*4294967296+a0)))::rx y 19 116 [])),h,ds,rc⟩:=by
 intro q
 induction q with
 | zero=>
  intro r e hQ hr hq x
  have hQ0:(u*4294967296+d) /(a1*4294967296+a0)=0:=Nat.le_zero.1 hQ
  rw[hQ0]
  exact cT (Ev.out (Ee (dF o!) (bW o!) (bW (a:=4294967296) o!) (b_ o!) (dF o!))) k!
 | succ q ih=>
  intro r e hQ hr hq x
  have e':q*a1+(r+a1)=u:=by rw[Nat.add_mul,Nat.one_mul] at e;omega
  have sub:∀t c d',aI env .sub t c d' (some (.int .u64 ((q+1:Nat):Int))) (some (.int .u64 1))=some (.int .u64 ((q:Nat):Int)):=fun t c d'=>dR (a:=q+1) (b:=1) o! hq
  have lt:=T7 hu hd
  have fin:4294967296≤r+a1→(u*4294967296+d) /(a1*4294967296+a0)≤q→(u*4294967296+d) /(a1*4294967296+a0)=q:=fun hb Ii=>by
   have:=T6 e' (Zk (d:=d) e' hu h0 hb o!).2 o!
   omega
  by_cases hc:4294967296≤q+1
  · have Ii:(u*4294967296+d) /(a1*4294967296+a0)≤q:=by omega
    by_cases hb:4294967296≤r+a1
    · rw[fin hb Ii]
      exact cT (Ev.out (Od (dT o!) (sub _ _ _) (b_ o!) (dT o!))) k!
    · exact bO (Oe (dT o!) (sub _ _ _) (b_ o!) (dF o!)) k! (ih (r+a1) e' Ii o! o!)
  · have hm:(q+1)*a0≤4294967295*4294967295:=Nat.mul_le_mul o! o!
    by_cases hg:4294967296*r+d<(q+1)*a0
    · have Ii:(u*4294967296+d) /(a1*4294967296+a0)≤q:=by have:=aer e hg;omega
      by_cases hb:4294967296≤r+a1
      · rw[fin hb Ii]
        exact cT (Ev.out (Of (dF o!) (bW o!) (bW (a:=4294967296) o!) (b_ o!) (dT o!) (sub _ _ _) (b_ o!) (dT o!))) k!
      · exact bO (Og (dF o!) (bW o!) (bW (a:=4294967296) o!) (b_ o!) (dT o!) (sub _ _ _) (b_ o!) (dF o!)) k! (ih (r+a1) e' Ii o! o!)
    · have Ii:=T6 e (Nat.not_lt.1 hg) (show 0<a1*4294967296+a0 by omega)
      rw[show (u*4294967296+d) /(a1*4294967296+a0)=q+1 by omega]
      exact cT (Ev.out (Ee (dF o!) (bW o!) (bW (a:=4294967296) o!) (b_ o!) (dF o!))) k!
theorem Zm {call:aE} {h:ah} {hi lo y:Int} {u4 u6:Int} (q1:(decide (y=0))=false) (q2:(decide (y≤hi))=false) (q3:(decide (hi=0))=true) (c5:aI env .quo 54 false false (some (aa lo)) (some (aa y))=some (aa u4)) (c7:aI env .rem 54 false false (some (aa lo)) (some (aa y))=some (aa u6)):
 Ev env call qB ⟨((aa hi)::(aa lo)::(aa y)::aV 132),h,[],.no⟩ .ret ⟨((aa hi)::(aa lo)::(aa y)::aB::aB::aB::(aa u4)::(aa u6)::KR 11 ((aa y)::(aj (decide (y=0)))::aB::(aa y)::(aa hi)::(aj (decide (y≤hi)))::aB::(aa hi)::(aj (decide (hi=0)))::(aa lo)::(aa y)::(aa u4)::(aa lo)::(aa y)::(aa u6)::aV 101)),h,[],.no⟩:=
 aR (n:=200) (CN 3<|VV (bQ 54 false true .u64 y 0)<|BB q1<|CN 2<|VV (yV 54 false false .u64 y hi)<|BB q2<|CC<|VV (bQ 54 false true .u64 hi 0)<|BB q3<|CN 2<|VV c5<|CN 2<|VV c7<|CN 2<|ZZ) k!
theorem Zn {call:aE} {h:ah} {hi lo y:Int} {y4 u6 u8 BM Oj u14 u16 IF R6 u22 Zo u26 u28 u30 Qa u34 u36 u38 Zp u42 u44 u46 Qb u50 u52 u54 u56 u58 u60 u62:Int} {z32 z48:Nat→AV} (aw:Tidy h) (ES:0≤h.nx) (q1:(decide (y=0))=false) (q2:(decide (y≤hi))=false) (q3:(decide (hi=0))=false) (k5:∀hh,Tidy hh→Has h hh→(h.nx≤hh.nx∧0≤hh.nx)→call (.fn 86) [(aa y)] hh= .ret (af y4) hh) (c7:aI env .shl 54 false false (some (aa y)) (some (aa (IntKind.u64.wrap y4)))=some (aa u6)) (c9:aI env .shr 54 false true (some (aa u6)) (some (aa 32))=some (aa u8)) (IE:aI env .and 54 false true (some (aa u6)) (some (aa 4294967295))=some (aa BM)) (c13:aI env .shl 54 false false (some (aa hi)) (some (aa (IntKind.u64.wrap y4)))=some (aa Oj)) (c15:aI env .sub 194 true false (some (aa 64)) (some (aa (IntKind.u64.wrap y4)))=some (aa u14)) (RL:aI env .shr 54 false false (some (aa lo)) (some (aa u14))=some (aa u16)) (c19:aI env .or 54 false false (some (aa Oj)) (some (aa u16))=some (aa IF)) (c21:aI env .shl 54 false false (some (aa lo)) (some (aa (IntKind.u64.wrap y4)))=some (aa R6)) (c23:aI env .shr 54 false true (some (aa R6)) (some (aa 32))=some (aa u22)) (c25:aI env .and 54 false true (some (aa R6)) (some (aa 4294967295))=some (aa Zo)) (c27:aI env .quo 54 false false (some (aa IF)) (some (aa u8))=some (aa u26)) (c29:aI env .mul 54 false false (some (aa u26)) (some (aa u8))=some (aa u28)) (c31:aI env .sub 54 false false (some (aa IF)) (some (aa u28))=some (aa u30)) (e33:Ev env call (.loop lH) ⟨((aa hi)::(aa lo)::(aa u6)::aB::aB::aB::(aa 0)::(aa 0)::(aa (IntKind.u64.wrap y4))::(aa u8)::(aa BM)::(aa IF)::(aa R6)::(aa u22)::(aa Zo)::(aa u26)::(aa u30)::aB::aB::(aa y)::(aj (decide (y=0)))::aB::(aa y)::(aa hi)::(aj (decide (y≤hi)))::aB::(aa hi)::(aj (decide (hi=0)))::KR 6 ((aa y)::(af y4)::(aa (IntKind.u64.wrap y4))::(aa y)::(aa (IntKind.u64.wrap y4))::(aa u6)::(aa u6)::(aa u8)::(aa u6)::(aa BM)::(aa hi)::(aa (IntKind.u64.wrap y4))::(aa Oj)::(aa lo)::(aa (IntKind.u64.wrap y4))::(aa u14)::(aa u16)::(aa IF)::(aa lo)::(aa (IntKind.u64.wrap y4))::(aa R6)::(aa R6)::(aa u22)::(aa R6)::(aa Zo)::(aa IF)::(aa u8)::(aa u26)::(aa IF)::(aa u26)::(aa u8)::(aa u28)::(aa u30)::aV 68)),h,[],.no⟩ (.exit 0) ⟨((aa hi)::(aa lo)::(aa u6)::rx z32 3 5 ((aa (IntKind.u64.wrap y4))::(aa u8)::(aa BM)::(aa IF)::(aa R6)::(aa u22)::(aa Zo)::(aa Qa)::rx z32 16 119 [])),h,[],.no⟩) (c35:aI env .mul 54 false true (some (aa IF)) (some (aa 4294967296))=some (aa u34)) (c37:aI env .add 54 false false (some (aa u34)) (some (aa u22))=some (aa u36)) (c39:aI env .mul 54 false false (some (aa Qa)) (some (aa u6))=some (aa u38)) (c41:aI env .sub 54 false false (some (aa u36)) (some (aa u38))=some (aa Zp)) (c43:aI env .quo 54 false false (some (aa Zp)) (some (aa u8))=some (aa u42)) (c45:aI env .mul 54 false false (some (aa u42)) (some (aa u8))=some (aa u44)) (c47:aI env .sub 54 false false (some (aa Zp)) (some (aa u44))=some (aa u46)) (e49:Ev env call (.loop lI) ⟨((aa hi)::(aa lo)::(aa u6)::rx z32 3 5 ((aa (IntKind.u64.wrap y4))::(aa u8)::(aa BM)::(aa IF)::(aa R6)::(aa u22)::(aa Zo)::(aa Qa)::(aa u46)::(aa Zp)::(aa u42)::rx z32 19 67 ((aa IF)::(aa u34)::(aa u22)::(aa u36)::(aa Qa)::(aa u6)::(aa u38)::(aa Zp)::(aa Zp)::(aa u8)::(aa u42)::(aa Zp)::(aa u42)::(aa u8)::(aa u44)::(aa u46)::rx z32 102 33 []))),h,[],.no⟩ (.exit 2) ⟨((aa hi)::(aa lo)::(aa u6)::rx z48 3 5 ((aa (IntKind.u64.wrap y4))::(aa u8)::(aa BM)::(aa IF)::(aa R6)::(aa u22)::(aa Zo)::(aa Qa)::(z48 16)::(aa Zp)::(aa Qb)::rx z48 19 116 [])),h,[],.no⟩) (c51:aI env .mul 54 false true (some (aa Qa)) (some (aa 4294967296))=some (aa u50)) (c53:aI env .add 54 false false (some (aa u50)) (some (aa Qb))=some (aa u52)) (c55:aI env .mul 54 false true (some (aa Zp)) (some (aa 4294967296))=some (aa u54)) (c57:aI env .add 54 false false (some (aa u54)) (some (aa Zo))=some (aa u56)) (c59:aI env .mul 54 false false (some (aa Qb)) (some (aa u6))=some (aa u58)) (c61:aI env .sub 54 false false (some (aa u56)) (some (aa u58))=some (aa u60)) (c63:aI env .shr 54 false false (some (aa u60)) (some (aa (IntKind.u64.wrap y4)))=some (aa u62)):
 Ev env call qB ⟨((aa hi)::(aa lo)::(aa y)::aV 132),h,[],.no⟩ .ret ⟨((aa hi)::(aa lo)::(aa u6)::(z48 3)::(z48 4)::(z48 5)::(aa u52)::(aa u62)::(aa (IntKind.u64.wrap y4))::(aa u8)::(aa BM)::(aa IF)::(aa R6)::(aa u22)::(aa Zo)::(aa Qa)::(z48 16)::(aa Zp)::(aa Qb)::rx z48 19 102 ((aa Qa)::(aa u50)::(aa Qb)::(aa u52)::(aa Zp)::(aa u54)::(aa Zo)::(aa u56)::(aa Qb)::(aa u6)::(aa u58)::(aa u60)::(aa (IntKind.u64.wrap y4))::(aa u62)::[])),h,[],.no⟩:=
 aR (n:=200) (CN 3<|VV (bQ 54 false true .u64 y 0)<|BB q1<|CN 2<|VV (yV 54 false false .u64 y hi)<|BB q2<|CC<|VV (bQ 54 false true .u64 hi 0)<|BB q3<|CC<|EE (show call (.fn 86) [(aa y)] h= .ret (af y4) h from k5 _ aw (Has.refl _) ⟨by omega,by omega⟩)<|CN 4<|VV c7<|CN 2<|VV c9<|CN 2<|VV IE<|CN 3<|VV c13<|CN 2<|VV c15<|VV RL<|VV c19<|CN 3<|VV c21<|CN 2<|VV c23<|CN 2<|VV c25<|CN 3<|VV c27<|CN 4<|VV c29<|VV c31<|CC<|LL e33<|CC<|VV c35<|CC<|VV c37<|CN 2<|VV c39<|VV c41<|CN 3<|VV c43<|CN 4<|VV c45<|VV c47<|CC<|LL e49<|CC<|VV c51<|CC<|VV c53<|CC<|VV c55<|CC<|VV c57<|CN 2<|VV c59<|VV c61<|CC<|VV c63<|CN 2<|ZZ) k!
theorem VS {N y s Qt R0:Nat} (h:N*2^s=Qt*(y*2^s)+R0) (hR:R0<y*2^s):Qt=N/y∧R0/2^s=N%y:=by
 have hp:0<2^s:=Nat.pow_pos (by decide)
 have e1:N*2^s/(y*2^s)=N/y:=Nat.mul_div_mul_right _ _ hp
 have e2:N*2^s%(y*2^s)=(N%y)*2^s:=Nat.mul_mod_mul_right _ _ _
 have hy:0<y*2^s:=Nat.lt_of_le_of_lt (Nat.zero_le _) hR
 rw[h,Nat.mul_comm Qt,Nat.mul_add_div hy,Nat.div_eq_of_lt hR,Nat.add_zero] at e1
 rw[h,Nat.mul_comm Qt,Nat.mul_add_mod,Nat.mod_eq_of_lt hR] at e2
 refine ⟨e1,?_⟩
 rw[e2,Nat.mul_div_cancel _ hp]
theorem digit {u d Y a1 a0:Nat} (hY:Y=a1*4294967296+a0) (hu:u<Y) (hd:d<4294967296) (h1:0<a1):
 (u*4294967296+d) /Y≤u/a1∧(u*4294967296+d) /Y*Y≤u*4294967296+d∧u*4294967296+d -(u*4294967296+d) /Y*Y=(u*4294967296+d)%Y∧(u*4294967296+d)%Y<Y:=by
 have hp:0<Y:=Nat.lt_of_le_of_lt (Nat.zero_le _) hu
 have h2:(u*4294967296+d) /Y*Y≤u*4294967296+d:=Nat.div_mul_le_self _ _
 have h3:=Nat.div_add_mod (u*4294967296+d) Y
 refine ⟨?_,h2,?_,Nat.mod_lt _ hp⟩
 · rw[Nat.le_div_iff_mul_le h1]
   generalize (u*4294967296+d) /Y=Q at *
   have e:Q*Y=(Q*a1)*4294967296+Q*a0:=by rw[hY,Nat.mul_add,Nat.mul_assoc]
   rw[e] at h2
   generalize Q*a1=P at *
   generalize Q*a0=S at *
   omega
 · rw[Nat.mul_comm] at h3
   generalize (u*4294967296+d) /Y*Y=P at *
   omega
theorem T8 {A P:Nat} (h:P≤A) (hd:A - P<18446744073709551616):(A%18446744073709551616+18446744073709551616 - P%18446744073709551616)%18446744073709551616=A - P:=by omega
theorem Zq {u d1 d0 t Y Q1 Q0 v w:Nat} (ht:t=d1*4294967296+d0) (l1:Q1*Y≤u*4294967296+d1) (e1:u*4294967296+d1 - Q1*Y=v) (l2:Q0*Y≤v*4294967296+d0) (e2:v*4294967296+d0 - Q0*Y=w):u*18446744073709551616+t=(Q1*4294967296+Q0)*Y+w:=by
 rw[Nat.add_mul,Nat.mul_right_comm]
 generalize Q1*Y=P1 at *
 generalize Q0*Y=P0 at *
 omega
theorem R8 {d:Nat} {h:ah} (hi lo y:Nat) (h1:hi<y) (h2:lo<18446744073709551616) (h3:y<18446744073709551616) (hyy:Tidy h) (po:0≤h.nx):
 mz env (aQ (d+2)) 127 [.int .u64 (hi:Int),.int .u64 (lo:Int),.int .u64 (y:Int)] h (.tuple [.int .u64 (((hi*18446744073709551616+lo) /y:Nat):Int),.int .u64 (((hi*18446744073709551616+lo)%y:Nat):Int)]) h:=by
 by_cases h0:hi=0
 · subst h0
   rw[Nat.zero_mul,Nat.zero_add]
   exact az Tryz.func127 T5 k! (.inr rfl) (Zm (hi:=((0:Nat):Int)) (lo:=(lo:Nat)) (y:=(y:Nat)) (dF o!) (dF o!) (dT rfl) (rZ o! h2) (wI o!)) k!
 · obtain ⟨L,_,hL,am9⟩:=dU (d:=d) (h:=h) y h3 hyy o!
   have kz:∀hh,Tidy hh→0≤hh.nx→aQ (d+2) (.fn 86) [.int .u64 (y:Int)] hh= .ret (.int .i64 ((64 - L:Nat):Int)) hh:=by
    intro hh t1 t2
    obtain ⟨M,g1,g2,g3⟩:=dU (d:=d) (h:=hh) y h3 t1 o!
    have:M=L:=rL.unique g2 hL
    rw[this] at g1;exact g1
   obtain ⟨s,hs⟩:∃s,s=64 - L:=⟨_,rfl⟩
   rw[←hs] at kz
   have ana:s≤63:=by
    rcases hL with ⟨a,_⟩ | ⟨a,_,_⟩<;>omega
   have es:IntKind.u64.wrap (s:Int)=(s:Int):=qn _ o! o!
   have p64:(18446744073709551616:Nat)=2^(64 - s)*2^s:=by rw[←Nat.pow_add,Nat.sub_add_cancel o!]
   have hps:0<2^s:=Nat.pow_pos (by decide)
   obtain ⟨Y,hY⟩:∃Y,Y=y*2^s:=⟨_,rfl⟩
   have hYb:9223372036854775808≤Y∧Y<18446744073709551616:=by
    rcases hL with ⟨a,_⟩ | ⟨a,b,c⟩
    · omega
    · constructor
      · have:=Nat.mul_le_mul_right (2^s) b
        rw[←Nat.pow_add,show L - 1+s=63 by omega,←hY] at this
        exact this
      · rw[hY,p64,show 64 - s=L by omega]
        exact Nat.mul_lt_mul_of_pos_right c hps
   have E8:(hi+1)*2^s≤Y:=by rw[hY];exact Nat.mul_le_mul_right _ h1
   rw[Nat.add_mul,Nat.one_mul] at E8
   have DM:lo/2^(64 - s)<2^s:=by
    rw[Nat.div_lt_iff_lt_mul (Nat.pow_pos (by decide)),Nat.mul_comm,←p64];exact h2
   have elo:lo*2^s/18446744073709551616=lo/2^(64 - s):=by
    rw[p64,Nat.mul_div_mul_right _ _ hps]
   obtain ⟨u,hu⟩:∃u,u=hi*2^s+lo/2^(64 - s):=⟨_,rfl⟩
   obtain ⟨t,ht⟩:∃t,t=lo*2^s%18446744073709551616:=⟨_,rfl⟩
   have huY:u<Y:=by omega
   have eU:(hi*18446744073709551616+lo)*2^s=u*18446744073709551616+t:=by
    have:=Nat.div_add_mod (lo*2^s) 18446744073709551616
    rw[elo,←ht] at this
    rw[Nat.add_mul,hu,Nat.add_mul,Nat.mul_right_comm]
    omega
   have htM:t<18446744073709551616:=by rw[ht];exact Nat.mod_lt _ (by decide)
   obtain ⟨a1,ha1⟩:∃a1,a1=Y/2^32:=⟨_,rfl⟩
   obtain ⟨a0,ha0⟩:∃a0,a0=Y%2^32:=⟨_,rfl⟩
   obtain ⟨d1,hd1⟩:∃d1,d1=t/2^32:=⟨_,rfl⟩
   obtain ⟨d0,hd0⟩:∃d0,d0=t%2^32:=⟨_,rfl⟩
   have eY:Y=a1*4294967296+a0:=by omega
   have ht2:t=d1*4294967296+d0:=by omega
   have b1:2147483648≤a1∧a1<4294967296:=by omega
   have b0:a0<4294967296:=by omega
   have bd1:d1<4294967296:=by omega
   have bd0:d0<4294967296:=by omega
   have start:∀u,u<Y→u/a1*a1+(u - u/a1*a1)=u∧u - u/a1*a1<4294967296∧u/a1*a1≤u∧u/a1≤u:=by
    intro u hu
    have h1:=Nat.div_mul_le_self u a1
    have h2:=Nat.mod_lt u (show 0<a1 by omega)
    have h3:=Nat.div_add_mod u a1
    have h4:=Nat.div_le_self u a1
    rw[Nat.mul_comm] at h3
    generalize u/a1*a1=P at *
    omega
   have c7:=gO (E:=env) 54 false false y s .u64 o!
   rw[←hY,Nat.mod_eq_of_lt hYb.2,←es] at c7
   have c9:=cZ (E:=env) 54 false true Y 32 .u64 (by decide)
   rw[←ha1] at c9
   have IE:=wG (E:=env) 54 false true Y 32 hYb.2 (by decide)
   rw[←ha0] at IE
   have c13:=gO (E:=env) 54 false false hi s .u64 o!
   rw[←es] at c13
   have c15:aI env .sub 194 true false (some (.int .u64 64)) (some (.int .u64 (IntKind.u64.wrap (s:Int))))=some (.int .u64 ((64 - s:Nat):Int)):=by
    rw[es];exact dR (a:=64) (b:=s) o! (by decide)
   have RL:=cZ (E:=env) 54 false false lo (64 - s) .u64 o!
   have c19:=lk (E:=env) 54 false false (hi*2^s%18446744073709551616) (lo/2^(64 - s)) (Nat.mod_lt _ (by decide)) o!
   rw[TD o! DM,Nat.mod_eq_of_lt (show hi*2^s<18446744073709551616 by omega),←hu] at c19
   rw[Nat.mod_eq_of_lt (show hi*2^s<18446744073709551616 by omega)] at c13
   have c21:=gO (E:=env) 54 false false lo s .u64 o!
   rw[←ht,←es] at c21
   have c23:=cZ (E:=env) 54 false true t 32 .u64 (by decide)
   rw[←hd1] at c23
   have c25:=wG (E:=env) 54 false true t 32 htM (by decide)
   rw[←hd0] at c25
   obtain ⟨s1,s2,s3,s4⟩:=start u huY
   obtain ⟨g1,g2,g3,g4⟩:=digit (d:=d1) eY huY bd1 o!
   obtain ⟨y1,e1⟩:=Gj (L:=((ae hi)::(ae lo)::(ae Y)::aB::aB::aB::(aa 0)::(aa 0)::(aa (IntKind.u64.wrap ((s:Nat):Int)))::(ae a1)::(ae a0)::(ae u)::(ae t)::(ae d1)::(ae d0)::(ae (u/a1))::(ae (u - u/a1*a1))::aB::aB::(ae y)::(aj (decide (((y:Nat):Int)=0)))::aB::(ae y)::(ae hi)::(aj (decide (((y:Nat):Int)≤((hi:Nat):Int))))::aB::(ae hi)::(aj (decide (((hi:Nat):Int)=0)))::KR 6 ((ae y)::(ag s)::(aa (IntKind.u64.wrap ((s:Nat):Int)))::(ae y)::(aa (IntKind.u64.wrap ((s:Nat):Int)))::(ae Y)::(ae Y)::(ae a1)::(ae Y)::(ae a0)::(ae hi)::(aa (IntKind.u64.wrap ((s:Nat):Int)))::(ae (hi*2^s))::(ae lo)::(aa (IntKind.u64.wrap ((s:Nat):Int)))::(ae (64 - s))::(ae (lo/2^(64 - s)))::(ae u)::(ae lo)::(aa (IntKind.u64.wrap ((s:Nat):Int)))::(ae t)::(ae t)::(ae d1)::(ae t)::(ae d0)::(ae u)::(ae a1)::(ae (u/a1))::(ae u)::(ae (u/a1))::(ae a1)::(ae (u/a1*a1))::(ae (u - u/a1*a1))::aV 68))) (h:=h) (ds:=[]) (rc:= .no) (P:=fun S=>∃yy:Nat→AV,Ev env (aQ (d+2)) (.loop lH) S (.exit 0) ⟨((ae hi)::(ae lo)::(ae Y)::rx yy 3 5 ((aa (IntKind.u64.wrap ((s:Nat):Int)))::(ae a1)::(ae a0)::(ae u)::(ae t)::(ae d1)::(ae d0)::(ae ((u*4294967296+d1) /(a1*4294967296+a0)))::rx yy 16 119 [])),h,[],.no⟩) (fun x=>Oh o! b0 b1.1 b1.2 bd1 (u/a1) (u - u/a1*a1) s1 (by rw[←eY];exact g1) s2 o! x) k!
   rw[←eY] at e1
   obtain ⟨Q1,hQ1⟩:∃Q1,Q1=(u*4294967296+d1) /Y:=⟨_,rfl⟩
   obtain ⟨v,hv⟩:∃v,v=(u*4294967296+d1)%Y:=⟨_,rfl⟩
   rw[←hQ1] at e1 g2 g3
   rw[←hv] at g3 g4
   have anb:Q1<4294967296:=by rw[hQ1,eY];exact T7 o! bd1
   have c41:=D5 (E:=env) (t:=54) (c:=false) (d:=false) (a:=(u*4294967296%18446744073709551616+d1)%18446744073709551616) (b:=Q1*Y%18446744073709551616) (Nat.le_of_lt (Nat.mod_lt _ (by decide)))
   have vQ:((u*4294967296%18446744073709551616+d1)%18446744073709551616+18446744073709551616 - Q1*Y%18446744073709551616)%18446744073709551616=v:=by
    rw[Nat.mod_add_mod,T8 g2 o!,g3]
   rw[vQ] at c41
   obtain ⟨s1',s2',s3',s4'⟩:=start v g4
   obtain ⟨g1',g2',g3',g4'⟩:=digit (d:=d0) eY g4 bd0 o!
   obtain ⟨y2,e2⟩:=Gj (L:=((ae hi)::(ae lo)::(ae Y)::rx y1 3 5 ((aa (IntKind.u64.wrap ((s:Nat):Int)))::(ae a1)::(ae a0)::(ae u)::(ae t)::(ae d1)::(ae d0)::(ae Q1)::(ae (v - v/a1*a1))::(ae v)::(ae (v/a1))::rx y1 19 67 ((ae u)::(ae (u*4294967296%18446744073709551616))::(ae d1)::(ae ((u*4294967296%18446744073709551616+d1)%18446744073709551616))::(ae Q1)::(ae Y)::(ae (Q1*Y%18446744073709551616))::(ae v)::(ae v)::(ae a1)::(ae (v/a1))::(ae v)::(ae (v/a1))::(ae a1)::(ae (v/a1*a1))::(ae (v - v/a1*a1))::rx y1 102 33 [])))) (h:=h) (ds:=[]) (rc:= .no) (P:=fun S=>∃yy:Nat→AV,Ev env (aQ (d+2)) (.loop lI) S (.exit 2) ⟨((ae hi)::(ae lo)::(ae Y)::rx yy 3 5 ((aa (IntKind.u64.wrap ((s:Nat):Int)))::(ae a1)::(ae a0)::(ae u)::(ae t)::(ae d1)::(ae d0)::(ae Q1)::(yy 16)::(ae v)::(ae ((v*4294967296+d0) /(a1*4294967296+a0)))::rx yy 19 116 [])),h,[],.no⟩) (fun x=>Oi o! b0 b1.1 b1.2 bd0 (v/a1) (v - v/a1*a1) s1' (by rw[←eY];exact g1') s2' o! x) k!
   rw[←eY] at e2
   obtain ⟨Q0,hQ0⟩:∃Q0,Q0=(v*4294967296+d0) /Y:=⟨_,rfl⟩
   obtain ⟨w,hw⟩:∃w,w=(v*4294967296+d0)%Y:=⟨_,rfl⟩
   rw[←hQ0] at e2 g2' g3'
   rw[←hw] at g3' g4'
   have anc:Q0<4294967296:=by rw[hQ0,eY];exact T7 o! bd0
   have c61:=D5 (E:=env) (t:=54) (c:=false) (d:=false) (a:=(v*4294967296%18446744073709551616+d0)%18446744073709551616) (b:=Q0*Y%18446744073709551616) (Nat.le_of_lt (Nat.mod_lt _ (by decide)))
   have ev2:((v*4294967296%18446744073709551616+d0)%18446744073709551616+18446744073709551616 - Q0*Y%18446744073709551616)%18446744073709551616=w:=by
    rw[Nat.mod_add_mod,T8 g2' o!,g3']
   rw[ev2] at c61
   have c63:=cZ (E:=env) 54 false false w s .u64 o!
   rw[←es] at c63
   obtain ⟨f1,f2⟩:=VS (N:=hi*18446744073709551616+lo) (y:=y) (s:=s) (Qt:=Q1*4294967296+Q0) (R0:=w) (by rw[eU,←hY];exact Zq ht2 g2 g3 g2' g3') (by rw[←hY];exact g4')
   have af7:v<18446744073709551616:=Nat.lt_trans g4 hYb.2
   have r7:u<18446744073709551616:=Nat.lt_trans huY hYb.2
   have aib:a1≠0:=by omega
   have r0:aI env .quo 54 false false (some (.int .u64 (u:Int))) (some (.int .u64 (a1:Int)))=some (.int .u64 ((u/a1:Nat):Int)):=rZ aib r7
   have r1:aI env .mul 54 false false (some (.int .u64 ((u/a1:Nat):Int))) (some (.int .u64 (a1:Int)))=some (.int .u64 ((u/a1*a1:Nat):Int)):=bW (Nat.lt_of_le_of_lt s3 r7)
   have r2:aI env .quo 54 false false (some (.int .u64 (v:Int))) (some (.int .u64 (a1:Int)))=some (.int .u64 ((v/a1:Nat):Int)):=rZ aib af7
   have r3:aI env .mul 54 false false (some (.int .u64 ((v/a1:Nat):Int))) (some (.int .u64 (a1:Int)))=some (.int .u64 ((v/a1*a1:Nat):Int)):=bW (Nat.lt_of_le_of_lt s3' af7)
   have r4:v<18446744073709551616:=af7
   have r5:aI env .mul 54 false true (some (.int .u64 (Q1:Int))) (some (.int .u64 4294967296))=some (.int .u64 ((Q1*4294967296:Nat):Int)):=bW (b:=4294967296) o!
   have r6:aI env .add 54 false false (some (.int .u64 ((Q1*4294967296:Nat):Int))) (some (.int .u64 (Q0:Int)))=some (.int .u64 ((Q1*4294967296+Q0:Nat):Int)):=b_ o!
   have q1:¬(y:Int)=0:=fun e=>by have e:=Int.ofNat.inj e;subst e;exact absurd h1 (Nat.not_lt_zero _)
   have q2:¬(y:Int)≤(hi:Int):=fun e=>absurd (Int.ofNat_le.1 e) (Nat.not_le.2 h1)
   have q3:¬(hi:Int)=0:=fun e=>h0 (Int.ofNat.inj e)
   have q4:0≤h.nx:=Nat.zero_le _
   rw[←f1,←f2]
   exact az Tryz.func127 T5 k! (.inr rfl) (Zn (call:=aQ (d+2)) (h:=h) (hi:=(hi:Nat)) (lo:=(lo:Nat)) (y:=(y:Nat)) hyy q4 (dF q1) (dF q2) (dF q3) (fun hh t1 _ t2=>kz hh t1 t2.2) c7 c9 IE c13 c15 RL c19 c21 c23 c25 r0 r1 (dR s3 r7) e1
    (rY (a:=u) (b:=4294967296)) (wH (a:=u*4294967296%18446744073709551616) (b:=d1)) (rY (a:=Q1) (b:=Y)) c41 r2 r3 (dR s3' r4) e2 r5 r6 (rY (a:=v) (b:=4294967296)) (wH (a:=v*4294967296%18446744073709551616) (b:=d0)) (rY (a:=Q0) (b:=Y)) c61 c63) k!
theorem T9 {d:Nat} {h:ah} (hi lo y:Nat) (h1:hi<y) (h2:lo<18446744073709551616) (h3:y<18446744073709551616) (hyy:Tidy h) (po:0≤h.nx):
 aQ (d+3) (.fn 127) [.int .u64 (hi:Int),.int .u64 (lo:Int),.int .u64 (y:Int)] h= .ret (.tuple [.int .u64 (((hi*18446744073709551616+lo) /y:Nat):Int),.int .u64 (((hi*18446744073709551616+lo)%y:Nat):Int)]) h:=
 ai rfl (R8 hi lo y h1 h2 h3 hyy po) (Has.refl h) rfl
noncomputable def mG:Code:=(Tryz.f165.body).getD .skip
theorem Ef:Tryz.f165.body=some mG:=by kernel_rfl
noncomputable def ft:Code:=(aY mG).getD 0 .skip
theorem BN {α:Type} {tin:(Nat→AV)→List AV} {tout:α→(Nat→AV)→List AV} {b:Code} {s:St} {h:ah} {ds:List cC} {rc:RC} {L:List AV} {e:oA} {Q:α→Prop} {call:aE} (ev:Ev env call b s .normal ⟨L,h,ds,rc⟩) (hl:L=tin fun k=>L.getD k aB)
 (ih:∀x,∃a,(∃y,Ev env call (.loop b) ⟨tin x,h,ds,rc⟩ e ⟨tout a y,h,ds,rc⟩)∧Q a):∃a,(∃y,Ev env call (.loop b) s e ⟨tout a y,h,ds,rc⟩)∧Q a:=by
 obtain ⟨a,⟨y,h1⟩,h2⟩:=ih fun k=>L.getD k aB
 exact ⟨a,⟨y,tg ev hl h1⟩,h2⟩
theorem pred_mul {g d:Nat} (h:1≤g):g*d=(g - 1)*d+d:=by
 obtain ⟨m,rfl⟩:∃m,g=m+1:=⟨g - 1,by omega⟩
 rw[Nat.add_sub_cancel,Nat.succ_mul]
def Ju (N x0 d1 d0 G:Nat):Prop:=∃R,G*d1+R=N∧G*d0≤R*18446744073709551616+x0∧N*18446744073709551616+x0<(G+1)*d1*18446744073709551616+(G+1)*d0
theorem R9 {N x0 d1 d0 rest:Nat} (hN:0*d1+rest=N) (hM:N*18446744073709551616+x0<(0+1)*d1*18446744073709551616+(0+1)*d0):Ju N x0 d1 d0 0:=
 ⟨rest,hN,by rw[Nat.zero_mul];exact Nat.zero_le _,hM⟩
theorem VT {N x0 d1 d0 g rest hi lo:Nat} (hp:hi*18446744073709551616+lo=g*d0) (E8:hi<18446744073709551616) (DM:lo<18446744073709551616) (hN:g*d1+rest=N) (h1:1≤g) (hc:¬g*d0≤rest*18446744073709551616+x0) (hb:18446744073709551616≤rest+d1):Ju N x0 d1 d0 (g - 1):=by
 have e0:=pred_mul (d:=d0) h1
 have e1:=pred_mul (d:=d1) h1
 refine ⟨rest+d1,by omega,by omega,?_⟩
 rw[Nat.sub_add_cancel h1]
 omega
theorem VU {N x0 d1 d0 g rest:Nat} (hN:g*d1+rest=N) (h1:1≤g) (hc:¬g*d0≤rest*18446744073709551616+x0):(g - 1)*d1+(rest+d1)=N∧N*18446744073709551616+x0<(g - 1+1)*d1*18446744073709551616+(g - 1+1)*d0∧g*d0=(g - 1)*d0+d0:=by
 have e0:=pred_mul (d:=d0) h1
 have e1:=pred_mul (d:=d1) h1
 refine ⟨by omega,?_,e0⟩
 rw[Nat.sub_add_cancel h1]
 omega
theorem VW {g d0 c:Nat} (hc:¬g*d0≤c):1≤g:=by
 rcases Nat.eq_zero_or_pos g with rfl | h
 · rw[Nat.zero_mul] at hc;omega
 · exact h
theorem R_ {hi lo d0 P:Nat} (hp:hi*18446744073709551616+lo=P+d0) (DM:lo<18446744073709551616) (hd0:d0<18446744073709551616):(if lo<d0+0 then 1 else 0)≤hi∧(hi -(if lo<d0+0 then 1 else 0))*18446744073709551616+(lo+18446744073709551616 - d0 - 0)%18446744073709551616=P:=by
 split<;>omega
theorem GJ {d:Nat} {h:ah} {ds:List cC} {rc:RC} {x2 x0 d1 d0 N:Nat} (hx0:x0<18446744073709551616) (hd1:0<d1) (af9:d1<18446744073709551616) (hd0:d0<18446744073709551616):
 ∀(k g rest hi lo:Nat),g≤k→g<18446744073709551616→rest<18446744073709551616→hi<18446744073709551616→lo<18446744073709551616→hi*18446744073709551616+lo=g*d0→g*d1+rest=N→N*18446744073709551616+x0<(g+1)*d1*18446744073709551616+(g+1)*d0→∀x:Nat→AV,
  ∃G,(∃y:Nat→AV,Ev env (aQ d) (.loop ft) ⟨((ae x2)::(x 1)::(ae x0)::(ae d1)::(ae d0)::rx x 5 6 ((ae g)::(ae rest)::(ae hi)::(ae lo)::rx x 15 50 [])),h,ds,rc⟩ (.exit 0) ⟨(rx y 0 11 ((ae G)::rx y 12 53 [])),h,ds,rc⟩)∧(Ju N x0 d1 d0 G∧G<18446744073709551616):=by
 intro k
 induction k with
 | zero=>
  intro g rest hi lo hk hg hr E8 DM hp hN hM x
  obtain rfl:g=0:=by omega
  rw[Nat.zero_mul] at hp
  have h0:hi=0:=by omega
  have h1:lo=0:=by omega
  have gz:=R9 hN hM
  clear hM hp
  subst h0 h1
  by_cases q:(0:Nat)=rest
  · have q1:=cI ((rest:Int)<((0:Nat):Int))
    have q2:=dg (((0:Nat):Int)=(rest:Int))
    have q3:=cI ((x0:Int)<((0:Nat):Int))
    have ev:=vG (d) ft ((ae x2)::(x 1)::(ae x0)::(ae d1)::(ae d0)::rx x 5 6 ((ae 0)::(ae rest)::(ae 0)::(ae 0)::rx x 15 50 [])) h ds rc (.exit 0) h (CN 2<|VV (bM 54 false false .u64 ((0:Nat):Int) (rest:Int))<|CC<|BB q1<|CC<|BB q1<|CC<|BB q1<|VV (bQ 54 false false .u64 ((0:Nat):Int) (rest:Int))<|BB q1<|CC<|BB q2<|CC<|BB q2<|CC<|BB q2<|VV (bM 54 false false .u64 ((0:Nat):Int) (x0:Int))<|BB q1<|VV (aG (a:=some (aj (decide ((x0:Int)<((0:Nat):Int))))) (b:=some (aj false)) q2)<|VV (aL (a:=some (aj true)) (b:=some (aj (decide ((x0:Int)<((0:Nat):Int))))) q1)<|BB q3<|ZZ) k!
    exact ⟨0,cT (Ev.out ev) k!,gz,hg⟩
  · have q1:=cI ((rest:Int)<((0:Nat):Int))
    have q2:=cI (((0:Nat):Int)=(rest:Int))
    have ev:=vG (d) ft ((ae x2)::(x 1)::(ae x0)::(ae d1)::(ae d0)::rx x 5 6 ((ae 0)::(ae rest)::(ae 0)::(ae 0)::rx x 15 50 [])) h ds rc (.exit 0) h (CN 2<|VV (bM 54 false false .u64 ((0:Nat):Int) (rest:Int))<|CC<|BB q1<|CC<|BB q1<|CC<|BB q1<|VV (bQ 54 false false .u64 ((0:Nat):Int) (rest:Int))<|BB q1<|CC<|BB q2<|BB q2<|BB q2<|BB q1<|VV (aL (a:=some aB) (b:=some (aj false)) q2)<|VV (aL (a:=some (aj true)) (b:=some (aj false)) q1)<|FF<|ZZ) k!
    exact ⟨0,cT (Ev.out ev) k!,gz,hg⟩
 | succ k ih=>
  intro g rest hi lo hk hg hr E8 DM hp hN hM x
  by_cases hc:g*d0≤rest*18446744073709551616+x0
  · have gd:Ju N x0 d1 d0 g:=⟨rest,hN,hc,hM⟩
    have q0:¬rest<hi:=by omega
    by_cases q5':hi=rest
    · have q6:¬x0<lo:=by omega
      clear hM hN hp hc
      have q1:=cI ((rest:Int)<(hi:Int))
      have q2:=dg ((hi:Int)=(rest:Int))
      have q3:=cI ((x0:Int)<(lo:Int))
      have ev:=vG (d) ft ((ae x2)::(x 1)::(ae x0)::(ae d1)::(ae d0)::rx x 5 6 ((ae g)::(ae rest)::(ae hi)::(ae lo)::rx x 15 50 [])) h ds rc (.exit 0) h (CN 2<|VV (bM 54 false false .u64 (hi:Int) (rest:Int))<|CC<|BB q1<|CC<|BB q1<|CC<|BB q1<|VV (bQ 54 false false .u64 (hi:Int) (rest:Int))<|BB q1<|CC<|BB q2<|CC<|BB q2<|CC<|BB q2<|VV (bM 54 false false .u64 (lo:Int) (x0:Int))<|BB q1<|VV (aG (a:=some (aj (decide ((x0:Int)<(lo:Int))))) (b:=some (aj false)) q2)<|VV (aL (a:=some (aj true)) (b:=some (aj (decide ((x0:Int)<(lo:Int))))) q1)<|BB q3<|ZZ) k!
      exact ⟨g,cT (Ev.out ev) k!,gd,hg⟩
    · clear hM hN hp hc
      have q1:=cI ((rest:Int)<(hi:Int))
      have q2:=cI ((hi:Int)=(rest:Int))
      have ev:=vG (d) ft ((ae x2)::(x 1)::(ae x0)::(ae d1)::(ae d0)::rx x 5 6 ((ae g)::(ae rest)::(ae hi)::(ae lo)::rx x 15 50 [])) h ds rc (.exit 0) h (CN 2<|VV (bM 54 false false .u64 (hi:Int) (rest:Int))<|CC<|BB q1<|CC<|BB q1<|CC<|BB q1<|VV (bQ 54 false false .u64 (hi:Int) (rest:Int))<|BB q1<|CC<|BB q2<|BB q2<|BB q2<|BB q1<|VV (aL (a:=some aB) (b:=some (aj false)) q2)<|VV (aL (a:=some (aj true)) (b:=some (aj false)) q1)<|FF<|ZZ) k!
      exact ⟨g,cT (Ev.out ev) k!,gd,hg⟩
  · have XQ:=VW hc
    obtain ⟨n1,n2,n3⟩:=VU (x0:=x0) hN XQ hc
    have brk:=VT hp E8 DM hN XQ hc
    obtain ⟨l1,l2⟩:=R_ (P:=(g - 1)*d0) (hp.trans n3) DM hd0
    have q0:rest<hi∨hi=rest∧x0<lo:=by omega
    clear hM hp hc hN n3
    have ih:=fun (h':¬18446744073709551616≤rest+d1)=>ih (g - 1) (rest+d1) (hi -(if lo<d0+0 then 1 else 0)) ((lo+18446744073709551616 - d0 - 0)%18446744073709551616) o! o! o! o! (Nat.mod_lt _ (by decide)) l2 n1 n2
    clear l2 n1 n2
    by_cases q2':18446744073709551616≤rest+d1
    · have brk:=brk q2'
      clear ih
      have q4':(rest+d1)%18446744073709551616<rest:=by omega
      rcases q0 with q1' | ⟨q1',q3'⟩
      · have q1:=dg ((rest:Int)<(hi:Int))
        have u2:=M3 54 false true g 1
        have u3:=C5 54 false false rest d1
        have q4:=dg ((((rest+d1)%18446744073709551616:Nat):Int)<(rest:Int))
        have ev:=vG (d) ft ((ae x2)::(x 1)::(ae x0)::(ae d1)::(ae d0)::rx x 5 6 ((ae g)::(ae rest)::(ae hi)::(ae lo)::rx x 15 50 [])) h ds rc (.exit 0) h (CN 2<|VV (bM 54 false false .u64 (hi:Int) (rest:Int))<|CC<|BB q1<|BB q1<|BB q1<|BB q1<|BB q1<|VV (aG (a:=some (aj true)) (b:=some aB) q1)<|TT<|CC<|VV u2<|CN 5<|VV u3<|CN 3<|VV (bh 54 false false .u64 (((rest+d1)%18446744073709551616:Nat):Int) (rest:Int))<|BB q4<|ZZ) k!
        exact ⟨g - 1,cT (Ev.out ev) k!,brk,by omega⟩
      · have q1:=cI ((rest:Int)<(hi:Int))
        have q2:=dg ((hi:Int)=(rest:Int))
        have q3:=dg ((x0:Int)<(lo:Int))
        have u4:=M3 54 false true g 1
        have u5:=C5 54 false false rest d1
        have q6:=dg ((((rest+d1)%18446744073709551616:Nat):Int)<(rest:Int))
        have ev:=vG (d) ft ((ae x2)::(x 1)::(ae x0)::(ae d1)::(ae d0)::rx x 5 6 ((ae g)::(ae rest)::(ae hi)::(ae lo)::rx x 15 50 [])) h ds rc (.exit 0) h (CN 2<|VV (bM 54 false false .u64 (hi:Int) (rest:Int))<|CC<|BB q1<|CC<|BB q1<|CC<|BB q1<|VV (bQ 54 false false .u64 (hi:Int) (rest:Int))<|BB q1<|CC<|BB q2<|CC<|BB q2<|CC<|BB q2<|VV (bM 54 false false .u64 (lo:Int) (x0:Int))<|BB q1<|VV (aG (a:=some (aj (decide ((x0:Int)<(lo:Int))))) (b:=some (aj false)) q2)<|VV (aL (a:=some (aj true)) (b:=some (aj (decide ((x0:Int)<(lo:Int))))) q1)<|BB q3<|CC<|VV u4<|CN 5<|VV u5<|CN 3<|VV (bh 54 false false .u64 (((rest+d1)%18446744073709551616:Nat):Int) (rest:Int))<|BB q6<|ZZ) k!
        exact ⟨g - 1,cT (Ev.out ev) k!,brk,by omega⟩
    · have ih:=ih q2'
      clear brk
      have emod:(rest+d1)%18446744073709551616=rest+d1:=Nat.mod_eq_of_lt o!
      rcases q0 with q1' | ⟨q1',q3'⟩
      · have q1:=dg ((rest:Int)<(hi:Int))
        have u2:=M3 54 false true g 1
        have u3:=C5 54 false false rest d1
        have q4:=cI ((((rest+d1)%18446744073709551616:Nat):Int)<(rest:Int))
        have e5:qk [(ae lo),(ae d0),(aa 0)]=some (AV.tuple [(ae ((lo+18446744073709551616 - d0 - 0)%18446744073709551616)),(ae (if lo<d0+0 then 1 else 0))]):=nG lo d0 0 o! o! o!
        have u6:aI env .sub 54 false false (some (ae hi)) (some (ae (if lo<d0+0 then 1 else 0)))=some (ae (hi -(if lo<d0+0 then 1 else 0))):=dR (a:=hi) (b:=(if lo<d0+0 then 1 else 0)) l1 E8
        have ev:=vG (d) ft ((ae x2)::(x 1)::(ae x0)::(ae d1)::(ae d0)::rx x 5 6 ((ae g)::(ae rest)::(ae hi)::(ae lo)::rx x 15 50 [])) h ds rc .normal h (CN 2<|VV (bM 54 false false .u64 (hi:Int) (rest:Int))<|CC<|BB q1<|BB q1<|BB q1<|BB q1<|BB q1<|VV (aG (a:=some (aj true)) (b:=some aB) q1)<|TT<|CC<|VV u2<|CN 5<|VV u3<|CN 3<|VV (bh 54 false false .u64 (((rest+d1)%18446744073709551616:Nat):Int) (rest:Int))<|BB q4<|CN 3<|QQ e5<|CN 7<|VV u6<|CC<|ZZ) k!
        rw[emod] at ev
        exact BN ev k! ih
      · have q1:=cI ((rest:Int)<(hi:Int))
        have q2:=dg ((hi:Int)=(rest:Int))
        have q3:=dg ((x0:Int)<(lo:Int))
        have u4:=M3 54 false true g 1
        have u5:=C5 54 false false rest d1
        have q6:=cI ((((rest+d1)%18446744073709551616:Nat):Int)<(rest:Int))
        have e7:qk [(ae lo),(ae d0),(aa 0)]=some (AV.tuple [(ae ((lo+18446744073709551616 - d0 - 0)%18446744073709551616)),(ae (if lo<d0+0 then 1 else 0))]):=nG lo d0 0 o! o! o!
        have u8:aI env .sub 54 false false (some (ae hi)) (some (ae (if lo<d0+0 then 1 else 0)))=some (ae (hi -(if lo<d0+0 then 1 else 0))):=dR (a:=hi) (b:=(if lo<d0+0 then 1 else 0)) l1 E8
        have ev:=vG (d) ft ((ae x2)::(x 1)::(ae x0)::(ae d1)::(ae d0)::rx x 5 6 ((ae g)::(ae rest)::(ae hi)::(ae lo)::rx x 15 50 [])) h ds rc .normal h (CN 2<|VV (bM 54 false false .u64 (hi:Int) (rest:Int))<|CC<|BB q1<|CC<|BB q1<|CC<|BB q1<|VV (bQ 54 false false .u64 (hi:Int) (rest:Int))<|BB q1<|CC<|BB q2<|CC<|BB q2<|CC<|BB q2<|VV (bM 54 false false .u64 (lo:Int) (x0:Int))<|BB q1<|VV (aG (a:=some (aj (decide ((x0:Int)<(lo:Int))))) (b:=some (aj false)) q2)<|VV (aL (a:=some (aj true)) (b:=some (aj (decide ((x0:Int)<(lo:Int))))) q1)<|BB q3<|CC<|VV u4<|CN 5<|VV u5<|CN 3<|VV (bh 54 false false .u64 (((rest+d1)%18446744073709551616:Nat):Int) (rest:Int))<|BB q6<|CN 3<|QQ e7<|CN 7<|VV u8<|CC<|ZZ) k!
        rw[emod] at ev
        exact BN ev k! ih
theorem Ol {d:Nat} {h:ah} {x2 x1 x0 d1 d0:Nat} (hx1:x1<18446744073709551616) (hx0:x0<18446744073709551616) (hd1:0<d1) (af9:d1<18446744073709551616) (hd0:d0<18446744073709551616) (aw:Tidy h):
 ∃G,aQ (d+4) (.fn 165) [.int .u64 (x2:Nat),.int .u64 (x1:Nat),.int .u64 (x0:Nat),.int .u64 (d1:Nat),.int .u64 (d0:Nat)] h= .ret (.int .u64 (G:Nat)) h∧G<18446744073709551616∧(x2<d1→Ju (x2*18446744073709551616+x1) x0 d1 d0 G)∧(d1≤x2→G=18446744073709551615):=by
 by_cases q:x2<d1
 · have e0:(x2*18446744073709551616+x1) /d1<18446744073709551616:=by rw[Nat.div_lt_iff_lt_mul hd1];omega
   have e1:=Nat.div_add_mod (x2*18446744073709551616+x1) d1
   have e2:=Nat.mod_lt (x2*18446744073709551616+x1) hd1
   obtain ⟨g0,uR⟩:∃g0,g0=(x2*18446744073709551616+x1) /d1:=⟨_,rfl⟩
   obtain ⟨r0,hr0⟩:∃r0,r0=(x2*18446744073709551616+x1)%d1:=⟨_,rfl⟩
   rw[←uR,←hr0,Nat.mul_comm] at e1
   rw[←uR] at e0
   rw[←hr0] at e2
   have m1:=wK e0 hd0
   have m2:g0*d0/18446744073709551616*18446744073709551616+g0*d0%18446744073709551616=g0*d0:=by omega
   have m3:(x2*18446744073709551616+x1)*18446744073709551616+x0<(g0+1)*d1*18446744073709551616+(g0+1)*d0:=by
    rw[Nat.succ_mul]
    generalize (g0+1)*d0=Z
    generalize g0*d1=Y at *
    omega
   have q1:=cI ((d1:Int)≤(x2:Int))
   have dv:=T9 (d:=d) (h:=h) x2 x1 d1 q hx1 af9 aw (Nat.zero_le _)
   rw[←uR,←hr0] at dv
   have mu2:=r8 (d:=d+2) (h:=h) g0 d0 o! o!
   obtain ⟨G,⟨yl3,RX⟩,hG,lG⟩:=GJ (d:=d+3) (h:=h) (ds:=[]) (rc:= .no) (x2:=x2) hx0 hd1 af9 hd0 g0 g0 r0 (g0*d0/18446744073709551616) (g0*d0%18446744073709551616) (Nat.le_refl _) e0 o! o! o! m2 e1 m3 (fun k_=>(((ae x2)::(ae x1)::(ae x0)::(ae d1)::(ae d0)::aB::aB::aB::aB::aB::(aa 0)::(ae g0)::(ae r0)::(ae (g0*d0/18446744073709551616))::(ae (g0*d0%18446744073709551616))::aB::aB::(ae x2)::(ae d1)::(aj (decide ((d1:Int)≤(x2:Int))))::(AV.tuple [(ae g0),(ae r0)])::(ae x2)::(ae x1)::(ae d1)::(AV.tuple [(ae g0),(ae r0)])::(ae g0)::(ae r0)::(AV.tuple [(ae (g0*d0/18446744073709551616)),(ae (g0*d0%18446744073709551616))])::(ae g0)::(ae d0)::(AV.tuple [(ae (g0*d0/18446744073709551616)),(ae (g0*d0%18446744073709551616))])::(ae (g0*d0/18446744073709551616))::(ae (g0*d0%18446744073709551616))::aV 32):List AV).getD k_ aB)
   have ev:=pk (d+3) mG ((ae x2)::(ae x1)::(ae x0)::(ae d1)::(ae d0)::aV 60) h .ret h (CN 3<|VV (bV 54 false false .u64 (x2:Int) (d1:Int))<|BB q1<|CN 3<|EE dv<|CN 7<|EE mu2<|CN 5<|LL RX<|CN 2<|ZZ) k!
   exact ⟨G,fP rfl (az Tryz.func165 Ef k! (.inr rfl) ev k!),lG,fun _=>hG,fun h=>absurd q (Nat.not_lt.2 h)⟩
 · have q1:=dg ((d1:Int)≤(x2:Int))
   have ev:=pk (d+3) mG ((ae x2)::(ae x1)::(ae x0)::(ae d1)::(ae d0)::aV 60) h .ret h (CN 3<|VV (bV 54 false false .u64 (x2:Int) (d1:Int))<|BB q1<|CC<|ZZ) k!
   exact ⟨18446744073709551615,fP rfl (az Tryz.func165 Ef k! (.inr rfl) ev k!),by decide,fun h=>absurd h q,fun _=>rfl⟩
end Go.Proofs.aF
