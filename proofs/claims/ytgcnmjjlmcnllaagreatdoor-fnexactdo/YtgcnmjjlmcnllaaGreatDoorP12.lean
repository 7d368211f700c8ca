/- Parts of the proof. -/
import Derived.Test.YtgcnmjjlmcnllaaGreatDoorP1
import Derived.Test.YtgcnmjjlmcnllaaGreatDoorP5
import Derived.Test.YtgcnmjjlmcnllaaGreatDoorP6
import Derived.Test.YtgcnmjjlmcnllaaGreatDoorP7
import Derived.Test.YtgcnmjjlmcnllaaGreatDoorP8
import Derived.Test.YtgcnmjjlmcnllaaGreatDoorP9
import Derived.Test.YtgcnmjjlmcnllaaGreatDoorP11
import Derived.Deep.RegionHeld3
import Derived.Deep.DrawnRows
namespace Go.Proofs.YtgcnmjjlmcnllaaGreatDoor
set_option maxRecDepth 20000
set_option maxHeartbeats 16000000
open Go.ChangeShapes Go.WideShapes Go.ChangeAt Go.RowKit
def pushL (xs:List Ce) (p n:Nat) (s:St):List Ce:=if n=0 then xs else mendV ((mendV (xs.take p)++rowL n s++mendV (xs.drop p)).take xs.length)
theorem SlC.take {w:World} {a:Option Addr} {n c:Nat} {xs:List Ce} (h:SlC w (.slice a n c) xs) (k:Nat) (hk:k<=n):SlC w (.slice a k c) (xs.take k):=by
 obtain ⟨a',c',e,hc,hn,hr⟩:=h;simp only [Value.slice.injEq] at e;obtain ⟨rfl,rfl,rfl⟩:=e;have hl:(xs.take k).length=k:=by rw [List.length_take];omega
 refine ⟨a,c,by rw [hl],by omega,hn,?_⟩;rcases hr with h|⟨b,off,ha,hb,hi⟩
 ·left;rw [h];simp
 ·right
  refine ⟨b,off,ha,hb,fun i h=>?_⟩;rw [hl] at h
  rw [atC_take xs k i h]
  exact hi i (by omega)
theorem SlC.drop {w:World} {b off n c:Nat} {xs:List Ce} (h:SlC w (.slice (some ⟨b,off,none⟩) n c) xs) (k:Nat) (hk:k<n):SlC w (.slice (some ⟨b,off+k*7,none⟩) (n-k) (c-k)) (xs.drop k):=by
 obtain ⟨a',c',e,hc,hn,hr⟩:=h;simp only [Value.slice.injEq] at e;obtain ⟨rfl,rfl,rfl⟩:=e;have hl:(xs.drop k).length=xs.length-k:=by simp
 refine ⟨_,c-k,by rw [hl],by omega,(fun h=>by cases h),?_⟩;rcases hr with h|⟨b',off',ha,hb,hi⟩
 ·rw [h] at hk;simp at hk
 ·cases ha
  right
  refine ⟨b,off+k*7,rfl,hb,fun i h=>?_⟩;rw [hl] at h
  rw [atC_drop]
  have:=hi (k+i) (by omega);have e:off+k*7+i*7=off+(k+i)*7:=by omega
  rw [e];exact this
theorem l4Pushed_any (v:Value) (xs:List Ce) (p n:Nat) (s:St) (w:World) (hv:SlC w v xs) (hp:p<xs.length) (hn:n<=xs.length) (hl:xs.length<=1000) :
  Calls Tryz.prog 215 #[v,.int .i64 p,.int .i64 n,stV s] w fun e w'=>∃ u,e=.returned u/\OwnC w' w.heap.size u (pushL xs p n s)/\Below w.heap.size w w':=by
 have h2:=StAt.new w s 28;have hbA:=bal' w (Obj.cells #[.int .i64 s.fore,.int .i64 s.back,.bool s.bold,.bool s.under,.bool s.turned] 28);have hsz:(w.alloc (Obj.cells #[.int .i64 s.fore,.int .i64 s.back,.bool s.bold,.bool s.under,.bool s.turned] 28)).heap.size=w.heap.size+1:=by simp
 have hv1:=hv.below hbA;obtain ⟨a,c,rfl,hcp,hna,hr⟩:=id hv
 obtain ⟨b,off,rfl,hbb,hsrc⟩:∃ b off,a=some ⟨b,off,none⟩/\b<w.heap.size/\∀ i,i<xs.length->CeAt w b (off+i*7) (atC xs i):=by
  rcases hr with h|h
  ·rw [h] at hp;simp at hp
  ·exact h
 have hpi:(p:Int)<(xs.length:Int):=by omega
 have hp0:(0:Int)<=(p:Int):=by omega
 have hpc:(p:Int)<=(c:Int):=by omega
 have hpn:(p:Int)<=(xs.length:Int):=by omega
 have hv0:=hv
 by_cases h0:n=0
 ·have hnb:((n:Int)==0)=true:=by simp [h0]
  have hP:Hid (pushL xs p n s=xs):=by show _=_;unfold pushL;rw [if_pos h0]
  have k00:=ownC_nil (w.alloc (Obj.cells #[.int .i64 s.fore,.int .i64 s.back,.bool s.bold,.bool s.under,.bool s.turned] 28)) (w.heap.size+1) (by simp);rw [hsz] at k00
  have k0:OC (w.heap.size+1) (.slice (some ⟨w.heap.size+1,0,none⟩) 0 0) [] w ((w.alloc (Obj.cells #[.int .i64 s.fore,.int .i64 s.back,.bool s.bold,.bool s.under,.bool s.turned] 28)).alloc (Obj.cells #[] 146)):=⟨k00,hbA.trans ((bal' _ _).mono hbA.size),by simp,by omega⟩;have hvv:=hv1.below (bal' _ (Obj.cells #[] 146));clear h0 hv hv1 hbA h2;unfold stV at *;go_enter Tryz.func215,Tryz.ntmps215;go_wp2_with (at_builtin;refine append_os rfl _ _ rfl (w.heap.size+1) _ [] rfl (by exact k0.1) k0.2.2.1 _ xs hvv rfl (by simp;omega) ?_;intro u4 w4 ho4 hg4);go_ret;have k4:OC (w.heap.size+1) u4 xs w w4:=k0.own (by simpa using ho4) hg4;exact ⟨u4,rfl,by rw [hP.out];exact k4.1.low (by omega),k4.2.1⟩
 ·have hnb:((n:Int)==0)=false:=by simp [h0]
  have hm1:=fun W h=>l4Mended_any (.slice (some ⟨b,off,none⟩) p c) (xs.take p) W h (by rw [List.length_take];omega)
  have hrow:=fun W=>l4Row_any n s W (by omega)
  unfold stV at *;go_enter Tryz.func215,Tryz.ntmps215;go_wp2_with fail;refine (hm1 _ (hv1.take p (by omega))).mono ?_;rintro e w2 ⟨u2,rfl,ho2,hb2⟩;have hs:=h2.below hb2;have kb:=hbA.trans (hb2.mono hbA.size);have hv2:=hv1.below hb2;clear hm1 hv1 h2 hbA hv;obtain ⟨_,⟨c0,c1,c2,c3,c4⟩,_⟩:=id hs;go_wp2_with fail;refine (hrow _).mono ?_;rintro e w3 ⟨u3,rfl,ho3,hb3⟩;go_wp2_with (at_builtin;refine append_os rfl _ _ rfl (w.heap.size+1) _ (mendV (xs.take p)) rfl (by exact (ho2.below hb3).low (by rw [hsz];exact Nat.le_refl _)) (by have:=hb2.size;have:=hb3.size;omega) _ (rowL n s) (SlC.of_own ho3) rfl (by rw [mendV_len,bigRow,List.length_take];omega) ?_;intro u4 w4 ho4 hg4)
  have k4:OC (w.heap.size+1) u4 (mendV (xs.take p)++rowL n s) w w4:=by
   have k2:OC (w.heap.size+1) u2 (mendV (xs.take p)) w w2:=⟨ho2.low (by rw [hsz];exact Nat.le_refl _),kb,by have:=hb2.size;omega,by omega⟩;exact (k2.below hb3).own ho4 hg4
  have hv4:=hv0.below k4.2.1;clear ho2 ho3 hb3 hg4 ho4 hs c0 c1 c2 c3 c4 hv2 kb hrow hb2;have hm2:=l4Mended_any _ (xs.drop p) w4 (hv4.drop p hp) (by simp;omega);refine hm2.mono ?_;clear hm2;rintro e w5 ⟨u5,rfl,ho5,hb5⟩;have k5:=k4.below hb5;go_wp2_with (at_builtin;refine append_os rfl _ _ rfl (w.heap.size+1) _ (mendV (xs.take p)++rowL n s) rfl (by exact k5.1) k5.2.2.1 _ (mendV (xs.drop p)) (SlC.of_own ho5) rfl (by rw [List.length_append,mendV_len,mendV_len,bigRow,List.length_take,List.length_drop];omega) ?_;intro u6 w6 ho6 hg6);have k6:OC (w.heap.size+1) u6 (mendV (xs.take p)++rowL n s++mendV (xs.drop p)) w w6:=k5.own ho6 hg6;clear ho6 hg6 k5 ho5 hb5 k4 hv4;have hP:Hid (pushL xs p n s=mendV ((mendV (xs.take p)++rowL n s++mendV (xs.drop p)).take xs.length)):=by show _=_;unfold pushL;rw [if_neg h0]
  have hL:(mendV (xs.take p)++rowL n s++mendV (xs.drop p)).length=xs.length+n:=by rw [List.length_append,List.length_append,mendV_len,mendV_len,bigRow,List.length_take,List.length_drop];omega
  generalize mendV (xs.take p)++rowL n s++mendV (xs.drop p)=Z at *;rcases k6.1.shape with ⟨_,hz⟩|⟨g,cap,rfl,hbg,hlg,hcap⟩
  ·rw [hz] at hL;simp at hL;omega
  ·have hsl:=SlC.of_own k6.1
   rw [hL] at hcap hsl ⊢
   have hm3:=l4Mended_any (.slice (some ⟨g,0,none⟩) xs.length cap) (Z.take xs.length) w6 (hsl.take xs.length (by omega)) (by rw [List.length_take];omega);have hci:(xs.length:Int)<=(cap:Int):=by omega
   have hxi:(0:Int)<=(xs.length:Int):=by omega
   have hxm:(xs.length:Int)<=((xs.length+n:Nat):Int):=by omega
   generalize xs.length+n=M at *;generalize hX:xs.length=X at *;go_simp;go_wp2_with fail;refine hm3.mono ?_;rintro e w7 ⟨u7,rfl,ho7,hb7⟩;go_wp2;go_ret;exact ⟨u7,rfl,by rw [hP.out];exact ho7.low k6.2.1.size,k6.2.1.trans (hb7.mono k6.2.1.size)⟩
theorem l1Min_any (a b:Int) (w:World) :
  Calls Tryz.prog 158 #[.int .i64 a,.int .i64 b] w fun e w'=>e=.returned (.int .i64 (min a b))/\w'=w:=by
 by_cases h:a<b
 ·have hm:Hid (min a b=a):=by show _=_;omega
  go_enter Tryz.func158,Tryz.ntmps158;go_wp2;go_ret;exact ⟨by rw [hm.out];rfl,rfl⟩
 ·have hm:Hid (min a b=b):=by show _=_;omega
  go_enter Tryz.func158,Tryz.ntmps158;go_wp2;go_ret;exact ⟨by rw [hm.out];rfl,rfl⟩
def pullL (xs:List Ce) (p n:Nat) (s:St):List Ce:=if min n (xs.length-p)=0 then xs else mendV (xs.take p)++mendV (xs.drop (p+min n (xs.length-p)))++rowL (min n (xs.length-p)) s
theorem slC_end {w:World} (a:Addr) (c:Nat):SlC w (.slice (some a) 0 c) []:=⟨_,c,rfl,Nat.zero_le _,(fun h=>by cases h),.inl rfl⟩
theorem l4Pulled_any (v:Value) (xs:List Ce) (p n:Nat) (s:St) (w:World) (hv:SlC w v xs) (hp:p<xs.length) (_hn:n<=xs.length) (hl:xs.length<=1000) :
  Calls Tryz.prog 216 #[v,.int .i64 p,.int .i64 n,stV s] w fun e w'=>∃ u,e=.returned u/\OwnC w' w.heap.size u (pullL xs p n s)/\Below w.heap.size w w':=by
 have h2:=StAt.new w s 28;have hbA:=bal' w (Obj.cells #[.int .i64 s.fore,.int .i64 s.back,.bool s.bold,.bool s.under,.bool s.turned] 28);have hsz:(w.alloc (Obj.cells #[.int .i64 s.fore,.int .i64 s.back,.bool s.bold,.bool s.under,.bool s.turned] 28)).heap.size=w.heap.size+1:=by simp
 have hv1:=hv.below hbA;obtain ⟨a,c,rfl,hcp,hna,hr⟩:=id hv
 obtain ⟨b,off,rfl,hbb,hsrc⟩:∃ b off,a=some ⟨b,off,none⟩/\b<w.heap.size/\∀ i,i<xs.length->CeAt w b (off+i*7) (atC xs i):=by
  rcases hr with h|h
  ·rw [h] at hp;simp at hp
  ·exact h
 have hpi:(p:Int)<(xs.length:Int):=by omega
 have hp0:(0:Int)<=(p:Int):=by omega
 have hpc:(p:Int)<=(c:Int):=by omega
 have hpn:(p:Int)<=(xs.length:Int):=by omega
 have hv0:=hv;have hmin:=fun W=>l1Min_any (n:Int) ((xs.length:Int)-(p:Int)) W
 have hme:min (n:Int) ((xs.length:Int)-(p:Int))=((min n (xs.length-p):Nat):Int):=by omega
 rw [hme] at hmin
 have hPP:Hid (pullL xs p n s=if min n (xs.length-p)=0 then xs else mendV (xs.take p)++mendV (xs.drop (p+min n (xs.length-p)))++rowL (min n (xs.length-p)) s):=rfl;have hml:p+min n (xs.length-p)<=xs.length:=by omega
 clear hme hsrc hr hna;generalize min n (xs.length-p)=m at *
 by_cases h0:m=0
 ·have hnb:((m:Int)==0)=true:=by simp [h0]
  have hP:Hid (pullL xs p n s=xs):=by show _=_;rw [hPP.out,if_pos h0]
  have k00:=ownC_nil (w.alloc (Obj.cells #[.int .i64 s.fore,.int .i64 s.back,.bool s.bold,.bool s.under,.bool s.turned] 28)) (w.heap.size+1) (by simp);rw [hsz] at k00
  have k0:OC (w.heap.size+1) (.slice (some ⟨w.heap.size+1,0,none⟩) 0 0) [] w ((w.alloc (Obj.cells #[.int .i64 s.fore,.int .i64 s.back,.bool s.bold,.bool s.under,.bool s.turned] 28)).alloc (Obj.cells #[] 146)):=⟨k00,hbA.trans ((bal' _ _).mono hbA.size),by simp,by omega⟩;have hvv:=hv1.below (bal' _ (Obj.cells #[] 146));clear h0 hv hv1 hbA h2 hPP;unfold stV at *;go_enter Tryz.func216,Tryz.ntmps216
  go_wp2_with (first
   | (go_at_call 158;refine (hmin _).mono ?_;rintro e w1 ⟨rfl,hw⟩;subst hw)
   | (at_builtin;refine append_os rfl _ _ rfl (w.heap.size+1) _ [] rfl (by exact k0.1) k0.2.2.1 _ xs hvv rfl (by simp;omega) ?_;intro u4 w4 ho4 hg4))
  go_ret;have k4:OC (w.heap.size+1) u4 xs w w4:=k0.own (by simpa using ho4) hg4;exact ⟨u4,rfl,by rw [hP.out];exact k4.1.low (by omega),k4.2.1⟩
 ·have hnb:((m:Int)==0)=false:=by simp [h0]
  have hP:Hid (pullL xs p n s=mendV (xs.take p)++mendV (xs.drop (p+m))++rowL m s):=by show _=_;rw [hPP.out,if_neg h0]
  have hm1:=fun W h=>l4Mended_any (.slice (some ⟨b,off,none⟩) p c) (xs.take p) W h (by rw [List.length_take];omega)
  have hrow:=fun W=>l4Row_any m s W (by omega)
  have hq:∃ ad,(∀ W:World,SlC W (.slice (some ⟨b,off,none⟩) xs.length c) xs->SlC W (.slice (some ad) (xs.length-(p+m)) (c-(p+m))) (xs.drop (p+m)))/\(if c=p+m then some (⟨b,off,none⟩:Addr) else some (⟨b,off+(p+m)*7,none⟩:Addr))=some ad:=by
   by_cases hc:c=p+m
   ·refine ⟨⟨b,off,none⟩,fun W _=>?_,by rw [if_pos hc]⟩
    have e:xs.length=p+m:=by omega
    have e2:xs.drop (p+m)=[]:=by rw [<- e];simp
    rw [e2,e,Nat.sub_self]
    exact slC_end _ _
   ·refine ⟨⟨b,off+(p+m)*7,none⟩,fun W h=>?_,by rw [if_neg hc]⟩
    by_cases hx:p+m<xs.length
    ·exact h.drop (p+m) hx
    ·have e:xs.length=p+m:=by omega
     have e2:xs.drop (p+m)=[]:=by rw [<- e];simp
     rw [e2,e,Nat.sub_self]
     exact slC_end _ _
  obtain ⟨ad,hdrop,had⟩:=hq;clear hPP h0;unfold stV at *;go_enter Tryz.func216,Tryz.ntmps216;go_wp2_with (go_at_call 158;refine (hmin _).mono ?_;rintro e w1 ⟨rfl,hw⟩;subst hw);refine (hm1 _ (hv1.take p (by omega))).mono ?_;rintro e w2 ⟨u2,rfl,ho2,hb2⟩;have hs:=h2.below hb2;have kb:=hbA.trans (hb2.mono hbA.size);have k2:OC (w.heap.size+1) u2 (mendV (xs.take p)) w w2:=⟨ho2.low (by rw [hsz];exact Nat.le_refl _),kb,by have:=hb2.size;omega,by omega⟩;have hv2:=hv0.below kb;clear hm1 hv1 h2 hbA hv ho2 kb hb2 hmin;have hpm0:(0:Int)<=(p:Int)+(m:Int):=by omega
  have hpmx:(p:Int)+(m:Int)<=(xs.length:Int):=by omega
  have hpmc:(p:Int)+(m:Int)<=(c:Int):=by omega
  go_wp2_with fail
  ·have ec:c-(p+m)=0:=by rename_i hh;omega
   rw [ec] at hdrop
   have hm2:=l4Mended_any (.slice (some ad) (xs.length-(p+m)) 0) (xs.drop (p+m)) w2 (hdrop w2 hv2) (by rw [List.length_drop];omega);refine hm2.mono ?_;clear hm2;rintro e w3 ⟨u3,rfl,ho3,hb3⟩;have hs3:=hs.below hb3;have k3:=k2.below hb3;go_wp2_with (at_builtin;refine append_os rfl _ _ rfl (w.heap.size+1) _ (mendV (xs.take p)) rfl (by exact k3.1) k3.2.2.1 _ (mendV (xs.drop (p+m))) (SlC.of_own ho3) rfl (by rw [mendV_len,mendV_len,List.length_take,List.length_drop];omega) ?_;intro u4 w4 ho4 hg4;have hs4:=hs3.own k3.1 (Nat.lt_succ_self _) hg4;have hss:=hs4;obtain ⟨_,⟨c0,c1,c2,c3,c4⟩,_⟩:=hss);have k4:OC (w.heap.size+1) u4 (mendV (xs.take p)++mendV (xs.drop (p+m))) w w4:=k3.own ho4 hg4;clear ho3 hb3 k3 ho4 hg4 hs3;refine (hrow _).mono ?_;rintro e w5 ⟨u5,rfl,ho5,hb5⟩;have k5:=k4.below hb5;go_wp2_with (at_builtin;refine append_os rfl _ _ rfl (w.heap.size+1) _ (mendV (xs.take p)++mendV (xs.drop (p+m))) rfl (by exact k5.1) k5.2.2.1 _ (rowL m s) (SlC.of_own ho5) rfl (by rw [List.length_append,mendV_len,mendV_len,bigRow,List.length_take,List.length_drop];omega) ?_;intro u6 w6 ho6 hg6);go_ret;have k6:OC (w.heap.size+1) u6 (mendV (xs.take p)++mendV (xs.drop (p+m))++rowL m s) w w6:=k5.own ho6 hg6;exact ⟨u6,rfl,by rw [hP.out];exact k6.1.low (by omega),k6.2.1⟩
  ·have hm2:=l4Mended_any (.slice (some ad) (xs.length-(p+m)) (c-(p+m))) (xs.drop (p+m)) w2 (hdrop w2 hv2) (by rw [List.length_drop];omega)
   refine hm2.mono ?_;clear hm2;rintro e w3 ⟨u3,rfl,ho3,hb3⟩;have hs3:=hs.below hb3;have k3:=k2.below hb3;go_wp2_with (at_builtin;refine append_os rfl _ _ rfl (w.heap.size+1) _ (mendV (xs.take p)) rfl (by exact k3.1) k3.2.2.1 _ (mendV (xs.drop (p+m))) (SlC.of_own ho3) rfl (by rw [mendV_len,mendV_len,List.length_take,List.length_drop];omega) ?_;intro u4 w4 ho4 hg4;have hs4:=hs3.own k3.1 (Nat.lt_succ_self _) hg4;have hss:=hs4;obtain ⟨_,⟨c0,c1,c2,c3,c4⟩,_⟩:=hss);have k4:OC (w.heap.size+1) u4 (mendV (xs.take p)++mendV (xs.drop (p+m))) w w4:=k3.own ho4 hg4;clear ho3 hb3 k3 ho4 hg4 hs3;refine (hrow _).mono ?_;rintro e w5 ⟨u5,rfl,ho5,hb5⟩;have k5:=k4.below hb5;go_wp2_with (at_builtin;refine append_os rfl _ _ rfl (w.heap.size+1) _ (mendV (xs.take p)++mendV (xs.drop (p+m))) rfl (by exact k5.1) k5.2.2.1 _ (rowL m s) (SlC.of_own ho5) rfl (by rw [List.length_append,mendV_len,mendV_len,bigRow,List.length_take,List.length_drop];omega) ?_;intro u6 w6 ho6 hg6);go_ret;have k6:OC (w.heap.size+1) u6 (mendV (xs.take p)++mendV (xs.drop (p+m))++rowL m s) w w6:=k5.own ho6 hg6;exact ⟨u6,rfl,by rw [hP.out];exact k6.1.low (by omega),k6.2.1⟩
theorem l3Param_any (s:St) (n:Int) (w:World) :
  Calls Tryz.prog 247 #[stV s,.int .i64 n] w fun e w'=>e=.returned (stV (paramV s n))/\Below w.heap.size w w':=by
 obtain ⟨f,b,bo,un,tu⟩:=s;unfold stV;simp only;go_enter Tryz.func247,Tryz.ntmps247;go_wp2_with (go_at_call 73;refine (l1In_any _ _ _ _).mono ?_;rintro e w' ⟨rfl,hw⟩;subst hw)
 all_goals
  refine bodyPost_ret (v:=stV (paramV ⟨f,b,bo,un,tu⟩ n)) ?_ rfl ⟨rfl,?_⟩
  ·(try simp only [beq_iff_eq,beq_eq_false_iff_ne,ne_eq] at *)
   unfold paramV
   repeat' split
   all_goals first
    | (exfalso;omega)
    | (simp [results,Tryz.results247,go_sem,stV,St.zero];done)
    | (simp [results,Tryz.results247,go_sem,stV, *];done)
    | (simp [results,Tryz.results247,go_sem,stV,St.zero];omega)
  ·exact ((Below.refl _ _).alloc (Nat.le_refl _) _).alloc (by simp) _
end Go.Proofs.YtgcnmjjlmcnllaaGreatDoor
namespace Go.Proofs.YtgcnmjjlmcnllaaGreatDoor
set_option maxRecDepth 20000
set_option maxHeartbeats 16000000
open Go.ChangeShapes Go.WideShapes Go.ChangeAt Go.RowKit
attribute [local go_sem ↓] Go.wp_at_zero Go.wp_at_succ
def KS (B2 B4 bb o:Nat) (n:Int) (s z:St) (w0 W:World):Prop:=StAt W B2 s/\StAt W B4 z/\(bb<w0.heap.size/\W.cell? ⟨bb,o,none⟩=some (.int .i64 n))/\Below w0.heap.size w0 W
theorem KS.below {B2 B4 bb o:Nat} {n:Int} {s z:St} {w0 W W':World} (k:KS B2 B4 bb o n s z w0 W) (hb:Below W.heap.size W W'):KS B2 B4 bb o n s z w0 W' :=
 ⟨k.1.below hb,k.2.1.below hb,⟨k.2.2.1.1,(hb.cell (p:=⟨bb,o,none⟩) (Nat.lt_of_lt_of_le k.2.2.1.1 k.2.2.2.size)).trans k.2.2.1.2⟩,k.2.2.2.trans (hb.mono k.2.2.2.size)⟩

theorem l3Param_ks (B2 B4 bb o:Nat) (n:Int) (s z:St) (w0 W:World) (k:W.cell? ⟨B2,0,none⟩=some (.int .i64 s.fore)/\W.cell? ⟨B2,1,none⟩=some (.int .i64 s.back)/\W.cell? ⟨B2,2,none⟩=some (.bool s.bold)/\W.cell? ⟨B2,3,none⟩=some (.bool s.under)/\W.cell? ⟨B2,4,none⟩=some (.bool s.turned)/\W.cell? ⟨bb,o,none⟩=some (.int .i64 n)/\KS B2 B4 bb o n s z w0 W) :
  Calls Tryz.prog 247 #[stV s,.int .i64 n] W fun e w'=>e=.returned (.agg #[.int .i64 (paramV s n).fore,.int .i64 (paramV s n).back,.bool (paramV s n).bold,.bool (paramV s n).under,.bool (paramV s n).turned])/\(w'.cell? ⟨B2,0,none⟩=some (.int .i64 s.fore)/\w'.cell? ⟨B2,1,none⟩=some (.int .i64 s.back)/\w'.cell? ⟨B2,2,none⟩=some (.bool s.bold)/\w'.cell? ⟨B2,3,none⟩=some (.bool s.under)/\w'.cell? ⟨B2,4,none⟩=some (.bool s.turned)/\w'.cell? ⟨bb,o,none⟩=some (.int .i64 n)/\KS B2 B4 bb o n s z w0 w') :=
 (l3Param_any s n W).mono fun _ _ ⟨he,hb⟩=>by
  have kb:=k.2.2.2.2.2.2.below hb;exact ⟨he,kb.1.2.1.1,kb.1.2.1.2.1,kb.1.2.1.2.2.1,kb.1.2.1.2.2.2.1,kb.1.2.1.2.2.2.2,kb.2.2.1.2,kb⟩
theorem KS.all {B2 B4 bb o:Nat} {n:Int} {s z:St} {w0 W:World} (kb:KS B2 B4 bb o n s z w0 W):W.cell? ⟨B2,0,none⟩=some (.int .i64 s.fore)/\W.cell? ⟨B2,1,none⟩=some (.int .i64 s.back)/\W.cell? ⟨B2,2,none⟩=some (.bool s.bold)/\W.cell? ⟨B2,3,none⟩=some (.bool s.under)/\W.cell? ⟨B2,4,none⟩=some (.bool s.turned)/\W.cell? ⟨bb,o,none⟩=some (.int .i64 n)/\KS B2 B4 bb o n s z w0 W :=
 ⟨kb.1.2.1.1,kb.1.2.1.2.1,kb.1.2.1.2.2.1,kb.1.2.1.2.2.2.1,kb.1.2.1.2.2.2.2,kb.2.2.1.2,kb⟩

theorem l3Styled_any (s:St) (v:Value) (xs:List Int) (w:World) (hv:SlI w v xs) (hl:xs.length<=1048576) (hne:xs≠[]) :
  Calls Tryz.prog 218 #[stV s,v] w fun e w'=>e=.returned (stV (styledF s xs))/\Below w.heap.size w w':=by
 obtain ⟨f,b,bo,un,tu⟩:=s;obtain ⟨_,c,rfl,e|⟨bb,off,rfl,hbb,hc⟩⟩:=hv
 ·exact absurd e hne
 ·have hx0:0<xs.length:=List.length_pos_iff.2 hne
  have hxz:((xs.length:Int)==0)=false:=by simp;exact hne
  unfold stV;simp only;go_enter Tryz.func218,Tryz.ntmps218;go_wp2;have h2:=StAt.new w ⟨f,b,bo,un,tu⟩ 28;have h4:=StAt.new (w.alloc (Obj.cells #[.int .i64 f,.int .i64 b,.bool bo,.bool un,.bool tu] 28)) St.zero 28;have h2':=h2.below (w':=(w.alloc (Obj.cells #[.int .i64 f,.int .i64 b,.bool bo,.bool un,.bool tu] 28)).alloc (Obj.cells #[.int .i64 0,.int .i64 0,.bool false,.bool false,.bool false] 28)) ((Below.refl _ _).alloc (Nat.le_refl _) _);have e4:(w.alloc (Obj.cells #[.int .i64 f,.int .i64 b,.bool bo,.bool un,.bool tu] 28)).heap.size=w.heap.size+1:=by simp
  rw [e4] at h4
  have hbA:Below w.heap.size w ((w.alloc (Obj.cells #[.int .i64 f,.int .i64 b,.bool bo,.bool un,.bool tu] 28)).alloc (Obj.cells #[.int .i64 0,.int .i64 0,.bool false,.bool false,.bool false] 28)):=((Below.refl _ _).alloc (Nat.le_refl _) _).alloc (by simp) _;go_loopw [5] (fun i wr=>∃ j:Nat,i=.int .i64 j/\j<=xs.length/\StAt wr w.heap.size (styledF ⟨f,b,bo,un,tu⟩ (xs.take j))/\StAt wr (w.heap.size+1) St.zero/\Below w.heap.size w wr) (fun i _=>xs.length-(intOf i).toNat)
  case atStart=>exact ⟨0,rfl,Nat.zero_le _,h2',h4,hbA⟩
  case round =>
   clear h2 h4 h2' e4 hbA;obtain ⟨j,rfl,hj,k2,k4,kb⟩:=hrel
   by_cases hlt:j<xs.length
   ·have hji:(j:Int)<(xs.length:Int):=by omega
    have hj0:(0:Int)<=(j:Int):=by omega
    have hst:Hid (styledF ⟨f,b,bo,un,tu⟩ (xs.take (j+1))=paramV (styledF ⟨f,b,bo,un,tu⟩ (xs.take j)) (xs.getD j 0)):=by
     show _=_
     rw [List.take_succ_eq_append_getElem hlt,styledF,List.foldl_append]
     simp [styledF,hlt]
    have hcj:=(kb.cell (p:=⟨bb,off+j,none⟩) hbb).trans (hc j hlt);generalize xs.getD j 0=n at *;generalize styledF ⟨f,b,bo,un,tu⟩ (xs.take j)=y at *;have k:KS w.heap.size (w.heap.size+1) bb (off+j) n y St.zero w wr:=⟨k2,k4,⟨hbb,hcj⟩,kb⟩;obtain ⟨_,⟨c0,c1,c2,c3,c4⟩,⟨z0,z1,z2,z3,z4⟩⟩:=k2;clear hc;go_wp2;go_region_with (first|(go_at_call 247;refine (l3Param_ks w.heap.size (w.heap.size+1) bb (off+j) n y St.zero w _ ?_).mono ?_;(first|exact k.all|exact (k.below (bdr _)).all);rintro e wk ⟨rfl,hk⟩;obtain ⟨_,⟨d0,d1,d2,d3,d4⟩,⟨x0,x1,x2,x3,x4⟩⟩:=hk.2.2.2.2.2.2.1))
    all_goals
     have k2':=hk.2.2.2.2.2.2.1.put (paramV y n);have k4':=hk.2.2.2.2.2.2.2.1.grown (putSt_grown wk w.heap.size (paramV y n)) (by simp);have kb':=own_lift hk.2.2.2.2.2.2.2.2.2 (putSt_grown wk w.heap.size (paramV y n)) (Nat.le_refl _);simp only [putSt] at k2' k4' kb';clear hk d0 d1 d2 d3 d4 x0 x1 x2 x3 x4 k c0 c1 c2 c3 c4 z0 z1 z2 z3 z4;generalize ((((wk.setCell ⟨w.heap.size,0,none⟩ (.int .i64 (paramV y n).fore)).setCell ⟨w.heap.size,1,none⟩ (.int .i64 (paramV y n).back)).setCell ⟨w.heap.size,2,none⟩ (.bool (paramV y n).bold)).setCell ⟨w.heap.size,3,none⟩ (.bool (paramV y n).under)).setCell ⟨w.heap.size,4,none⟩ (.bool (paramV y n).turned)=Wf at *;go_wp2;go_roundw
     case rel =>
      exact ⟨j+1,by go_num,by omega,by rw [hst.out];exact k2',k4',kb'⟩
     case measure=>simp [intOf];omega
   ·have hjn:j=xs.length:=by omega
    have hji:¬ (j:Int)<(xs.length:Int):=by omega
    rw [hjn,List.take_length] at k2
    clear hc;have hyy:Hid (∃ y,y=styledF ⟨f,b,bo,un,tu⟩ xs):=⟨_,rfl⟩;obtain ⟨y,hy⟩:=hyy.out;rw [<- hy] at k2
    have HY:Hid (y=styledF ⟨f,b,bo,un,tu⟩ xs):=hy;clear hy hyy;have kP:=k4.put y;have kbP:=own_lift kb (putSt_grown wr (w.heap.size+1) y) (by omega);obtain ⟨_,⟨c0,c1,c2,c3,c4⟩,⟨z0,z1,z2,z3,z4⟩⟩:=k2;obtain ⟨_,⟨d0,d1,d2,d3,d4⟩,⟨x0,x1,x2,x3,x4⟩⟩:=k4;obtain ⟨_,⟨e0,e1,e2,e3,e4⟩,_⟩:=kP;simp only [putSt] at kbP e0 e1 e2 e3 e4;go_wp2;exact bodyPost_ret (v:=.agg #[.int .i64 y.fore,.int .i64 y.back,.bool y.bold,.bool y.under,.bool y.turned]) (by simp [results,Tryz.results218,go_sem,e0,e1,e2,e3,e4]) rfl ⟨by rw [<- HY.out],kbP⟩
end Go.Proofs.YtgcnmjjlmcnllaaGreatDoor
namespace Go.Proofs.YtgcnmjjlmcnllaaGreatDoor
set_option maxRecDepth 20000
set_option maxHeartbeats 16000000
open Go.ChangeShapes Go.WideShapes Go.ChangeAt Go.RowKit
def stylN (s:St) (xs:List Int):St:=if xs=[] then St.zero else styledF s xs
theorem l3Styled_all (s:St) (v:Value) (xs:List Int) (w:World) (hv:SlI w v xs) (hl:xs.length<=1048576) :
  Calls Tryz.prog 218 #[stV s,v] w fun e w'=>e=.returned (stV (stylN s xs))/\Below w.heap.size w w':=by
 by_cases hne:xs=[]
 ·have hs:Hid (stylN s xs=St.zero):=by show _=_;simp [stylN,hne]
  subst hne;obtain ⟨f,b,bo,un,tu⟩:=s;obtain ⟨a,c,rfl,_⟩:=hv;rw [hs.out]
  unfold stV;simp only;go_enter Tryz.func218,Tryz.ntmps218;go_wp2;exact bodyPost_ret (v:=.agg #[.int .i64 0,.int .i64 0,.bool false,.bool false,.bool false]) (by simp [results,Tryz.results218,go_sem]) rfl ⟨rfl,((Below.refl _ _).alloc (Nat.le_refl _) _).alloc (by simp) _⟩
 ·have:=l3Styled_any s v xs w hv hl hne
  simpa [stylN,hne] using this
theorem one_te (t:Te) (v:Tv) (hg:∃ a n c,v.g=.slice a n c) (ho:∃ a n c,v.o=.slice a n c) (hti:∃ a n c,v.ti=.slice a n c) (hpp:∃ a n c,v.pp=.slice a n c) (hpt:∃ a n c,v.pt=.slice a n c):(teCs t v).toList.all (·.oneCell')=true:=by
 obtain ⟨vg,vo,vti,vpp,vpt⟩:=v;obtain ⟨_,_,_,h1⟩:=hg;obtain ⟨_,_,_,h2⟩:=ho;obtain ⟨_,_,_,h3⟩:=hti;obtain ⟨_,_,_,h4⟩:=hpp;obtain ⟨_,_,_,h5⟩:=hpt;simp only at h1 h2 h3 h4 h5;subst h1;subst h2;subst h3;subst h4;subst h5
 rfl
theorem SlT.one {w:World} {t:Te} {v:Tv} (h:SlT w t v):(teCs t v).toList.all (·.oneCell')=true:=by
 obtain ⟨h1,h2,h3,h4,h5⟩:=h;obtain ⟨_,_,e1⟩:=sGs h1;obtain ⟨_,_,e2⟩:=sGs h2;obtain ⟨_,_,e3⟩:=h3.shp;obtain ⟨_,_,e4⟩:=h4.shp;obtain ⟨_,_,e5⟩:=h5.shp;exact one_te t v ⟨_,_,_,e1⟩ ⟨_,_,_,e2⟩ ⟨_,_,_,e3⟩ ⟨_,_,_,e4⟩ ⟨_,_,_,e5⟩
def newT (cols n:Int) (rows:List (List Ce)):Te:=⟨cols,rows,cols,rows,0,0,St.zero,0,n-1,false,true,false,false,0,0,St.zero,[],⟨1,[],0,[]⟩,⟨#[]⟩⟩
def teZ:Te:=⟨0,[],0,[],0,0,St.zero,0,0,false,false,false,false,0,0,St.zero,[],⟨0,[],0,[]⟩,⟨#[]⟩⟩
def tvN (u1 u2:Value):Tv:=⟨u1,u2,.slice none 0 0,.slice none 0 0,.slice none 0 0⟩
theorem ownR_none (w:World) (b:Nat) (hb:b<=w.heap.size):OwnR w b b (.slice none 0 0) []:=⟨ownG_none _ _ _,fun g e=>by simp [Value.ownBlock] at e,hb⟩
theorem l7New_any (cols n:Nat) (w:World) (hc:cols<=1000) (hn1:1<=n) (hn:n<=1000) :
  Calls Tryz.prog 57 #[.int .i64 (cols:Int),.int .i64 (n:Int)] w fun e w'=>∃ u1 u2,e=.returned (.agg (teCs (newT cols n (newR cols n)) (tvN u1 u2)))/\OwnT w' w.heap.size (newT cols n (newR cols n)) (tvN u1 u2)/\Below w.heap.size w w':=by
 have hR:=TB.new w [.int .i64 0,.slice none 0 0,.int .i64 0,.slice none 0 0,.int .i64 0,.int .i64 0,.int .i64 0,.int .i64 0,.bool false,.bool false,.bool false,.int .i64 0,.int .i64 0,.bool false,.bool false,.bool false,.bool false,.int .i64 0,.int .i64 0,.int .i64 0,.int .i64 0,.bool false,.bool false,.bool false,.slice none 0 0,.int .i64 0,.slice none 0 0,.int .i64 0,.slice none 0 0,.string ⟨#[]⟩];have hb0:=bal' w (Obj.cells #[.int .i64 0,.slice none 0 0,.int .i64 0,.slice none 0 0,.int .i64 0,.int .i64 0,.int .i64 0,.int .i64 0,.bool false,.bool false,.bool false,.int .i64 0,.int .i64 0,.bool false,.bool false,.bool false,.bool false,.int .i64 0,.int .i64 0,.int .i64 0,.int .i64 0,.bool false,.bool false,.bool false,.slice none 0 0,.int .i64 0,.slice none 0 0,.int .i64 0,.slice none 0 0,.string ⟨#[]⟩] 35);have hz0:(w.alloc (Obj.cells #[.int .i64 0,.slice none 0 0,.int .i64 0,.slice none 0 0,.int .i64 0,.int .i64 0,.int .i64 0,.int .i64 0,.bool false,.bool false,.bool false,.int .i64 0,.int .i64 0,.bool false,.bool false,.bool false,.bool false,.int .i64 0,.int .i64 0,.int .i64 0,.int .i64 0,.bool false,.bool false,.bool false,.slice none 0 0,.int .i64 0,.slice none 0 0,.int .i64 0,.slice none 0 0,.string ⟨#[]⟩] 35)).heap.size=w.heap.size+1:=by simp
 have hN:=fun W=>l5New_any cols n W hc hn
 have hP:=fun W=>l6State_any 1 W
 have hni:(1:Int)<=(n:Int):=by omega
 have hni2:(n:Int)<=1000:=by omega
 unfold gridV at hN;go_enter Tryz.func57,Tryz.ntmps57;go_wp2_with fail;refine (hN _).mono ?_;rintro e w1 ⟨u1,rfl,ho1,hb⟩;obtain ⟨xa,xn,xc,hx⟩:=slShp (SlG.of_own ho1);subst hx;have og:OwnR w1 (w.heap.size+1) w1.heap.size (.slice xa xn xc) (newR cols n):=by rw [<- hz0];exact OwnR.of ho1
 replace hR:=hR.below hb;have kb:=hb0.trans (hb.mono hb0.size);have s1:w.heap.size+1<=w1.heap.size:=by rw [<- hz0];exact hb.size
 clear hb hb0 ho1 hz0;go_wp2_with fail;refine (hN _).mono ?_;rintro e w2 ⟨u2,rfl,ho2,hb⟩;obtain ⟨ya,yn,yc,hy⟩:=slShp (SlG.of_own ho2);subst hy;have oo:OwnR w2 w1.heap.size w2.heap.size (.slice ya yn yc) (newR cols n):=OwnR.of ho2;replace hR:=hR.below hb;replace og:=og.below hb;replace kb:=kb.trans (hb.mono kb.size);have s2:=hb.size;clear hb ho2;go_wp2_with fail;refine (hP _).mono ?_;rintro e w3 ⟨rfl,hb⟩;replace hR:=hR.below hb;replace og:=og.below hb;replace oo:=oo.below hb;replace kb:=kb.trans (hb.mono kb.size);have s3:=hb.size;clear hb hN hP;go_wp2_with (refine store_T (cs:=teCs (newT cols n (newR cols n)) (tvN (.slice xa xn xc) (.slice ya yn yc))) (by rfl) 35 _ _ (by rfl) info_te (by rfl) (by rfl) hR (by rfl) (by rfl) ?_;intro w4 hg hR4 hz4)
 have hO:OwnT w4 w.heap.size (newT cols n (newR cols n)) (tvN (.slice xa xn xc) (.slice ya yn yc)) :=
  ⟨w1.heap.size,w2.heap.size,w2.heap.size,OwnR.low (og.grown hg (by omega)) (by omega),oo.grown hg (by omega),(LiOk.nil _ _).nilc.nilc.nilc,by omega,by omega,Nat.le_refl _,by omega⟩
 exact bodyPost_ret (v:=.agg (teCs (newT cols n (newR cols n)) (tvN (.slice xa xn xc) (.slice ya yn yc)))) (results_cell_row Tryz.results57 _ _ _ _ _ _ _ rfl hR4 Tryz.underlying35 rfl info_te) rfl ⟨_,_,rfl,hO,kb.grown hg kb.size (fun g e=>by cases e;exact Nat.le_refl _)⟩
def backS (s:St):St:=⟨0,s.back,false,false,false⟩
def moveT (t:Te) (a b n:Int):Te:={ t with g:=moveR t.gc.toNat t.g a.toNat b.toNat n (backS t.st) }
def lineT (t:Te):Te:=if t.row=t.bot then moveT t t.top t.bot 1 else if t.row<(t.g.length:Int)-1 then { t with row:=t.row+1 } else t
def rowT (t:Te) (r:Int) (xs:List Ce):Te:={ t with g:=t.g.set r.toNat xs }
def clearT (t:Te) (r p q:Int):Te:=rowT t r (clearL (rowX t.g r.toNat) p.toNat q.toNat (backS t.st))
def printT (t:Te) (r:Int):Te :=
 if wdV r=0\/t.gc<wdV r then t
 else
  let t1:=if t.full=true/\t.wrap=true then lineT { t with full:=false,col:=0 } else { t with full:=false }
  let t2:=if t.gc<t1.col+wdV r then (if t1.wrap=true then lineT { t1 with col:=0 } else { t1 with col:=t.gc-wdV r }) else t1
  let t3:=rowT t2 t2.row (writeL (rowX t2.g t2.row.toNat) t2.col.toNat r t2.st)
  if t.gc<=t2.col+wdV r then { t3 with col:=t.gc-1,full:=true } else { t3 with col:=t2.col+wdV r }
def controlT (t:Te) (r:Int):Te :=
 if r=8 then { t with col:=max 0 (t.col-1),full:=false }
 else if r=9 then { t with col:=min (t.gc-1) (t.col / 8*8+8),full:=false }
 else if r=10\/r=11\/r=12 then { lineT t with full:=false }
 else if r=13 then { t with col:=0,full:=false }
 else t
def anewT (t:Te):Te:={ newT t.gc (t.g.length:Int) (newR t.gc.toNat t.g.length) with ti:=t.ti,pa:=t.pa,fe:=t.fe }
def escapeT (t:Te) (r:Int):Te :=
 if r=68 then { lineT t with full:=false }
 else if r=69 then { lineT t with col:=0,full:=false }
 else if r=77 then (if t.row=t.top then { moveT t t.top t.bot (-1) with full:=false } else { t with row:=max 0 (t.row-1),full:=false })
 else if r=55 then { t with sr:=t.row,sc:=t.col,ss:=t.st,full:=false }
 else if r=56 then { t with row:=t.sr,col:=t.sc,st:=t.ss,full:=false }
 else if r=99 then anewT t
 else t
def parN (p:List Int) (i:Nat) (u:Int):Int:=if p.getD i 0=0 then u else p.getD i 0
def goT (t:Te) (r c:Int):Te:={ t with row:=max 0 (min ((t.g.length:Int)-1) r),col:=max 0 (min (t.gc-1) c) }
def eraseRow (t:Te) (how:Int):Te:=if how=0 then clearT t t.row t.col t.gc else if how=1 then clearT t t.row 0 (t.col+1) else if how=2 then clearT t t.row 0 t.gc else t
def eraseAll (t:Te) (how:Int):Te:={ t with g:=genR t.g.length fun i =>
 if how=2\/how=0/\t.row<(i:Int)\/how=1/\(i:Int)<t.row then clearL (rowX t.g i) 0 t.gc.toNat (backS t.st) else rowX (eraseRow t how).g i }
def listT (t:Te) (r:Int) (p:List Int):Te :=
 let n:=parN p 0 1
 let how:=parN p 0 0
 let t0:={ t with full:=false }
 if r=65 then { t0 with row:=max (if t.top<=t.row then t.top else 0) (t.row-n) }
 else if r=66 then { t0 with row:=min (if t.row<=t.bot then t.bot else (t.g.length:Int)-1) (t.row+n) }
 else if r=67 then goT t0 t.row (t.col+n)
 else if r=68 then goT t0 t.row (t.col-n)
 else if r=71 then goT t0 t.row (n-1)
 else if r=100 then goT t0 (n-1) t.col
 else if r=72\/r=102 then goT t0 (n-1) (parN p 1 1-1)
 else if r=74 then eraseAll t0 how
 else if r=75 then eraseRow t0 how
 else if r=76\/r=77 then (if t.top<=t.row/\t.row<=t.bot then { moveT t0 t.row t.bot (if r=76 then -n else n) with col:=0 } else t0)
 else if r=64 then rowT t0 t.row (pushL (rowX t.g t.row.toNat) t.col.toNat (min n (t.gc-t.col)).toNat (backS t.st))
 else if r=80 then rowT t0 t.row (pullL (rowX t.g t.row.toNat) t.col.toNat (min n (t.gc-t.col)).toNat (backS t.st))
 else if r=88 then clearT t0 t.row t.col (min t.gc (t.col+n))
 else if r=83 then moveT t0 t.top t.bot n
 else if r=84 then moveT t0 t.top t.bot (-n)
 else if r=109 then { t with st:=stylN t.st p }
 else if r=114 then
  let b:=parN p 1 (t.g.length:Int)-1
  if n-1<b/\b<=(t.g.length:Int)-1 then { t0 with top:=n-1,bot:=b,row:=0,col:=0 } else t0
 else t
def modeT (on:Bool) (t:Te) (m:Int):Te :=
 if m=7 then { t with wrap:=on }
 else if m=25 then { t with hid:=!on }
 else if m=1049 then (if t.away=on then t else
  { t with gc:=t.oc,g:=if on=true then newR t.gc.toNat t.g.length else t.o,oc:=t.gc,o:=t.g,away:=on })
 else t
def doT (t:Te) (a:Ac):Te :=
 if a.kind=1 then printT t a.rune
 else if a.kind=2 then controlT t a.rune
 else if a.kind=3 then escapeT t a.rune
 else if a.kind=4 then (if a.mark=0 then listT t a.rune a.params else if a.rune=104\/a.rune=108 then a.params.foldl (modeT (decide (a.rune=104))) t else t)
 else if a.kind=5 then { t with ti:=a.text }
 else t
end Go.Proofs.YtgcnmjjlmcnllaaGreatDoor
