/- Parts of the proof. -/
import Derived.Test.YtgcnmjjlmcnllaaGreatDoorP4
import Derived.Deep.RegionHeld3
import Derived.Deep.DrawnRows
import Derived.KernelRfl
import Derived.Lib.Strings
import Derived.Lib.Walk
import Derived.Lib.BufferWrite
import Derived.Lib.UnsafeStr
import Derived.Laws.MakeOwn
namespace Go.Proofs.YtgcnmjjlmcnllaaGreatDoor
set_option maxRecDepth 20000
set_option maxHeartbeats 16000000
open Go.ChangeShapes Go.WideShapes Go.ChangeAt Go.RowKit
def pushL (xs:List Ce) (p n:Nat) (s:St):List Ce:=if n=0 then xs else mendV ((mendV (xs.take p)++rowL n s++mendV (xs.drop p)).take xs.length)
theorem SlC.take {w:World} {a:Option Addr} {n c:Nat} {xs:List Ce} (h:SlC w (.slice a n c) xs) (k:Nat) (hk:k<=n):SlC w (.slice a k c) (xs.take k):=by
 obtain ⟨a',c',e,hc,hn,hr⟩:=h;simp only [Value.slice.injEq] at e;obtain ⟨rfl,rfl,rfl⟩:=e;have hl:(xs.take k).length=k:=by rw [List.length_take];omega
 refine ⟨a,c,by rw [hl],by omega,hn,?_⟩;rcases hr with h|⟨b,off,ha,hb,hi⟩
 ·left;rw [h];simp
 ·right
  refine ⟨b,off,ha,hb,fun i h=>?_⟩;rw [hl] at h
  rw [atC_take xs k i h]
  exact hi i (by omega)
theorem SlC.drop {w:World} {b off n c:Nat} {xs:List Ce} (h:SlC w (.slice (some ⟨b,off,none⟩) n c) xs) (k:Nat) (hk:k<n):SlC w (.slice (some ⟨b,off+k*7,none⟩) (n-k) (c-k)) (xs.drop k):=by
 obtain ⟨a',c',e,hc,hn,hr⟩:=h;simp only [Value.slice.injEq] at e;obtain ⟨rfl,rfl,rfl⟩:=e;have hl:(xs.drop k).length=xs.length-k:=by simp
 refine ⟨_,c-k,by rw [hl],by omega,(fun h=>by cases h),?_⟩;rcases hr with h|⟨b',off',ha,hb,hi⟩
 ·rw [h] at hk;simp at hk
 ·cases ha
  right
  refine ⟨b,off+k*7,rfl,hb,fun i h=>?_⟩;rw [hl] at h
  rw [atC_drop]
  have:=hi (k+i) (by omega);have e:off+k*7+i*7=off+(k+i)*7:=by omega
  rw [e];exact this
theorem l4Pushed_any (v:Value) (xs:List Ce) (p n:Nat) (s:St) (w:World) (hv:SlC w v xs) (hp:p<xs.length) (hn:n<=xs.length) (hl:xs.length<=1000) :
  Calls Tryz.prog 215 #[v,.int .i64 p,.int .i64 n,stV s] w fun e w'=>∃ u,e=.returned u/\OwnC w' w.heap.size u (pushL xs p n s)/\Below w.heap.size w w':=by
 have h2:=StAt.new w s 28;have hbA:=bal' w (Obj.cells #[.int .i64 s.fore,.int .i64 s.back,.bool s.bold,.bool s.under,.bool s.turned] 28);have hsz:(w.alloc (Obj.cells #[.int .i64 s.fore,.int .i64 s.back,.bool s.bold,.bool s.under,.bool s.turned] 28)).heap.size=w.heap.size+1:=by simp
 have hv1:=hv.below hbA;obtain ⟨a,c,rfl,hcp,hna,hr⟩:=id hv
 obtain ⟨b,off,rfl,hbb,hsrc⟩:∃ b off,a=some ⟨b,off,none⟩/\b<w.heap.size/\∀ i,i<xs.length->CeAt w b (off+i*7) (atC xs i):=by
  rcases hr with h|h
  ·rw [h] at hp;simp at hp
  ·exact h
 have hpi:(p:Int)<(xs.length:Int):=by omega
 have hp0:(0:Int)<=(p:Int):=by omega
 have hpc:(p:Int)<=(c:Int):=by omega
 have hpn:(p:Int)<=(xs.length:Int):=by omega
 have hv0:=hv
 by_cases h0:n=0
 ·have hnb:((n:Int)==0)=true:=by simp [h0]
  have hP:Hid (pushL xs p n s=xs):=by show _=_;unfold pushL;rw [if_pos h0]
  have k00:=ownC_nil (w.alloc (Obj.cells #[.int .i64 s.fore,.int .i64 s.back,.bool s.bold,.bool s.under,.bool s.turned] 28)) (w.heap.size+1) (by simp);rw [hsz] at k00
  have k0:OC (w.heap.size+1) (.slice (some ⟨w.heap.size+1,0,none⟩) 0 0) [] w ((w.alloc (Obj.cells #[.int .i64 s.fore,.int .i64 s.back,.bool s.bold,.bool s.under,.bool s.turned] 28)).alloc (Obj.cells #[] 146)):=⟨k00,hbA.trans ((bal' _ _).mono hbA.size),by simp,by omega⟩;have hvv:=hv1.below (bal' _ (Obj.cells #[] 146));clear h0 hv hv1 hbA h2;unfold stV at *;go_enter Tryz.func215,Tryz.ntmps215;go_wp2_with (at_builtin;refine append_os rfl _ _ rfl (w.heap.size+1) _ [] rfl (by exact k0.1) k0.2.2.1 _ xs hvv rfl (by simp;omega) ?_;intro u4 w4 ho4 hg4);go_ret;have k4:OC (w.heap.size+1) u4 xs w w4:=k0.own (by simpa using ho4) hg4;exact ⟨u4,rfl,by rw [hP.out];exact k4.1.low (by omega),k4.2.1⟩
 ·have hnb:((n:Int)==0)=false:=by simp [h0]
  have hm1:=fun W h=>l4Mended_any (.slice (some ⟨b,off,none⟩) p c) (xs.take p) W h (by rw [List.length_take];omega)
  have hrow:=fun W=>l4Row_any n s W (by omega)
  unfold stV at *;go_enter Tryz.func215,Tryz.ntmps215;go_wp2_with fail;refine (hm1 _ (hv1.take p (by omega))).mono ?_;rintro e w2 ⟨u2,rfl,ho2,hb2⟩;have hs:=h2.below hb2;have kb:=hbA.trans (hb2.mono hbA.size);have hv2:=hv1.below hb2;clear hm1 hv1 h2 hbA hv;obtain ⟨_,⟨c0,c1,c2,c3,c4⟩,_⟩:=id hs;go_wp2_with fail;refine (hrow _).mono ?_;rintro e w3 ⟨u3,rfl,ho3,hb3⟩;go_wp2_with (at_builtin;refine append_os rfl _ _ rfl (w.heap.size+1) _ (mendV (xs.take p)) rfl (by exact (ho2.below hb3).low (by rw [hsz];exact Nat.le_refl _)) (by have:=hb2.size;have:=hb3.size;omega) _ (rowL n s) (SlC.of_own ho3) rfl (by rw [mendV_len,bigRow,List.length_take];omega) ?_;intro u4 w4 ho4 hg4)
  have k4:OC (w.heap.size+1) u4 (mendV (xs.take p)++rowL n s) w w4:=by
   have k2:OC (w.heap.size+1) u2 (mendV (xs.take p)) w w2:=⟨ho2.low (by rw [hsz];exact Nat.le_refl _),kb,by have:=hb2.size;omega,by omega⟩;exact (k2.below hb3).own ho4 hg4
  have hv4:=hv0.below k4.2.1;clear ho2 ho3 hb3 hg4 ho4 hs c0 c1 c2 c3 c4 hv2 kb hrow hb2;have hm2:=l4Mended_any _ (xs.drop p) w4 (hv4.drop p hp) (by simp;omega);refine hm2.mono ?_;clear hm2;rintro e w5 ⟨u5,rfl,ho5,hb5⟩;have k5:=k4.below hb5;go_wp2_with (at_builtin;refine append_os rfl _ _ rfl (w.heap.size+1) _ (mendV (xs.take p)++rowL n s) rfl (by exact k5.1) k5.2.2.1 _ (mendV (xs.drop p)) (SlC.of_own ho5) rfl (by rw [List.length_append,mendV_len,mendV_len,bigRow,List.length_take,List.length_drop];omega) ?_;intro u6 w6 ho6 hg6);have k6:OC (w.heap.size+1) u6 (mendV (xs.take p)++rowL n s++mendV (xs.drop p)) w w6:=k5.own ho6 hg6;clear ho6 hg6 k5 ho5 hb5 k4 hv4;have hP:Hid (pushL xs p n s=mendV ((mendV (xs.take p)++rowL n s++mendV (xs.drop p)).take xs.length)):=by show _=_;unfold pushL;rw [if_neg h0]
  have hL:(mendV (xs.take p)++rowL n s++mendV (xs.drop p)).length=xs.length+n:=by rw [List.length_append,List.length_append,mendV_len,mendV_len,bigRow,List.length_take,List.length_drop];omega
  generalize mendV (xs.take p)++rowL n s++mendV (xs.drop p)=Z at *;rcases k6.1.shape with ⟨_,hz⟩|⟨g,cap,rfl,hbg,hlg,hcap⟩
  ·rw [hz] at hL;simp at hL;omega
  ·have hsl:=SlC.of_own k6.1
   rw [hL] at hcap hsl ⊢
   have hm3:=l4Mended_any (.slice (some ⟨g,0,none⟩) xs.length cap) (Z.take xs.length) w6 (hsl.take xs.length (by omega)) (by rw [List.length_take];omega);have hci:(xs.length:Int)<=(cap:Int):=by omega
   have hxi:(0:Int)<=(xs.length:Int):=by omega
   have hxm:(xs.length:Int)<=((xs.length+n:Nat):Int):=by omega
   generalize xs.length+n=M at *;generalize hX:xs.length=X at *;go_simp;go_wp2_with fail;refine hm3.mono ?_;rintro e w7 ⟨u7,rfl,ho7,hb7⟩;go_wp2;go_ret;exact ⟨u7,rfl,by rw [hP.out];exact ho7.low k6.2.1.size,k6.2.1.trans (hb7.mono k6.2.1.size)⟩
theorem l1Min_any (a b:Int) (w:World) :
  Calls Tryz.prog 158 #[.int .i64 a,.int .i64 b] w fun e w'=>e=.returned (.int .i64 (min a b))/\w'=w:=by
 by_cases h:a<b
 ·have hm:Hid (min a b=a):=by show _=_;omega
  go_enter Tryz.func158,Tryz.ntmps158;go_wp2;go_ret;exact ⟨by rw [hm.out];rfl,rfl⟩
 ·have hm:Hid (min a b=b):=by show _=_;omega
  go_enter Tryz.func158,Tryz.ntmps158;go_wp2;go_ret;exact ⟨by rw [hm.out];rfl,rfl⟩
def pullL (xs:List Ce) (p n:Nat) (s:St):List Ce:=if min n (xs.length-p)=0 then xs else mendV (xs.take p)++mendV (xs.drop (p+min n (xs.length-p)))++rowL (min n (xs.length-p)) s
theorem slC_end {w:World} (a:Addr) (c:Nat):SlC w (.slice (some a) 0 c) []:=⟨_,c,rfl,Nat.zero_le _,(fun h=>by cases h),.inl rfl⟩
theorem l4Pulled_any (v:Value) (xs:List Ce) (p n:Nat) (s:St) (w:World) (hv:SlC w v xs) (hp:p<xs.length) (_hn:n<=xs.length) (hl:xs.length<=1000) :
  Calls Tryz.prog 216 #[v,.int .i64 p,.int .i64 n,stV s] w fun e w'=>∃ u,e=.returned u/\OwnC w' w.heap.size u (pullL xs p n s)/\Below w.heap.size w w':=by
 have h2:=StAt.new w s 28;have hbA:=bal' w (Obj.cells #[.int .i64 s.fore,.int .i64 s.back,.bool s.bold,.bool s.under,.bool s.turned] 28);have hsz:(w.alloc (Obj.cells #[.int .i64 s.fore,.int .i64 s.back,.bool s.bold,.bool s.under,.bool s.turned] 28)).heap.size=w.heap.size+1:=by simp
 have hv1:=hv.below hbA;obtain ⟨a,c,rfl,hcp,hna,hr⟩:=id hv
 obtain ⟨b,off,rfl,hbb,hsrc⟩:∃ b off,a=some ⟨b,off,none⟩/\b<w.heap.size/\∀ i,i<xs.length->CeAt w b (off+i*7) (atC xs i):=by
  rcases hr with h|h
  ·rw [h] at hp;simp at hp
  ·exact h
 have hpi:(p:Int)<(xs.length:Int):=by omega
 have hp0:(0:Int)<=(p:Int):=by omega
 have hpc:(p:Int)<=(c:Int):=by omega
 have hpn:(p:Int)<=(xs.length:Int):=by omega
 have hv0:=hv;have hmin:=fun W=>l1Min_any (n:Int) ((xs.length:Int)-(p:Int)) W
 have hme:min (n:Int) ((xs.length:Int)-(p:Int))=((min n (xs.length-p):Nat):Int):=by omega
 rw [hme] at hmin
 have hPP:Hid (pullL xs p n s=if min n (xs.length-p)=0 then xs else mendV (xs.take p)++mendV (xs.drop (p+min n (xs.length-p)))++rowL (min n (xs.length-p)) s):=rfl;have hml:p+min n (xs.length-p)<=xs.length:=by omega
 clear hme hsrc hr hna;generalize min n (xs.length-p)=m at *
 by_cases h0:m=0
 ·have hnb:((m:Int)==0)=true:=by simp [h0]
  have hP:Hid (pullL xs p n s=xs):=by show _=_;rw [hPP.out,if_pos h0]
  have k00:=ownC_nil (w.alloc (Obj.cells #[.int .i64 s.fore,.int .i64 s.back,.bool s.bold,.bool s.under,.bool s.turned] 28)) (w.heap.size+1) (by simp);rw [hsz] at k00
  have k0:OC (w.heap.size+1) (.slice (some ⟨w.heap.size+1,0,none⟩) 0 0) [] w ((w.alloc (Obj.cells #[.int .i64 s.fore,.int .i64 s.back,.bool s.bold,.bool s.under,.bool s.turned] 28)).alloc (Obj.cells #[] 146)):=⟨k00,hbA.trans ((bal' _ _).mono hbA.size),by simp,by omega⟩;have hvv:=hv1.below (bal' _ (Obj.cells #[] 146));clear h0 hv hv1 hbA h2 hPP;unfold stV at *;go_enter Tryz.func216,Tryz.ntmps216
  go_wp2_with (first
   | (go_at_call 158;refine (hmin _).mono ?_;rintro e w1 ⟨rfl,hw⟩;subst hw)
   | (at_builtin;refine append_os rfl _ _ rfl (w.heap.size+1) _ [] rfl (by exact k0.1) k0.2.2.1 _ xs hvv rfl (by simp;omega) ?_;intro u4 w4 ho4 hg4))
  go_ret;have k4:OC (w.heap.size+1) u4 xs w w4:=k0.own (by simpa using ho4) hg4;exact ⟨u4,rfl,by rw [hP.out];exact k4.1.low (by omega),k4.2.1⟩
 ·have hnb:((m:Int)==0)=false:=by simp [h0]
  have hP:Hid (pullL xs p n s=mendV (xs.take p)++mendV (xs.drop (p+m))++rowL m s):=by show _=_;rw [hPP.out,if_neg h0]
  have hm1:=fun W h=>l4Mended_any (.slice (some ⟨b,off,none⟩) p c) (xs.take p) W h (by rw [List.length_take];omega)
  have hrow:=fun W=>l4Row_any m s W (by omega)
  have hq:∃ ad,(∀ W:World,SlC W (.slice (some ⟨b,off,none⟩) xs.length c) xs->SlC W (.slice (some ad) (xs.length-(p+m)) (c-(p+m))) (xs.drop (p+m)))/\(if c=p+m then some (⟨b,off,none⟩:Addr) else some (⟨b,off+(p+m)*7,none⟩:Addr))=some ad:=by
   by_cases hc:c=p+m
   ·refine ⟨⟨b,off,none⟩,fun W _=>?_,by rw [if_pos hc]⟩
    have e:xs.length=p+m:=by omega
    have e2:xs.drop (p+m)=[]:=by rw [<- e];simp
    rw [e2,e,Nat.sub_self]
    exact slC_end _ _
   ·refine ⟨⟨b,off+(p+m)*7,none⟩,fun W h=>?_,by rw [if_neg hc]⟩
    by_cases hx:p+m<xs.length
    ·exact h.drop (p+m) hx
    ·have e:xs.length=p+m:=by omega
     have e2:xs.drop (p+m)=[]:=by rw [<- e];simp
     rw [e2,e,Nat.sub_self]
     exact slC_end _ _
  obtain ⟨ad,hdrop,had⟩:=hq;clear hPP h0;unfold stV at *;go_enter Tryz.func216,Tryz.ntmps216;go_wp2_with (go_at_call 158;refine (hmin _).mono ?_;rintro e w1 ⟨rfl,hw⟩;subst hw);refine (hm1 _ (hv1.take p (by omega))).mono ?_;rintro e w2 ⟨u2,rfl,ho2,hb2⟩;have hs:=h2.below hb2;have kb:=hbA.trans (hb2.mono hbA.size);have k2:OC (w.heap.size+1) u2 (mendV (xs.take p)) w w2:=⟨ho2.low (by rw [hsz];exact Nat.le_refl _),kb,by have:=hb2.size;omega,by omega⟩;have hv2:=hv0.below kb;clear hm1 hv1 h2 hbA hv ho2 kb hb2 hmin;have hpm0:(0:Int)<=(p:Int)+(m:Int):=by omega
  have hpmx:(p:Int)+(m:Int)<=(xs.length:Int):=by omega
  have hpmc:(p:Int)+(m:Int)<=(c:Int):=by omega
  go_wp2_with fail
  ·have ec:c-(p+m)=0:=by rename_i hh;omega
   rw [ec] at hdrop
   have hm2:=l4Mended_any (.slice (some ad) (xs.length-(p+m)) 0) (xs.drop (p+m)) w2 (hdrop w2 hv2) (by rw [List.length_drop];omega);refine hm2.mono ?_;clear hm2;rintro e w3 ⟨u3,rfl,ho3,hb3⟩;have hs3:=hs.below hb3;have k3:=k2.below hb3;go_wp2_with (at_builtin;refine append_os rfl _ _ rfl (w.heap.size+1) _ (mendV (xs.take p)) rfl (by exact k3.1) k3.2.2.1 _ (mendV (xs.drop (p+m))) (SlC.of_own ho3) rfl (by rw [mendV_len,mendV_len,List.length_take,List.length_drop];omega) ?_;intro u4 w4 ho4 hg4;have hs4:=hs3.own k3.1 (Nat.lt_succ_self _) hg4;have hss:=hs4;obtain ⟨_,⟨c0,c1,c2,c3,c4⟩,_⟩:=hss);have k4:OC (w.heap.size+1) u4 (mendV (xs.take p)++mendV (xs.drop (p+m))) w w4:=k3.own ho4 hg4;clear ho3 hb3 k3 ho4 hg4 hs3;refine (hrow _).mono ?_;rintro e w5 ⟨u5,rfl,ho5,hb5⟩;have k5:=k4.below hb5;go_wp2_with (at_builtin;refine append_os rfl _ _ rfl (w.heap.size+1) _ (mendV (xs.take p)++mendV (xs.drop (p+m))) rfl (by exact k5.1) k5.2.2.1 _ (rowL m s) (SlC.of_own ho5) rfl (by rw [List.length_append,mendV_len,mendV_len,bigRow,List.length_take,List.length_drop];omega) ?_;intro u6 w6 ho6 hg6);go_ret;have k6:OC (w.heap.size+1) u6 (mendV (xs.take p)++mendV (xs.drop (p+m))++rowL m s) w w6:=k5.own ho6 hg6;exact ⟨u6,rfl,by rw [hP.out];exact k6.1.low (by omega),k6.2.1⟩
  ·have hm2:=l4Mended_any (.slice (some ad) (xs.length-(p+m)) (c-(p+m))) (xs.drop (p+m)) w2 (hdrop w2 hv2) (by rw [List.length_drop];omega)
   refine hm2.mono ?_;clear hm2;rintro e w3 ⟨u3,rfl,ho3,hb3⟩;have hs3:=hs.below hb3;have k3:=k2.below hb3;go_wp2_with (at_builtin;refine append_os rfl _ _ rfl (w.heap.size+1) _ (mendV (xs.take p)) rfl (by exact k3.1) k3.2.2.1 _ (mendV (xs.drop (p+m))) (SlC.of_own ho3) rfl (by rw [mendV_len,mendV_len,List.length_take,List.length_drop];omega) ?_;intro u4 w4 ho4 hg4;have hs4:=hs3.own k3.1 (Nat.lt_succ_self _) hg4;have hss:=hs4;obtain ⟨_,⟨c0,c1,c2,c3,c4⟩,_⟩:=hss);have k4:OC (w.heap.size+1) u4 (mendV (xs.take p)++mendV (xs.drop (p+m))) w w4:=k3.own ho4 hg4;clear ho3 hb3 k3 ho4 hg4 hs3;refine (hrow _).mono ?_;rintro e w5 ⟨u5,rfl,ho5,hb5⟩;have k5:=k4.below hb5;go_wp2_with (at_builtin;refine append_os rfl _ _ rfl (w.heap.size+1) _ (mendV (xs.take p)++mendV (xs.drop (p+m))) rfl (by exact k5.1) k5.2.2.1 _ (rowL m s) (SlC.of_own ho5) rfl (by rw [List.length_append,mendV_len,mendV_len,bigRow,List.length_take,List.length_drop];omega) ?_;intro u6 w6 ho6 hg6);go_ret;have k6:OC (w.heap.size+1) u6 (mendV (xs.take p)++mendV (xs.drop (p+m))++rowL m s) w w6:=k5.own ho6 hg6;exact ⟨u6,rfl,by rw [hP.out];exact k6.1.low (by omega),k6.2.1⟩
theorem l3Param_any (s:St) (n:Int) (w:World) :
  Calls Tryz.prog 247 #[stV s,.int .i64 n] w fun e w'=>e=.returned (stV (paramV s n))/\Below w.heap.size w w':=by
 obtain ⟨f,b,bo,un,tu⟩:=s;unfold stV;simp only;go_enter Tryz.func247,Tryz.ntmps247;go_wp2_with (go_at_call 73;refine (l1In_any _ _ _ _).mono ?_;rintro e w' ⟨rfl,hw⟩;subst hw)
 all_goals
  refine bodyPost_ret (v:=stV (paramV ⟨f,b,bo,un,tu⟩ n)) ?_ rfl ⟨rfl,?_⟩
  ·(try simp only [beq_iff_eq,beq_eq_false_iff_ne,ne_eq] at *)
   unfold paramV
   repeat' split
   all_goals first
    | (exfalso;omega)
    | (simp [results,Tryz.results247,go_sem,stV,St.zero];done)
    | (simp [results,Tryz.results247,go_sem,stV,*];done)
    | (simp [results,Tryz.results247,go_sem,stV,St.zero];omega)
  ·exact ((Below.refl _ _).alloc (Nat.le_refl _) _).alloc (by simp) _
end Go.Proofs.YtgcnmjjlmcnllaaGreatDoor
namespace Go.Proofs.YtgcnmjjlmcnllaaGreatDoor
set_option maxRecDepth 20000
set_option maxHeartbeats 16000000
open Go.ChangeShapes Go.WideShapes Go.ChangeAt Go.RowKit
attribute [local go_sem ↓] Go.wp_at_zero Go.wp_at_succ
def KS (B2 B4 bb o:Nat) (n:Int) (s z:St) (w0 W:World):Prop:=StAt W B2 s/\StAt W B4 z/\(bb<w0.heap.size/\W.cell? ⟨bb,o,none⟩=some (.int .i64 n))/\Below w0.heap.size w0 W
theorem KS.below {B2 B4 bb o:Nat} {n:Int} {s z:St} {w0 W W':World} (k:KS B2 B4 bb o n s z w0 W) (hb:Below W.heap.size W W'):KS B2 B4 bb o n s z w0 W' :=
 ⟨k.1.below hb,k.2.1.below hb,⟨k.2.2.1.1,(hb.cell (p:=⟨bb,o,none⟩) (Nat.lt_of_lt_of_le k.2.2.1.1 k.2.2.2.size)).trans k.2.2.1.2⟩,k.2.2.2.trans (hb.mono k.2.2.2.size)⟩

theorem l3Param_ks (B2 B4 bb o:Nat) (n:Int) (s z:St) (w0 W:World) (k:W.cell? ⟨B2,0,none⟩=some (.int .i64 s.fore)/\W.cell? ⟨B2,1,none⟩=some (.int .i64 s.back)/\W.cell? ⟨B2,2,none⟩=some (.bool s.bold)/\W.cell? ⟨B2,3,none⟩=some (.bool s.under)/\W.cell? ⟨B2,4,none⟩=some (.bool s.turned)/\W.cell? ⟨bb,o,none⟩=some (.int .i64 n)/\KS B2 B4 bb o n s z w0 W) :
  Calls Tryz.prog 247 #[stV s,.int .i64 n] W fun e w'=>e=.returned (.agg #[.int .i64 (paramV s n).fore,.int .i64 (paramV s n).back,.bool (paramV s n).bold,.bool (paramV s n).under,.bool (paramV s n).turned])/\(w'.cell? ⟨B2,0,none⟩=some (.int .i64 s.fore)/\w'.cell? ⟨B2,1,none⟩=some (.int .i64 s.back)/\w'.cell? ⟨B2,2,none⟩=some (.bool s.bold)/\w'.cell? ⟨B2,3,none⟩=some (.bool s.under)/\w'.cell? ⟨B2,4,none⟩=some (.bool s.turned)/\w'.cell? ⟨bb,o,none⟩=some (.int .i64 n)/\KS B2 B4 bb o n s z w0 w') :=
 (l3Param_any s n W).mono fun _ _ ⟨he,hb⟩=>by
  have kb:=k.2.2.2.2.2.2.below hb;exact ⟨he,kb.1.2.1.1,kb.1.2.1.2.1,kb.1.2.1.2.2.1,kb.1.2.1.2.2.2.1,kb.1.2.1.2.2.2.2,kb.2.2.1.2,kb⟩
theorem KS.all {B2 B4 bb o:Nat} {n:Int} {s z:St} {w0 W:World} (kb:KS B2 B4 bb o n s z w0 W):W.cell? ⟨B2,0,none⟩=some (.int .i64 s.fore)/\W.cell? ⟨B2,1,none⟩=some (.int .i64 s.back)/\W.cell? ⟨B2,2,none⟩=some (.bool s.bold)/\W.cell? ⟨B2,3,none⟩=some (.bool s.under)/\W.cell? ⟨B2,4,none⟩=some (.bool s.turned)/\W.cell? ⟨bb,o,none⟩=some (.int .i64 n)/\KS B2 B4 bb o n s z w0 W :=
 ⟨kb.1.2.1.1,kb.1.2.1.2.1,kb.1.2.1.2.2.1,kb.1.2.1.2.2.2.1,kb.1.2.1.2.2.2.2,kb.2.2.1.2,kb⟩

theorem l3Styled_any (s:St) (v:Value) (xs:List Int) (w:World) (hv:SlI w v xs) (hl:xs.length<=1048576) (hne:xs≠[]) :
  Calls Tryz.prog 218 #[stV s,v] w fun e w'=>e=.returned (stV (styledF s xs))/\Below w.heap.size w w':=by
 obtain ⟨f,b,bo,un,tu⟩:=s;obtain ⟨_,c,rfl,e|⟨bb,off,rfl,hbb,hc⟩⟩:=hv
 ·exact absurd e hne
 ·have hx0:0<xs.length:=List.length_pos_iff.2 hne
  have hxz:((xs.length:Int)==0)=false:=by simp;exact hne
  unfold stV;simp only;go_enter Tryz.func218,Tryz.ntmps218;go_wp2;have h2:=StAt.new w ⟨f,b,bo,un,tu⟩ 28;have h4:=StAt.new (w.alloc (Obj.cells #[.int .i64 f,.int .i64 b,.bool bo,.bool un,.bool tu] 28)) St.zero 28;have h2':=h2.below (w':=(w.alloc (Obj.cells #[.int .i64 f,.int .i64 b,.bool bo,.bool un,.bool tu] 28)).alloc (Obj.cells #[.int .i64 0,.int .i64 0,.bool false,.bool false,.bool false] 28)) ((Below.refl _ _).alloc (Nat.le_refl _) _);have e4:(w.alloc (Obj.cells #[.int .i64 f,.int .i64 b,.bool bo,.bool un,.bool tu] 28)).heap.size=w.heap.size+1:=by simp
  rw [e4] at h4
  have hbA:Below w.heap.size w ((w.alloc (Obj.cells #[.int .i64 f,.int .i64 b,.bool bo,.bool un,.bool tu] 28)).alloc (Obj.cells #[.int .i64 0,.int .i64 0,.bool false,.bool false,.bool false] 28)):=((Below.refl _ _).alloc (Nat.le_refl _) _).alloc (by simp) _;go_loopw [5] (fun i wr=>∃ j:Nat,i=.int .i64 j/\j<=xs.length/\StAt wr w.heap.size (styledF ⟨f,b,bo,un,tu⟩ (xs.take j))/\StAt wr (w.heap.size+1) St.zero/\Below w.heap.size w wr) (fun i _=>xs.length-(intOf i).toNat)
  case atStart=>exact ⟨0,rfl,Nat.zero_le _,h2',h4,hbA⟩
  case round =>
   clear h2 h4 h2' e4 hbA;obtain ⟨j,rfl,hj,k2,k4,kb⟩:=hrel
   by_cases hlt:j<xs.length
   ·have hji:(j:Int)<(xs.length:Int):=by omega
    have hj0:(0:Int)<=(j:Int):=by omega
    have hst:Hid (styledF ⟨f,b,bo,un,tu⟩ (xs.take (j+1))=paramV (styledF ⟨f,b,bo,un,tu⟩ (xs.take j)) (xs.getD j 0)):=by
     show _=_
     rw [List.take_succ_eq_append_getElem hlt,styledF,List.foldl_append]
     simp [styledF,hlt]
    have hcj:=(kb.cell (p:=⟨bb,off+j,none⟩) hbb).trans (hc j hlt);generalize xs.getD j 0=n at *;generalize styledF ⟨f,b,bo,un,tu⟩ (xs.take j)=y at *;have k:KS w.heap.size (w.heap.size+1) bb (off+j) n y St.zero w wr:=⟨k2,k4,⟨hbb,hcj⟩,kb⟩;obtain ⟨_,⟨c0,c1,c2,c3,c4⟩,⟨z0,z1,z2,z3,z4⟩⟩:=k2;clear hc;go_wp2;go_region_with (first|(go_at_call 247;refine (l3Param_ks w.heap.size (w.heap.size+1) bb (off+j) n y St.zero w _ ?_).mono ?_;(first|exact k.all|exact (k.below (bdr _)).all);rintro e wk ⟨rfl,hk⟩;obtain ⟨_,⟨d0,d1,d2,d3,d4⟩,⟨x0,x1,x2,x3,x4⟩⟩:=hk.2.2.2.2.2.2.1))
    all_goals
     have k2':=hk.2.2.2.2.2.2.1.put (paramV y n);have k4':=hk.2.2.2.2.2.2.2.1.grown (putSt_grown wk w.heap.size (paramV y n)) (by simp);have kb':=own_lift hk.2.2.2.2.2.2.2.2.2 (putSt_grown wk w.heap.size (paramV y n)) (Nat.le_refl _);simp only [putSt] at k2' k4' kb';clear hk d0 d1 d2 d3 d4 x0 x1 x2 x3 x4 k c0 c1 c2 c3 c4 z0 z1 z2 z3 z4;generalize ((((wk.setCell ⟨w.heap.size,0,none⟩ (.int .i64 (paramV y n).fore)).setCell ⟨w.heap.size,1,none⟩ (.int .i64 (paramV y n).back)).setCell ⟨w.heap.size,2,none⟩ (.bool (paramV y n).bold)).setCell ⟨w.heap.size,3,none⟩ (.bool (paramV y n).under)).setCell ⟨w.heap.size,4,none⟩ (.bool (paramV y n).turned)=Wf at *;go_wp2;go_roundw
     case rel =>
      exact ⟨j+1,by go_num,by omega,by rw [hst.out];exact k2',k4',kb'⟩
     case measure=>simp [intOf];omega
   ·have hjn:j=xs.length:=by omega
    have hji:¬ (j:Int)<(xs.length:Int):=by omega
    rw [hjn,List.take_length] at k2
    clear hc;have hyy:Hid (∃ y,y=styledF ⟨f,b,bo,un,tu⟩ xs):=⟨_,rfl⟩;obtain ⟨y,hy⟩:=hyy.out;rw [<- hy] at k2
    have HY:Hid (y=styledF ⟨f,b,bo,un,tu⟩ xs):=hy;clear hy hyy;have kP:=k4.put y;have kbP:=own_lift kb (putSt_grown wr (w.heap.size+1) y) (by omega);obtain ⟨_,⟨c0,c1,c2,c3,c4⟩,⟨z0,z1,z2,z3,z4⟩⟩:=k2;obtain ⟨_,⟨d0,d1,d2,d3,d4⟩,⟨x0,x1,x2,x3,x4⟩⟩:=k4;obtain ⟨_,⟨e0,e1,e2,e3,e4⟩,_⟩:=kP;simp only [putSt] at kbP e0 e1 e2 e3 e4;go_wp2;exact bodyPost_ret (v:=.agg #[.int .i64 y.fore,.int .i64 y.back,.bool y.bold,.bool y.under,.bool y.turned]) (by simp [results,Tryz.results218,go_sem,e0,e1,e2,e3,e4]) rfl ⟨by rw [<- HY.out],kbP⟩
end Go.Proofs.YtgcnmjjlmcnllaaGreatDoor
namespace Go.Proofs.YtgcnmjjlmcnllaaGreatDoor
set_option maxRecDepth 20000
set_option maxHeartbeats 16000000
open Go.ChangeShapes Go.WideShapes Go.ChangeAt Go.RowKit
def stylN (s:St) (xs:List Int):St:=if xs=[] then St.zero else styledF s xs
theorem l3Styled_all (s:St) (v:Value) (xs:List Int) (w:World) (hv:SlI w v xs) (hl:xs.length<=1048576) :
  Calls Tryz.prog 218 #[stV s,v] w fun e w'=>e=.returned (stV (stylN s xs))/\Below w.heap.size w w':=by
 by_cases hne:xs=[]
 ·have hs:Hid (stylN s xs=St.zero):=by show _=_;simp [stylN,hne]
  subst hne;obtain ⟨f,b,bo,un,tu⟩:=s;obtain ⟨a,c,rfl,_⟩:=hv;rw [hs.out]
  unfold stV;simp only;go_enter Tryz.func218,Tryz.ntmps218;go_wp2;exact bodyPost_ret (v:=.agg #[.int .i64 0,.int .i64 0,.bool false,.bool false,.bool false]) (by simp [results,Tryz.results218,go_sem]) rfl ⟨rfl,((Below.refl _ _).alloc (Nat.le_refl _) _).alloc (by simp) _⟩
 ·have:=l3Styled_any s v xs w hv hl hne
  simpa [stylN,hne] using this
theorem one_te (t:Te) (v:Tv) (hg:∃ a n c,v.g=.slice a n c) (ho:∃ a n c,v.o=.slice a n c) (hti:∃ a n c,v.ti=.slice a n c) (hpp:∃ a n c,v.pp=.slice a n c) (hpt:∃ a n c,v.pt=.slice a n c):(teCs t v).toList.all (·.oneCell')=true:=by
 obtain ⟨vg,vo,vti,vpp,vpt⟩:=v;obtain ⟨_,_,_,h1⟩:=hg;obtain ⟨_,_,_,h2⟩:=ho;obtain ⟨_,_,_,h3⟩:=hti;obtain ⟨_,_,_,h4⟩:=hpp;obtain ⟨_,_,_,h5⟩:=hpt;simp only at h1 h2 h3 h4 h5;subst h1;subst h2;subst h3;subst h4;subst h5
 rfl
theorem SlT.one {w:World} {t:Te} {v:Tv} (h:SlT w t v):(teCs t v).toList.all (·.oneCell')=true:=by
 obtain ⟨h1,h2,h3,h4,h5⟩:=h;obtain ⟨_,_,e1⟩:=slG_shp h1;obtain ⟨_,_,e2⟩:=slG_shp h2;obtain ⟨_,_,e3⟩:=h3.shp;obtain ⟨_,_,e4⟩:=h4.shp;obtain ⟨_,_,e5⟩:=h5.shp;exact one_te t v ⟨_,_,_,e1⟩ ⟨_,_,_,e2⟩ ⟨_,_,_,e3⟩ ⟨_,_,_,e4⟩ ⟨_,_,_,e5⟩
def newT (cols n:Int) (rows:List (List Ce)):Te:=⟨cols,rows,cols,rows,0,0,St.zero,0,n-1,false,true,false,false,0,0,St.zero,[],⟨1,[],0,[]⟩,⟨#[]⟩⟩
def teZ:Te:=⟨0,[],0,[],0,0,St.zero,0,0,false,false,false,false,0,0,St.zero,[],⟨0,[],0,[]⟩,⟨#[]⟩⟩
def tvN (u1 u2:Value):Tv:=⟨u1,u2,.slice none 0 0,.slice none 0 0,.slice none 0 0⟩
def newTm (cols n:Int):Te:=if newOk cols n then newT cols n (newR cols.toNat n.toNat) else teZ
theorem ownR_none (w:World) (b:Nat) (hb:b<=w.heap.size):OwnR w b b (.slice none 0 0) []:=⟨ownG_none _ _ _,fun g e=>by simp [Value.ownBlock] at e,hb⟩
theorem ownT_zero (w:World) (b:Nat) (hb:b<=w.heap.size):OwnT w b teZ (tvN (.slice none 0 0) (.slice none 0 0)) :=
 ⟨b,b,b,ownR_none w b hb,ownR_none w b hb,(LiOk.nil _ _).nilc.nilc.nilc,Nat.le_refl _,Nat.le_refl _,Nat.le_refl _,hb⟩
theorem l7New_any (cols n:Nat) (w:World) (hc:cols<=1000) (hn1:1<=n) (hn:n<=1000) :
  Calls Tryz.prog 57 #[.int .i64 (cols:Int),.int .i64 (n:Int)] w fun e w'=>∃ u1 u2,e=.returned (.agg (teCs (newT cols n (newR cols n)) (tvN u1 u2)))/\OwnT w' w.heap.size (newT cols n (newR cols n)) (tvN u1 u2)/\Below w.heap.size w w':=by
 have hR:=TB.new w [.int .i64 0,.slice none 0 0,.int .i64 0,.slice none 0 0,.int .i64 0,.int .i64 0,.int .i64 0,.int .i64 0,.bool false,.bool false,.bool false,.int .i64 0,.int .i64 0,.bool false,.bool false,.bool false,.bool false,.int .i64 0,.int .i64 0,.int .i64 0,.int .i64 0,.bool false,.bool false,.bool false,.slice none 0 0,.int .i64 0,.slice none 0 0,.int .i64 0,.slice none 0 0,.string ⟨#[]⟩];have hb0:=bal' w (Obj.cells #[.int .i64 0,.slice none 0 0,.int .i64 0,.slice none 0 0,.int .i64 0,.int .i64 0,.int .i64 0,.int .i64 0,.bool false,.bool false,.bool false,.int .i64 0,.int .i64 0,.bool false,.bool false,.bool false,.bool false,.int .i64 0,.int .i64 0,.int .i64 0,.int .i64 0,.bool false,.bool false,.bool false,.slice none 0 0,.int .i64 0,.slice none 0 0,.int .i64 0,.slice none 0 0,.string ⟨#[]⟩] 35);have hz0:(w.alloc (Obj.cells #[.int .i64 0,.slice none 0 0,.int .i64 0,.slice none 0 0,.int .i64 0,.int .i64 0,.int .i64 0,.int .i64 0,.bool false,.bool false,.bool false,.int .i64 0,.int .i64 0,.bool false,.bool false,.bool false,.bool false,.int .i64 0,.int .i64 0,.int .i64 0,.int .i64 0,.bool false,.bool false,.bool false,.slice none 0 0,.int .i64 0,.slice none 0 0,.int .i64 0,.slice none 0 0,.string ⟨#[]⟩] 35)).heap.size=w.heap.size+1:=by simp
 have hN:=fun W=>l5New_any cols n W hc hn
 have hP:=fun W=>l6State_any 1 W
 have hni:(1:Int)<=(n:Int):=by omega
 have hni2:(n:Int)<=1000:=by omega
 unfold gridV at hN;go_enter Tryz.func57,Tryz.ntmps57;go_wp2_with fail;refine (hN _).mono ?_;rintro e w1 ⟨u1,rfl,ho1,hb⟩;obtain ⟨xa,xn,xc,hx⟩:=slShp (SlG.of_own ho1);subst hx;have og:OwnR w1 (w.heap.size+1) w1.heap.size (.slice xa xn xc) (newR cols n):=by rw [<- hz0];exact OwnR.of ho1
 replace hR:=hR.below hb;have kb:=hb0.trans (hb.mono hb0.size);have s1:w.heap.size+1<=w1.heap.size:=by rw [<- hz0];exact hb.size
 clear hb hb0 ho1 hz0;go_wp2_with fail;refine (hN _).mono ?_;rintro e w2 ⟨u2,rfl,ho2,hb⟩;obtain ⟨ya,yn,yc,hy⟩:=slShp (SlG.of_own ho2);subst hy;have oo:OwnR w2 w1.heap.size w2.heap.size (.slice ya yn yc) (newR cols n):=OwnR.of ho2;replace hR:=hR.below hb;replace og:=og.below hb;replace kb:=kb.trans (hb.mono kb.size);have s2:=hb.size;clear hb ho2;go_wp2_with fail;refine (hP _).mono ?_;rintro e w3 ⟨rfl,hb⟩;replace hR:=hR.below hb;replace og:=og.below hb;replace oo:=oo.below hb;replace kb:=kb.trans (hb.mono kb.size);have s3:=hb.size;clear hb hN hP;go_wp2_with (refine store_T (cs:=teCs (newT cols n (newR cols n)) (tvN (.slice xa xn xc) (.slice ya yn yc))) (by rfl) 35 _ _ (by rfl) info_te (by rfl) (by rfl) hR (by rfl) (by rfl) ?_;intro w4 hg hR4 hz4)
 have hO:OwnT w4 w.heap.size (newT cols n (newR cols n)) (tvN (.slice xa xn xc) (.slice ya yn yc)) :=
  ⟨w1.heap.size,w2.heap.size,w2.heap.size,OwnR.low (og.grown hg (by omega)) (by omega),oo.grown hg (by omega),(LiOk.nil _ _).nilc.nilc.nilc,by omega,by omega,Nat.le_refl _,by omega⟩
 exact bodyPost_ret (v:=.agg (teCs (newT cols n (newR cols n)) (tvN (.slice xa xn xc) (.slice ya yn yc)))) (results_cell_row Tryz.results57 _ _ _ _ _ _ _ rfl hR4 Tryz.underlying35 rfl info_te) rfl ⟨_,_,rfl,hO,kb.grown hg kb.size (fun g e=>by cases e;exact Nat.le_refl _)⟩
def backS (s:St):St:=⟨0,s.back,false,false,false⟩
def moveT (t:Te) (a b n:Int):Te:={ t with g:=moveR t.gc.toNat t.g a.toNat b.toNat n (backS t.st) }
def lineT (t:Te):Te:=if t.row=t.bot then moveT t t.top t.bot 1 else if t.row<(t.g.length:Int)-1 then { t with row:=t.row+1 } else t
def rowT (t:Te) (r:Int) (xs:List Ce):Te:={ t with g:=t.g.set r.toNat xs }
def clearT (t:Te) (r p q:Int):Te:=rowT t r (clearL (rowX t.g r.toNat) p.toNat q.toNat (backS t.st))
def printT (t:Te) (r:Int):Te :=
 if wdV r=0\/t.gc<wdV r then t
 else
  let t1:=if t.full=true/\t.wrap=true then lineT { t with full:=false,col:=0 } else { t with full:=false }
  let t2:=if t.gc<t1.col+wdV r then (if t1.wrap=true then lineT { t1 with col:=0 } else { t1 with col:=t.gc-wdV r }) else t1
  let t3:=rowT t2 t2.row (writeL (rowX t2.g t2.row.toNat) t2.col.toNat r t2.st)
  if t.gc<=t2.col+wdV r then { t3 with col:=t.gc-1,full:=true } else { t3 with col:=t2.col+wdV r }
def controlT (t:Te) (r:Int):Te :=
 if r=8 then { t with col:=max 0 (t.col-1),full:=false }
 else if r=9 then { t with col:=min (t.gc-1) (t.col / 8*8+8),full:=false }
 else if r=10\/r=11\/r=12 then { lineT t with full:=false }
 else if r=13 then { t with col:=0,full:=false }
 else t
def anewT (t:Te):Te:={ newT t.gc (t.g.length:Int) (newR t.gc.toNat t.g.length) with ti:=t.ti,pa:=t.pa,fe:=t.fe }
def escapeT (t:Te) (r:Int):Te :=
 if r=68 then { lineT t with full:=false }
 else if r=69 then { lineT t with col:=0,full:=false }
 else if r=77 then (if t.row=t.top then { moveT t t.top t.bot (-1) with full:=false } else { t with row:=max 0 (t.row-1),full:=false })
 else if r=55 then { t with sr:=t.row,sc:=t.col,ss:=t.st,full:=false }
 else if r=56 then { t with row:=t.sr,col:=t.sc,st:=t.ss,full:=false }
 else if r=99 then anewT t
 else t
def parN (p:List Int) (i:Nat) (u:Int):Int:=if p.getD i 0=0 then u else p.getD i 0
def goT (t:Te) (r c:Int):Te:={ t with row:=max 0 (min ((t.g.length:Int)-1) r),col:=max 0 (min (t.gc-1) c) }
def eraseRow (t:Te) (how:Int):Te:=if how=0 then clearT t t.row t.col t.gc else if how=1 then clearT t t.row 0 (t.col+1) else if how=2 then clearT t t.row 0 t.gc else t
def eraseAll (t:Te) (how:Int):Te:={ t with g:=genR t.g.length fun i =>
 if how=2\/how=0/\t.row<(i:Int)\/how=1/\(i:Int)<t.row then clearL (rowX t.g i) 0 t.gc.toNat (backS t.st) else rowX (eraseRow t how).g i }
def listT (t:Te) (r:Int) (p:List Int):Te :=
 let n:=parN p 0 1
 let how:=parN p 0 0
 let t0:={ t with full:=false }
 if r=65 then { t0 with row:=max (if t.top<=t.row then t.top else 0) (t.row-n) }
 else if r=66 then { t0 with row:=min (if t.row<=t.bot then t.bot else (t.g.length:Int)-1) (t.row+n) }
 else if r=67 then goT t0 t.row (t.col+n)
 else if r=68 then goT t0 t.row (t.col-n)
 else if r=71 then goT t0 t.row (n-1)
 else if r=100 then goT t0 (n-1) t.col
 else if r=72\/r=102 then goT t0 (n-1) (parN p 1 1-1)
 else if r=74 then eraseAll t0 how
 else if r=75 then eraseRow t0 how
 else if r=76\/r=77 then (if t.top<=t.row/\t.row<=t.bot then { moveT t0 t.row t.bot (if r=76 then -n else n) with col:=0 } else t0)
 else if r=64 then rowT t0 t.row (pushL (rowX t.g t.row.toNat) t.col.toNat (min n (t.gc-t.col)).toNat (backS t.st))
 else if r=80 then rowT t0 t.row (pullL (rowX t.g t.row.toNat) t.col.toNat (min n (t.gc-t.col)).toNat (backS t.st))
 else if r=88 then clearT t0 t.row t.col (min t.gc (t.col+n))
 else if r=83 then moveT t0 t.top t.bot n
 else if r=84 then moveT t0 t.top t.bot (-n)
 else if r=109 then { t with st:=stylN t.st p }
 else if r=114 then
  let b:=parN p 1 (t.g.length:Int)-1
  if n-1<b/\b<=(t.g.length:Int)-1 then { t0 with top:=n-1,bot:=b,row:=0,col:=0 } else t0
 else t
def modeT (on:Bool) (t:Te) (m:Int):Te :=
 if m=7 then { t with wrap:=on }
 else if m=25 then { t with hid:=!on }
 else if m=1049 then (if t.away=on then t else
  { t with gc:=t.oc,g:=if on=true then newR t.gc.toNat t.g.length else t.o,oc:=t.gc,o:=t.g,away:=on })
 else t
def doT (t:Te) (a:Ac):Te :=
 if a.kind=1 then printT t a.rune
 else if a.kind=2 then controlT t a.rune
 else if a.kind=3 then escapeT t a.rune
 else if a.kind=4 then (if a.mark=0 then listT t a.rune a.params else if a.rune=104\/a.rune=108 then a.params.foldl (modeT (decide (a.rune=104))) t else t)
 else if a.kind=5 then { t with ti:=a.text }
 else t
theorem info_u8c:(Tryz.prog.info? 5).map (fun i=>(i.zero,i.size,i.bytes))=some (some (.int .u8 0),1,1):=by kernel_rfl
set_option maxRecDepth 100000 in
theorem cloneLite_any (s:ByteArray) (w:World) (hlim:s.size<=281474976710656) :
  Calls Tryz.prog 175 #[.string s] w fun e w'=>e=.returned (.string s)/\Below w.heap.size w w':=by
 by_cases h0:s.size=0
 ·have hs:s=⟨#[]⟩:=by
   apply ByteArray.ext
   exact Array.eq_empty_of_size_eq_zero h0
  subst hs;go_enter Tryz.func175,Tryz.ntmps175;go_wp2;go_ret;exact ⟨rfl,Below.refl _ _⟩
 ·obtain ⟨i0,hi,hz0,hz1,hz2⟩:=info_parts info_u8c
  have hinfo:(Tryz.prog.info? 5).map (·.size)=some 1:=by rw [hi];simp [hz1]
  have hco:Tryz.prog.cellsOf 5=1:=by simp [Program.cellsOf,hi,hz1]
  obtain ⟨M,hM⟩:∃ M,M=madeCells (Value.int .u8 0).cells (((s.size:Nat):Int).toNat*i0.size):=⟨_,rfl⟩;have hMs:M.size=s.size:=by rw [hM,size_madeCells,hz1];simp
  have hmk:∀ W:World,(Instr.makeSlice 22 (.int .i64 (s.size:Int)) (.int .i64 (s.size:Int))).run Tryz.prog W=.ok (.slice (some ⟨W.heap.size,0,none⟩) s.size s.size) (W.alloc (.cells M 5)):=fun W=>by
   have h:=run_make (P:=Tryz.prog) W 22 5 i0 (.int .u8 0) Tryz.underlying22 hi hz0 .i64 .i64 (s.size:Int) (s.size:Int) (by omega) (by omega) (by rw [hz2];omega) (by omega);rw [<- hM] at h
   simpa using h
  clear hM;have hcp:=Lib.run_copy_row_string (P:=Tryz.prog) (w.alloc (.cells M 5)) 22 9 3 5 w.heap.size 0 s.size s.size s M 5 Tryz.underlying22 hinfo (heap_alloc_new w _) (Nat.le_refl _) (by omega);obtain ⟨Y,hY⟩:∃ Y,Y=(M.toList.take 0++Lib.byteCells s.data.toList++M.toList.drop (0+s.size)).toArray:=⟨_,rfl⟩;rw [<- hY] at hcp
  have hYl:Y.toList=Lib.byteCells s.data.toList:=by
   rw [hY,List.toList_toArray,List.take_zero,List.nil_append,List.drop_of_length_le (by rw [Array.length_toList];omega),List.append_nil]
  have hYs:Y.size=s.size:=by rw [<- Array.length_toList,hYl,Lib.byteCells_length,<- Lib.size_eq]
  have hgY:((w.alloc (.cells M 5)).setRow w.heap.size Y).heap[w.heap.size]?=some (.cells Y 5 (0,0)):=setRow_heap _ _ M _ 5 (0,0) (heap_alloc_new w _);have hne:s.data.toList≠[]:=fun e=>h0 (by rw [Lib.size_eq,e];rfl)
  have hUS:=Lib.run_unsafeString_row (P:=Tryz.prog) ((w.alloc (.cells M 5)).setRow w.heap.size Y) 206 3 9 5 Tryz.underlying206 hco w.heap.size Y.size (by unfold World.shape?;rw [hgY]) s.data.toList hne (by rw [<- Lib.size_eq];omega) (by rw [<- Lib.size_eq];omega)
   (fun j x hx=>Lib.cells_of_row hgY Y.size j _ (by rw [List.take_of_length_le (by rw [Array.length_toList];exact Nat.le_refl _),hYl];simp [Lib.byteCells,hx]))
  rw [<- Lib.size_eq] at hUS
  clear hY;go_enter Tryz.func175,Tryz.ntmps175;go_wp2;go_ret;have hb1:Below w.heap.size w (w.alloc (.cells M 5)):=(Below.refl _ w).alloc (Nat.le_refl _) _;have hb2:Below w.heap.size (w.alloc (.cells M 5)) ((w.alloc (.cells M 5)).setRow w.heap.size Y):=⟨rfl,rfl,rfl,by simp,fun k hk=>setRow_other _ _ _ _ (by omega)⟩;exact ⟨rfl,Lib.below_freeze (hb1.trans hb2) (p:=⟨w.heap.size,0,none⟩) (Nat.le_refl _) _⟩
theorem clone_any (s:ByteArray) (w:World) (hlim:s.size<=281474976710656) :
  Calls Tryz.prog 118 #[.string s] w fun e w'=>e=.returned (.string s)/\Below w.heap.size w w':=by
 go_enter Tryz.func118,Tryz.ntmps118;go_wp2_with fail;refine (cloneLite_any s _ hlim).mono ?_;rintro e w1 ⟨rfl,hb⟩;go_wp2;go_ret;exact ⟨rfl,hb⟩
def RtT (t:Te):Prop:=(1<=t.g.length/\t.g.length<=30)/\(∀ i,i<t.g.length->1<=(rowX t.g i).length/\(rowX t.g i).length<=60)/\(1<=t.o.length/\t.o.length<=30)/\(∀ i,i<t.o.length->1<=(rowX t.o i).length/\(rowX t.o i).length<=60)/\t.ti.length<=40/\t.pa.params.length<=16/\t.pa.text.length<=40
theorem ne_of_len {x:List Ce} (h:1<=x.length):x≠[]:=fun e=>by rw [e] at h;simp at h
theorem l7Copy_any (t:Te) (v:Tv) (w:World) (h:SlT w t v) (hz:RtT t) :
  Calls Tryz.prog 60 #[.agg (teCs t v)] w fun e w'=>∃ v',e=.returned (.agg (teCs t v'))/\OwnT w' w.heap.size t v'/\Below w.heap.size w w':=by
 obtain ⟨vg,vo,vti,vpp,vpt⟩:=v;obtain ⟨hg,ho,hti,hpp,hpt⟩:=h;simp only at hg ho hti hpp hpt;obtain ⟨⟨z1,z1'⟩,z2,⟨z3,z3'⟩,z4,z5,z6,z7⟩:=hz;have cG:=fun W hW=>l5Copy_any t.gc vg t.g W hW (by omega) z1 (fun i hi=>by have:=z2 i hi;omega) (fun i hi=>ne_of_len (z2 i hi).1)
 have cO:=fun W hW=>l5Copy_any t.oc vo t.o W hW (by omega) z3 (fun i hi=>by have:=z4 i hi;omega) (fun i hi=>ne_of_len (z4 i hi).1)
 have cP:=fun W h1 h2=>l6Copy_any t.pa vpp vpt W h1 h2 (by omega) (by omega)
 have ztl:t.ti.length<=1073741824:=by omega
 obtain ⟨ga,gp,hq1⟩:=slG_shp hg;obtain ⟨oa,op,hq2⟩:=slG_shp ho;obtain ⟨tia,tip,hq3⟩:=hti.shp;obtain ⟨ppa,ppp,hq4⟩:=hpp.shp;obtain ⟨pta,ptp,hq5⟩:=hpt.shp;subst hq1;subst hq2;subst hq3;subst hq4;subst hq5;have hb1:=bal' w (Obj.cells (teCs t ⟨.slice ga t.g.length gp,.slice oa t.o.length op,.slice tia t.ti.length tip,.slice ppa t.pa.params.length ppp,.slice pta t.pa.text.length ptp⟩) 35);have hb2:=bal' (w.alloc (Obj.cells (teCs t ⟨.slice ga t.g.length gp,.slice oa t.o.length op,.slice tia t.ti.length tip,.slice ppa t.pa.params.length ppp,.slice pta t.pa.text.length ptp⟩) 35)) (Obj.cells #[.int .i64 0,.slice none 0 0,.int .i64 0,.slice none 0 0,.int .i64 0,.int .i64 0,.int .i64 0,.int .i64 0,.bool false,.bool false,.bool false,.int .i64 0,.int .i64 0,.bool false,.bool false,.bool false,.bool false,.int .i64 0,.int .i64 0,.int .i64 0,.int .i64 0,.bool false,.bool false,.bool false,.slice none 0 0,.int .i64 0,.slice none 0 0,.int .i64 0,.slice none 0 0,.string ⟨#[]⟩] 35);have hB:=(TB.new w (teCs t ⟨.slice ga t.g.length gp,.slice oa t.o.length op,.slice tia t.ti.length tip,.slice ppa t.pa.params.length ppp,.slice pta t.pa.text.length ptp⟩).toList).below hb2;have hR:=TB.new (w.alloc (Obj.cells (teCs t ⟨.slice ga t.g.length gp,.slice oa t.o.length op,.slice tia t.ti.length tip,.slice ppa t.pa.params.length ppp,.slice pta t.pa.text.length ptp⟩) 35)) [.int .i64 0,.slice none 0 0,.int .i64 0,.slice none 0 0,.int .i64 0,.int .i64 0,.int .i64 0,.int .i64 0,.bool false,.bool false,.bool false,.int .i64 0,.int .i64 0,.bool false,.bool false,.bool false,.bool false,.int .i64 0,.int .i64 0,.int .i64 0,.int .i64 0,.bool false,.bool false,.bool false,.slice none 0 0,.int .i64 0,.slice none 0 0,.int .i64 0,.slice none 0 0,.string ⟨#[]⟩];have kb:=hb1.trans (hb2.mono hb1.size);rw [show (w.alloc (Obj.cells (teCs t ⟨.slice ga t.g.length gp,.slice oa t.o.length op,.slice tia t.ti.length tip,.slice ppa t.pa.params.length ppp,.slice pta t.pa.text.length ptp⟩) 35)).heap.size=w.heap.size+1 by simp] at hR
 obtain ⟨w2,hw2⟩:∃ w2,w2=(w.alloc (Obj.cells (teCs t ⟨.slice ga t.g.length gp,.slice oa t.o.length op,.slice tia t.ti.length tip,.slice ppa t.pa.params.length ppp,.slice pta t.pa.text.length ptp⟩) 35)).alloc (Obj.cells #[.int .i64 0,.slice none 0 0,.int .i64 0,.slice none 0 0,.int .i64 0,.int .i64 0,.int .i64 0,.int .i64 0,.bool false,.bool false,.bool false,.int .i64 0,.int .i64 0,.bool false,.bool false,.bool false,.bool false,.int .i64 0,.int .i64 0,.int .i64 0,.int .i64 0,.bool false,.bool false,.bool false,.slice none 0 0,.int .i64 0,.slice none 0 0,.int .i64 0,.slice none 0 0,.string ⟨#[]⟩] 35):=⟨_,rfl⟩;have hB:TB w2 w.heap.size [.int .i64 t.gc,.slice ga t.g.length gp,.int .i64 t.oc,.slice oa t.o.length op,.int .i64 t.row,.int .i64 t.col,.int .i64 t.st.fore,.int .i64 t.st.back,.bool t.st.bold,.bool t.st.under,.bool t.st.turned,.int .i64 t.top,.int .i64 t.bot,.bool t.full,.bool t.wrap,.bool t.away,.bool t.hid,.int .i64 t.sr,.int .i64 t.sc,.int .i64 t.ss.fore,.int .i64 t.ss.back,.bool t.ss.bold,.bool t.ss.under,.bool t.ss.turned,.slice tia t.ti.length tip,.int .i64 t.pa.state,.slice ppa t.pa.params.length ppp,.int .i64 t.pa.mark,.slice pta t.pa.text.length ptp,.string t.fe]:=by rw [hw2];exact hB
 rw [<- hw2] at hR kb
 have zs2:w2.heap.size=w.heap.size+2:=by rw [hw2];simp
 replace hw2:=(show Hid _ from hw2);unfold gridV paV at *;clear hb1 hb2 z1 z1' z2 z3 z3' z4 z5 z6 z7;go_enter Tryz.func60,Tryz.ntmps60;refine wp_seq_k (fun K hK=>?_);have hH:=(show Hid _ from hK);clear hK;go_wp2;refine hH.out _ _ ?_;rw [<- hw2.out]
 clear hH hw2;have c0:w2.cell? ⟨w.heap.size,0,none⟩=some (.int .i64 t.gc):=cAl hB 0;have c1:w2.cell? ⟨w.heap.size,1,none⟩=some (.slice ga t.g.length gp):=cAl hB 1;go_wp2_with fail;refine (cG _ (hg.below kb)).mono ?_;rintro e w3 ⟨xg,rfl,hng,hb⟩;obtain ⟨xga,xgn,xgp,hx⟩:=slShp (SlG.of_own hng);subst hx;have og:OwnR w3 w2.heap.size w3.heap.size (.slice xga xgn xgp) t.g:=OwnR.of hng;replace hB:=hB.below hb;replace hR:=hR.below hb;replace kb:=kb.trans (hb.mono kb.size);have s23:=hb.size;clear hng hb c0 c1 cG;go_wp2_with (refine store_at (by rfl) 26 _ _ (by rfl) inf_g hB (by rfl) (by rfl) (by rfl) (by rfl) (by rfl) ?_;intro W3 hgr hB1 hz1;have c2:W3.cell? ⟨w.heap.size,2,none⟩=some (.int .i64 t.oc):=cAl hB1 2;have c3:W3.cell? ⟨w.heap.size,3,none⟩=some (.slice oa t.o.length op):=cAl hB1 3);have hb:Below w.heap.size w W3:=kb.grown hgr kb.size (fun g e=>by cases e;exact Nat.le_refl _);refine (cO _ (ho.below hb)).mono ?_;rintro e w4 ⟨xo,rfl,hno,hb4⟩;obtain ⟨xoa,xon,xop,hx⟩:=slShp (SlG.of_own hno);subst hx;have oo:OwnR w4 w3.heap.size w4.heap.size (.slice xoa xon xop) t.o:=by rw [<- hz1];exact OwnR.of hno
 replace og:=(og.grown hgr (by omega)).below hb4;replace hB:TB w4 w.heap.size [.int .i64 t.gc,.slice xga xgn xgp,.int .i64 t.oc,.slice oa t.o.length op,.int .i64 t.row,.int .i64 t.col,.int .i64 t.st.fore,.int .i64 t.st.back,.bool t.st.bold,.bool t.st.under,.bool t.st.turned,.int .i64 t.top,.int .i64 t.bot,.bool t.full,.bool t.wrap,.bool t.away,.bool t.hid,.int .i64 t.sr,.int .i64 t.sc,.int .i64 t.ss.fore,.int .i64 t.ss.back,.bool t.ss.bold,.bool t.ss.under,.bool t.ss.turned,.slice tia t.ti.length tip,.int .i64 t.pa.state,.slice ppa t.pa.params.length ppp,.int .i64 t.pa.mark,.slice pta t.pa.text.length ptp,.string t.fe]:=TB.below (show TB W3 w.heap.size [.int .i64 t.gc,.slice xga xgn xgp,.int .i64 t.oc,.slice oa t.o.length op,.int .i64 t.row,.int .i64 t.col,.int .i64 t.st.fore,.int .i64 t.st.back,.bool t.st.bold,.bool t.st.under,.bool t.st.turned,.int .i64 t.top,.int .i64 t.bot,.bool t.full,.bool t.wrap,.bool t.away,.bool t.hid,.int .i64 t.sr,.int .i64 t.sc,.int .i64 t.ss.fore,.int .i64 t.ss.back,.bool t.ss.bold,.bool t.ss.under,.bool t.ss.turned,.slice tia t.ti.length tip,.int .i64 t.pa.state,.slice ppa t.pa.params.length ppp,.int .i64 t.pa.mark,.slice pta t.pa.text.length ptp,.string t.fe] from hB1) hb4;replace hR:=(hR.kept hgr (by simp)).below hb4;have s34:w3.heap.size<=w4.heap.size:=by rw [<- hz1];exact hb4.size
 replace kb:=hb.trans (hb4.mono hb.size);clear hno hb hb4 hgr hB1 hz1 c2 c3 cO;have hba:=fun W=>bal' W (Obj.cells #[] 2)
 go_wp2_with (first
  | (refine store_at (by rfl) 26 _ _ (by rfl) inf_g hB (by rfl) (by rfl) (by rfl) (by rfl) (by rfl) ?_;intro W4 hgr hB1 hz1;have c24:(W4.alloc (Obj.cells #[] 2)).cell? ⟨w.heap.size,24,none⟩=some (.slice tia t.ti.length tip):=(cAl (TB.below (show TB W4 w.heap.size [.int .i64 t.gc,.slice xga xgn xgp,.int .i64 t.oc,.slice xoa xon xop,.int .i64 t.row,.int .i64 t.col,.int .i64 t.st.fore,.int .i64 t.st.back,.bool t.st.bold,.bool t.st.under,.bool t.st.turned,.int .i64 t.top,.int .i64 t.bot,.bool t.full,.bool t.wrap,.bool t.away,.bool t.hid,.int .i64 t.sr,.int .i64 t.sc,.int .i64 t.ss.fore,.int .i64 t.ss.back,.bool t.ss.bold,.bool t.ss.under,.bool t.ss.turned,.slice tia t.ti.length tip,.int .i64 t.pa.state,.slice ppa t.pa.params.length ppp,.int .i64 t.pa.mark,.slice pta t.pa.text.length ptp,.string t.fe] from hB1) (hba W4)) 24);have hb4:Below w.heap.size w W4:=kb.grown hgr kb.size (fun g e=>by cases e;exact Nat.le_refl _);have ht4:=hti.below hb4)
  | (refine copy_g (by rfl) _ _ (by rfl) _ hz1 _ t.ti (by rfl) ht4 ztl (by rfl) ?_;intro xt w5 hnt hb5;obtain ⟨xta,xtn,xtp,hx⟩:=OwnI.shape hnt;subst hx;have hB5:TB w5 w.heap.size [.int .i64 t.gc,.slice xga xgn xgp,.int .i64 t.oc,.slice xoa xon xop,.int .i64 t.row,.int .i64 t.col,.int .i64 t.st.fore,.int .i64 t.st.back,.bool t.st.bold,.bool t.st.under,.bool t.st.turned,.int .i64 t.top,.int .i64 t.bot,.bool t.full,.bool t.wrap,.bool t.away,.bool t.hid,.int .i64 t.sr,.int .i64 t.sc,.int .i64 t.ss.fore,.int .i64 t.ss.back,.bool t.ss.bold,.bool t.ss.under,.bool t.ss.turned,.slice tia t.ti.length tip,.int .i64 t.pa.state,.slice ppa t.pa.params.length ppp,.int .i64 t.pa.mark,.slice pta t.pa.text.length ptp,.string t.fe]:=TB.below (show TB W4 w.heap.size [.int .i64 t.gc,.slice xga xgn xgp,.int .i64 t.oc,.slice xoa xon xop,.int .i64 t.row,.int .i64 t.col,.int .i64 t.st.fore,.int .i64 t.st.back,.bool t.st.bold,.bool t.st.under,.bool t.st.turned,.int .i64 t.top,.int .i64 t.bot,.bool t.full,.bool t.wrap,.bool t.away,.bool t.hid,.int .i64 t.sr,.int .i64 t.sc,.int .i64 t.ss.fore,.int .i64 t.ss.back,.bool t.ss.bold,.bool t.ss.under,.bool t.ss.turned,.slice tia t.ti.length tip,.int .i64 t.pa.state,.slice ppa t.pa.params.length ppp,.int .i64 t.pa.mark,.slice pta t.pa.text.length ptp,.string t.fe] from hB1) hb5;clear c24)
  | (refine store_at (by rfl) 29 _ _ (by rfl) inf_l hB5 (by rfl) (by rfl) (by rfl) (by rfl) (by rfl) ?_;intro W5 hgr5 hB6 hz5;have c25:W5.cell? ⟨w.heap.size,25,none⟩=some (.int .i64 t.pa.state):=cAl hB6 25;have c26:W5.cell? ⟨w.heap.size,26,none⟩=some (.slice ppa t.pa.params.length ppp):=cAl hB6 26;have c27:W5.cell? ⟨w.heap.size,27,none⟩=some (.int .i64 t.pa.mark):=cAl hB6 27;have c28:W5.cell? ⟨w.heap.size,28,none⟩=some (.slice pta t.pa.text.length ptp):=cAl hB6 28))
 have hb5w:Below w.heap.size w w5:=hb4.trans (hb5.mono hb4.size);have hb6:Below w.heap.size w W5:=hb5w.grown hgr5 hb5w.size (fun g e=>by cases e;exact Nat.le_refl _);have s45:w4.heap.size<=w5.heap.size:=by rw [<- hz1];exact hb5.size
 have ol5:LiOk w5 w4.heap.size [((.slice xta xtn xtp:Value),t.ti)]:=⟨fun p hp=>by rw [List.mem_singleton] at hp;subst hp;rw [<- hz1];exact hnt,List.pairwise_singleton _ _⟩;have olt:∀ p∈[((.slice xta xtn xtp:Value),t.ti)],∀ g,p.1.ownBlock=some g->g<w5.heap.size:=fun p hp g e=>((ol5.1 p hp).lt g e).2
 have ol6:=ol5.kept hgr5 (fun p hp=>.inr ((ol5.1 p hp).not_block hB5 (by decide)));replace og:=((og.grown hgr (by omega)).below hb5).grown hgr5 (by omega);replace oo:=((oo.grown hgr (by omega)).below hb5).grown hgr5 (by omega);have hR6:=((hR.kept hgr (by simp)).below hb5).kept hgr5 (by simp);refine (cP _ (hpp.below hb6) (hpt.below hb6)).mono ?_;rintro e w7 ⟨xp,xq,rfl,hnp,hb⟩;rw [hz5] at hnp
 obtain ⟨xpa,xpn,xpp,hxp⟩:=hnp.head.shape;obtain ⟨xqa,xqn,xqp,hxq⟩:=hnp.tail.head.shape;simp only at hxp hxq;subst hxp;subst hxq;have ol:LiOk w7 w4.heap.size ([((.slice xta xtn xtp:Value),t.ti)]++[(.slice xpa xpn xpp,t.pa.params),(.slice xqa xqn xqp,t.pa.text)]):=(ol6.below hb).join olt hnp s45;replace og:=og.below hb;replace oo:=oo.below hb;replace hR:=hR6.below hb;have hB7:TB w7 w.heap.size [.int .i64 t.gc,.slice xga xgn xgp,.int .i64 t.oc,.slice xoa xon xop,.int .i64 t.row,.int .i64 t.col,.int .i64 t.st.fore,.int .i64 t.st.back,.bool t.st.bold,.bool t.st.under,.bool t.st.turned,.int .i64 t.top,.int .i64 t.bot,.bool t.full,.bool t.wrap,.bool t.away,.bool t.hid,.int .i64 t.sr,.int .i64 t.sc,.int .i64 t.ss.fore,.int .i64 t.ss.back,.bool t.ss.bold,.bool t.ss.under,.bool t.ss.turned,.slice xta xtn xtp,.int .i64 t.pa.state,.slice ppa t.pa.params.length ppp,.int .i64 t.pa.mark,.slice pta t.pa.text.length ptp,.string t.fe]:=TB.below (show TB W5 w.heap.size [.int .i64 t.gc,.slice xga xgn xgp,.int .i64 t.oc,.slice xoa xon xop,.int .i64 t.row,.int .i64 t.col,.int .i64 t.st.fore,.int .i64 t.st.back,.bool t.st.bold,.bool t.st.under,.bool t.st.turned,.int .i64 t.top,.int .i64 t.bot,.bool t.full,.bool t.wrap,.bool t.away,.bool t.hid,.int .i64 t.sr,.int .i64 t.sc,.int .i64 t.ss.fore,.int .i64 t.ss.back,.bool t.ss.bold,.bool t.ss.under,.bool t.ss.turned,.slice xta xtn xtp,.int .i64 t.pa.state,.slice ppa t.pa.params.length ppp,.int .i64 t.pa.mark,.slice pta t.pa.text.length ptp,.string t.fe] from hB6) hb;have s57:w5.heap.size<=w7.heap.size:=by rw [<- hz5];exact hb.size
 have kb7:=hb6.trans (hb.mono hb6.size);clear hb hb6 hb5w hb5 hgr5 hB6 hz5 hB5 hb4 ht4 hgr hB1 hz1 hnt hnp ol5 ol6 hR6 c25 c26 c27 c28 cP hB hba
 go_wp2_with (first
  | (refine store_at (by rfl) 31 _ _ (by rfl) inf_p hB7 (by rfl) (by rfl) (by rfl) (by rfl) (by rfl) ?_;intro W7 hgr hB8 hz7)
  | (refine load_T (cs:=teCs t ⟨.slice xga xgn xgp,.slice xoa xon xop,.slice xta xtn xtp,.slice xpa xpn xpp,.slice xqa xqn xqp⟩) (by rfl) 35 _ (by rfl) Tryz.underlying35 rfl info_te hB8 (by rfl) ?_)
  | (refine store_T (cs:=teCs t ⟨.slice xga xgn xgp,.slice xoa xon xop,.slice xta xtn xtp,.slice xpa xpn xpp,.slice xqa xqn xqp⟩) (by rfl) 35 _ _ (by rfl) info_te (by rfl) (by rfl) (hR.kept hgr (by simp)) (by rfl) (by rfl) ?_;intro w9 hg9 hR9 hz9))
 have hR8:=hR.kept hgr (by simp);have ol8:=ol.kept hgr (fun p hp=>.inr ((ol.1 p hp).not_block hB7 (by decide)))
 have hfin:OwnT w9 w.heap.size t ⟨.slice xga xgn xgp,.slice xoa xon xop,.slice xta xtn xtp,.slice xpa xpn xpp,.slice xqa xqn xqp⟩ :=
  ⟨w3.heap.size,w4.heap.size,w4.heap.size,OwnR.low ((og.grown hgr (by omega)).grown hg9 (by omega)) (by omega),(oo.grown hgr (by omega)).grown hg9 (by omega),ol8.kept hg9 (fun p hp=>.inr ((ol8.1 p hp).not_block hR8 (by decide))),by omega,by omega,Nat.le_refl _,by rw [hz9,hz7];omega⟩
 have kb8:=kb7.grown hgr kb7.size (fun g e=>by cases e;exact Nat.le_refl _);exact bodyPost_ret (v:=.agg (teCs t ⟨.slice xga xgn xgp,.slice xoa xon xop,.slice xta xtn xtp,.slice xpa xpn xpp,.slice xqa xqn xqp⟩)) (results_cell_row Tryz.results60 _ _ _ _ _ _ _ rfl hR9 Tryz.underlying35 rfl info_te) rfl ⟨_,rfl,hfin,kb8.grown hg9 kb8.size (fun g e=>by cases e;omega)⟩
def scCs (p:Pa) (pp pt lv av:Value) (t:Te) (v:Tv):List Value:=[.int .i64 p.state,pp,.int .i64 p.mark,pt,lv,av,.int .i64 t.gc,v.g,.int .i64 t.oc,v.o,.int .i64 t.row,.int .i64 t.col,.int .i64 t.st.fore,.int .i64 t.st.back,.bool t.st.bold,.bool t.st.under,.bool t.st.turned,.int .i64 t.top,.int .i64 t.bot,.bool t.full,.bool t.wrap,.bool t.away,.bool t.hid,.int .i64 t.sr,.int .i64 t.sc,.int .i64 t.ss.fore,.int .i64 t.ss.back,.bool t.ss.bold,.bool t.ss.under,.bool t.ss.turned,v.ti,.int .i64 t.pa.state,v.pp,.int .i64 t.pa.mark,v.pt,.string t.fe]
def SB (w:World) (B:Nat) (cs:List Value):Prop:=BlkC w B 98 cs
theorem inf_gs:(Tryz.prog.info? 24).map (·.size)=some 1:=by kernel_rfl
theorem inf_st:(Tryz.prog.info? 9).map (·.size)=some 1:=by kernel_rfl
theorem built_sc (p:Pa) (pp pt lv av:Value) (t:Te) (v:Tv):Tryz.prog.built 98 [(0,.agg #[.int .i64 p.state,pp,.int .i64 p.mark,pt,lv,av]),(1,.agg (teCs t v))]=some (scCs p pp pt lv av t v).toArray:=by kernel_rfl
theorem build2_T {w:World} {ops:Array Oper} {rest:List Oper} {o:Oper} {a:Act} {Q:Exit->Act->World->Prop} (hgd:Region.wanted o (yielded ops a.tmps)=true) (t:TypeId) (i0 i1:Nat) (x0 x1:Operand) (ho:o.op=.build t #[(i0,x0),(i1,x1)]) (v0 v1:Value) (cs:Array Value)
  (h0:a.eval x0=v0) (h1:a.eval x1=v1) (hf:Tryz.prog.built t [(i0,v0),(i1,v1)]=some cs)
  (h:wpList Tryz.prog ops Q rest (a.put o.dst (.agg cs)) w):wpList Tryz.prog ops Q (o::rest) a w:=by
 refine wpList_step fun K hK=>?_
 rw [if_pos hgd]
 have e:(#[(i0,x0),(i1,x1)].map fun (i,x)=>(i,a.eval x)).toList=[(i0,v0),(i1,v1)]:=by simp [h0,h1]
 exact wp_build t _ ho (by rw [e,hf];rfl) (by rw [e,hf];exact hK _ _ h)
structure ScI (w0 W:World) (b1 b2:Nat) (cs:List Value) (xg xo:Value) (G O:List (List Ce)) (L:List (Value×List Int)):Prop where
 b:TB W w0.heap.size cs
 g:OwnR W (w0.heap.size+1) b1 xg G
 o:OwnR W b1 b2 xo O
 l:LiOk W b2 L
 k:Below w0.heap.size w0 W
 z:w0.heap.size+1<=b1/\b1<=b2/\b2<=W.heap.size
theorem screenOf_any (t:Te) (v:Tv) (w:World) (h:SlT w t v) (hz:RtT t) (hf:t.fe.size<=281474976710656) :
  Calls Tryz.prog 47 #[.agg (teCs t v)] w fun e w'=>∃ B v' vg vo,e=.returned (.pointer (some ⟨B,0,none⟩))/\SB w' B (scCs t.pa v'.pp v'.pt (.slice none 0 0) (.slice none 0 0) t v')/\OwnS w' (w.heap.size+1) t v' vg vo/\w.heap.size<B/\Below w.heap.size w w':=by
 obtain ⟨vg,vo,vti,vpp,vpt⟩:=v;obtain ⟨hg,ho,hti,hpp,hpt⟩:=h;simp only at hg ho hti hpp hpt;obtain ⟨⟨z1,z1'⟩,z2,⟨z3,z3'⟩,z4,z5,z6,z7⟩:=hz;have cG:=fun W hW=>copiedG_any vg t.g W hW (by omega) (fun i hi=>by have:=z2 i hi;omega)
 have cO:=fun W hW=>copiedG_any vo t.o W hW (by omega) (fun i hi=>by have:=z4 i hi;omega)
 have cT:=fun W hW=>copiedNumbers_any vti t.ti W hW (by omega)
 have cP:=fun W hW=>copiedNumbers_any vpp t.pa.params W hW (by omega)
 have cQ:=fun W hW=>copiedNumbers_any vpt t.pa.text W hW (by omega)
 have cF:=fun W=>clone_any t.fe W hf
 obtain ⟨ga,gp,hq1⟩:=slG_shp hg;obtain ⟨oa,op,hq2⟩:=slG_shp ho;obtain ⟨tia,tip,hq3⟩:=hti.shp;obtain ⟨ppa,ppp,hq4⟩:=hpp.shp;obtain ⟨pta,ptp,hq5⟩:=hpt.shp;subst hq1;subst hq2;subst hq3;subst hq4;subst hq5;have kb:=bal' w (Obj.cells (teCs t ⟨.slice ga t.g.length gp,.slice oa t.o.length op,.slice tia t.ti.length tip,.slice ppa t.pa.params.length ppp,.slice pta t.pa.text.length ptp⟩) 35);have hB:=TB.new w (teCs t ⟨.slice ga t.g.length gp,.slice oa t.o.length op,.slice tia t.ti.length tip,.slice ppa t.pa.params.length ppp,.slice pta t.pa.text.length ptp⟩).toList;obtain ⟨w1,hw1⟩:∃ w1,w1=w.alloc (Obj.cells (teCs t ⟨.slice ga t.g.length gp,.slice oa t.o.length op,.slice tia t.ti.length tip,.slice ppa t.pa.params.length ppp,.slice pta t.pa.text.length ptp⟩) 35):=⟨_,rfl⟩;have zs1:w1.heap.size=w.heap.size+1:=by rw [hw1];simp
 have hB:TB w1 w.heap.size [.int .i64 t.gc,.slice ga t.g.length gp,.int .i64 t.oc,.slice oa t.o.length op,.int .i64 t.row,.int .i64 t.col,.int .i64 t.st.fore,.int .i64 t.st.back,.bool t.st.bold,.bool t.st.under,.bool t.st.turned,.int .i64 t.top,.int .i64 t.bot,.bool t.full,.bool t.wrap,.bool t.away,.bool t.hid,.int .i64 t.sr,.int .i64 t.sc,.int .i64 t.ss.fore,.int .i64 t.ss.back,.bool t.ss.bold,.bool t.ss.under,.bool t.ss.turned,.slice tia t.ti.length tip,.int .i64 t.pa.state,.slice ppa t.pa.params.length ppp,.int .i64 t.pa.mark,.slice pta t.pa.text.length ptp,.string t.fe]:=by rw [hw1];exact hB
 rw [<- hw1] at kb
 replace hw1:=(show Hid _ from hw1);clear z1 z1' z2 z3 z3' z4 z5 z6 z7 hf;go_enter Tryz.func47,Tryz.ntmps47;refine wp_seq_k (fun K hK=>?_);have hH:=(show Hid _ from hK);clear hK;go_wp2;refine hH.out _ _ ?_;rw [<- hw1.out]
 clear hH hw1;have c1:w1.cell? ⟨w.heap.size,1,none⟩=some (.slice ga t.g.length gp):=cAl hB 1;go_wp2_with fail;refine (cG _ (hg.below kb)).mono ?_;rintro e w2 ⟨vsg,rfl,hng,hb⟩;have og:OwnR w2 (w.heap.size+1) w2.heap.size (.slice (some ⟨w1.heap.size,0,none⟩) t.g.length t.g.length) t.g:=by rw [<- zs1];exact OwnR.of hng.g
 obtain ⟨xga,hxga⟩:∃ a,a=some (Addr.mk w1.heap.size 0 none):=⟨_,rfl⟩;rw [<- hxga] at og
 rw [<- hxga]
 replace hB:=hB.below hb;replace kb:=kb.trans (hb.mono kb.size);have s12:=hb.size;clear hng hb cG hxga c1;go_wp2_with (refine store_at (by rfl) 24 _ _ (by rfl) inf_gs hB (by rfl) (by rfl) (by rfl) (by rfl) (by rfl) ?_;intro W2 hgr hB1 hz1;have c3:W2.cell? ⟨w.heap.size,3,none⟩=some (.slice oa t.o.length op):=cAl hB1 3);have kb2:Below w.heap.size w W2:=kb.grown hgr kb.size (fun g e=>by cases e;exact Nat.le_refl _);replace hB:TB W2 w.heap.size [.int .i64 t.gc,.slice xga t.g.length t.g.length,.int .i64 t.oc,.slice oa t.o.length op,.int .i64 t.row,.int .i64 t.col,.int .i64 t.st.fore,.int .i64 t.st.back,.bool t.st.bold,.bool t.st.under,.bool t.st.turned,.int .i64 t.top,.int .i64 t.bot,.bool t.full,.bool t.wrap,.bool t.away,.bool t.hid,.int .i64 t.sr,.int .i64 t.sc,.int .i64 t.ss.fore,.int .i64 t.ss.back,.bool t.ss.bold,.bool t.ss.under,.bool t.ss.turned,.slice tia t.ti.length tip,.int .i64 t.pa.state,.slice ppa t.pa.params.length ppp,.int .i64 t.pa.mark,.slice pta t.pa.text.length ptp,.string t.fe]:=hB1;replace og:=og.grown hgr (by omega);clear hB1 hgr kb;refine (cO _ (ho.below kb2)).mono ?_;rintro e w3 ⟨vso,rfl,hno,hb⟩;have oo:OwnR w3 w2.heap.size w3.heap.size (.slice (some ⟨W2.heap.size,0,none⟩) t.o.length t.o.length) t.o:=by rw [<- hz1];exact OwnR.of hno.g
 obtain ⟨xoa,hxoa⟩:∃ a,a=some (Addr.mk W2.heap.size 0 none):=⟨_,rfl⟩;rw [<- hxoa] at oo
 rw [<- hxoa]
 have I:ScI w w3 w2.heap.size w3.heap.size [.int .i64 t.gc,.slice xga t.g.length t.g.length,.int .i64 t.oc,.slice oa t.o.length op,.int .i64 t.row,.int .i64 t.col,.int .i64 t.st.fore,.int .i64 t.st.back,.bool t.st.bold,.bool t.st.under,.bool t.st.turned,.int .i64 t.top,.int .i64 t.bot,.bool t.full,.bool t.wrap,.bool t.away,.bool t.hid,.int .i64 t.sr,.int .i64 t.sc,.int .i64 t.ss.fore,.int .i64 t.ss.back,.bool t.ss.bold,.bool t.ss.under,.bool t.ss.turned,.slice tia t.ti.length tip,.int .i64 t.pa.state,.slice ppa t.pa.params.length ppp,.int .i64 t.pa.mark,.slice pta t.pa.text.length ptp,.string t.fe] _ _ _ _ []:=⟨hB.below hb,og.below hb,oo,LiOk.nil _ _,kb2.trans (hb.mono kb2.size),by omega,by rw [<- hz1];exact hb.size,Nat.le_refl _⟩;generalize w3.heap.size=b2 at I;generalize w2.heap.size=b1 at *;clear hB og oo hno hb kb2 hz1 cO hxoa c3 s12 zs1;go_wp2_with (refine store_at (by rfl) 24 _ _ (by rfl) inf_gs I.b (by rfl) (by rfl) (by rfl) (by rfl) (by rfl) ?_;intro W3 hgr hp hz3;have I3:ScI w W3 b1 b2 [.int .i64 t.gc,.slice xga t.g.length t.g.length,.int .i64 t.oc,.slice xoa t.o.length t.o.length,.int .i64 t.row,.int .i64 t.col,.int .i64 t.st.fore,.int .i64 t.st.back,.bool t.st.bold,.bool t.st.under,.bool t.st.turned,.int .i64 t.top,.int .i64 t.bot,.bool t.full,.bool t.wrap,.bool t.away,.bool t.hid,.int .i64 t.sr,.int .i64 t.sc,.int .i64 t.ss.fore,.int .i64 t.ss.back,.bool t.ss.bold,.bool t.ss.under,.bool t.ss.turned,.slice tia t.ti.length tip,.int .i64 t.pa.state,.slice ppa t.pa.params.length ppp,.int .i64 t.pa.mark,.slice pta t.pa.text.length ptp,.string t.fe] _ _ _ _ _:=I.stored hgr hp;have c24:W3.cell? ⟨w.heap.size,24,none⟩=some (.slice tia t.ti.length tip):=cAl I3.b 24);clear I hgr hp hz3;refine (cT _ (hti.below (I3.k.mono (Nat.le_refl _)))).mono ?_;rintro e w4 ⟨u,rfl,hnt,hb⟩;obtain ⟨xta,xtn,xtp,hx⟩:=hnt.shape;subst hx;have I4:=I3.new hb hnt;clear I3 hnt hb cT c24;go_wp2_with (refine store_at (by rfl) 29 _ _ (by rfl) inf_l I4.b (by rfl) (by rfl) (by rfl) (by rfl) (by rfl) ?_;intro W4 hgr hp hz4;have J4:ScI w W4 b1 b2 [.int .i64 t.gc,.slice xga t.g.length t.g.length,.int .i64 t.oc,.slice xoa t.o.length t.o.length,.int .i64 t.row,.int .i64 t.col,.int .i64 t.st.fore,.int .i64 t.st.back,.bool t.st.bold,.bool t.st.under,.bool t.st.turned,.int .i64 t.top,.int .i64 t.bot,.bool t.full,.bool t.wrap,.bool t.away,.bool t.hid,.int .i64 t.sr,.int .i64 t.sc,.int .i64 t.ss.fore,.int .i64 t.ss.back,.bool t.ss.bold,.bool t.ss.under,.bool t.ss.turned,.slice xta xtn xtp,.int .i64 t.pa.state,.slice ppa t.pa.params.length ppp,.int .i64 t.pa.mark,.slice pta t.pa.text.length ptp,.string t.fe] _ _ _ _ _:=I4.stored hgr hp;have c26:W4.cell? ⟨w.heap.size,26,none⟩=some (.slice ppa t.pa.params.length ppp):=cAl J4.b 26);clear I4 hgr hp hz4;refine (cP _ (hpp.below J4.k)).mono ?_;rintro e w5 ⟨u,rfl,hnt,hb⟩;obtain ⟨xpa,xpn,xpp,hx⟩:=hnt.shape;subst hx;have I5:=J4.new hb hnt;clear J4 hnt hb cP c26;go_wp2_with (refine store_at (by rfl) 29 _ _ (by rfl) inf_l I5.b (by rfl) (by rfl) (by rfl) (by rfl) (by rfl) ?_;intro W5 hgr hp hz5;have J5:ScI w W5 b1 b2 [.int .i64 t.gc,.slice xga t.g.length t.g.length,.int .i64 t.oc,.slice xoa t.o.length t.o.length,.int .i64 t.row,.int .i64 t.col,.int .i64 t.st.fore,.int .i64 t.st.back,.bool t.st.bold,.bool t.st.under,.bool t.st.turned,.int .i64 t.top,.int .i64 t.bot,.bool t.full,.bool t.wrap,.bool t.away,.bool t.hid,.int .i64 t.sr,.int .i64 t.sc,.int .i64 t.ss.fore,.int .i64 t.ss.back,.bool t.ss.bold,.bool t.ss.under,.bool t.ss.turned,.slice xta xtn xtp,.int .i64 t.pa.state,.slice xpa xpn xpp,.int .i64 t.pa.mark,.slice pta t.pa.text.length ptp,.string t.fe] _ _ _ _ _:=I5.stored hgr hp;have c28:W5.cell? ⟨w.heap.size,28,none⟩=some (.slice pta t.pa.text.length ptp):=cAl J5.b 28)
 clear I5 hgr hp hz5;refine (cQ _ (hpt.below J5.k)).mono ?_;rintro e w6 ⟨u,rfl,hnt,hb⟩;obtain ⟨xqa,xqn,xqp,hx⟩:=hnt.shape;subst hx;have I6:=J5.new hb hnt;clear J5 hnt hb cQ c28;go_wp2_with (refine store_at (by rfl) 29 _ _ (by rfl) inf_l I6.b (by rfl) (by rfl) (by rfl) (by rfl) (by rfl) ?_;intro W6 hgr hp hz6;have J6:ScI w W6 b1 b2 [.int .i64 t.gc,.slice xga t.g.length t.g.length,.int .i64 t.oc,.slice xoa t.o.length t.o.length,.int .i64 t.row,.int .i64 t.col,.int .i64 t.st.fore,.int .i64 t.st.back,.bool t.st.bold,.bool t.st.under,.bool t.st.turned,.int .i64 t.top,.int .i64 t.bot,.bool t.full,.bool t.wrap,.bool t.away,.bool t.hid,.int .i64 t.sr,.int .i64 t.sc,.int .i64 t.ss.fore,.int .i64 t.ss.back,.bool t.ss.bold,.bool t.ss.under,.bool t.ss.turned,.slice xta xtn xtp,.int .i64 t.pa.state,.slice xpa xpn xpp,.int .i64 t.pa.mark,.slice xqa xqn xqp,.string t.fe] _ _ _ _ _:=I6.stored hgr hp;have c29:W6.cell? ⟨w.heap.size,29,none⟩=some (.string t.fe):=cAl J6.b 29);clear I6 hgr hp hz6;refine (cF _).mono ?_;rintro e w7 ⟨rfl,hb⟩;have I7:=J6.below hb;clear J6 hb cF c29
 go_wp2_with (first
  | (refine store_at (by rfl) 9 _ _ (by rfl) inf_st I7.b (by rfl) (by rfl) (by rfl) (by rfl) (by rfl) ?_;intro W7 hgr hp hz7;have J7:ScI w W7 b1 b2 [.int .i64 t.gc,.slice xga t.g.length t.g.length,.int .i64 t.oc,.slice xoa t.o.length t.o.length,.int .i64 t.row,.int .i64 t.col,.int .i64 t.st.fore,.int .i64 t.st.back,.bool t.st.bold,.bool t.st.under,.bool t.st.turned,.int .i64 t.top,.int .i64 t.bot,.bool t.full,.bool t.wrap,.bool t.away,.bool t.hid,.int .i64 t.sr,.int .i64 t.sc,.int .i64 t.ss.fore,.int .i64 t.ss.back,.bool t.ss.bold,.bool t.ss.under,.bool t.ss.turned,.slice xta xtn xtp,.int .i64 t.pa.state,.slice xpa xpn xpp,.int .i64 t.pa.mark,.slice xqa xqn xqp,.string t.fe] _ _ _ _ _:=I7.stored hgr hp)
  | (refine load_at (by rfl) 31 _ (by rfl) [.int .i64 t.pa.state,.slice xpa xpn xpp,.int .i64 t.pa.mark,.slice xqa xqn xqp] Tryz.underlying31 rfl inf_p J7.b (by rfl) (by rfl) ?_)
  | (refine load_T (cs:=teCs t ⟨.slice xga t.g.length t.g.length,.slice xoa t.o.length t.o.length,.slice xta xtn xtp,.slice xpa xpn xpp,.slice xqa xqn xqp⟩) (by rfl) 35 _ (by rfl) Tryz.underlying35 rfl info_te J7.b (by rfl) ?_)
  | (refine build2_T (by rfl) 98 _ _ _ _ (by rfl) _ _ (scCs t.pa (.slice xpa xpn xpp) (.slice xqa xqn xqp) (.slice none 0 0) (.slice none 0 0) t ⟨.slice xga t.g.length t.g.length,.slice xoa t.o.length t.o.length,.slice xta xtn xtp,.slice xpa xpn xpp,.slice xqa xqn xqp⟩).toArray (by rfl) (by rfl) (built_sc t.pa (.slice xpa xpn xpp) (.slice xqa xqn xqp) (.slice none 0 0) (.slice none 0 0) t ⟨.slice xga t.g.length t.g.length,.slice xoa t.o.length t.o.length,.slice xta xtn xtp,.slice xpa xpn xpp,.slice xqa xqn xqp⟩) ?_))
 have hR:RgT W7 (w.heap.size+1) b1 b2 b2 t ⟨.slice xga t.g.length t.g.length,.slice xoa t.o.length t.o.length,.slice xta xtn xtp,.slice xpa xpn xpp,.slice xqa xqn xqp⟩:=⟨J7.g,J7.o,J7.l.perm (by exact (List.reverse_perm _).symm),J7.z.1,J7.z.2.1,Nat.le_refl _,J7.z.2.2⟩;obtain ⟨vg',vo',hO⟩:=hR.own;have hal:=bal' W7 (Obj.cells (scCs t.pa (.slice xpa xpn xpp) (.slice xqa xqn xqp) (.slice none 0 0) (.slice none 0 0) t ⟨.slice xga t.g.length t.g.length,.slice xoa t.o.length t.o.length,.slice xta xtn xtp,.slice xpa xpn xpp,.slice xqa xqn xqp⟩).toArray 98);have hS:=BlkC.new W7 98 (scCs t.pa (.slice xpa xpn xpp) (.slice xqa xqn xqp) (.slice none 0 0) (.slice none 0 0) t ⟨.slice xga t.g.length t.g.length,.slice xoa t.o.length t.o.length,.slice xta xtn xtp,.slice xpa xpn xpp,.slice xqa xqn xqp⟩);rw [hz7] at hS
 have hlt:w.heap.size<w7.heap.size:=by rw [<- hz7];have:=J7.z;omega
 have kbz:=J7.k.trans (hal.mono J7.k.size);go_ret;exact ⟨w7.heap.size,⟨.slice xga t.g.length t.g.length,.slice xoa t.o.length t.o.length,.slice xta xtn xtp,.slice xpa xpn xpp,.slice xqa xqn xqp⟩,vg',vo',rfl,hS,hO.below hal,hlt,kbz⟩
theorem lastRow_any (B:Nat) (a:Option Addr) (n c:Nat) (w:World) (hc:w.cell? ⟨B,7,none⟩=some (.slice a n c)) (hn:n<=1000) :
  Calls Tryz.prog 82 #[.pointer (some ⟨B,0,none⟩)] w fun e w'=>e=.returned (.int .i64 ((n:Int)-1))/\w'=w:=by
 go_enter Tryz.func82,Tryz.ntmps82;go_wp2;go_ret;exact ⟨rfl,rfl⟩
theorem lastCol_any (B:Nat) (c:Int) (w:World) (hc:w.cell? ⟨B,6,none⟩=some (.int .i64 c)) (hn:0<=c/\c<=1000) :
  Calls Tryz.prog 83 #[.pointer (some ⟨B,0,none⟩)] w fun e w'=>e=.returned (.int .i64 (c-1))/\w'=w:=by
 obtain ⟨h1,h2⟩:=hn;go_enter Tryz.func83,Tryz.ntmps83;go_wp2;go_ret;exact ⟨rfl,rfl⟩
theorem seen_any (B:Nat) (p:Pa) (lv av:Value) (t:Te) (ga oa ta pa qa:Option Addr) (gn oN tn pn qn gc oc tc pc qc:Nat) (x y:Value) (w:World) (hB:SB w B (scCs p (.slice pa pn pc) (.slice qa qn qc) lv av t ⟨.slice ga gn gc,.slice oa oN oc,.slice ta tn tc,x,y⟩)) :
  Calls Tryz.prog 50 #[.pointer (some ⟨B,0,none⟩)] w fun e w'=>e=.returned (.agg (teCs { t with pa:=p } ⟨.slice ga gn gc,.slice oa oN oc,.slice ta tn tc,.slice pa pn pc,.slice qa qn qc⟩)) /\
   SB w' B (scCs p (.slice pa pn pc) (.slice qa qn qc) lv av { t with pa:=p } ⟨.slice ga gn gc,.slice oa oN oc,.slice ta tn tc,.slice pa pn pc,.slice qa qn qc⟩)/\w.grownBy w' (some B):=by
 have hR:=TB.new w [.int .i64 0,.slice none 0 0,.int .i64 0,.slice none 0 0,.int .i64 0,.int .i64 0,.int .i64 0,.int .i64 0,.bool false,.bool false,.bool false,.int .i64 0,.int .i64 0,.bool false,.bool false,.bool false,.bool false,.int .i64 0,.int .i64 0,.int .i64 0,.int .i64 0,.bool false,.bool false,.bool false,.slice none 0 0,.int .i64 0,.slice none 0 0,.int .i64 0,.slice none 0 0,.string ⟨#[]⟩];have hb0:=bal' w (Obj.cells #[.int .i64 0,.slice none 0 0,.int .i64 0,.slice none 0 0,.int .i64 0,.int .i64 0,.int .i64 0,.int .i64 0,.bool false,.bool false,.bool false,.int .i64 0,.int .i64 0,.bool false,.bool false,.bool false,.bool false,.int .i64 0,.int .i64 0,.int .i64 0,.int .i64 0,.bool false,.bool false,.bool false,.slice none 0 0,.int .i64 0,.slice none 0 0,.int .i64 0,.slice none 0 0,.string ⟨#[]⟩] 35);obtain ⟨w1,hw1⟩:∃ w1,w1=w.alloc (Obj.cells #[.int .i64 0,.slice none 0 0,.int .i64 0,.slice none 0 0,.int .i64 0,.int .i64 0,.int .i64 0,.int .i64 0,.bool false,.bool false,.bool false,.int .i64 0,.int .i64 0,.bool false,.bool false,.bool false,.bool false,.int .i64 0,.int .i64 0,.int .i64 0,.int .i64 0,.bool false,.bool false,.bool false,.slice none 0 0,.int .i64 0,.slice none 0 0,.int .i64 0,.slice none 0 0,.string ⟨#[]⟩] 35):=⟨_,rfl⟩;rw [<- hw1] at hb0 hR
 have hB1:SB w1 B _:=BlkC.below hB hb0;have hlt:B<w.heap.size:=BlkC.lt hB;replace hw1:=(show Hid _ from hw1);go_enter Tryz.func50,Tryz.ntmps50;refine wp_seq_k (fun K hK=>?_);have hH:=(show Hid _ from hK);clear hK;go_wp2;refine hH.out _ _ ?_;rw [<- hw1.out]
 clear hH hw1 hB
 go_wp2_with (first
  | (refine load_at (by rfl) 31 _ (by rfl) [.int .i64 p.state,.slice pa pn pc,.int .i64 p.mark,.slice qa qn qc] Tryz.underlying31 rfl inf_p hB1 (by rfl) (by rfl) ?_)
  | (refine store_at (by rfl) 31 _ _ (by rfl) inf_p hB1 (by rfl) (by rfl) (by rfl) (by rfl) (by rfl) ?_;intro w2 hg2 hp hz2;have hB2:SB w2 B (scCs p (.slice pa pn pc) (.slice qa qn qc) lv av { t with pa:=p } ⟨.slice ga gn gc,.slice oa oN oc,.slice ta tn tc,.slice pa pn pc,.slice qa qn qc⟩):=hp)
  | (refine load_at (by rfl) 35 _ (by rfl) (teCs { t with pa:=p } ⟨.slice ga gn gc,.slice oa oN oc,.slice ta tn tc,.slice pa pn pc,.slice qa qn qc⟩).toList Tryz.underlying35 rfl info_te hB2 (by rfl) (by rfl) ?_)
  | (refine store_T (cs:=teCs { t with pa:=p } ⟨.slice ga gn gc,.slice oa oN oc,.slice ta tn tc,.slice pa pn pc,.slice qa qn qc⟩) (by rfl) 35 _ _ (by rfl) info_te (by rfl) (by rfl) (hR.kept hg2 (by intro e;injection e with e;omega)) (by rfl) (by rfl) ?_;intro w3 hg3 hR3 hz3))
 have hB3:SB w3 B _:=BlkC.kept hB2 hg3 (by intro e;injection e with e;omega)
 have hgz:w.grownBy w3 (some B):=by
  have h1:=hb0.block;refine ⟨hg3.os.trans (hg2.os.trans hb0.os),hg3.tape.trans (hg2.tape.trans hb0.tape),hg3.output.trans (hg2.output.trans hb0.output),by have:=hb0.size;omega,fun k hk hne=>?_⟩;have:=hb0.size;rw [hg3.block k (by omega) (by intro e;injection e with e;omega),hg2.block k (by omega) hne,hb0.block k hk]
 exact bodyPost_ret (v:=.agg (teCs { t with pa:=p } ⟨.slice ga gn gc,.slice oa oN oc,.slice ta tn tc,.slice pa pn pc,.slice qa qn qc⟩)) (results_cell_row Tryz.results50 _ _ _ _ _ _ _ rfl hR3 Tryz.underlying35 rfl info_te) rfl ⟨rfl,hB3,hgz⟩
theorem back_any (B:Nat) (s:St) (w:World) (hc:w.cell? ⟨B,13,none⟩=some (.int .i64 s.back)) (hlt:B<w.heap.size) :
  Calls Tryz.prog 239 #[.pointer (some ⟨B,0,none⟩)] w fun e w'=>e=.returned (stV (backS s))/\Below w.heap.size w w':=by
 have hb:=bal' w (Obj.cells #[Value.int IntKind.i64 0,Value.int IntKind.i64 s.back,Value.bool false,Value.bool false,Value.bool false] 28);go_enter Tryz.func239,Tryz.ntmps239;go_wp2;exact bodyPost_ret (v:=.agg #[Value.int IntKind.i64 0,Value.int IntKind.i64 s.back,Value.bool false,Value.bool false,Value.bool false]) (by simp [results,Tryz.results239,go_sem]) rfl ⟨rfl,hb⟩
structure RtW (t:Te) (cn N:Nat):Prop where
 gc:t.gc=cn
 oc:t.oc=cn
 c:1<=cn/\cn<=60
 n:t.g.length=N
 m:t.o.length=N
 n1:1<=N/\N<=30
 gx:∀ i,i<N->(rowX t.g i).length=cn
 ox:∀ i,i<N->(rowX t.o i).length=cn
 row:0<=t.row/\t.row<N
 col:0<=t.col/\t.col<cn
 tb:0<=t.top/\t.top<=t.bot/\t.bot<N
theorem rowsUp_any (cn N base B:Nat) (x0 x1 x2 x3 x4 x5:Value) (t:Te) (v:Tv) (vg vo:List Value) (w:World) (h:Scr w 98 base B [x0,x1,x2,x3,x4,x5] t v vg vo) (hbase:base<=w.heap.size) (rt:RtW t cn N) (a m n:Nat) (ham:a+m<=N) (hm0:0<m) :
  Calls Tryz.prog 230 #[.pointer (some ⟨B,0,none⟩),.int .i64 (a:Int),.int .i64 ((a:Int)+m-1),.int .i64 (n:Int)] w fun e w'=>e=.returned (.tuple #[])/\∃ v' vg' vo',Res w w' 98 base B [x0,x1,x2,x3,x4,x5] v vg vo (moveT t a ((a:Int)+m-1) n) v' vg' vo':=by
 obtain ⟨e1,e2,⟨c1,c2⟩,e3,e4,⟨n1,n2⟩,gx,ox,_,_,_⟩:=rt;rcases h.o.1.shape with ⟨_,hs⟩|⟨g,cap,hvg,hbg,hlg,hcap⟩
 ·rw [hs] at e3;simp at e3;omega
 rw [e3] at hvg hcap
 have hres:=fun W (hb:Below w.heap.size w W)=>(Res.of_below h hb)
 have hc7:∀ W,Below w.heap.size w W->W.cell? ⟨B,7,none⟩=some (.slice (some ⟨g,0,none⟩) N cap):=fun W hb=>by rw [(h.below hb).cell 7];show some v.g=_;rw [hvg]
 have hc13:∀ W,Below w.heap.size w W->W.cell? ⟨B,13,none⟩=some (.int .i64 t.st.back):=fun W hb=>(h.below hb).cell 13
 have hrr:∀ W,Below w.heap.size w W->Calls Tryz.prog 251 #[.slice (some ⟨g,a,none⟩) m (cap-a),.int .i64 (n:Int),stV (backS t.st)] W fun e w'=>e=.returned (.tuple #[])/\∃ vg',Res w w' 98 base B [x0,x1,x2,x3,x4,x5] v vg vo (moveT t a ((a:Int)+m-1) n) v vg' vo:=by
  intro W hb;have hW:=h.below hb;have ho:=hW.o.1;rw [hvg] at ho
  refine (raiseRows_s cn base W.heap.size g N cap a m (cap-a) n vg t.g (backS t.st) W ho (World.ownsRow.lt ho.2.1 g rfl).2 (Nat.le_refl _) e3 gx c1 c2 ham hm0 (by omega) n2).mono ?_;rintro e w' ⟨rfl,⟨vs',hsub,hv⟩,hg⟩;refine ⟨rfl,vs',?_⟩;have hr:=hW.rows (Nat.le_trans hbase hb.size) vs' (moveR cn t.g a (a+m-1) n (backS t.st)) (by rw [hvg];exact hv.up hg.size) (by rw [hvg];exact hg) (fun k _ c=>hsub.gr c)
  have em:moveT t a ((a:Int)+m-1) n={ t with g:=moveR cn t.g a (a+m-1) n (backS t.st) }:=by
   unfold moveT;rw [e1,Int.toNat_natCast,Int.toNat_natCast,show ((a:Int)+m-1).toNat=a+m-1 by omega]
  rw [em]
  exact (hres W hb).trans hr
 unfold stV at hrr;have hlt:=h.lt;have hbk:=fun W (hb:Below w.heap.size w W)=>back_any B t.st W (hc13 W hb) (Nat.lt_of_lt_of_le hlt hb.size)
 unfold stV at hbk;clear hres hc13 h hbase e1 e2 e4 gx ox hvg hbg hlg c1 c2 hlt;have hd:=bdr w;have d7:=hc7 _ hd;obtain ⟨q,hq⟩:∃ q:Nat,Hid (q=a+m):=⟨_,rfl⟩;have f1:(0:Int)<=(a:Int):=by omega
 have f2:IntKind.i64.wrap ((a:Int)+m)=(q:Int):=by rw [hq.out];simp [IntKind.wrap,IntKind.bits,IntKind.signed];omega
 have f3:(0:Int)<=(q:Int):=by omega
 have f4:(q:Int)<=(cap:Int):=by have:=hq.out;omega
 have f8:a<=q:=by have:=hq.out;omega
 have f5:¬ (cap-a=0):=by omega
 have f6:¬ (cap=a):=by omega
 have f7:q-a=m:=by have:=hq.out;omega
 clear e3;go_enter Tryz.func230,Tryz.ntmps230;go_wp2;refine wp_region_noPanic ?_;refine wp_region_held_drew (S:=(fun _=>True)) (by kernel_rfl) trivial (fun hHeld=>?_);refine tk 0 ?_;refine tk 1 ?_;refine tk 2 ?_;refine tk 3 ?_;refine tk 4 ?_;refine tk 6 ?_;refine tk 7 ?_;refine tk 8 ?_;refine tk 10 ?_;refine tk 11 ?_;refine rd2 5 12 (fun K hK=>?_) fun K hK=>?_
 ·go_simp
  refine hK.out _ _ trivial (fun hHeld=>?_);clear hK K;refine tk 9 ?_;refine rd 12 fun K hK=>?_
  go_simp;refine (hbk _ hd).mono ?_;rintro e wk ⟨rfl,hb⟩;have hd2:=hd.trans (hb.mono hd.size);have d7:=hc7 _ hd2;unfold backS;go_wp2_with fail;refine hK.out _ _ trivial (fun hHeld=>?_);clear hK K;refine rd 13 fun K hK=>?_
  go_simp;refine (hrr _ hd2).mono ?_;rintro e w2 ⟨rfl,vg2,hR⟩;go_wp2_with fail;refine hK.out _ _ trivial (fun hHeld=>?_);clear hK K
  (try simp only [Act.put,ZA,ZB,ZC,ZD,ZE,ZF])
  refine dn ?_;go_wp2;refine be ?_;exact ⟨rfl,_,_,_,hR⟩
 ·go_simp
  refine (hbk _ hd).mono ?_;rintro e wk ⟨rfl,hb⟩;have hd2:=hd.trans (hb.mono hd.size);have d7:=hc7 _ hd2;unfold backS;go_wp2_with fail;refine hK.out _ _ trivial (fun hHeld=>?_);clear hK K;refine rd 5 fun K hK=>?_
  go_simp;refine hK.out _ _ trivial (fun hHeld=>?_);clear hK K;refine tk 9 ?_;refine rd 13 fun K hK=>?_
  go_simp;refine (hrr _ hd2).mono ?_;rintro e w2 ⟨rfl,vg2,hR⟩;go_wp2_with fail;refine hK.out _ _ trivial (fun hHeld=>?_);clear hK K
  (try simp only [Act.put,ZA,ZB,ZC,ZD,ZE,ZF])
  refine dn ?_;go_wp2;refine be ?_;exact ⟨rfl,_,_,_,hR⟩
theorem rowsDown_any (cn N base B:Nat) (x0 x1 x2 x3 x4 x5:Value) (t:Te) (v:Tv) (vg vo:List Value) (w:World) (h:Scr w 98 base B [x0,x1,x2,x3,x4,x5] t v vg vo) (hbase:base<=w.heap.size) (rt:RtW t cn N) (a m n:Nat) (ham:a+m<=N) (hm0:0<m) :
  Calls Tryz.prog 231 #[.pointer (some ⟨B,0,none⟩),.int .i64 (a:Int),.int .i64 ((a:Int)+m-1),.int .i64 (n:Int)] w fun e w'=>e=.returned (.tuple #[])/\∃ v' vg' vo',Res w w' 98 base B [x0,x1,x2,x3,x4,x5] v vg vo (moveT t a ((a:Int)+m-1) (-(n:Int))) v' vg' vo':=by
 obtain ⟨e1,e2,⟨c1,c2⟩,e3,e4,⟨n1,n2⟩,gx,ox,_,_,_⟩:=rt;rcases h.o.1.shape with ⟨_,hs⟩|⟨g,cap,hvg,hbg,hlg,hcap⟩
 ·rw [hs] at e3;simp at e3;omega
 rw [e3] at hvg hcap
 have hres:=fun W (hb:Below w.heap.size w W)=>(Res.of_below h hb)
 have hc7:∀ W,Below w.heap.size w W->W.cell? ⟨B,7,none⟩=some (.slice (some ⟨g,0,none⟩) N cap):=fun W hb=>by rw [(h.below hb).cell 7];show some v.g=_;rw [hvg]
 have hc13:∀ W,Below w.heap.size w W->W.cell? ⟨B,13,none⟩=some (.int .i64 t.st.back):=fun W hb=>(h.below hb).cell 13
 have hrr:∀ W,Below w.heap.size w W->Calls Tryz.prog 252 #[.slice (some ⟨g,a,none⟩) m (cap-a),.int .i64 (n:Int),stV (backS t.st)] W fun e w'=>e=.returned (.tuple #[])/\∃ vg',Res w w' 98 base B [x0,x1,x2,x3,x4,x5] v vg vo (moveT t a ((a:Int)+m-1) (-(n:Int))) v vg' vo:=by
  intro W hb;have hW:=h.below hb;have ho:=hW.o.1;rw [hvg] at ho
  refine (lowerRows_s cn base W.heap.size g N cap a m (cap-a) n vg t.g (backS t.st) W ho (World.ownsRow.lt ho.2.1 g rfl).2 (Nat.le_refl _) e3 gx c1 c2 ham hm0 (by omega) n2).mono ?_;rintro e w' ⟨rfl,⟨vs',hsub,hv⟩,hg⟩;refine ⟨rfl,vs',?_⟩;have hr:=hW.rows (Nat.le_trans hbase hb.size) vs' (moveR cn t.g a (a+m-1) (-(n:Int)) (backS t.st)) (by rw [hvg];exact hv.up hg.size) (by rw [hvg];exact hg) (fun k _ c=>hsub.gr c)
  have em:moveT t a ((a:Int)+m-1) (-(n:Int))={ t with g:=moveR cn t.g a (a+m-1) (-(n:Int)) (backS t.st) }:=by
   unfold moveT;rw [e1,Int.toNat_natCast,Int.toNat_natCast,show ((a:Int)+m-1).toNat=a+m-1 by omega]
  rw [em]
  exact (hres W hb).trans hr
 unfold stV at hrr;have hlt:=h.lt;have hbk:=fun W (hb:Below w.heap.size w W)=>back_any B t.st W (hc13 W hb) (Nat.lt_of_lt_of_le hlt hb.size)
 unfold stV at hbk;clear hres hc13 h hbase e1 e2 e4 gx ox hvg hbg hlg c1 c2 hlt;have hd:=bdr w;have d7:=hc7 _ hd;obtain ⟨q,hq⟩:∃ q:Nat,Hid (q=a+m):=⟨_,rfl⟩;have f1:(0:Int)<=(a:Int):=by omega
 have f2:IntKind.i64.wrap ((a:Int)+m)=(q:Int):=by rw [hq.out];simp [IntKind.wrap,IntKind.bits,IntKind.signed];omega
 have f3:(0:Int)<=(q:Int):=by omega
 have f4:(q:Int)<=(cap:Int):=by have:=hq.out;omega
 have f8:a<=q:=by have:=hq.out;omega
 have f5:¬ (cap-a=0):=by omega
 have f6:¬ (cap=a):=by omega
 have f7:q-a=m:=by have:=hq.out;omega
 clear e3;go_enter Tryz.func231,Tryz.ntmps231;go_wp2;refine wp_region_noPanic ?_;refine wp_region_held_drew (S:=(fun _=>True)) (by kernel_rfl) trivial (fun hHeld=>?_);refine tk 0 ?_;refine tk 1 ?_;refine tk 2 ?_;refine tk 3 ?_;refine tk 4 ?_;refine tk 6 ?_;refine tk 7 ?_;refine tk 8 ?_;refine tk 10 ?_;refine tk 11 ?_;refine rd2 5 12 (fun K hK=>?_) fun K hK=>?_
 ·go_simp
  refine hK.out _ _ trivial (fun hHeld=>?_);clear hK K;refine tk 9 ?_;refine rd 12 fun K hK=>?_
  go_simp;refine (hbk _ hd).mono ?_;rintro e wk ⟨rfl,hb⟩;have hd2:=hd.trans (hb.mono hd.size);have d7:=hc7 _ hd2;unfold backS;go_wp2_with fail;refine hK.out _ _ trivial (fun hHeld=>?_);clear hK K;refine rd 13 fun K hK=>?_
  go_simp;refine (hrr _ hd2).mono ?_;rintro e w2 ⟨rfl,vg2,hR⟩;go_wp2_with fail;refine hK.out _ _ trivial (fun hHeld=>?_);clear hK K
  (try simp only [Act.put,ZA,ZB,ZC,ZD,ZE,ZF])
  refine dn ?_;go_wp2;refine be ?_;exact ⟨rfl,_,_,_,hR⟩
 ·go_simp
  refine (hbk _ hd).mono ?_;rintro e wk ⟨rfl,hb⟩;have hd2:=hd.trans (hb.mono hd.size);have d7:=hc7 _ hd2;unfold backS;go_wp2_with fail;refine hK.out _ _ trivial (fun hHeld=>?_);clear hK K;refine rd 5 fun K hK=>?_
  go_simp;refine hK.out _ _ trivial (fun hHeld=>?_);clear hK K;refine tk 9 ?_;refine rd 13 fun K hK=>?_
  go_simp;refine (hrr _ hd2).mono ?_;rintro e w2 ⟨rfl,vg2,hR⟩;go_wp2_with fail;refine hK.out _ _ trivial (fun hHeld=>?_);clear hK K
  (try simp only [Act.put,ZA,ZB,ZC,ZD,ZE,ZF])
  refine dn ?_;go_wp2;refine be ?_;exact ⟨rfl,_,_,_,hR⟩
theorem feedLine_any (cn N base B:Nat) (x0 x1 x2 x3 x4 x5:Value) (t:Te) (v:Tv) (vg vo:List Value) (w:World) (h:Scr w 98 base B [x0,x1,x2,x3,x4,x5] t v vg vo) (hbase:base<=w.heap.size) (rt:RtW t cn N) :
  Calls Tryz.prog 179 #[.pointer (some ⟨B,0,none⟩)] w fun e w'=>e=.returned (.tuple #[])/\∃ v' vg' vo',Res w w' 98 base B [x0,x1,x2,x3,x4,x5] v vg vo (lineT t) v' vg' vo':=by
 have c10:w.cell? ⟨B,10,none⟩=some (.int .i64 t.row):=h.cell 10;have c17:w.cell? ⟨B,17,none⟩=some (.int .i64 t.top):=h.cell 17;have c18:w.cell? ⟨B,18,none⟩=some (.int .i64 t.bot):=h.cell 18;obtain ⟨r1,r2⟩:=rt.row;obtain ⟨b1,b2,b3⟩:=rt.tb;have hn2:=rt.n1.2
 by_cases hb:t.row=t.bot
 ·have hru:=fun W (hbW:Below w.heap.size w W)=>rowsUp_any cn N base B x0 x1 x2 x3 x4 x5 t v vg vo W (h.below hbW) (Nat.le_trans hbase hbW.size) rt t.top.toNat (t.bot+1-t.top).toNat 1 (by omega) (by omega)
  rw [show ((t.top.toNat:Nat):Int)=t.top by omega,show t.top+((t.bot+1-t.top).toNat:Int)-1=t.bot by omega] at hru
  have hV:Hid (lineT t=moveT t t.top t.bot 1):=by show _=_;unfold lineT;rw [if_pos hb]
  rw [hV.out]
  have hof:=fun W (hbW:Below w.heap.size w W)=>Res.of_below h hbW
  have hd:=bdr w;rw [hb] at c10
  clear rt hbase hb r1 r2 b1 b2 b3 hn2 hV h;go_enter Tryz.func179,Tryz.ntmps179;go_wp2;refine wp_region_noPanic ?_;refine wp_region_held_drew (S:=(fun _=>True)) (by kernel_rfl) trivial (fun hHeld=>?_);refine tk 0 ?_;refine tk 1 ?_;refine tk 2 ?_;refine tk 3 ?_;refine tk 4 ?_;refine tk 6 ?_;refine tk 7 ?_;refine tk 8 ?_;refine tk 9 ?_;refine rd2 5 10 (fun K hK=>?_) fun K hK=>?_
  ·go_simp
   refine hK.out _ _ trivial (fun hHeld=>?_);clear hK K;refine rd 10 fun K hK=>?_
   go_simp;refine hK.out _ _ trivial (fun hHeld=>?_);clear hK K;refine rd 11 fun K hK=>?_
   go_simp;refine (hru _ hd).mono ?_;rintro e w2 ⟨rfl,v2,vg2,vo2,hR⟩;go_wp2_with fail;refine hK.out _ _ trivial (fun hHeld=>?_);clear hK K
   (try simp only [Act.put,ZA,ZB,ZC,ZD,ZE,ZF])
   refine dn ?_;go_wp2;refine be ?_;exact ⟨rfl,_,_,_,(hof _ hd).trans hR⟩
  ·go_simp
   refine hK.out _ _ trivial (fun hHeld=>?_);clear hK K;refine rd 5 fun K hK=>?_
   go_simp;refine hK.out _ _ trivial (fun hHeld=>?_);clear hK K;refine rd 11 fun K hK=>?_
   go_simp;refine (hru _ hd).mono ?_;rintro e w2 ⟨rfl,v2,vg2,vo2,hR⟩;go_wp2_with fail;refine hK.out _ _ trivial (fun hHeld=>?_);clear hK K
   (try simp only [Act.put,ZA,ZB,ZC,ZD,ZE,ZF])
   refine dn ?_;go_wp2;refine be ?_;exact ⟨rfl,_,_,_,(hof _ hd).trans hR⟩
 ·have hq:(t.row==t.bot)=false:=by simp [hb]
  have hng:∃ a c,v.g=.slice a N c:=by
   obtain ⟨a,c,e⟩:=slG_shp (SlG.of_own h.o.1.g);rw [rt.n] at e
   exact ⟨a,c,e⟩
  obtain ⟨ga,gc,hvg⟩:=hng;have c7:w.cell? ⟨B,7,none⟩=some (.slice ga N gc):=by rw [h.cell 7];show some v.g=_;rw [hvg]
  have hlr:=lastRow_any B ga N gc w c7 (by omega);have hN:=rt.n
  by_cases hl:t.row=(N:Int)-1
  ·have hV:Hid (lineT t=t):=by show _=_;unfold lineT;rw [if_neg hb,if_neg (by omega)]
   rw [hV.out]
   have hR:=h.res;rw [hl] at c10 hq
   clear rt hbase hb hvg hl hV h hN c7 c17 r1 r2 b1 b2 b3;go_enter Tryz.func179,Tryz.ntmps179;go_wp2_with fail;refine hlr.mono ?_;rintro e w1 ⟨rfl,hw⟩;subst hw;go_wp2;refine be ?_;exact ⟨rfl,_,_,_,hR⟩
  ·have hq2:(t.row==(N:Int)-1)=false:=by simp [hl]
   have hV:Hid (lineT t={ t with row:=t.row+1 }):=by show _=_;unfold lineT;rw [if_neg hb,if_pos (by omega)]
   rw [hV.out]
   have z10:=h.frozen 10
   have hR:Hid (Res w (w.setCell ⟨B,10,none⟩ (.int .i64 (t.row+1))) 98 base B [x0,x1,x2,x3,x4,x5] v vg vo { t with row:=t.row+1 } v vg vo) :=
    h.put (sCg B [.int .i64 (t.row+1)] 10 w) _ (sCh B 98 [.int .i64 (t.row+1)] 10 w _ h.b) rfl rfl rfl rfl rfl
   have hr2:t.row<=30:=by omega
   clear rt hbase hb hvg hl hV h hN c7 c17 b1 b2 b3 r2;go_enter Tryz.func179,Tryz.ntmps179;go_wp2_with fail;refine hlr.mono ?_;rintro e w1 ⟨rfl,hw⟩;subst hw;go_wp2;refine be ?_;exact ⟨rfl,_,_,_,hR.out⟩
def acA (k r:Int) (p:Value) (m:Int) (x:Value):Array Value:=#[.int .i64 k,.int .i64 r,p,.int .i64 m,x]
theorem control_any (cn N base B:Nat) (x0 x1 x2 x3 x4 x5:Value) (t:Te) (v:Tv) (vg vo:List Value) (w:World) (h:Scr w 98 base B [x0,x1,x2,x3,x4,x5] t v vg vo) (hbase:base<=w.heap.size) (rt:RtW t cn N) (k r m:Int) (p x:Value) :
  Calls Tryz.prog 123 #[.pointer (some ⟨B,0,none⟩),.agg (acA k r p m x)] w fun e w'=>e=.returned (.tuple #[])/\∃ v' vg' vo',Res w w' 98 base B [x0,x1,x2,x3,x4,x5] v vg vo (controlT t r) v' vg' vo':=by
 obtain ⟨W,hW⟩:∃ W,W=w.alloc (Obj.cells #[.int .i64 k,.int .i64 r,p,.int .i64 m,x] 37):=⟨_,rfl⟩;have hb0:Below w.heap.size w W:=by rw [hW];exact bal' _ _
 have hA1:W.cell? ⟨w.heap.size,1,none⟩=some (.int .i64 r):=by rw [hW];exact cAl (heap_alloc_new w _) 1
 have h0:=h.below hb0;have hof:=Res.of_below h hb0;have hbase0:base<=W.heap.size:=Nat.le_trans hbase hb0.size;replace hW:=(show Hid _ from hW);obtain ⟨k1,k2⟩:=rt.col;have hc:=rt.c
 have full:∀ (W1:World) (t1:Te) (v1:Tv) (g1 o1:List Value),Scr W1 98 base B [x0,x1,x2,x3,x4,x5] t1 v1 g1 o1->Res W1 (W1.setCell ⟨B,19,none⟩ (.bool false)) 98 base B [x0,x1,x2,x3,x4,x5] v1 g1 o1 { t1 with full:=false } v1 g1 o1 :=
  fun W1 t1 v1 g1 o1 h1=>h1.put (sCg B [.bool false] 19 W1) _ (sCh B 98 [.bool false] 19 W1 _ h1.b) rfl rfl rfl rfl rfl
 have colp:∀ (c:Int),Res W (W.setCell ⟨B,11,none⟩ (.int .i64 c)) 98 base B [x0,x1,x2,x3,x4,x5] v vg vo { t with col:=c } v vg vo :=
  fun c=>h0.put (sCg B [.int .i64 c] 11 W) _ (sCh B 98 [.int .i64 c] 11 W _ h0.b) rfl rfl rfl rfl rfl
 have c11:W.cell? ⟨B,11,none⟩=some (.int .i64 t.col):=h0.cell 11;have z11:W.frozen? ⟨B,11,none⟩=false:=h0.frozen 11;have c19:W.cell? ⟨B,19,none⟩=some (.bool t.full):=h0.cell 19;have z19:W.frozen? ⟨B,19,none⟩=false:=h0.frozen 19;unfold acA
 by_cases r8:r=8
 ·subst r8
  have hV:controlT t 8={ { t with col:=max 0 (t.col-1) } with full:=false }:=by unfold controlT;rw [if_pos rfl]
  rw [hV]
  obtain ⟨q,hq⟩:∃ q,Hid (max 0 (t.col-1)=q):=⟨_,rfl⟩;have hq2:max (t.col-1) 0=q:=by have:=hq.out;omega
  rw [hq.out]
  have h1:=colp q;have hR:=(show Hid _ from hof.trans (h1.trans (full _ _ _ _ _ h1.s)));have hw:IntKind.i64.wrap (t.col-1)=t.col-1:=by simp [IntKind.wrap,IntKind.bits,IntKind.signed];omega
  clear h h0 hof colp full rt hbase hbase0 h1 hV hb0;go_enter Tryz.func123,Tryz.ntmps123;refine wp_seq_k (fun K hK=>?_);have hH:=(show Hid _ from hK);clear hK;go_wp2;refine hH.out _ _ ?_;rw [<- hW.out]
  clear hH hW;go_wp2;refine be ?_;exact ⟨rfl,_,_,_,hR.out⟩
 by_cases r13:r=13
 ·subst r13
  have hV:controlT t 13={ { t with col:=0 } with full:=false }:=rfl;rw [hV]
  have h1:=colp 0;have hR:=(show Hid _ from hof.trans (h1.trans (full _ _ _ _ _ h1.s)));clear h h0 hof colp full rt hbase hbase0 h1 hV hb0 r8;go_enter Tryz.func123,Tryz.ntmps123;refine wp_seq_k (fun K hK=>?_);have hH:=(show Hid _ from hK);clear hK;go_wp2;refine hH.out _ _ ?_;rw [<- hW.out]
  clear hH hW;go_wp2;refine be ?_;exact ⟨rfl,_,_,_,hR.out⟩
 by_cases r10:r=10
 ·subst r10
  have hV:controlT t 10={ lineT t with full:=false }:=rfl;rw [hV]
  have hfl:=feedLine_any cn N base B x0 x1 x2 x3 x4 x5 t v vg vo W h0 hbase0 rt;clear h h0 colp rt hbase hbase0 hV hb0 c11 z11 c19 z19;go_enter Tryz.func123,Tryz.ntmps123;refine wp_seq_k (fun K hK=>?_);have hH:=(show Hid _ from hK);clear hK;go_wp2;refine hH.out _ _ ?_;rw [<- hW.out]
  clear hH hW;go_wp2_with fail;refine hfl.mono ?_;rintro e w2 ⟨rfl,v2,g2,o2,hR2⟩;have c19:w2.cell? ⟨B,19,none⟩=some (.bool (lineT t).full):=hR2.s.cell 19;have z19:w2.frozen? ⟨B,19,none⟩=false:=hR2.s.frozen 19;have hR:=(show Hid _ from hof.trans (hR2.trans (full _ _ _ _ _ hR2.s)));clear hR2 hof full hfl;go_wp2;refine be ?_;exact ⟨rfl,_,_,_,hR.out⟩
 by_cases r11:r=11
 ·subst r11
  have hV:controlT t 11={ lineT t with full:=false }:=rfl;rw [hV]
  have hfl:=feedLine_any cn N base B x0 x1 x2 x3 x4 x5 t v vg vo W h0 hbase0 rt;clear h h0 colp rt hbase hbase0 hV hb0 c11 z11 c19 z19;go_enter Tryz.func123,Tryz.ntmps123;refine wp_seq_k (fun K hK=>?_);have hH:=(show Hid _ from hK);clear hK;go_wp2;refine hH.out _ _ ?_;rw [<- hW.out]
  clear hH hW;go_wp2_with fail;refine hfl.mono ?_;rintro e w2 ⟨rfl,v2,g2,o2,hR2⟩;have c19:w2.cell? ⟨B,19,none⟩=some (.bool (lineT t).full):=hR2.s.cell 19;have z19:w2.frozen? ⟨B,19,none⟩=false:=hR2.s.frozen 19;have hR:=(show Hid _ from hof.trans (hR2.trans (full _ _ _ _ _ hR2.s)));clear hR2 hof full hfl;go_wp2;refine be ?_;exact ⟨rfl,_,_,_,hR.out⟩
 by_cases r12:r=12
 ·subst r12
  have hV:controlT t 12={ lineT t with full:=false }:=rfl;rw [hV]
  have hfl:=feedLine_any cn N base B x0 x1 x2 x3 x4 x5 t v vg vo W h0 hbase0 rt;clear h h0 colp rt hbase hbase0 hV hb0 c11 z11 c19 z19;go_enter Tryz.func123,Tryz.ntmps123;refine wp_seq_k (fun K hK=>?_);have hH:=(show Hid _ from hK);clear hK;go_wp2;refine hH.out _ _ ?_;rw [<- hW.out]
  clear hH hW;go_wp2_with fail;refine hfl.mono ?_;rintro e w2 ⟨rfl,v2,g2,o2,hR2⟩;have c19:w2.cell? ⟨B,19,none⟩=some (.bool (lineT t).full):=hR2.s.cell 19;have z19:w2.frozen? ⟨B,19,none⟩=false:=hR2.s.frozen 19;have hR:=(show Hid _ from hof.trans (hR2.trans (full _ _ _ _ _ hR2.s)));clear hR2 hof full hfl;go_wp2;refine be ?_;exact ⟨rfl,_,_,_,hR.out⟩
 by_cases r9:r=9
 ·subst r9
  obtain ⟨q,hq⟩:∃ q,Hid (min (t.gc-1) (t.col / 8*8+8)=q):=⟨_,rfl⟩;have hV:controlT t 9={ { t with col:=q } with full:=false }:=by rw [<- hq.out];rfl
  rw [hV]
  have h1:=colp q;have hR:=(show Hid _ from (hof.trans (h1.trans (full _ _ _ _ _ h1.s))).below (bdr _))
  have hmin:min (IntKind.i64.wrap (IntKind.i64.wrap (IntKind.i64.wrap (t.col.tdiv 8)+1)*8)) ((cn:Int)-1)=q:=by
   have e1:t.col.tdiv 8=t.col / 8:=Int.tdiv_eq_ediv_of_nonneg k1;have e2:IntKind.i64.wrap (t.col / 8)=t.col / 8:=by simp [IntKind.wrap,IntKind.bits,IntKind.signed];omega
   have e3:IntKind.i64.wrap (t.col / 8+1)=t.col / 8+1:=by simp [IntKind.wrap,IntKind.bits,IntKind.signed];omega
   have e4:IntKind.i64.wrap ((t.col / 8+1)*8)=(t.col / 8+1)*8:=by simp [IntKind.wrap,IntKind.bits,IntKind.signed];omega
   rw [e1,e2,e3,e4]
   have:=hq.out;have:=rt.gc;omega
  have hd:=bdr W;have hlc:=lastCol_any B (cn:Int) W.drew (by rw [<- rt.gc];exact h0.cell 6) (by omega);have hgc:=rt.gc;clear h h0 hof colp full rt hbase hbase0 h1 hV hb0;go_enter Tryz.func123,Tryz.ntmps123;refine wp_seq_k (fun K hK=>?_);have hH:=(show Hid _ from hK);clear hK;go_wp2;refine hH.out _ _ ?_;rw [<- hW.out]
  clear hH hW;go_wp2;refine wp_region_noPanic ?_;refine wp_region_held_drew (S:=(fun _=>True)) (by kernel_rfl) (trivial) (fun hHeld=>?_);refine tk 0 ?_;refine tk 1 ?_;refine tk 2 ?_;refine tk 3 ?_;refine tk 4 ?_;refine tk 9 ?_;refine rd2 5 10 (fun K hK=>?_) fun K hK=>?_
  ·go_simp
   refine hK.out _ _ (trivial) (fun hHeld=>?_);clear hK K;refine tk 6 ?_;refine tk 7 ?_;refine tk 8 ?_;refine rd 10 fun K hK=>?_
   go_simp;refine hlc.mono ?_;rintro e wk ⟨rfl,hw⟩;subst hw;go_wp2_with fail;refine hK.out _ _ (trivial) (fun hHeld=>?_);clear hK K;refine tk 11 ?_;refine tk 12 ?_;refine tk 13 ?_;refine tk 14 ?_;refine rd 15 fun K hK=>?_
   go_simp;refine hK.out _ _ (trivial) (fun hHeld=>?_);clear hK K
   (try simp only [Act.put,ZA,ZB,ZC,ZD,ZE,ZF])
   refine dn ?_;go_wp2;refine be ?_;exact ⟨rfl,_,_,_,hR.out⟩
  ·go_simp
   refine hlc.mono ?_;rintro e wk ⟨rfl,hw⟩;subst hw;go_wp2_with fail;refine hK.out _ _ (trivial) (fun hHeld=>?_);clear hK K;refine rd 5 fun K hK=>?_
   go_simp;refine hK.out _ _ (trivial) (fun hHeld=>?_);clear hK K;refine tk 6 ?_;refine tk 7 ?_;refine tk 8 ?_;refine tk 11 ?_;refine tk 12 ?_;refine tk 13 ?_;refine tk 14 ?_;refine rd 15 fun K hK=>?_
   go_simp;refine hK.out _ _ (trivial) (fun hHeld=>?_);clear hK K
   (try simp only [Act.put,ZA,ZB,ZC,ZD,ZE,ZF])
   refine dn ?_;go_wp2;refine be ?_;exact ⟨rfl,_,_,_,hR.out⟩
 have hV:controlT t r=t:=by unfold controlT;rw [if_neg r8,if_neg r9,if_neg (by omega),if_neg r13]
 rw [hV]
 have q8:(r==8)=false:=by simp [r8]
 have q9:(r==9)=false:=by simp [r9]
 have q10:(r==10)=false:=by simp [r10]
 have q11:(r==11)=false:=by simp [r11]
 have q12:(r==12)=false:=by simp [r12]
 have q13:(r==13)=false:=by simp [r13]
 have hR:=(show Hid _ from hof);clear h h0 hof colp full rt hbase hbase0 hV hb0 r8 r9 r10 r11 r12 r13;go_enter Tryz.func123,Tryz.ntmps123;refine wp_seq_k (fun K hK=>?_);have hH:=(show Hid _ from hK);clear hK;go_wp2;refine hH.out _ _ ?_;rw [<- hW.out]
 clear hH hW;go_wp2;exact bodyPost_ret (v:=.tuple #[]) (results_none rfl _ _ _) rfl ⟨rfl,_,_,_,hR.out⟩
def backT (t:Te):Te:=if t.row=t.top then moveT t t.top t.bot (-1) else { t with row:=max 0 (t.row-1) }
theorem lineT_col (t:Te) (c:Int):lineT { t with col:=c }={ lineT t with col:=c }:=by
 unfold lineT moveT;split
 ·rfl
 ·split<;>rfl
theorem newLine_any (cn N base B:Nat) (x0 x1 x2 x3 x4 x5:Value) (t:Te) (v:Tv) (vg vo:List Value) (w:World) (h:Scr w 98 base B [x0,x1,x2,x3,x4,x5] t v vg vo) (hbase:base<=w.heap.size) (rt:RtW t cn N) :
  Calls Tryz.prog 177 #[.pointer (some ⟨B,0,none⟩)] w fun e w'=>e=.returned (.tuple #[])/\∃ v' vg' vo',Res w w' 98 base B [x0,x1,x2,x3,x4,x5] v vg vo { lineT t with col:=0 } v' vg' vo':=by
 have h1:Res w (w.setCell ⟨B,11,none⟩ (.int .i64 0)) 98 base B [x0,x1,x2,x3,x4,x5] v vg vo { t with col:=0 } v vg vo :=
  h.put (sCg B [.int .i64 0] 11 w) _ (sCh B 98 [.int .i64 0] 11 w _ h.b) rfl rfl rfl rfl rfl
 have c11:w.cell? ⟨B,11,none⟩=some (.int .i64 t.col):=h.cell 11;have z11:w.frozen? ⟨B,11,none⟩=false:=h.frozen 11;rw [<- lineT_col]
 have hfl:=feedLine_any cn N base B x0 x1 x2 x3 x4 x5 { t with col:=0 } v vg vo _ h1.s (Nat.le_trans hbase h1.g.size) (rt.cols 0 (by have:=rt.c;omega));replace h1:=(show Hid _ from h1);clear h rt hbase;go_enter Tryz.func177,Tryz.ntmps177;go_wp2_with fail;refine hfl.mono ?_;rintro e w2 ⟨rfl,v2,g2,o2,hR2⟩;replace hR2:=(show Hid _ from h1.out.trans hR2);clear hfl h1;go_wp2;refine be ?_;exact ⟨rfl,_,_,_,hR2.out⟩
theorem lineBack_any (cn N base B:Nat) (x0 x1 x2 x3 x4 x5:Value) (t:Te) (v:Tv) (vg vo:List Value) (w:World) (h:Scr w 98 base B [x0,x1,x2,x3,x4,x5] t v vg vo) (hbase:base<=w.heap.size) (rt:RtW t cn N) :
  Calls Tryz.prog 180 #[.pointer (some ⟨B,0,none⟩)] w fun e w'=>e=.returned (.tuple #[])/\∃ v' vg' vo',Res w w' 98 base B [x0,x1,x2,x3,x4,x5] v vg vo (backT t) v' vg' vo':=by
 have c10:w.cell? ⟨B,10,none⟩=some (.int .i64 t.row):=h.cell 10;have c17:w.cell? ⟨B,17,none⟩=some (.int .i64 t.top):=h.cell 17;have c18:w.cell? ⟨B,18,none⟩=some (.int .i64 t.bot):=h.cell 18;have z10:w.frozen? ⟨B,10,none⟩=false:=h.frozen 10;obtain ⟨r1,r2⟩:=rt.row;obtain ⟨b1,b2,b3⟩:=rt.tb;have hn2:=rt.n1.2
 by_cases hb:t.row=t.top
 ·have hru:=fun W (hbW:Below w.heap.size w W)=>rowsDown_any cn N base B x0 x1 x2 x3 x4 x5 t v vg vo W (h.below hbW) (Nat.le_trans hbase hbW.size) rt t.top.toNat (t.bot+1-t.top).toNat 1 (by omega) (by omega)
  rw [show ((t.top.toNat:Nat):Int)=t.top by omega,show t.top+((t.bot+1-t.top).toNat:Int)-1=t.bot by omega] at hru
  have hV:Hid (backT t=moveT t t.top t.bot (-((1:Nat):Int))):=by show _=_;unfold backT;rw [if_pos hb];rfl
  rw [hV.out]
  have hof:=fun W (hbW:Below w.heap.size w W)=>Res.of_below h hbW
  have hd:=(bdr w).trans ((bdr w.drew).mono (bdr w).size);rw [hb] at c10
  clear rt hbase hb r1 r2 b1 b2 b3 hn2 hV h;go_enter Tryz.func180,Tryz.ntmps180;go_wp2;go_region;go_wp2;refine wp_region_noPanic ?_;refine wp_region_held_drew (S:=(fun _=>True)) (by kernel_rfl) (trivial) (fun hHeld=>?_);refine tk 0 ?_;refine tk 1 ?_;refine tk 2 ?_;refine tk 3 ?_;refine tk 4 ?_;refine tk 6 ?_;refine tk 7 ?_;refine tk 8 ?_;refine tk 9 ?_;refine rd2 5 10 (fun K hK=>?_) fun K hK=>?_
  ·go_simp
   refine hK.out _ _ (trivial) (fun hHeld=>?_);clear hK K;refine rd 10 fun K hK=>?_
   go_simp;refine hK.out _ _ (trivial) (fun hHeld=>?_);clear hK K;refine rd 11 fun K hK=>?_
   go_simp;refine (hru _ hd).mono ?_;rintro e w2 ⟨rfl,v2,vg2,vo2,hR⟩;go_wp2_with fail;refine hK.out _ _ (trivial) (fun hHeld=>?_);clear hK K
   (try simp only [Act.put,ZA,ZB,ZC,ZD,ZE,ZF])
   refine dn ?_;go_wp2;exact bodyPost_ret (v:=.tuple #[]) (results_none rfl _ _ _) rfl ⟨rfl,_,_,_,(hof _ hd).trans hR⟩
  ·go_simp
   refine hK.out _ _ (trivial) (fun hHeld=>?_);clear hK K;refine rd 5 fun K hK=>?_
   go_simp;refine hK.out _ _ (trivial) (fun hHeld=>?_);clear hK K;refine rd 11 fun K hK=>?_
   go_simp;refine (hru _ hd).mono ?_;rintro e w2 ⟨rfl,v2,vg2,vo2,hR⟩;go_wp2_with fail;refine hK.out _ _ (trivial) (fun hHeld=>?_);clear hK K
   (try simp only [Act.put,ZA,ZB,ZC,ZD,ZE,ZF])
   refine dn ?_;go_wp2;exact bodyPost_ret (v:=.tuple #[]) (results_none rfl _ _ _) rfl ⟨rfl,_,_,_,(hof _ hd).trans hR⟩
 ·have hq:(t.row==t.top)=false:=by simp [hb]
  obtain ⟨q,e⟩:∃ q,Hid (max 0 (t.row-1)=q):=⟨_,rfl⟩;have hV:Hid (backT t={ t with row:=q }):=by show _=_;unfold backT;rw [if_neg hb,e.out]
  rw [hV.out]
  have hmx:max (t.row-1) 0=q:=by have:=e.out;omega
  have hw:IntKind.i64.wrap (t.row-1)=t.row-1:=by simp [IntKind.wrap,IntKind.bits,IntKind.signed];omega
  have hR:Hid (Res w (w.setCell ⟨B,10,none⟩ (.int .i64 q)).drew 98 base B [x0,x1,x2,x3,x4,x5] v vg vo { t with row:=q } v vg vo) :=
   Res.below (h.put (sCg B [.int .i64 q] 10 w) _ (sCh B 98 [.int .i64 q] 10 w _ h.b) rfl rfl rfl rfl rfl) (bdr _)
  clear rt hbase hb hV h b1 b2 b3 r2;go_enter Tryz.func180,Tryz.ntmps180;go_wp2;go_region;go_wp2;refine be ?_;exact ⟨rfl,_,_,_,hR.out⟩
theorem parN_out {ps:List Int} {i:Nat} (u:Int) (h:ps.length<=i):parN ps i u=u:=by
 unfold parN;rw [if_pos (by simp [List.getD,List.getElem?_eq_none h])]
theorem paramAt_any (pv:Value) (ps:List Int) (i:Nat) (u:Int) (w:World) (h:SlN w pv ps) (_hl:ps.length<=1000) :
  Calls Tryz.prog 234 #[pv,.int .i64 (i:Int),.int .i64 u] w fun e w'=>e=.returned (.int .i64 (parN ps i u))/\w'=w:=by
 obtain ⟨a,c,rfl,hc,_,hr⟩:=h;have i0:(0:Int)<=(i:Int):=by omega
 obtain ⟨n,hn⟩:∃ n,Hid (ps.length=n):=⟨_,rfl⟩;rw [hn.out]
 by_cases hi:i<n
 ·have i1:(i:Int)<(n:Int):=by omega
  rcases hr with h|⟨b,off,rfl,_,hcl⟩
  ·have:=hn.out;rw [h] at this;simp at this;omega
  have ci:=hcl i (by have:=hn.out;omega)
  by_cases hz:ps.getD i 0=0
  ·have hV:parN ps i u=u:=by unfold parN;rw [if_pos hz]
   rw [hV]
   rw [hz] at ci
   clear hcl hz hV hi;go_enter Tryz.func234,Tryz.ntmps234;go_wp2;go_ret;exact ⟨rfl,rfl⟩
  ·have hV:parN ps i u=ps.getD i 0:=by unfold parN;rw [if_neg hz]
   rw [hV]
   generalize ps.getD i 0=x at *;have hz2:(x==0)=false:=by simp [hz]
   clear hcl hV hi;go_enter Tryz.func234,Tryz.ntmps234;go_wp2;go_ret;exact ⟨rfl,rfl⟩
 ·have i1:¬ (i:Int)<(n:Int):=by omega
  have i2:decide ((i:Int)<(n:Int))=false:=decide_eq_false i1;rw [parN_out u (by have:=hn.out;omega)]
  clear hr hi;go_enter Tryz.func234,Tryz.ntmps234;go_wp2;go_ret;exact ⟨rfl,rfl⟩
theorem countOf_any (pv:Value) (ps:List Int) (w:World) (h:SlN w pv ps) (hl:ps.length<=1000) :
  Calls Tryz.prog 233 #[pv] w fun e w'=>e=.returned (.int .i64 (parN ps 0 1))/\w'=w:=by
 have hp:=paramAt_any pv ps 0 1 w h hl;obtain ⟨a,c,rfl,_⟩:=h;go_enter Tryz.func233,Tryz.ntmps233;go_wp2_with fail;refine hp.mono ?_;rintro e w1 ⟨rfl,hw⟩;subst hw;go_wp2;go_ret;exact ⟨rfl,rfl⟩
theorem l7Param_any (pv:Value) (ps:List Int) (i:Nat) (u:Int) (w:World) (h:SlN w pv ps) (_hl:ps.length<=1000) :
  Calls Tryz.prog 211 #[pv,.int .i64 (i:Int),.int .i64 u] w fun e w'=>e=.returned (.int .i64 (parN ps i u))/\w'=w:=by
 obtain ⟨a,c,rfl,hc,_,hr⟩:=h;have i0:(0:Int)<=(i:Int):=by omega
 obtain ⟨n,hn⟩:∃ n,Hid (ps.length=n):=⟨_,rfl⟩;rw [hn.out]
 by_cases hi:i<n
 ·have i1:(i:Int)<(n:Int):=by omega
  have i2:decide ((n:Int)<=(i:Int))=false:=decide_eq_false (by omega);rcases hr with h|⟨b,off,rfl,_,hcl⟩
  ·have:=hn.out;rw [h] at this;simp at this;omega
  have ci:=hcl i (by have:=hn.out;omega)
  by_cases hz:ps.getD i 0=0
  ·have hV:parN ps i u=u:=by unfold parN;rw [if_pos hz]
   rw [hV]
   rw [hz] at ci
   clear hcl hz hV hi;go_enter Tryz.func211,Tryz.ntmps211;go_wp2;go_ret;exact ⟨rfl,rfl⟩
  ·have hV:parN ps i u=ps.getD i 0:=by unfold parN;rw [if_neg hz]
   rw [hV]
   generalize ps.getD i 0=x at *;have hz2:(x==0)=false:=by simp [hz]
   clear hcl hV hi;go_enter Tryz.func211,Tryz.ntmps211;go_wp2;go_ret;exact ⟨rfl,rfl⟩
 ·have i1:(n:Int)<=(i:Int):=by omega
  have i2:decide ((n:Int)<=(i:Int))=true:=decide_eq_true i1;rw [parN_out u (by have:=hn.out;omega)]
  clear hr hi;go_enter Tryz.func211,Tryz.ntmps211;go_wp2;go_ret;exact ⟨rfl,rfl⟩
end Go.Proofs.YtgcnmjjlmcnllaaGreatDoor
