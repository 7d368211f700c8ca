import Derived.Test.YtfpopnkhmjkdlaaGreatDoorP18
set_option maxRecDepth 20000
set_option maxHeartbeats 16000000
namespace Go.Proofs.YtfpopnkhmjkdlaaGreatDoor
open Go.ChangeShapes Go.WideShapes Go.ChangeAt Go.RowKit
theorem XcE {ps:List Int} {i:Nat} (u:Int) (h:ps.length<=i):Xa ps i u=u:=by
 unfold Xa;rw [if_pos (by simp [List.getD,List.getElem?_eq_none h])]
theorem KO (pv:Value) (ps:List Int) (i:Nat) (u:Int) (w:World) (h:SlN w pv ps) (_hl:ps.length<=1000) :
  Calls Tryz.prog 234 #[pv,.int .i64 (i:Int),.int .i64 u] w fun e w'=>e=.returned (.int .i64 (Xa ps i u))/\w'=w:=by
 obtain ⟨a,c,rfl,hc,_,hr⟩:=h;have i0:(0:Int)<=(i:Int):=by omega
 obtain ⟨n,hn⟩:∃ n,Hid (ps.length=n):=⟨_,rfl⟩;rw [hn.out]
 by_cases hi:i<n
 ·have i1:(i:Int)<(n:Int):=by omega
  rcases hr with h|⟨b,off,rfl,_,hcl⟩
  ·have:=hn.out;rw [h] at this;simp at this;omega
  have ci:=hcl i (by have:=hn.out;omega)
  by_cases hz:ps.getD i 0=0
  ·have hV:Xa ps i u=u:=by unfold Xa;rw [if_pos hz]
   rw [hV]
   rw [hz] at ci
   clear hcl hz hV hi;go_enter Tryz.func234,Tryz.ntmps234;go_wp2;go_ret;exact ⟨rfl,rfl⟩
  ·have hV:Xa ps i u=ps.getD i 0:=by unfold Xa;rw [if_neg hz]
   rw [hV]
   generalize ps.getD i 0=x at *;have hz2:(x==0)=false:=by simp [hz]
   clear hcl hV hi;go_enter Tryz.func234,Tryz.ntmps234;go_wp2;go_ret;exact ⟨rfl,rfl⟩
 ·have i1:¬ (i:Int)<(n:Int):=by omega
  have i2:decide ((i:Int)<(n:Int))=false:=decide_eq_false i1;rw [XcE u (by have:=hn.out;omega)]
  clear hr hi;go_enter Tryz.func234,Tryz.ntmps234;go_wp2;go_ret;exact ⟨rfl,rfl⟩
theorem X1 (pv:Value) (ps:List Int) (w:World) (h:SlN w pv ps) (hl:ps.length<=1000) :
  Calls Tryz.prog 233 #[pv] w fun e w'=>e=.returned (.int .i64 (Xa ps 0 1))/\w'=w:=by
 have hp:=KO pv ps 0 1 w h hl;obtain ⟨a,c,rfl,_⟩:=h;go_enter Tryz.func233,Tryz.ntmps233;go_wp2_with fail;refine hp.mono ?_;rintro e w1 ⟨rfl,hw⟩;subst hw;go_wp2;go_ret;exact ⟨rfl,rfl⟩
theorem lPa (pv:Value) (ps:List Int) (i:Nat) (u:Int) (w:World) (h:SlN w pv ps) (_hl:ps.length<=1000) :
  Calls Tryz.prog 211 #[pv,.int .i64 (i:Int),.int .i64 u] w fun e w'=>e=.returned (.int .i64 (Xa ps i u))/\w'=w:=by
 obtain ⟨a,c,rfl,hc,_,hr⟩:=h;have i0:(0:Int)<=(i:Int):=by omega
 obtain ⟨n,hn⟩:∃ n,Hid (ps.length=n):=⟨_,rfl⟩;rw [hn.out]
 by_cases hi:i<n
 ·have i1:(i:Int)<(n:Int):=by omega
  have i2:decide ((n:Int)<=(i:Int))=false:=decide_eq_false (by omega);rcases hr with h|⟨b,off,rfl,_,hcl⟩
  ·have:=hn.out;rw [h] at this;simp at this;omega
  have ci:=hcl i (by have:=hn.out;omega)
  by_cases hz:ps.getD i 0=0
  ·have hV:Xa ps i u=u:=by unfold Xa;rw [if_pos hz]
   rw [hV]
   rw [hz] at ci
   clear hcl hz hV hi;go_enter Tryz.func211,Tryz.ntmps211;go_wp2;go_ret;exact ⟨rfl,rfl⟩
  ·have hV:Xa ps i u=ps.getD i 0:=by unfold Xa;rw [if_neg hz]
   rw [hV]
   generalize ps.getD i 0=x at *;have hz2:(x==0)=false:=by simp [hz]
   clear hcl hV hi;go_enter Tryz.func211,Tryz.ntmps211;go_wp2;go_ret;exact ⟨rfl,rfl⟩
 ·have i1:(n:Int)<=(i:Int):=by omega
  have i2:decide ((n:Int)<=(i:Int))=true:=decide_eq_true i1;rw [XcE u (by have:=hn.out;omega)]
  clear hr hi;go_enter Tryz.func211,Tryz.ntmps211;go_wp2;go_ret;exact ⟨rfl,rfl⟩
