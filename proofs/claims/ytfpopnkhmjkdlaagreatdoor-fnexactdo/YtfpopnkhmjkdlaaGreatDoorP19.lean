import Derived.Test.YtfpopnkhmjkdlaaGreatDoorP17
set_option maxRecDepth 20000
set_option maxHeartbeats 16000000
namespace Go.Proofs.YtfpopnkhmjkdlaaGreatDoor
open Go.ChangeShapes Go.WideShapes Go.ChangeAt Go.RowKit
theorem XT.gr {lo hi B:Nat} {w w':World} {s:St} (h:XT w B s) (hg:GrB lo hi w w') (hne:B<lo\/hi<=B):XT w' B s:=by
 obtain ⟨h0,⟨c0,c1,c2,c3,c4⟩,z0,z1,z2,z3,z4⟩:=h;refine ⟨Nat.lt_of_lt_of_le h0 hg.size,⟨?_,?_,?_,?_,?_⟩,?_,?_,?_,?_,?_⟩
 all_goals first|rw [hg.cell h0 hne]|rw [hg.frozen h0 hne]
 all_goals assumption
def YL (rows:List (List Ce)) (q j:Nat) (s:St):List (List Ce):=Z3 rows.length fun i=>if q<=i/\i<q+j then X0 (Xb rows i).length s else Xb rows i
theorem XY (rows:List (List Ce)) (q j:Nat) (s:St):(YL rows q j s).length=rows.length:=XM _ _
theorem Ze (rows:List (List Ce)) (q j:Nat) (s:St) (i:Nat) (h:i<rows.length):Xb (YL rows q j s) i=if q<=i/\i<q+j then X0 (Xb rows i).length s else Xb rows i:=Yq _ _ _ h
theorem Xas (rows:List (List Ce)) (q:Nat) (s:St):YL rows q 0 s=rows:=X7 _ _ (XY _ _ _ _) fun i hi=>by
 rw [XY] at hi
 rw [Ze _ _ _ _ _ hi,if_neg (by omega)]
theorem Xar (rows:List (List Ce)) (q j:Nat) (s:St) (h:q+j<rows.length):YL rows q (j+1) s=(YL rows q j s).set (q+j) (X0 (Xb rows (q+j)).length s):=X7 _ _ (by rw [List.length_set,XY,XY]) fun i hi=>by
 rw [XY] at hi
 rw [KI (by rw [XY];exact h),Ze _ _ _ _ _ hi,Ze _ _ _ _ _ hi]
 by_cases e:i=q+j
 ·rw [if_pos (by omega),if_pos e,e]
 ·rw [if_neg e]
  by_cases c:q<=i/\i<q+j
  ·rw [if_pos c,if_pos (by omega)]
  ·rw [if_neg c,if_neg (by omega)]
theorem Xc8 (L:List Ce) (s:St):XI L 0 (0+L.length) s=X0 L.length s:=YF _ _ (by rw [Xq,KF]) fun i hi=>by
 rw [Xq] at hi
 rw [ZS _ _ _ _ _ hi,if_pos (by omega),J1 _ _ _ hi]
theorem Xg1 (cols:Nat) (rows:List (List Ce)) (t b n m k:Nat) (s:St) (hf:∀ i,i<rows.length->(Xb rows i).length=cols) (htb:t<=b) (hb:b<rows.length) (hm:m=b+1-t) (hk:k=min n m) :
  YL (Z8 rows t m k) (t+(m-k)) k s=Zo cols rows t b n s:=X7 _ _ (by rw [XY,Yv,Zl]) fun i hi=>by
 rw [XY,Yv] at hi
 rw [Ze _ _ _ _ _ (by rw [Yv];exact hi),KK _ _ _ _ _ hi,JM _ _ _ _ _ _ _ hi,hf _ (Zj (n:=rows.length) (by omega) (by omega) hi)]
 by_cases c:t<=i/\i<=b
 ·rw [if_pos c]
  by_cases d:t+(m-k)<=i
  ·rw [if_pos (by omega),if_neg (by omega)]
  ·rw [if_neg (by omega),if_pos (by omega)]
   unfold ZQ;rw [if_pos (by omega),if_pos (by omega)]
   congr 1;omega
 ·rw [if_neg c,if_neg (by omega)]
  unfold ZQ;rw [if_neg (by omega)]
theorem Xb6 (cols:Nat) (rows:List (List Ce)) (t b n m k:Nat) (s:St) (hf:∀ i,i<rows.length->(Xb rows i).length=cols) (htb:t<=b) (hb:b<rows.length) (hm:m=b+1-t) (hk:k=min n m) :
  YL (Z8 rows t m (m-k)) t k s=Zo cols rows t b (-(n:Int)) s:=X7 _ _ (by rw [XY,Yv,Zl]) fun i hi=>by
 rw [XY,Yv] at hi
 rw [Ze _ _ _ _ _ (by rw [Yv];exact hi),KK _ _ _ _ _ hi,JM _ _ _ _ _ _ _ hi,hf _ (Zj (n:=rows.length) (by omega) (by omega) hi)]
 by_cases c:t<=i/\i<=b
 ·rw [if_pos c]
  by_cases d:i<t+k
  ·rw [if_pos (by omega),if_neg (by omega)]
  ·rw [if_neg (by omega),if_pos (by omega)]
   unfold ZQ;rw [if_pos (by omega),if_neg (by omega)]
   congr 1;omega
 ·rw [if_neg c,if_neg (by omega)]
  unfold ZQ;rw [if_neg (by omega)]
