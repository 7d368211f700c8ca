import Derived.Test.YtfpopnkhmjkdlaaGreatDoorP8
import Derived.WalkLawsBesides
set_option maxRecDepth 20000
set_option maxHeartbeats 16000000
namespace Go.Proofs.YtfpopnkhmjkdlaaGreatDoor
open Go.ChangeShapes Go.WideShapes Go.ChangeAt Go.RowKit
theorem Xd4:Tryz.prog.underlying 29=some (.slice 2):=by kernel_rfl
theorem Xhu (v:Value) (xs:List Ce) (left:Nat) (w:World) (hv:SlC w v xs) (hl:xs.length<=maxLen) (hf:left<=4611686018427387904) :
  Calls Tryz.prog 223 #[v,.int .i64 left] w fun e w'=>e=.returned (.int .i64 (if left<xs.length then -1 else ((left-xs.length:Nat):Int)))/\w'=w:=by
 unfold maxLen at hl;obtain ⟨a,c,rfl,_⟩:=hv;generalize xs.length=n at *
 by_cases h:left<n
 ·have h2:(left:Int)-(n:Int)<0:=by omega
  rw [if_pos h]
  go_enter Tryz.func223,Tryz.ntmps223;go_wp2;go_ret;exact ⟨rfl,rfl⟩
 ·have h2:¬ (left:Int)-(n:Int)<0:=by omega
  have h3:Hid (((left-n:Nat):Int)=(left:Int)-(n:Int)):=by show _=_;omega
  rw [if_neg h]
  go_enter Tryz.func223,Tryz.ntmps223;go_wp2;go_ret;exact ⟨by rw [h3.out];rfl,rfl⟩
theorem Xd1 (c:Ce) (w:World) :
  Calls Tryz.prog 248 #[ceV c] w fun e w'=>e=.returned (ceV c)/\Below w.heap.size w w':=by
 have hto:=fun W=>JW c.st W
 have b1:=Xd w (Obj.cells #[.int .i64 c.rune,.int .i64 c.st.fore,.int .i64 c.st.back,.bool c.st.bold,.bool c.st.under,.bool c.st.turned,.int .i64 c.part] 222);have b2:=b1.trans ((Xd _ (Obj.cells #[.int .i64 0,.int .i64 0,.int .i64 0,.bool false,.bool false,.bool false,.int .i64 0] 146)).mono b1.size);have b3:=b2.trans ((Xd _ (Obj.cells #[.int .i64 c.rune,.int .i64 0,.int .i64 0,.bool false,.bool false,.bool false,.int .i64 0] 146)).mono b2.size);have s3:=((CeF.new w c 222).below (Xd _ (Obj.cells #[.int .i64 0,.int .i64 0,.int .i64 0,.bool false,.bool false,.bool false,.int .i64 0] 146))).below (Xd _ (Obj.cells #[.int .i64 c.rune,.int .i64 0,.int .i64 0,.bool false,.bool false,.bool false,.int .i64 0] 146));have r3:=(CeF.new (w.alloc (Obj.cells #[.int .i64 c.rune,.int .i64 c.st.fore,.int .i64 c.st.back,.bool c.st.bold,.bool c.st.under,.bool c.st.turned,.int .i64 c.part] 222)) Ce.zero 146).below (Xd _ (Obj.cells #[.int .i64 c.rune,.int .i64 0,.int .i64 0,.bool false,.bool false,.bool false,.int .i64 0] 146));have o3:=CeF.new ((w.alloc (Obj.cells #[.int .i64 c.rune,.int .i64 c.st.fore,.int .i64 c.st.back,.bool c.st.bold,.bool c.st.under,.bool c.st.turned,.int .i64 c.part] 222)).alloc (Obj.cells #[.int .i64 0,.int .i64 0,.int .i64 0,.bool false,.bool false,.bool false,.int .i64 0] 146)) ⟨c.rune,St.zero,0⟩ 146;have z1:(w.alloc (Obj.cells #[.int .i64 c.rune,.int .i64 c.st.fore,.int .i64 c.st.back,.bool c.st.bold,.bool c.st.under,.bool c.st.turned,.int .i64 c.part] 222)).heap.size=w.heap.size+1:=by simp
 have z2:((w.alloc (Obj.cells #[.int .i64 c.rune,.int .i64 c.st.fore,.int .i64 c.st.back,.bool c.st.bold,.bool c.st.under,.bool c.st.turned,.int .i64 c.part] 222)).alloc (Obj.cells #[.int .i64 0,.int .i64 0,.int .i64 0,.bool false,.bool false,.bool false,.int .i64 0] 146)).heap.size=w.heap.size+1+1:=by simp
 rw [z1] at r3
 rw [z2] at o3
 simp only [Ce.zero,St.zero] at r3 o3;unfold ceV stV at *;go_enter Tryz.func248,Tryz.ntmps248;go_wp2_with fail;refine (hto _).mono ?_;rintro e w1 ⟨rfl,hb1⟩;have s4:=s3.below hb1;have r4:=r3.below hb1;have o4:=o3.below hb1;have b4:=b3.trans (hb1.mono b3.size);clear s3 r3 o3 b1 b2 b3 hb1 z1 z2 hto;obtain ⟨_,⟨c0,c1,c2,c3,c4,c5,c6⟩,_⟩:=s4;obtain ⟨_,⟨d0,d1,d2,d3,d4,d5,d6⟩,⟨x0,x1,x2,x3,x4,x5,x6⟩⟩:=r4;obtain ⟨_,⟨e0,e1,e2,e3,e4,e5,e6⟩,⟨y0,y1,y2,y3,y4,y5,y6⟩⟩:=o4;go_wp2;refine bodyPost_ret (v:=.agg #[.int .i64 c.rune,.int .i64 c.st.fore,.int .i64 c.st.back,.bool c.st.bold,.bool c.st.under,.bool c.st.turned,.int .i64 c.part]) (by simp [results,Tryz.results248,go_sem,Xc, *]) rfl ⟨rfl,?_⟩;clear c0 c1 c2 c3 c4 c5 c6 d0 d1 d2 d3 d4 d5 d6 e0 e1 e2 e3 e4 e5 e6 x0 x1 x2 x3 x4 x5 x6 y0 y1 y2 y3 y4 y5 y6;have bs:BS w w1:=⟨b4,b4.size⟩;refine BS.out ?_
 repeat (first|with_reducible exact bs|with_reducible refine BS.set ?_ _ _ _ (by omega))
section
variable {H : Type} {enc : TypeId × Value → H} {w : World} {base : Nat} {spare : Nat → Bool} {held : Bool}
theorem XfT {fuel:Nat} {cs:List Value} {y:DataW H×List MemPlace} (hf:DataW.trod enc Tryz.prog w base spare held fuel 201 cs=some y) :
  ∃ (v:Value) (xs:List Ce),cs=[v]/\SlC w v xs/\xs.length<=maxLen:=by
 have e:Tryz.prog.cellsOf 222=7:=by kernel_rfl
 rcases Go.Deep.open_slice Tryz.underlying201 hf with ⟨hcs,_⟩|⟨x,len,cap,m,n,D,Pl,hcs,_,hl,hm,hmm,_,hx⟩
 ·exact ⟨_,[],hcs,⟨none,0,rfl,Nat.le_refl _,fun _=>rfl,.inl rfl⟩,by simp⟩
 ·have hlm:len<=m:=by rw [hmm];split<;>omega
  rw [e] at hx
  obtain ⟨f,hfc⟩:=Go.Deep.choose_lt (α:=Ce) (n:=len) (p:=fun i q=>w.cells? base (x.add (i*7)) 7=some (ceL q)) (fun i hi=>by
   obtain ⟨cs',h1,h2⟩:=hx i (by omega);obtain ⟨q,rfl⟩:=Xha h2;exact ⟨q,h1⟩)
  have hlen:((List.range len).map f).length=len:=by simp
  refine ⟨_,(List.range len).map f,hcs,⟨some x,cap,by rw [hlen],by rw [hlen];exact hl,(fun h=>by cases h),?_⟩,by rw [hlen];omega⟩
  by_cases h0:len=0
  ·left;subst h0;rfl
  ·right
   have hc:∀ i,i<len->∀ k,k<7->w.cell? ((x.add (i*7)).add k)=(ceL (f i))[k]?:=fun i hi k hk=>by
    obtain ⟨_,hl7,hcell⟩:=World.cells?_some (hfc i hi);exact hcell k hk
   obtain ⟨b,off,spot⟩:=x;have h1:=hc 0 (by omega) 0 (by decide)
   have hspot:spot=none:=by
    have h1':w.cell? ((⟨b,off,spot⟩:Addr).add 0)=some (.int .i64 (f 0).rune):=by simpa [Addr.add,ceL] using h1
    simpa [Addr.add] using World.cell?_spot h1'
   subst hspot;refine ⟨b,off,rfl,?_,fun i hi=>?_⟩
   ·have h1':w.cell? ((⟨b,off,none⟩:Addr).add 0)=some (.int .i64 (f 0).rune):=by simpa [Addr.add,ceL] using h1
    exact World.block_lt_of_cell? w _ h1'
   ·rw [hlen] at hi
    have ef:atC ((List.range len).map f) i=f i:=by simp [atC,hi]
    rw [ef]
    have g:=fun k hk=>hc i hi k hk
    have ea:∀ k,(((⟨b,off,none⟩:Addr).add (i*7)).add k)=⟨b,off+i*7+k,none⟩:=fun k=>by rw [Addr.add_mid,Addr.add_mid]
    simp only [ea] at g;exact ⟨by simpa [ceL] using g 0 (by decide),by simpa [ceL] using g 1 (by decide),by simpa [ceL] using g 2 (by decide),by simpa [ceL] using g 3 (by decide),by simpa [ceL] using g 4 (by decide),by simpa [ceL] using g 5 (by decide),by simpa [ceL] using g 6 (by decide)⟩
theorem Xht {fuel:Nat} {cs:List Value} {y:DataW H×List MemPlace} (hf:DataW.trod enc Tryz.prog w base spare held fuel 58 cs=some y) :
  ∃ (v:Value) (rows:List (List Ce)),cs=[v]/\SlG w v rows/\rows.length<=maxLen/\∀ i,i<rows.length->(Xb rows i).length<=maxLen:=by
 have e:Tryz.prog.cellsOf 201=1:=by kernel_rfl
 rcases Go.Deep.open_slice1 Tryz.underlying58 e hf with ⟨hcs,_⟩|⟨x,len,cap,m,n,V,D,Pl,hcs,_,hl,hm,hmm,_,hx⟩
 ·exact ⟨_,[],hcs,⟨none,0,[],rfl,Nat.le_refl _,fun _=>rfl,.inl rfl,fun i h=>absurd h (Nat.not_lt_zero i)⟩,by simp,fun i h=>absurd h (Nat.not_lt_zero i)⟩
 ·have hlm:len<=m:=by rw [hmm];split<;>omega
  obtain ⟨f,hfc⟩:=Go.Deep.choose_lt (α:=List Ce) (n:=len) (p:=fun i xs=>SlC w (V i) xs/\xs.length<=maxLen) (fun i hi=>by
   obtain ⟨h1,h2⟩:=hx i (by omega);obtain ⟨v,xs,hv,hs,hle⟩:=XfT h2;simp at hv;subst hv;exact ⟨xs,hs,hle⟩)
  have hlen:((List.range len).map f).length=len:=by simp
  have hvl:((List.range len).map V).length=len:=by simp
  have hX:∀ i,i<len->Xb ((List.range len).map f) i=f i:=fun i hi=>by simp [Xb,List.getD,hi]
  have hV:∀ i,i<len->Xw ((List.range len).map V) i=V i:=fun i hi=>by simp [Xw,List.getD,hi]
  refine ⟨_,(List.range len).map f,hcs,⟨some x,cap,(List.range len).map V,by rw [hlen],by rw [hlen];exact hl,(fun h=>by cases h),?_,fun i hi=>?_⟩,by rw [hlen];omega,fun i hi=>?_⟩
  ·by_cases h0:len=0
   ·left;subst h0;rfl
   ·right
    obtain ⟨b,off,spot⟩:=x;have h1:=(hx 0 (by omega)).1
    have h1c:w.cell? ⟨b,off,spot⟩=some (V 0):=by
     have:(⟨b,off,spot⟩:Addr).add 0=⟨b,off,spot⟩:=by unfold Addr.add;split<;>simp_all
     rwa [this] at h1
    have hspot:spot=none:=World.cell?_spot h1c;subst hspot;refine ⟨b,off,rfl,World.block_lt_of_cell? w _ h1c,fun i hi=>?_⟩;rw [hlen] at hi
    rw [hV i hi,<- (hx i (by omega)).1,Addr.add_mid]
  ·rw [hlen] at hi
   rw [hV i hi,hX i hi]
   exact (hfc i hi).1
  ·rw [hlen] at hi
   rw [hX i hi]
   exact (hfc i hi).2
end
