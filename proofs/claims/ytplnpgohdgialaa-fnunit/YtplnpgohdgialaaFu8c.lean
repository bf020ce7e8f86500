import Derived.Test.YtplnpgohdgialaaOfFu8b
import Derived.Test.YtplnpgohdgialaaOfLowImpl
set_option maxHeartbeats 8000000
set_option maxRecDepth 20000
namespace Go.Proofs.Ytplnpgohdgialaa
open Go.RowKit Go.Deep
theorem blockOf_nil(t:Nat)(depth x y z:Int)(w:World)(C:Cl w t [.slice none 0 0,.int .i64 x,.int .i64 y,.int .i64 z,.int .i64 0,.int .i64 0]):
 Calls Try.prog 32 #[.pointer (some ⟨t,0,none⟩),.int .i64 0,.int .i64 depth] w fun e w'=>e=.returned (.slice none 0 0)/\w'=w:=by
 have c4:w.cell? ⟨t,4,none⟩=some (.int .i64 0):=C.2 4 (by simp);have c5:w.cell? ⟨t,5,none⟩=some (.int .i64 0):=C.2 5 (by simp);have cl:=C.1;clear C;go_enter Try.func32,Try.ntmps32;go_wp2;refine wp_loop_rounds 1 ?_;rw[rounds_succ];go_wp2;go_ret;exact⟨rfl,rfl⟩
theorem rep_nil(L:Nat->SV)(u:World)(S:Nat->Prop):RepN L 1 u S (.slice none 0 0) 0 0:=
 ⟨[],⟨World.ownsRow_nil _ _ _ _,fun b h=>by cases h⟩,by rw[tops_end (by omega)];rfl,fun k x p h=>by simp at h⟩
theorem chk_nil(L:Nat->SV)(me procs deep depth:Int):(chk L me procs deep 0 0 depth).1=0:=by
 unfold chk;simp
theorem runTree_nil(L:Nat->SV)(w:World):Calls Try.prog 24 #[.slice none 0 0] w (TreeR L 0 w):=by
 have HB:Hid (runB L 0):=⟨by omega,chk_nil L _ _ _ _,by show(0:Int)<2000;decide⟩
 go_enter Try.func24,Try.ntmps24;go_wp2_with fail;obtain⟨u2,hu2,hb2,C2⟩:∃x,w.alloc (.cells #[.slice none 0 0,.int .i64 0,.int .i64 0,.int .i64 320,.int .i64 0,.int .i64 0] 86)=x/\Below w.heap.size w x/\Cl x w.heap.size [.slice none 0 0,.int .i64 0,.int .i64 0,.int .i64 320,.int .i64 0,.int .i64 0]:=⟨_,rfl,(Below.refl _ _).alloc (Nat.le_refl _) _,Cl.new⟩
 rw[hu2];have B2:Hid (Below w.heap.size w u2):=hb2;clear hu2 hb2;refine(blockOf_nil w.heap.size 0 0 0 320 u2 C2).mono ?_;rintro e u3⟨rfl,rfl⟩;have c4:u3.cell? ⟨w.heap.size,4,none⟩=some (.int .i64 0):=C2.2 4 (by simp);have ql:=C2.1;clear C2;go_wp2_with fail;clear c4 ql;refine(flatBlock0_any L (fun _=>0) u3 (fun _=>Int.le_refl _) (fun _=>by decide) 0 321 1 0 0 0 (.slice none 0 0) (fun _=>True) u3 (Below.refl _ _) (rep_nil L _ _) (Nat.zero_le _) (by omega) (chk_nil L _ _ _ _)).mono ?_;rintro e u4⟨rfl,hb4⟩;rw[Int.sub_self];have B4:Hid (Below w.heap.size w u4):=B2.out.trans (hb4.mono B2.out.size);clear hb4;go_wp2;refine bodyPost_ret (v:=.tuple #[.slice none 0 0,.bool true]) (by simp[results,Try.results24,go_sem]) rfl ⟨none,0,0,by rw[decide_eq_true HB.out],B4.out,fun _=>rep_nil L _ _⟩
theorem implLower_nil(L:Nat->SV)(w:World):
 Calls Try.prog 11 #[.slice none 0 0] w fun e w'=>∃v,e=.returned v/\w'.ownsRow w.heap.size 31 6 v (lowR L 0).length (ci (lowR L 0))/\Below w.heap.size w w':=implLower_of _ 0 L w (runTree_nil L w)
end Go.Proofs.Ytplnpgohdgialaa
