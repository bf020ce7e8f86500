import Derived.Test.YtpbceodheeepoaaGreatSpecDoC
import Derived.Test.YtpbceodheeepoaaGreatSpecDoMem
import Derived.Test.YtpbceodheeepoaaGreatSpecStep
namespace Go.Proofs.YtpbceodheeepoaaGreat
open Go.RowKit
theorem do_any:DoAny:=by
 intro w base p M h0 hk hn op d a b h imm o1 o2 hd ha hb hsh;have hc:op=1∨op=2∨op=3∨op=4∨op=5∨op=6∨op=7∨op=8∨op=9∨op=10∨op=11∨op=12∨op=13∨op=14∨op=15∨op=16∨op=17∨op=18∨op=19∨op=20∨op=21∨op=22∨op=23∨op=24∨op=25∨op=26∨op=27∨op=28:=by omega
 rcases hc with rfl|rfl|rfl|rfl|rfl|rfl|rfl|rfl|rfl|rfl|rfl|rfl|rfl|rfl|rfl|rfl|rfl|rfl|rfl|rfl|rfl|rfl|rfl|rfl|rfl|rfl|rfl|rfl
 ·exact do_s h0 hk 1 d a b h imm hd ha hb (by decide)
 ·exact do_s h0 hk 2 d a b h imm hd ha hb (by decide)
 ·exact do_s h0 hk 3 d a b h imm hd ha hb (by decide)
 ·exact do_s h0 hk 4 d a b h imm hd ha hb (by decide)
 ·exact do_s h0 hk 5 d a b h imm hd ha hb (by decide)
 ·exact do_s h0 hk 6 d a b h imm hd ha hb (by decide)
 ·exact do_s h0 hk 7 d a b h imm hd ha hb (by decide)
 ·exact do_s h0 hk 8 d a b h imm hd ha hb (by decide)
 ·exact do_9 h0 hk d a b h imm hd ha hb hn
 ·exact do_s h0 hk 10 d a b h imm hd ha hb (by decide)
 ·exact do_s h0 hk 11 d a b h imm hd ha hb (by decide)
 ·exact do_b h0 hk 12 d a b h imm hd ha hb hsh (by decide)
 ·exact do_b h0 hk 13 d a b h imm hd ha hb hsh (by decide)
 ·exact do_b h0 hk 14 d a b h imm hd ha hb hsh (by decide)
 ·exact do_15 h0 hk d a b h imm hd ha hb
 ·exact do_b h0 hk 16 d a b h imm hd ha hb hsh (by decide)
 ·exact do_b h0 hk 17 d a b h imm hd ha hb hsh (by decide)
 ·exact do_b h0 hk 18 d a b h imm hd ha hb hsh (by decide)
 ·exact do_b h0 hk 19 d a b h imm hd ha hb hsh (by decide)
 ·exact do_b h0 hk 20 d a b h imm hd ha hb hsh (by decide)
 ·exact do_m h0 hk 21 d a b h imm hd ha hb hn (by decide)
 ·exact do_m h0 hk 22 d a b h imm hd ha hb hn (by decide)
 ·exact do_m h0 hk 23 d a b h imm hd ha hb hn (by decide)
 ·exact do_m h0 hk 24 d a b h imm hd ha hb hn (by decide)
 ·exact do_m h0 hk 25 d a b h imm hd ha hb hn (by decide)
 ·exact do_m h0 hk 26 d a b h imm hd ha hb hn (by decide)
 ·exact do_m h0 hk 27 d a b h imm hd ha hb hn (by decide)
 ·exact do_m h0 hk 28 d a b h imm hd ha hb hn (by decide)
end Go.Proofs.YtpbceodheeepoaaGreat
