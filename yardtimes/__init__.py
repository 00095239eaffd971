"""Yardhall, layer d: times. The calls are answered by yardtimes.yard.answers."""
