"""Xiangqi: positions are read, and the moves there may be are told."""
