"""Xiangqi: positions are read; moves are told, played and counted by depth; wins that can be forced are found."""
