"""Belltables: tables of measurements that no plan ahead explains."""
